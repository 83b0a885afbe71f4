import PyProof.Rows.All
import Wide.All
import OpenK.AllK
import Wide.FinOn
import KE.KStateDown
import HandS.ForMost
import HandS.Wide
import HandS.TupAny
import HandS.Codes
import HandS.IsInst
import HandS.Style
import HandS.GenList
import HandS.GenYield
import HandS.Nested
import HandS.Lambda
import HandS.Defaults
import HandS.Walk
import HandS.Steps
import HandS.Star
import HandS.Text
import HandS.TupMul
import HandS.NoneIn
import KE.GoesMore
import HandS.EndTab
import HandS.HeadWalk
import HandS.HeadEnd
import HandS.Head0
import HandS.Head1
import HandS.Head2
import HandS.HeadHook1
import HandS.HeadHook2
import HandS.HeadHook3
import HandS.HeadHook4
import PySem.Challenge.RW_whichheld_k28_families_and_signs
set_option Elab.async false
set_option linter.all false
set_option maxRecDepth 100000
namespace GA
open L2 PySem PySem.Spec PyProof.Rows
def topS (i : Nat) : Stmt := PySem.Challenge.pw_whichheld_k28_families_and_signs.main.body.getD i (.Pass ⟨0, 0, 0, 0⟩)
abbrev sDeck : Stmt := topS 47
abbrev nDeck : List Str := ["_law_script", "_law_cell"]
theorem scDeck : FnScope nDeck ["_law_script"] (defScope sDeck) := ⟨rfl, rfl, rfl, by decide +kernel, rfl, by decide +kernel, by decide +kernel⟩
abbrev sDraw : Stmt := topS 48
abbrev nDraw : List Str := ["_law_deck_here", "_law_many", "_law_cell", "_law_at", "_law_mixed"]
theorem scDraw : FnScope nDraw ["_law_deck_here", "_law_many"] (defScope sDraw) := ⟨rfl, rfl, rfl, by decide +kernel, rfl, by decide +kernel, by decide +kernel⟩
abbrev sOne : Stmt := topS 49
abbrev nOne : List Str := ["_law_deck_here", "_law_items"]
theorem scOne : FnScope nOne ["_law_deck_here", "_law_items"] (defScope sOne) := ⟨rfl, rfl, rfl, by decide +kernel, rfl, by decide +kernel, by decide +kernel⟩
abbrev sNames : Stmt := topS 50
abbrev nNames : List Str := ["_law_deck_here", "_law_letters", "_law_signs", "_law_words", "_law_at", "_law_size_here", "_law_before", "_law_behind", "_law_k"]
theorem scNames : FnScope nNames ["_law_deck_here"] (defScope sNames) := ⟨rfl, rfl, rfl, by decide +kernel, rfl, by decide +kernel, by decide +kernel⟩
abbrev sExpression : Stmt := topS 51
abbrev nExpression : List Str := ["_law_deck_here", "_law_names_here", "_law_deep", "_law_way", "_law_factor", "_law_first"]
theorem scExpression : FnScope nExpression ["_law_deck_here", "_law_names_here", "_law_deep"] (defScope sExpression) := ⟨rfl, rfl, rfl, by decide +kernel, rfl, by decide +kernel, by decide +kernel⟩
abbrev sTest : Stmt := topS 52
abbrev nTest : List Str := ["_law_deck_here", "_law_names_here", "_law_room", "_law_times", "_law_nots", "_law_test_here", "_law_by", "_law_first", "_law_k"]
theorem scTest : FnScope nTest ["_law_deck_here", "_law_names_here", "_law_room", "_law_times"] (defScope sTest) := ⟨rfl, rfl, rfl, by decide +kernel, rfl, by decide +kernel, by decide +kernel⟩
abbrev sPlain : Stmt := topS 53
abbrev nPlain : List Str := ["_law_deck_here", "_law_names_here", "_law_way", "_law_name"]
theorem scPlain : FnScope nPlain ["_law_deck_here", "_law_names_here"] (defScope sPlain) := ⟨rfl, rfl, rfl, by decide +kernel, rfl, by decide +kernel, by decide +kernel⟩
abbrev sRow : Stmt := topS 54
abbrev nRow : List Str := ["_law_deck_here", "_law_names_here", "_law_room", "_law_times", "_law_depth", "_law_way", "_law_test_here", "_law_yes", "_law_again"]
theorem scRow : FnScope nRow ["_law_deck_here", "_law_names_here", "_law_room", "_law_times", "_law_depth"] (defScope sRow) := ⟨rfl, rfl, rfl, by decide +kernel, rfl, by decide +kernel, by decide +kernel⟩
abbrev sBlock : Stmt := topS 55
abbrev nBlock : List Str := ["_law_deck_here", "_law_names_here", "_law_room", "_law_times", "_law_depth", "_law_many", "_law_rows", "_law_k", "_law_row_here"]
theorem scBlock : FnScope nBlock ["_law_deck_here", "_law_names_here", "_law_room", "_law_times", "_law_depth"] (defScope sBlock) := ⟨rfl, rfl, rfl, by decide +kernel, rfl, by decide +kernel, by decide +kernel⟩
abbrev sProgram : Stmt := topS 56
abbrev nProgram : List Str := ["_law_deck_here", "_law_names_here", "_law_room", "_law_program_here", "_law_k"]
theorem scProgram : FnScope nProgram ["_law_deck_here", "_law_names_here"] (defScope sProgram) := ⟨rfl, rfl, rfl, by decide +kernel, rfl, by decide +kernel, by decide +kernel⟩
/-! ### heaps: all but some stand as they stood -/
def Sx (ex : List Addr) (H H' : Hp) : Prop := ∀ b o, b ∉ ex → H b = some o → H' b = some o
theorem Sx.refl {ex : List Addr} (H : Hp) : Sx ex H H := fun _ _ _ h => h
theorem Sx.trans {ex : List Addr} {H H1 H2 : Hp} (a : Sx ex H H1) (b : Sx ex H1 H2) : Sx ex H H2 := fun x o n h => b x o n (a x o n h)
theorem Sx.mono {ex fx : List Addr} {H H' : Hp} (a : Sx ex H H') (h : ∀ b ∈ ex, b ∈ fx) : Sx fx H H' := fun x o n e => a x o (fun z => n (h x z)) e
theorem Sx.nil {ex : List Addr} {H H' : Hp} (a : Sx [] H H') : Sx ex H H' := a.mono (fun _ z => by cases z)
theorem Sx.put {ex : List Addr} {H H' : Hp} {p : Addr} {o : HO} (a : Sx ex H H') (h : p ∈ ex) : Sx ex H (upd H' p o) := fun x u n e => by
  rw [upd_ne (fun z => n (by rw [z]; exact h))]
  exact a x u n e
/-- what was not there ahead may change -/
theorem Sx.own {ex : List Addr} {H H' : Hp} {p : Addr} {o : HO} (a : Sx ex H H') (h : H p = none) : Sx ex H (upd H' p o) := fun x u n e => by
  rw [upd_ne (ne_of_none e h)]
  exact a x u n e
theorem Sx.new {ex : List Addr} {H H' : Hp} {p : Addr} {o : HO} (a : Sx ex H H') (h : H' p = none) : Sx ex H (upd H' p o) := fun x u n e => by
  rw [upd_ne (ne_of_none (a x u n e) h)]
  exact a x u n e
theorem Sx.same {H H' : Hp} (a : Sx [] H H') : Same H H' := fun b o e => a b o (fun z => by cases z) e
theorem Sx.of {ex : List Addr} {H H' : Hp} (a : Same H H') : Sx ex H H' := fun b o _ e => a b o e
/-- free behind is free ahead, but for what may go -/
theorem Sx.free {ex : List Addr} {H H' : Hp} {p : Addr} (a : Sx ex H H') (hx : p ∉ ex) (h : H' p = none) : H p = none := by
  cases e : H p with
  | none => rfl
  | some o => rw [a p o hx e] at h; cases h
/-! ### the deck -/
/-- the deck at a: its cells at c, k numbers drawn -/
structure Dk (H : Hp) (a c : Addr) (cs : List Int) (k : Int) : Prop where
  ha : H a = some (.lst [.ref c, .int k])
  hc : H c = some (.lst (cs.map V.int))
  pos : ∀ x ∈ cs, 0 ≤ x
  len : cs.length ≤ 63
  k0 : 0 ≤ k
theorem Dk.ne {H : Hp} {a c : Addr} {cs : List Int} {k : Int} (D : Dk H a c cs k) : a ≠ c := fun e => by
  have h1 := D.ha
  rw [e, D.hc] at h1
  match cs, h1 with
  | [x, y], h1 => simp at h1
theorem Dk.sx {H H' : Hp} {a c : Addr} {cs : List Int} {k : Int} {ex : List Addr} (D : Dk H a c cs k) (s : Sx ex H H') (h1 : a ∉ ex) (h2 : c ∉ ex) : Dk H' a c cs k := ⟨s _ _ h1 D.ha, s _ _ h2 D.hc, D.pos, D.len, D.k0⟩
theorem Dk.same {H H' : Hp} {a c : Addr} {cs : List Int} {k : Int} (D : Dk H a c cs k) (s : Sx [] H H') : Dk H' a c cs k := D.sx s (by simp) (by simp)
/-- so many numbers may be drawn in all -/
abbrev KB : Int := 1099511627776
/-- go on from any heap of which as much is known -/
theorem gh {R F : Hp → Prop} {H1 : Hp} (f : F H1) (h : ∀ H2, F H2 → R H2) : R H1 := h H1 f
theorem lt_line {n : Nat} (h : n < 16777216) : n < sizeLine := h
theorem le_line {n : Nat} (h : n ≤ 16777216) : n ≤ sizeLine := h
theorem ixN_of {n j : Nat} {i : Int} (e : i = (j : Int)) (hj : j < n) : ixN n i = some j := by
  subst e
  unfold ixN
  rw [if_pos (by omega)]; rw [if_pos (by omega)]; simp
theorem Sx.rd {ex : List Addr} {H H' : Hp} {p : Addr} {u : HO} (a : Sx ex H H') (h : p ∉ ex) (r : Rd H p u) : Rd H' p u := by
  rcases r with r | ⟨o, r⟩
  · exact .inl (a _ _ h r)
  · exact .inr ⟨o, a _ _ h r⟩
theorem Sx.seqL {ex : List Addr} {H H' : Hp} {K : PySem.W.Frag} {p : Addr} {xs : List V} (a : Sx ex H H') (h : p ∉ ex) (r : SqL K H p xs) : SqL K H' p xs := r.imp (a.rd h) id
theorem Sx.seqT {ex : List Addr} {H H' : Hp} {K : PySem.W.Frag} {p : Addr} {xs : List V} (a : Sx ex H H') (h : p ∉ ex) (r : SqT K H p xs) : SqT K H' p xs := r.imp (a.rd h) id
theorem ix_or {X : Cx} {r r' : R2} (h : IxR X r) (h' : IxR X r') : IxR X (fun x y H Q => r x y H Q ∨ r' x y H Q) := by
  intro e1 e2 pins s σ H x y v u Q I rx ry q hs
  rcases q with q | q
  · exact h e1 e2 pins s σ H x y v u Q I rx ry q hs
  · exact h' e1 e2 pins s σ H x y v u Q I rx ry q hs
theorem cr_or {X : Cx} {f : Value} {r r' : List V → Hp → VK → Prop} (h : CallR X f r) (h' : CallR X f r') : CallR X f (fun x H Q => r x H Q ∨ r' x H Q) := by
  intro pins s σ H xs us Q I rx q
  rcases q with q | q
  · exact h pins s σ H xs us Q I rx q
  · exact h' pins s σ H xs us Q I rx q
/-! ### data of tuples -/
mutual
/-- v is the data d, tuples of ints and texts within one another -/
inductive Tp (H : Hp) : V → PyData → Prop where
  | non : Tp H .non .none
  | bl (b : Bool) : Tp H (.bl b) (.bool b)
  | int (i : Int) : Tp H (.int i) (.int i)
  | str (x : Str) : Tp H (.str x) (.str x)
  | tup {a : Addr} {xs : List V} {ds : List PyData} : H a = some (.tup xs) → TpAll H xs ds → Tp H (.ref a) (.tuple ds)
inductive TpAll (H : Hp) : List V → List PyData → Prop where
  | nil : TpAll H [] []
  | cons {v : V} {vs : List V} {d : PyData} {ds : List PyData} : Tp H v d → TpAll H vs ds → TpAll H (v :: vs) (d :: ds)
end
/-- the tuples stand as they stood -/
def Tk (H H' : Hp) : Prop := ∀ b xs, H b = some (.tup xs) → H' b = some (.tup xs)
theorem Tk.refl (H : Hp) : Tk H H := fun _ _ h => h
theorem Tk.trans {H H1 H2 : Hp} (a : Tk H H1) (b : Tk H1 H2) : Tk H H2 := fun x o h => b x o (a x o h)
theorem Sx.tk {ex : List Addr} {H H' : Hp} (s : Sx ex H H') (h : ∀ b ∈ ex, ∃ ys, H b = some (.lst ys)) : Tk H H' := fun b xs e => s b _ (fun hb => by
  obtain ⟨ys, e'⟩ := h b hb
  rw [e] at e'
  cases e') e
theorem Sx.tk0 {H H' : Hp} (s : Sx [] H H') : Tk H H' := s.tk (fun _ z => by cases z)
mutual
theorem Tp.keep {H H' : Hp} (s : Tk H H') : ∀ {v : V} {d : PyData}, Tp H v d → Tp H' v d
  | _, _, .non => .non
  | _, _, .bl b => .bl b
  | _, _, .int i => .int i
  | _, _, .str x => .str x
  | _, _, .tup h a => .tup (s _ _ h) (TpAll.keep s a)
theorem TpAll.keep {H H' : Hp} (s : Tk H H') : ∀ {vs : List V} {ds : List PyData}, TpAll H vs ds → TpAll H' vs ds
  | _, _, .nil => .nil
  | _, _, .cons a b => .cons (Tp.keep s a) (TpAll.keep s b)
end
mutual
theorem Tp.dp {K : PySem.W.Frag} {H : Hp} : ∀ {v : V} {d : PyData}, Tp H v d → Dp K H v d
  | _, _, .non => .non
  | _, _, .bl b => .bl b
  | _, _, .int i => .int i
  | _, _, .str x => .str x
  | _, _, .tup h a => .tup (SqT.of h) (TpAll.dp a)
theorem TpAll.dp {K : PySem.W.Frag} {H : Hp} : ∀ {vs : List V} {ds : List PyData}, TpAll H vs ds → DpAll K H vs ds
  | _, _, .nil => .nil
  | _, _, .cons a b => .cons (Tp.dp a) (TpAll.dp b)
end
theorem TpAll.len {H : Hp} : ∀ {vs : List V} {ds : List PyData}, TpAll H vs ds → vs.length = ds.length
  | _, _, .nil => rfl
  | _, _, .cons _ b => by rw [List.length_cons, List.length_cons, TpAll.len b]
theorem TpAll.get {H : Hp} : ∀ {vs : List V} {ds : List PyData} {i : Nat} {v : V}, TpAll H vs ds → vs[i]? = some v → ∃ d, ds[i]? = some d ∧ Tp H v d
  | _, _, 0, _, .cons a _, e => ⟨_, rfl, by cases e; exact a⟩
  | _, _, i + 1, _, .cons _ b, e => TpAll.get (i := i) b e
theorem TpAll.append {H : Hp} : ∀ {vs ws : List V} {ds es : List PyData}, TpAll H vs ds → TpAll H ws es → TpAll H (vs ++ ws) (ds ++ es)
  | _, _, _, _, .nil, h => h
  | _, _, _, _, .cons a b, h => .cons a (TpAll.append b h)
theorem Tp.tuple {H : Hp} {v : V} {ds : List PyData} (h : Tp H v (.tuple ds)) : ∃ a xs, v = .ref a ∧ H a = some (.tup xs) ∧ TpAll H xs ds := by
  cases h with
  | tup h a => exact ⟨_, _, rfl, h, a⟩
theorem Tp.new {H : Hp} {v : V} {d : PyData} {p : Addr} {o : HO} (h : Tp H v d) (n : H p = none) : Tp (upd H p o) v d := h.keep ((Sx.refl _).new n).tk0
theorem TpAll.new {H : Hp} {vs : List V} {ds : List PyData} {p : Addr} {o : HO} (h : TpAll H vs ds) (n : H p = none) : TpAll (upd H p o) vs ds := h.keep ((Sx.refl _).new n).tk0
theorem Dk.new {H : Hp} {a c p : Addr} {cs : List Int} {k : Int} {o : HO} (D : Dk H a c cs k) (n : H p = none) : Dk (upd H p o) a c cs k := D.same ((Sx.refl _).new n)
/-- what is shown once and used on several ways -/
theorem share {B G : Prop} (hB : B) (h : B → G) : G := h hB
theorem Sx.step {ex fx : List Addr} {H H1 H2 : Hp} (a : Sx ex H H1) (b : Sx fx H1 H2) (h : ∀ x ∈ fx, x ∈ ex ∨ H x = none) : Sx ex H H2 := fun x o n e =>
  b x o (fun z => (h x z).elim n (fun y => by rw [e] at y; cases y)) (a x o n e)
theorem gnm {i : Nat} {v : V} {σ : L2.St} {H : Hp} {Qf : L2.St → Hp → Prop} (h : Qf (σ.set i (some v)) H) : gName i v σ H Qf := h
/-! ### what the generator makes -/
/-- expressions over the names, at most so many in one another -/
inductive ExD (ns : List Str) : Nat → PyData → Prop where
  | int {d : Nat} (i : Int) : -99 ≤ i → i ≤ 99 → ExD ns (d + 1) (.int i)
  | name {d : Nat} (z : Str) : z ∈ ns → ExD ns (d + 1) (.str z)
  | plus {d : Nat} {x y : PyData} : ExD ns d x → ExD ns d y → ExD ns (d + 1) (.tuple [.str "plus", x, y])
  | minus {d : Nat} {x y : PyData} : ExD ns d x → ExD ns d y → ExD ns (d + 1) (.tuple [.str "minus", x, y])
  | times {d : Nat} {x : PyData} (f : Int) : -9 ≤ f → f ≤ 9 → ExD ns d x → ExD ns (d + 1) (.tuple [.str "times", .int f, x])
/-- so many draws at most -/
def cE : Nat → Int
  | 0 => 0
  | d + 1 => 2 * cE d + 3
theorem cE_pos : ∀ d, 0 ≤ cE d
  | 0 => Int.le_refl _
  | d + 1 => by have := cE_pos d; show 0 ≤ 2 * cE d + 3; omega
theorem cE_one (d : Nat) : cE (d + 1) = 2 * cE d + 3 := rfl
/-- a name: one to eight small letters and digits, none of the words -/
def WordsK : List Str := ["box", "set", "pay", "stop", "if", "else", "repeat", "pass", "rest", "of", "not", "program"]
structure NmOk (z : Str) : Prop where
  lo : 1 ≤ z.length
  hi : z.length ≤ 8
  sgn : ∀ x ∈ z.cps.toList, (97 ≤ x ∧ x ≤ 122) ∨ (48 ≤ x ∧ x ≤ 57)
  hd : ∀ x, z.cps.toList[0]? = some x → 97 ≤ x
  kw : z ∉ WordsK
theorem NmOk.ok {z : Str} (h : NmOk z) : PyData.strOk z = true := by
  unfold PyData.strOk
  rw [Array.all_eq_true']
  intro x hx
  have := h.sgn x (Array.mem_toList_iff.mpr hx)
  refine decide_eq_true ?_; omega
/-- names at nm -/
structure Nms (K : PySem.W.Frag) (H : Hp) (nm : Addr) (ns : List Str) : Prop where
  tr : H nm = some (.lst (ns.map V.str))
  ne : ns ≠ []
  len : ns.length ≤ 1000
  ok : ∀ z ∈ ns, NmOk z
theorem Nms.keep {K : PySem.W.Frag} {H H' : Hp} {nm : Addr} {ns : List Str} {ex : List Addr} (N : Nms K H nm ns) (s : Sx ex H H') (h : nm ∉ ex) : Nms K H' nm ns := ⟨s _ _ h N.tr, N.ne, N.len, N.ok⟩
theorem Nms.at_ {K : PySem.W.Frag} {H : Hp} {nm : Addr} {ns : List Str} (N : Nms K H nm ns) : SqL K H nm (ns.map V.str) := .inl (.inl N.tr)
theorem Nms.nw {K : PySem.W.Frag} {H : Hp} {nm p : Addr} {ns : List Str} (N : Nms K H nm ns) (h : H p = none) : nm ≠ p := fun z => (by rw [← z, N.tr] at h; cases h)
theorem Dk.lst {H : Hp} {a c : Addr} {cs : List Int} {k : Int} (D : Dk H a c cs k) : ∀ b ∈ [a, c], ∃ ys, H b = some (.lst ys) := fun b hb => by
  rcases List.mem_cons.1 hb with rfl | hb
  · exact ⟨_, D.ha⟩
  · rw [List.mem_singleton.mp hb]; exact ⟨_, D.hc⟩
theorem Dk.tk {H H' : Hp} {a c : Addr} {cs : List Int} {k : Int} (D : Dk H a c cs k) (s : Sx [a, c] H H') : Tk H H' := s.tk D.lst
/-- a new object is none of the deck's -/
theorem Dk.nw {H : Hp} {a c p : Addr} {cs : List Int} {k : Int} (D : Dk H a c cs k) (h : H p = none) : p ≠ a ∧ p ≠ c :=
  ⟨fun e => (by rw [e, D.ha] at h; cases h), fun e => (by rw [e, D.hc] at h; cases h)⟩
/-- tests with at most so many "not"; true: of a rest -/
inductive TsD (ns : List Str) : Nat → Bool → PyData → Prop where
  | rest {n : Nat} {x : PyData} (b r : Int) : ExD ns 3 x → 2 ≤ b → b ≤ 6 → 0 ≤ r → r < b → TsD ns n true (.tuple [.str "rest", x, .int b, .int r])
  | less {n : Nat} {x y : PyData} : ExD ns 3 x → ExD ns 3 y → TsD ns n false (.tuple [.str "less", x, y])
  | not {n : Nat} {b : Bool} {t : PyData} : TsD ns n b t → TsD ns (n + 1) b (.tuple [.str "not", t])
def bI (b : Bool) : Int := if b then 1 else 0
mutual
/-- statements whose blocks lie at most so deep: with its places, weight, rests, comparings -/
inductive StD (ns : List Str) : Nat → Int → Int → Int → Int → PyData → Prop where
  | set {d : Nat} {e : PyData} (z : Str) : z ∈ ns → ExD ns 3 e → StD ns d 1 1 0 0 (.tuple [.str "set", .str z, e])
  | pay {d : Nat} {e : PyData} : ExD ns 3 e → StD ns d 1 1 0 0 (.tuple [.str "pay", e])
  | stop {d : Nat} : StD ns d 1 1 0 0 (.tuple [.str "stop"])
  | ite {d : Nat} {t : PyData} {b : Bool} {n1 w1 r1 c1 n2 w2 r2 c2 : Int} {ys zs : List PyData} : TsD ns 2 b t → BkD ns d n1 w1 r1 c1 ys → BkD ns d n2 w2 r2 c2 zs →
      StD ns d (1 + n1 + n2) (1 + w1 + w2) (bI b + r1 + r2) (bI (!b) + c1 + c2) (.tuple [.str "if", t, .tuple ys, .tuple zs])
  | rep {d : Nat} {n1 w1 r1 c1 : Int} {ys : List PyData} (k : Int) : 1 ≤ k → k ≤ 8 → BkD ns d n1 w1 r1 c1 ys → StD ns d (1 + n1) (1 + k * w1) (k * r1) (k * c1) (.tuple [.str "repeat", .int k, .tuple ys])
inductive BkD (ns : List Str) : Nat → Int → Int → Int → Int → List PyData → Prop where
  | nil {d : Nat} : BkD ns d 0 0 0 0 []
  | cons {d : Nat} {n1 w1 r1 c1 n2 w2 r2 c2 : Int} {s : PyData} {ss : List PyData} : StD ns d n1 w1 r1 c1 s → BkD ns (d + 1) n2 w2 r2 c2 ss → BkD ns (d + 1) (n1 + n2) (w1 + w2) (r1 + r2) (c1 + c2) (s :: ss)
end
/-! ### such data may be compared -/
def Sh (n : Nat) (e : PyData) : Prop := e.canLay0 = true ∧ e.depth ≤ n
def ShA (n : Nat) (es : List PyData) : Prop := PyData.canLayAll0 es = true ∧ PyData.depthAll es ≤ n
theorem ShA.nil {n : Nat} : ShA n [] := ⟨by simp only [PyData.canLayAll0], by simp only [PyData.depthAll]; omega⟩
theorem ShA.cons {n : Nat} {e : PyData} {es : List PyData} (h : Sh n e) (hs : ShA n es) : ShA n (e :: es) :=
  ⟨by simp only [PyData.canLayAll0, h.1, hs.1, Bool.and_self], by simp only [PyData.depthAll]; have := h.2; have := hs.2; omega⟩
theorem Sh.tup {n : Nat} {es : List PyData} (h : ShA n es) : Sh (n + 1) (.tuple es) := ⟨by simp only [PyData.canLay0, h.1], by simp only [PyData.depth]; have := h.2; omega⟩
theorem Sh.int {n : Nat} (i : Int) : Sh n (.int i) := ⟨by simp only [PyData.canLay0], by simp only [PyData.depth]; omega⟩
theorem Sh.str {n : Nat} {z : Str} (h : PyData.strOk z = true) : Sh n (.str z) := ⟨by simp only [PyData.canLay0, h], by simp only [PyData.depth]; omega⟩
theorem Sh.mono {n m : Nat} {e : PyData} (h : Sh n e) (l : n ≤ m) : Sh m e := ⟨h.1, Nat.le_trans h.2 l⟩
theorem ShA.mono {n m : Nat} {e : List PyData} (h : ShA n e) (l : n ≤ m) : ShA m e := ⟨h.1, Nat.le_trans h.2 l⟩
theorem Sh.shaped {n : Nat} {e : PyData} (h : Sh n e) (l : n ≤ 64) : SeqAt.shaped e = true := by
  unfold SeqAt.shaped
  rw [h.1, decide_eq_true (Nat.le_trans h.2 l)]
  rfl
theorem ExD.sh {ns : List Str} (hn : ∀ z ∈ ns, NmOk z) {d : Nat} {e : PyData} (h : ExD ns d e) : Sh d e := by
  induction h with
  | int i _ _ => exact .int i
  | name z hz => exact .str (hn z hz).ok
  | plus _ _ h1 h2 => exact .tup (.cons (.str (by decide +kernel)) (.cons h1 (.cons h2 .nil)))
  | minus _ _ h1 h2 => exact .tup (.cons (.str (by decide +kernel)) (.cons h1 (.cons h2 .nil)))
  | times f _ _ _ h1 => exact .tup (.cons (.str (by decide +kernel)) (.cons (.int f) (.cons h1 .nil)))
theorem TsD.sh {ns : List Str} (hn : ∀ z ∈ ns, NmOk z) {n : Nat} {b : Bool} {e : PyData} (h : TsD ns n b e) : Sh (n + 4) e := by
  induction h with
  | rest b r hx _ _ _ _ => exact (Sh.tup (.cons (.str (by decide +kernel)) (.cons (hx.sh hn) (.cons (.int b) (.cons (.int r) .nil))))).mono (by omega)
  | less hx hy => exact (Sh.tup (.cons (.str (by decide +kernel)) (.cons (hx.sh hn) (.cons (hy.sh hn) .nil)))).mono (by omega)
  | not _ ih => exact .tup (.cons (.str (by decide +kernel)) (.cons ih .nil))
theorem TsD.up {ns : List Str} {n m : Nat} {b : Bool} {e : PyData} (h : TsD ns n b e) (l : n ≤ m) : TsD ns m b e := by
  induction h generalizing m with
  | rest b r h1 h2 h3 h4 h5 => exact .rest b r h1 h2 h3 h4 h5
  | less h1 h2 => exact .less h1 h2
  | not _ ih =>
    obtain ⟨j, rfl⟩ : ∃ j, m = j + 1 := ⟨m - 1, by omega⟩
    exact .not (ih (by omega))
mutual
theorem StD.sh {ns : List Str} (hn : ∀ z ∈ ns, NmOk z) : ∀ {d : Nat} {n w r c : Int} {e : PyData}, StD ns d n w r c e → Sh (2 * d + 9) e
  | _, _, _, _, _, _, .set z hz hx => (Sh.tup (.cons (.str (by decide +kernel)) (.cons (.str (hn z hz).ok) (.cons (hx.sh hn) .nil)))).mono (by omega)
  | _, _, _, _, _, _, .pay hx => (Sh.tup (.cons (.str (by decide +kernel)) (.cons (hx.sh hn) .nil))).mono (by omega)
  | _, _, _, _, _, _, .stop => (Sh.tup (n := 0) (.cons (.str (by decide +kernel)) .nil)).mono (by omega)
  | d, _, _, _, _, _, .ite ht hy hz => (Sh.tup (n := 2 * d + 8) (.cons (.str (by decide +kernel)) (.cons ((ht.sh hn).mono (by omega)) (.cons ((Sh.tup (BkD.sh hn hy)).mono (by omega)) (.cons ((Sh.tup (BkD.sh hn hz)).mono (by omega)) .nil))))).mono (by omega)
  | d, _, _, _, _, _, .rep k _ _ hy => (Sh.tup (n := 2 * d + 8) (.cons (.str (by decide +kernel)) (.cons (.int k) (.cons ((Sh.tup (BkD.sh hn hy)).mono (by omega)) .nil)))).mono (by omega)
theorem BkD.sh {ns : List Str} (hn : ∀ z ∈ ns, NmOk z) : ∀ {d : Nat} {n w r c : Int} {es : List PyData}, BkD ns d n w r c es → ShA (2 * d + 7) es
  | _, _, _, _, _, _, .nil => .nil
  | _, _, _, _, _, _, .cons h hs => .cons ((StD.sh hn h).mono (by omega)) (BkD.sh hn hs)
end
/-- the room at rm -/
structure Rm (H : Hp) (rm : Addr) (r0 r1 r2 r3 : Int) : Prop where
  at_ : H rm = some (.lst [.int r0, .int r1, .int r2, .int r3])
  p0 : 0 ≤ r0
  p1 : 0 ≤ r1
  p2 : 0 ≤ r2
  p3 : 0 ≤ r3
theorem Rm.sx {H H' : Hp} {rm : Addr} {r0 r1 r2 r3 : Int} {ex : List Addr} (R : Rm H rm r0 r1 r2 r3) (s : Sx ex H H') (h : rm ∉ ex) : Rm H' rm r0 r1 r2 r3 := ⟨s _ _ h R.at_, R.p0, R.p1, R.p2, R.p3⟩
theorem Rm.new {H : Hp} {rm p : Addr} {r0 r1 r2 r3 : Int} {o : HO} (R : Rm H rm r0 r1 r2 r3) (n : H p = none) : Rm (upd H p o) rm r0 r1 r2 r3 := R.sx ((Sx.refl (ex := []) _).new n) (by simp)
theorem Rm.nw {H : Hp} {rm p : Addr} {r0 r1 r2 r3 : Int} (R : Rm H rm r0 r1 r2 r3) (n : H p = none) : p ≠ rm := fun e => (by rw [e, R.at_] at n; cases n)
theorem lst3 {H : Hp} {a c rm : Addr} {cs : List Int} {k r0 r1 r2 r3 : Int} (D : Dk H a c cs k) (R : Rm H rm r0 r1 r2 r3) : ∀ b ∈ [a, c, rm], ∃ ys, H b = some (.lst ys) := fun b hb => by
  simp only [List.not_mem_nil, List.mem_cons, or_false] at hb
  obtain rfl | rfl | rfl := hb
  · exact ⟨_, D.ha⟩
  · exact ⟨_, D.hc⟩
  · exact ⟨_, R.at_⟩
theorem Rm.cast {H : Hp} {rm : Addr} {r0 r1 r2 r3 q0 q1 q2 q3 : Int} (R : Rm H rm r0 r1 r2 r3) (e0 : r0 = q0) (e1 : r1 = q1) (e2 : r2 = q2) (e3 : r3 = q3) : Rm H rm q0 q1 q2 q3 := by
  subst e0 e1 e2 e3
  exact R
theorem BkD.snoc {ns : List Str} {d : Nat} {n2 w2 r2 c2 : Int} {s : PyData} (hs : StD ns d n2 w2 r2 c2 s) : ∀ (xs : List PyData) {n w r c : Int}, BkD ns (d + 1) n w r c xs → BkD ns (d + 1) (n + n2) (w + w2) (r + r2) (c + c2) (xs ++ [s])
  | [], _, _, _, _, .nil => by
    have h : BkD ns (d + 1) (n2 + 0) (w2 + 0) (r2 + 0) (c2 + 0) [s] := .cons hs .nil
    have e : ∀ x : Int, x + 0 = 0 + x := fun x => Int.add_comm _ _
    rw [e, e, e, e] at h
    exact h
  | x :: xs, _, _, _, _, .cons (n1 := n1) (w1 := w1) (r1 := r1) (c1 := c1) (n2 := n3) (w2 := w3) (r2 := r3) (c2 := c3) hx hxs => by
    have h := BkD.cons hx (BkD.snoc hs xs hxs)
    rw [← Int.add_assoc, ← Int.add_assoc, ← Int.add_assoc, ← Int.add_assoc] at h
    exact h
/-- not () -/
def ne0 (e : PyData) : Bool := !PyData.eqv e (.tuple [])
theorem StD.ne0 {ns : List Str} {d : Nat} {n w r c : Int} {e : PyData} (h : StD ns d n w r c e) : GA.ne0 e = true := by
  cases h <;> rfl
theorem ne0_nil : ne0 (.tuple []) = false := rfl
theorem ExD.up {ns : List Str} {n m : Nat} {e : PyData} (h : ExD ns n e) (l : n ≤ m) : ExD ns m e := by
  induction h generalizing m with
  | int i h1 h2 => obtain ⟨j, rfl⟩ : ∃ j, m = j + 1 := ⟨m - 1, by omega⟩; exact .int i h1 h2
  | name z h1 => obtain ⟨j, rfl⟩ : ∃ j, m = j + 1 := ⟨m - 1, by omega⟩; exact .name z h1
  | plus _ _ h1 h2 => obtain ⟨j, rfl⟩ : ∃ j, m = j + 1 := ⟨m - 1, by omega⟩; exact .plus (h1 (by omega)) (h2 (by omega))
  | minus _ _ h1 h2 => obtain ⟨j, rfl⟩ : ∃ j, m = j + 1 := ⟨m - 1, by omega⟩; exact .minus (h1 (by omega)) (h2 (by omega))
  | times f a b _ h1 => obtain ⟨j, rfl⟩ : ∃ j, m = j + 1 := ⟨m - 1, by omega⟩; exact .times f a b (h1 (by omega))
theorem bI_nn (b : Bool) : 0 ≤ bI b := by cases b <;> decide
mutual
theorem StD.pos {ns : List Str} : ∀ {d : Nat} {n w r c : Int} {e : PyData}, StD ns d n w r c e → 1 ≤ n ∧ 1 ≤ w ∧ 0 ≤ r ∧ 0 ≤ c
  | _, _, _, _, _, _, .set z hz hx => by omega
  | _, _, _, _, _, _, .pay hx => by omega
  | _, _, _, _, _, _, .stop => by omega
  | _, _, _, _, _, _, .ite (b := b) ht hy hz => by
    have h1 := BkD.pos hy
    have h2 := BkD.pos hz
    have h3 := bI_nn b
    have h4 := bI_nn (!b)
    omega
  | _, _, _, _, _, _, .rep (w1 := w1) (r1 := r1) (c1 := c1) k hk _ hy => by
    have h1 := BkD.pos hy
    have h2 : 0 ≤ k * w1 := Int.mul_nonneg (by omega) (by omega)
    have h3 : 0 ≤ k * r1 := Int.mul_nonneg (by omega) (by omega)
    have h4 : 0 ≤ k * c1 := Int.mul_nonneg (by omega) (by omega)
    omega
theorem BkD.pos {ns : List Str} : ∀ {d : Nat} {n w r c : Int} {es : List PyData}, BkD ns d n w r c es → (es.length : Int) ≤ n ∧ (es.length : Int) ≤ w ∧ 0 ≤ r ∧ 0 ≤ c
  | _, _, _, _, _, _, .nil => by simp
  | _, _, _, _, _, _, .cons h hs => by
    have h1 := StD.pos h
    have h2 := BkD.pos hs
    rw [List.length_cons]
    omega
end
theorem BkD.append {ns : List Str} {d : Nat} {n2 w2 r2 c2 : Int} {ys : List PyData} (hy : BkD ns (d + 1) n2 w2 r2 c2 ys) : ∀ (xs : List PyData) {n w r c : Int}, BkD ns (d + 1) n w r c xs → BkD ns (d + 1) (n + n2) (w + w2) (r + r2) (c + c2) (xs ++ ys)
  | [], _, _, _, _, .nil => by
    rw [Int.zero_add, Int.zero_add, Int.zero_add, Int.zero_add]
    exact hy
  | x :: xs, _, _, _, _, .cons hx hxs => by
    have h := BkD.cons hx (BkD.append hy xs hxs)
    rw [← Int.add_assoc, ← Int.add_assoc, ← Int.add_assoc, ← Int.add_assoc] at h
    exact h
/-- a tuple and a tuple -/
theorem cat_tp {K : PySem.W.Frag} {H : Hp} {v u : V} {ds es : List PyData} {Q : VK} (h1 : Tp H v (.tuple ds)) (h2 : Tp H u (.tuple es)) (hl : ds.length + es.length ≤ 16777216)
    (q : ∀ H' z, Sx [] H H' → (∀ b, H' b = none → H b = none) → Tp H' z (.tuple (ds ++ es)) → Q z H') : rCatA K v u H Q := by
  obtain ⟨a, xs, rfl, ha, hx⟩ := h1.tuple
  obtain ⟨b, ys, rfl, hb, hy⟩ := h2.tuple
  refine ⟨a, b, xs, ys, rfl, rfl, .inl (.inl ha), .inl (.inl hb), by rw [hx.len, hy.len]; exact hl, fun e => ?_, fun _ e => ?_, fun _ _ p hp => ?_⟩
  · subst e
    cases hx
    exact q H _ (Sx.refl _) (fun _ h => h) (.tup hb hy)
  · subst e
    cases hy
    rw [List.append_nil] at q
    exact q H _ (Sx.refl _) (fun _ h => h) (.tup ha hx)
  · refine q _ _ ((Sx.refl _).new hp) (fun z hz => ?_) (.tup upd_same ((hx.append hy).new hp))
    by_cases e : z = p
    · rw [e]; exact hp
    · rw [upd_ne e] at hz; exact hz
def cP : Int := 700000
def spProgram (K : PySem.W.Frag) : Sp := fun vs H Q _ => ∃ (a c : Addr) (cs : List Int) (k : Int) (nm : Addr) (ns : List Str), vs = [.ref a, .ref nm] ∧ Dk H a c cs k ∧ Nms K H nm ns ∧ nm ≠ a ∧ nm ≠ c ∧ k + cP ≤ KB ∧
  ∀ H' cs' k' v es n w r cc, Sx [a, c] H H' → Dk H' a c cs' k' → k ≤ k' → k' ≤ k + cP → Tp H' v (.tuple es) → BkD ns 4 n w r cc es → n ≤ 24 → w ≤ 30 → r ≤ 2 → cc ≤ 2 → Q v H'
def cB : Nat → Int
  | 0 => 0
  | d + 1 => 1 + 4 * (71 + 2 * cB d)
theorem cB_pos : ∀ d, 0 ≤ cB d
  | 0 => Int.le_refl _
  | d + 1 => by have := cB_pos d; show 0 ≤ 1 + 4 * (71 + 2 * cB d); omega
theorem cB_one (d : Nat) : cB (d + 1) = 1 + 4 * (71 + 2 * cB d) := rfl
def spBlock (K : PySem.W.Frag) (d : Nat) : Sp := fun vs H Q _ => ∃ (a c : Addr) (cs : List Int) (k : Int) (nm : Addr) (ns : List Str) (rm : Addr) (r0 r1 r2 r3 t : Int), vs = [.ref a, .ref nm, .ref rm, .int t, .int (4 - (d : Int))] ∧ Dk H a c cs k ∧ Nms K H nm ns ∧ Rm H rm r0 r1 r2 r3 ∧
  nm ≠ a ∧ nm ≠ c ∧ nm ≠ rm ∧ rm ≠ a ∧ rm ≠ c ∧ 1 ≤ t ∧ r1 ≤ 30 ∧ k + cB d ≤ KB ∧
  ∀ H' cs' k' v es n w r cc, Sx [a, c, rm] H H' → Dk H' a c cs' k' → k ≤ k' → k' ≤ k + cB d → Tp H' v (.tuple es) → BkD ns d n w r cc es → Rm H' rm (r0 - n) (r1 - t * w) (r2 - t * r) (r3 - t * cc) → 0 ≤ w → r1 - t * w ≤ r1 → Q v H'
def spRow (K : PySem.W.Frag) (d : Nat) : Sp := fun vs H Q _ => ∃ (a c : Addr) (cs : List Int) (k : Int) (nm : Addr) (ns : List Str) (rm : Addr) (r0 r1 r2 r3 t : Int), vs = [.ref a, .ref nm, .ref rm, .int t, .int (3 - (d : Int))] ∧ Dk H a c cs k ∧ Nms K H nm ns ∧ Rm H rm r0 r1 r2 r3 ∧
  nm ≠ a ∧ nm ≠ c ∧ nm ≠ rm ∧ rm ≠ a ∧ rm ≠ c ∧ 1 ≤ t ∧ r1 ≤ 30 ∧ k + (71 + 2 * cB d) ≤ KB ∧
  ∀ H' cs' k' v e, Sx [a, c, rm] H H' → Dk H' a c cs' k' → k ≤ k' → k' ≤ k + (71 + 2 * cB d) → Tp H' v e →
    ((e = .tuple [] ∧ Rm H' rm r0 r1 r2 r3) ∨ ∃ n w r cc, StD ns d n w r cc e ∧ Rm H' rm (r0 - n) (r1 - t * w) (r2 - t * r) (r3 - t * cc) ∧ 0 ≤ w ∧ r1 - t * w ≤ r1) → Q v H'
def spNames (K : PySem.W.Frag) : Sp := fun vs H Q _ => ∃ (a c : Addr) (cs : List Int) (k : Int), vs = [.ref a] ∧ Dk H a c cs k ∧ k + 20 ≤ KB ∧
  ∀ H' cs' k' p ns, Sx [a, c] H H' → Dk H' a c cs' k' → k ≤ k' → k' ≤ k + 20 → H p = none → p ≠ a → p ≠ c → Nms K H' p ns → Q (.ref p) H'
/-- a text of one sign -/
abbrev s1 (x : Nat) : Str := ⟨#[x]⟩
theorem join_s1 : ∀ ls : List Nat, Txt.join (Str.ofString "") (ls.map s1) = ⟨ls.toArray⟩ := fun ls => by
  have e0 : (Str.ofString "" : Str) = SX.S [] := by decide +kernel
  have e1 : ls.map s1 = (ls.map fun x => [x]).map SX.S := by rw [List.map_map]; rfl
  have e2 : ∀ l : List Nat, TL.joinL [] (l.map fun x => [x]) = l := by
    intro l
    induction l with
    | nil => rfl
    | cons x r ih =>
      cases r with
      | nil => rfl
      | cons y r => show [x] ++ ([] ++ TL.joinL [] ((y :: r).map fun x => [x])) = _; rw [ih]; rfl
  rw [e0, e1, SX.join_S, e2]
theorem sum_s1 (ls : List Nat) : ((ls.map s1).map (·.length)).sum = ls.length := by
  induction ls with
  | nil => rfl
  | cons x r ih => rw [List.map_cons, List.map_cons, List.sum_cons, ih, List.length_cons, Nat.add_comm]; rfl
/-- so many signs of z stand in the list at Z -/
def Pz (H0 : Hp) (a c : Addr) (k : Int) (Z : Addr) (z : Str) (i : Nat) (H' : Hp) : Prop := Sx [a, c] H0 H' ∧ (∃ cs', Dk H' a c cs' (k + i)) ∧ ∃ ls : List Nat, H' Z = some (.lst ((ls.map s1).map V.str)) ∧ ls.length = i ∧ ∀ x ∈ ls, x ∈ z.cps.toList
theorem Pz.zero {H0 : Hp} {a c : Addr} {cs : List Int} {k : Int} {Z : Addr} {z : Str} (D : Dk H0 a c cs k) (h : H0 Z = none) : Pz H0 a c k Z z 0 (upd H0 Z (.lst [])) :=
  ⟨(Sx.refl _).new h, ⟨cs, by have := D.new (o := .lst []) h; rw [show k + ((0 : Nat) : Int) = k by omega]; exact this⟩, [], upd_same, rfl, fun _ z => by simp at z⟩
theorem Pz.step {H0 H' H2 : Hp} {a c : Addr} {cs : List Int} {k : Int} {Z : Addr} {z : Str} {i : Nat} {x : Nat} (h0 : H0 Z = none) (D0 : Dk H0 a c cs k) (p : Pz H0 a c k Z z i H') (s : Sx [a, c] H' H2) {cs2 : List Int} (D : Dk H2 a c cs2 (k + i + 1)) (hx : x ∈ z.cps.toList) (hi : i < 1000) :
    ∃ acc, H2 Z = some (.lst acc) ∧ acc.length < sizeLine ∧ Pz H0 a c k Z z (i + 1) (upd H2 Z (.lst (acc ++ [.str (s1 x)]))) := by
  obtain ⟨p1, _, ls, p3, p4, p5⟩ := p
  obtain ⟨Za, Zc⟩ := D0.nw h0
  refine ⟨_, s _ _ (by simp [Za, Zc]) p3, lt_line (by rw [List.length_map, List.length_map]; omega), (p1.trans s).own h0, ⟨cs2, ?_⟩, ls ++ [x], ?_, by rw [List.length_append, p4]; rfl, fun y hy => ?_⟩
  · rw [show k + ((i + 1 : Nat) : Int) = k + i + 1 by omega]
    exact D.sx ((Sx.refl (ex := [Z]) _).put (by simp)) (by simp [Za.symm]) (by simp [Zc.symm])
  · rw [upd_same, List.map_append, List.map_append]
    rfl
  · rcases List.mem_append.1 hy with w | w
    · exact p5 y w
    · rw [List.mem_singleton.mp w]; exact hx
/-- whether a text is a name -/
def nmOkB (z : Str) : Bool := decide (1 ≤ z.length) && decide (z.length ≤ 8) && z.cps.toList.all (fun x => (decide (97 ≤ x) && decide (x ≤ 122)) || (decide (48 ≤ x) && decide (x ≤ 57))) && (match z.cps.toList with | [] => true | x :: _ => decide (97 ≤ x)) && !WordsK.contains z
theorem nmOk_of {z : Str} (h : nmOkB z = true) : NmOk z := by
  unfold nmOkB at h
  simp only [Bool.and_eq_true, decide_eq_true_eq, Bool.not_eq_true', List.all_eq_true, Bool.or_eq_true] at h
  obtain ⟨⟨⟨⟨h1, h2⟩, h3⟩, h4⟩, h5⟩ := h
  refine ⟨h1, h2, fun x hx => h3 x hx, fun x hx => ?_, fun hm => ?_⟩
  · cases e : z.cps.toList with
    | nil => rw [e] at hx; simp at hx
    | cons y r =>
      rw [e] at hx h4
      have : y = x := Option.some.inj hx
      rw [← this]
      exact of_decide_eq_true h4
  · rw [List.contains_eq_mem, decide_eq_true hm] at h5
    cases h5
theorem words_no : ∀ z ∈ WordsK, ∀ x ∈ z.cps.toList, x ≠ 113 ∧ x ≠ 118 ∧ x ≠ 122 := by decide +kernel
theorem ab_az : ∀ x ∈ (Str.ofString "abcdefghijklmnopqrstuvwxyz").cps.toList, 97 ≤ x ∧ x ≤ 122 := by decide +kernel
theorem ab_09 : ∀ x ∈ (Str.ofString "abcdefghijklmnopqrstuvwxyz" ++ Str.ofString "0123456789").cps.toList, (97 ≤ x ∧ x ≤ 122) ∨ (48 ≤ x ∧ x ≤ 57) := by decide +kernel
theorem nm_made {ls gs : List Nat} {x : Nat} (hl : ∀ y ∈ ls, 97 ≤ y ∧ y ≤ 122) (hg : ∀ y ∈ gs, (97 ≤ y ∧ y ≤ 122) ∨ (48 ≤ y ∧ y ≤ 57)) (hx : x = 113 ∨ x = 118 ∨ x = 122) (hn : ls.length + gs.length ≤ 7) :
    NmOk ((⟨ls.toArray⟩ : Str) ++ s1 x ++ (⟨gs.toArray⟩ : Str)) := by
  have e : ((⟨ls.toArray⟩ : Str) ++ s1 x ++ (⟨gs.toArray⟩ : Str)) = ⟨(ls ++ [x] ++ gs).toArray⟩ := by
    show (⟨ls.toArray ++ #[x] ++ gs.toArray⟩ : Str) = _
    simp
  rw [e]
  have el : (⟨(ls ++ [x] ++ gs).toArray⟩ : Str).length = ls.length + 1 + gs.length := by
    show (ls ++ [x] ++ gs).toArray.size = _
    simp
    omega
  refine ⟨by omega, by omega, fun y hy => ?_, fun y hy => ?_, fun hm => ?_⟩
  · have hy' : y ∈ ls ++ [x] ++ gs := by simpa using hy
    simp only [List.mem_append, List.mem_singleton] at hy'
    rcases hy' with (h | h) | h
    · exact .inl (hl y h)
    · omega
    · exact hg y h
  · have hy' : (ls ++ [x] ++ gs)[0]? = some y := by simpa using hy
    cases ls with
    | nil => have : x = y := Option.some.inj (by simpa using hy'); omega
    | cons u r => have : u = y := Option.some.inj (by simpa using hy'); have := hl u (by simp); omega
  · have := words_no _ hm x (by simp)
    omega
section
variable {w : World} {P : Program} {K : PySem.W.Frag} {mg : Str → Option Value} {base : Heap}
def spDeck (K : PySem.W.Frag) : Sp := fun vs H Q _ => ∃ (a : Addr) (ns : List Int), vs = [.ref a] ∧ SqL K H a (ns.map V.int) ∧ ns.length ≤ 63 ∧
  ∀ H' p c cs, Sx [] H H' → H p = none → H c = none → Dk H' p c cs 0 → Q (.ref p) H'
theorem ok_deck {f : Addr} {fd : FuncData} {k : Nat} (F : Fun K "_law_deck" "_law_deck" sDeck f fd) (ma : mg "abs" = none) : FnOk P w K mg base CX0 (k + 1) f fd ["_law_script"] (spDeck K) := by
  refine F.ok scDeck (fun vs H Q E h => ?_) (fun cdv A outer s H vs Q E hr h => ?_)
  · obtain ⟨a, ns, rfl, _⟩ := h
    rfl
  · rcases h with ⟨a, ns, rfl, hS, hlen, q⟩
    refine ⟨_, pss_one (ps_ret (pe_lst (pa_cons
      (pe_lc (own := [("_law_cell", 1)]) (g := gName 1) (tt := tYes) rfl scDeck.nd (pi_list (pe_slice sl_list (pv 0) po_none (po_some pe_int))) (blkOk_by (N := nDeck) (sc := defScope sDeck) (by decide +kernel))
        (fun _ _ _ _ _ => pg_name (i := 1) scDeck.nd rfl (Or.inl rfl)) (fun _ _ _ _ _ => pts_nil) (fun _ _ _ _ _ => pe_callB call_abs (by rfl) ma (by decide +kernel) (pa_cons (pv 1) pa_nil)))
      (pa_cons pe_int pa_nil)))), ?_⟩
    refine ⟨_, rfl, 63, rfl, a, ns.map V.int, rfl, hS, fun l hl => ?_⟩
    have cut : cutV (ns.map V.int) none (some 63) = ns.map V.int := by
      unfold cutV
      rw [HT.sIx_none, show HT.sIx (ns.map V.int).length (ns.map V.int).length (some 63) = min 63 (ns.map V.int).length from HT.sIx_nat _ _ 63, List.drop_zero, Nat.sub_zero, List.length_map, Nat.min_eq_right hlen]
      exact List.take_of_length_le (by rw [List.length_map]; exact Nat.le_refl _)
    rw [cut]
    have s1 : Sx [] H (upd H l (.lst (ns.map V.int))) := Sx.new (Sx.refl _) hl
    refine ⟨l, rfl, ⟨_, .inl (.inl upd_same)⟩, fun D hD => lc_list (xs := ns.map V.int)
      (fun i H' => Sx [] H H' ∧ H' l = some (.lst (ns.map V.int)) ∧ H' D = some (.lst ((ns.map fun x => V.int (if x < 0 then -x else x)).take i))) ⟨s1.new hD, ?_, upd_same⟩ (fun i H' _ p => .inl (.inl p.2.1)) (fun i x H' hx p => ?_) (fun H' p => ?_)⟩
    · have hlD : l ≠ D := fun e => by
        rw [← e, upd_same] at hD
        cases hD
      rw [upd_ne hlD, upd_same]
    · obtain ⟨p1, p2, p3⟩ := p
      rw [List.getElem?_map] at hx
      obtain ⟨y, hy, rfl⟩ := Option.map_eq_some_iff.mp hx
      refine ⟨rfl, ?_⟩
      refine ⟨.int y, rfl, y, rfl, _, p3, ?_, ?_, ?_, ?_⟩
      · rw [List.length_take, List.length_map]
        have : (63 : Nat) < sizeLine := by decide
        omega
      · exact p1.own (s1.free (by simp) hD)
      · have hlD : l ≠ D := fun e => by
          rw [← e, upd_same] at hD
          cases hD
        rw [upd_ne hlD]
        exact p2
      · rw [upd_same, List.take_add_one, List.getElem?_map, hy]
        rfl
    · obtain ⟨p1, p2, p3⟩ := p
      refine ⟨by (show 2 ≤ sizeLine); decide, fun p hp => ?_⟩
      have hDp : D ≠ p := ne_of_none p3 hp
      rw [List.length_map, List.take_of_length_le (by rw [List.length_map]; exact Nat.le_refl _)] at p3
      refine q _ p D (ns.map fun x => if x < 0 then -x else x) (p1.new hp) (p1.free (by simp) hp) (s1.free (by simp) hD) ⟨upd_same, ?_, ?_, by rw [List.length_map]; exact hlen, Int.le_refl _⟩
      · rw [upd_ne hDp, p3, List.map_map]
        rfl
      · intro x hx
        obtain ⟨y, _, rfl⟩ := List.mem_map.mp hx
        split <;> omega
def spDraw : Sp := fun vs H Q _ => ∃ (a c : Addr) (cs : List Int) (k m : Int), vs = [.ref a, .int m] ∧ Dk H a c cs k ∧ 0 < m ∧ m < 1073741824 ∧ k < KB ∧
  ∀ H' cs' r, Sx [a, c] H H' → Dk H' a c cs' (k + 1) → 0 ≤ r → r < m → Q (.int r) H'
theorem ok_draw {f : Addr} {fd : FuncData} {k : Nat} (F : Fun K "_law_draw" "_law_draw" sDraw f fd) (z_len : mg "len" = none) (z_int : mg "int" = none) : FnOk P w K mg base CX0 (k + 1) f fd ["_law_deck_here", "_law_many"] spDraw := by
  refine F.ok scDraw (fun vs H Q E h => ?_) (fun cdv A outer s H vs Q E hr h => ?_)
  · obtain ⟨a, c, cs, k, m, rfl, _⟩ := h
    rfl
  · obtain ⟨a, c, cs, k, m, rfl, D, hm0, hm1, hk, q⟩ := h
    refine ⟨_, (pss_cons (ps_asg (pe_op op_add (pe_ix ix_list (pv 0) pe_int (fun _ _ => rfl)) pe_int) (pg_sub (pv 0) pe_int set_list))
      (pss_cons (ps_asg (pe_tup (pa_cons pe_int (pa_cons (pe_un un_neg pe_int) pa_nil))) (pg_tup rfl (pgs_cons (pg_name (i := 2) scDraw.nd rfl (by first | exact Or.inl rfl | exact Or.inr rfl)) (pgs_cons (pg_name (i := 3) scDraw.nd rfl (by first | exact Or.inl rfl | exact Or.inr rfl)) pgs_nil))))
      (C8.pss_cut (ps_if (pt_cmpR op_gt (pe_callB call_len_seq (by rfl) z_len boot_len (pa_cons (pe_ix ix_list (pv 0) pe_int (fun _ _ => rfl)) pa_nil)) pe_int (nomark _)) (pss_cons (ps_set (i := 3) scDraw.nd rfl (by first | exact Or.inl rfl | exact Or.inr rfl) (pe_op op_mod (pe_callTy call_int1 (by rfl) z_int boot_int (pa_cons (pe_ix ix_list (pv 0) pe_int (fun _ _ => rfl)) pa_nil)) (pe_callB call_len_seq (by rfl) z_len boot_len (pa_cons (pe_ix ix_list (pv 0) pe_int (fun _ _ => rfl)) pa_nil))))
      (pss_one (ps_set (i := 2) scDraw.nd rfl (by first | exact Or.inl rfl | exact Or.inr rfl) (pe_ix ix_list (pe_ix ix_list (pv 0) pe_int (fun _ _ => rfl)) (pv 3) (fun _ _ => rfl))))) pss_nil)
      (pss_cons (ps_if (pt_cmpR op_ge (pv 2) (pe_op op_pow pe_int pe_int) (nomark _)) (pss_cons (ps_asg (pe_op op_fdiv (pe_callTy call_int1 (by rfl) z_int boot_int (pa_cons (pv 2) pa_nil)) (pv 1)) (pg_sub (pe_ix ix_list (pv 0) pe_int (fun _ _ => rfl)) (pv 3) set_list))
      (pss_one (ps_ret (pe_op op_mod (pe_callTy call_int1 (by rfl) z_int boot_int (pa_cons (pv 2) pa_nil)) (pv 1))))) pss_nil)
      (pss_cons (ps_set (i := 4) scDraw.nd rfl (by first | exact Or.inl rfl | exact Or.inr rfl) (pe_op op_add (pe_op op_add (pe_op op_mod (pe_callTy call_int1 (by rfl) z_int boot_int (pa_cons (pv 2) pa_nil)) pe_int) (pe_op op_mul pe_int (pe_ix ix_list (pv 0) pe_int (fun _ _ => rfl)))) pe_int))
      (pss_one (ps_ret (pe_op op_mod (pe_callTy call_int1 (by rfl) z_int boot_int (pa_cons (pe_op op_mod (pe_callTy call_int1 (by rfl) z_int boot_int (pa_cons (pe_op op_pow (pv 4) pe_int) pa_nil)) pe_int) pa_nil)) (pv 1))))))))), ?_⟩
    refine ⟨.ref a, rfl, a, _, 1, .int k, rfl, rfl, .inl (.inl D.ha), rfl, _, _, rfl, rfl, .ref a, rfl, a, _, 1, 1, rfl, rfl, D.ha, rfl, ?_⟩
    have na := D.ne
    have k0 := D.k0
    refine gh (H1 := upd _ a _) (F := fun H1 => Sx [a, c] H H1 ∧ Dk H1 a c cs (k + 1)) ⟨(Sx.refl H).put (by simp), upd_same, by rw [upd_ne na.symm]; exact D.hc, D.pos, D.len, by omega⟩ (fun H1 ⟨s1, D1⟩ => ?_)
    -- _law_cell, _law_at = 0, -1
    refine ⟨1, rfl, by show 2 ≤ sizeLine; decide, fun t ht => ⟨t, _, rfl, .inl (.inl upd_same), rfl, _, _, rfl, _, _, rfl, rfl, ?_⟩⟩
    refine gh (H1 := upd _ t _) (F := fun H2 => Sx [a, c] H H2 ∧ Dk H2 a c cs (k + 1)) ⟨s1.new ht, D1.same ((Sx.refl _).new ht)⟩ (fun H2 ⟨s2, D2⟩ => ?_)
    -- if len(..) > 0
    refine ⟨fun σ' H' => ∃ x at' : Int, σ' = [some (.ref a), some (.int m), some (.int x), some (.int at'), none] ∧ H' = H2 ∧ 0 ≤ x ∧ (1000000000000000000 ≤ x → ∃ j : Nat, at' = (j : Int) ∧ j < cs.length), ?_, ?_⟩
    · refine ⟨.ref a, rfl, a, _, 0, .ref c, rfl, rfl, .inl (.inl D2.ha), rfl, c, _, rfl, .inl (.inl (.inl D2.hc)), _, _, rfl, rfl, _, rfl, ite2 (fun e => ?_) (fun e => ?_)⟩
      · have e' : (0 : Int) < ((cs.map V.int).length : Int) := of_decide_eq_true e
        rw [List.length_map] at e'
        refine ⟨.ref a, rfl, a, _, 1, .int (k + 1), rfl, rfl, .inl (.inl D2.ha), rfl, .inl ⟨_, rfl, .ref a, rfl, a, _, 0, .ref c, rfl, rfl, .inl (.inl D2.ha), rfl, c, _, rfl, .inl (.inl (.inl D2.hc)), _, _, rfl, rfl, by rw [List.length_map]; exact e', ?_⟩⟩
        have b0 := Int.emod_nonneg (k + 1) (show ((cs.length : Nat) : Int) ≠ 0 by omega)
        have b1 := Int.emod_lt_of_pos (k + 1) e'
        obtain ⟨j, hj⟩ := Int.eq_ofNat_of_zero_le b0
        have hjl : j < cs.length := by omega
        have hj' : (k + 1) % (((cs.map V.int).length : Nat) : Int) = (j : Int) := by rw [List.length_map]; exact hj
        refine ⟨.ref a, rfl, a, _, 0, .ref c, rfl, rfl, .inl (.inl D2.ha), rfl, _, rfl, c, _, _, .int (cs[j]), rfl, rfl, .inl (.inl D2.hc), at_of hj' (by rw [List.getElem?_map, List.getElem?_eq_getElem hjl]; rfl), ?_⟩
        exact ⟨_, _, rfl, rfl, D2.pos _ (List.getElem_mem hjl), fun _ => ⟨j, hj', hjl⟩⟩
      · exact ⟨0, -1, rfl, rfl, Int.le_refl _, fun z => absurd z (by decide)⟩
    -- what follows
    · rintro _ _ ⟨x, at', rfl, rfl, hx, hat⟩
      refine ⟨_, rfl, 10, 18, rfl, rfl, ⟨by decide, by decide, by decide⟩, x, _, rfl, rfl, _, rfl, ite2 (fun e => ?_) (fun e => ?_)⟩
      · have e' : (1000000000000000000 : Int) ≤ x := of_decide_eq_true e
        obtain ⟨j, rfl, hj⟩ := hat e'
        refine ⟨_, rfl, .inl ⟨x, rfl, _, rfl, x, m, rfl, rfl, ⟨hm0, hm1⟩, .ref a, rfl, a, _, 0, .ref c, rfl, rfl, .inl (.inl D2.ha), rfl, _, rfl, c, _, _, j, rfl, rfl, D2.hc, ixN_of rfl (by rw [List.length_map]; exact hj), ?_⟩⟩
        refine ⟨_, rfl, .inl ⟨x, rfl, _, rfl, x, m, rfl, rfl, hm0, ?_⟩⟩
        refine q _ (cs.set j (x / m)) _ (s2.put (by simp)) ⟨by rw [upd_ne na]; exact D2.ha, by rw [upd_same, ← List.map_set], fun y hy => ?_, by rw [List.length_set]; exact D2.len, by omega⟩ (Int.emod_nonneg _ (by omega)) (Int.emod_lt_of_pos _ hm0)
        rcases List.mem_or_eq_of_mem_set hy with z | rfl
        · exact D2.pos y z
        · exact Int.ediv_nonneg hx (by omega)
      · refine ⟨_, rfl, .inl ⟨x, rfl, x, 2147483563, rfl, rfl, (by decide : (0 : Int) < 2147483563), .ref a, rfl, a, _, 1, .int (k + 1), rfl, rfl, .inl (.inl D2.ha), rfl, 8117, k + 1, rfl, rfl, .inl ⟨by decide, by decide⟩, _, _, rfl, rfl, _, 3, rfl, rfl, ?_⟩⟩
        have b0 := Int.emod_nonneg x (by decide : (2147483563 : Int) ≠ 0)
        have b1 := Int.emod_lt_of_pos x (by decide : (0 : Int) < 2147483563)
        refine ⟨_, rfl, _, 5, rfl, rfl, ⟨by decide, by decide, ?_⟩, .inl ⟨_, rfl, _, 2147483629, rfl, rfl, (by decide : (0 : Int) < 2147483629), .inl ⟨_, rfl, _, rfl, _, m, rfl, rfl, hm0, ?_⟩⟩⟩
        · have hk' : k < 1099511627776 := hk
          omega
        · exact q _ cs _ s2 D2 (Int.emod_nonneg _ (by omega)) (Int.emod_lt_of_pos _ hm0)
/-- one of a list's items, or one of a text's signs -/
def spOne (K : PySem.W.Frag) : Sp := fun vs H Q _ => ∃ (a c : Addr) (cs : List Int) (k : Int) (it : V), vs = [.ref a, it] ∧ Dk H a c cs k ∧ k < KB ∧
  ((∃ p xs, it = .ref p ∧ SqL K H p xs ∧ xs ≠ [] ∧ xs.length ≤ 100000 ∧ p ≠ a ∧ p ≠ c ∧ ∀ H' cs' x, Sx [a, c] H H' → Dk H' a c cs' (k + 1) → x ∈ xs → Q x H') ∨
    ∃ z : Str, it = .str z ∧ 0 < z.length ∧ z.length ≤ 100000 ∧ ∀ H' cs' x, Sx [a, c] H H' → Dk H' a c cs' (k + 1) → x ∈ z.cps.toList → Q (.str ⟨#[x]⟩) H')
theorem ok_one {f fD : Addr} {fd fdD : FuncData} {k : Nat} (F : Fun K "_law_one" "_law_one" sOne f fd) (F_draw : Fun K "_law_draw" "_law_draw" sDraw fD fdD) (G_draw : FnOk P w K mg base CX0 (k + 1) fD fdD ["_law_deck_here", "_law_many"] spDraw)
    (b_draw : Binds K fdD ["_law_deck_here", "_law_many"] []) (m_draw : mg "_law_draw" = some (.ref fD)) (z_len : mg "len" = none) : FnOk P w K mg base CX0 (k + 2) f fd ["_law_deck_here", "_law_items"] (spOne K) := by
  refine F.ok scOne (fun vs H Q E h => ?_) (fun cdv A outer s H vs Q E hr h => ?_)
  · obtain ⟨a, c, cs, k, it, rfl, _⟩ := h
    rfl
  · obtain ⟨a, c, cs, k, it, rfl, D, hk, q⟩ := h
    refine ⟨_, (pss_one (ps_ret (pe_ix (ix_or ix_list ix_str) (pv 1) (pe_call G_draw (hr.mono (by omega)) (by rfl) m_draw F_draw.kp b_draw .nil pass0 (pa_cons (pv 0) (pa_cons (pe_callB (cr_or call_len_seq call_len_str) (by rfl) z_len boot_len (pa_cons (pv 1) pa_nil)) pa_nil))) (fun _ _ => rfl)))), ?_⟩
    rcases q with ⟨p, xs, rfl, hp, hne, hlen, pa, pc, q⟩ | ⟨z, rfl, hz0, hz1, q⟩
    · refine ⟨_, rfl, _, rfl, _, rfl, .inl ⟨p, xs, rfl, .inl hp, a, c, cs, k, _, rfl, D, by have : 0 < xs.length := List.length_pos_iff.mpr hne; omega, by omega, hk, fun H' cs' r s1 D1 r0 r1 => ?_⟩⟩
      obtain ⟨j, rfl⟩ := Int.eq_ofNat_of_zero_le r0
      have hj : j < xs.length := by omega
      exact .inl ⟨p, xs, _, xs[j], rfl, rfl, s1.seqL (by simp [pa, pc]) hp, atI_nat (List.getElem?_eq_getElem hj), q H' cs' _ s1 D1 (List.getElem_mem hj)⟩
    · refine ⟨_, rfl, _, rfl, _, rfl, .inr ⟨z, rfl, le_line (by omega), a, c, cs, k, _, rfl, D, by omega, by omega, hk, fun H' cs' r s1 D1 r0 r1 => ?_⟩⟩
      obtain ⟨j, rfl⟩ := Int.eq_ofNat_of_zero_le r0
      have hj : j < z.cps.toList.length := by rw [Array.length_toList]; have : z.length = z.cps.size := rfl; omega
      exact .inr ⟨z, _, z.cps.toList[j], rfl, rfl, le_line (by omega), atI_nat (List.getElem?_eq_getElem hj), q H' cs' _ s1 D1 (List.getElem_mem hj)⟩
def spExpr (K : PySem.W.Frag) (d : Nat) : Sp := fun vs H Q _ => ∃ (a c : Addr) (cs : List Int) (k : Int) (nm : Addr) (ns : List Str), vs = [.ref a, .ref nm, .int (d : Int)] ∧ Dk H a c cs k ∧ Nms K H nm ns ∧ nm ≠ a ∧ nm ≠ c ∧ 1 ≤ d ∧ k + cE d ≤ KB ∧
  ∀ H' cs' k' v e, Sx [a, c] H H' → Dk H' a c cs' k' → k ≤ k' → k' ≤ k + cE d → Tp H' v e → ExD ns d e → Q v H'
theorem ok_expr {f fD fO : Addr} {fd fdD fdO : FuncData} (F_expression : Fun K "_law_expression" "_law_expression" sExpression f fd) (F_draw : Fun K "_law_draw" "_law_draw" sDraw fD fdD) (F_one : Fun K "_law_one" "_law_one" sOne fO fdO)
    (G_draw : FnOk P w K mg base CX0 1 fD fdD ["_law_deck_here", "_law_many"] spDraw) (G_one : FnOk P w K mg base CX0 2 fO fdO ["_law_deck_here", "_law_items"] (spOne K))
    (b_draw : Binds K fdD ["_law_deck_here", "_law_many"] []) (b_one : Binds K fdO ["_law_deck_here", "_law_items"] []) (b_expression : Binds K fd ["_law_deck_here", "_law_names_here", "_law_deep"] [])
    (m_draw : mg "_law_draw" = some (.ref fD)) (m_one : mg "_law_one" = some (.ref fO)) (m_expression : mg "_law_expression" = some (.ref f)) (z_int : mg "int" = none) :
    ∀ d : Nat, FnOk P w K mg base CX0 (d + 2) f fd ["_law_deck_here", "_law_names_here", "_law_deep"] (spExpr K d) := by
  intro d
  induction d with
  | zero => exact ⟨fun vs H Q E h => by obtain ⟨_, _, _, _, _, _, rfl, _⟩ := h; rfl, fun _ _ _ _ _ _ _ _ _ _ _ _ _ h => by obtain ⟨_, _, _, _, _, _, _, _, _, _, _, h, _⟩ := h; omega⟩
  | succ d G_expression =>
    refine F_expression.ok scExpression (fun vs H Q E h => ?_) (fun cdv A outer s H vs Q E hr h => ?_)
    · obtain ⟨a, c, cs, k, nm, ns, rfl, _⟩ := h
      rfl
    · obtain ⟨a, c, cs, k, nm, ns, rfl, D, N, na, nc, hd, hk, q⟩ := h
      refine ⟨_, (C8.pss_cut (ps_set (i := 3) scExpression.nd rfl (by first | exact Or.inl rfl | exact Or.inr rfl) (pe_ifExp (pt_cmpR op_gt (pv 2) pe_int (nomark _)) (pe_call G_draw (hr.mono (by omega)) (by rfl) m_draw F_draw.kp b_draw .nil pass0 (pa_cons (pv 0) (pa_cons pe_int pa_nil))) (pe_call G_draw (hr.mono (by omega)) (by rfl) m_draw F_draw.kp b_draw .nil pass0 (pa_cons (pv 0) (pa_cons pe_int pa_nil)))))
      (pss_cons (ps_if (pt_cmpR op_eq (pv 3) pe_int (nomark _)) (pss_one (ps_ret (pe_call G_one (hr.mono (by omega)) (by rfl) m_one F_one.kp b_one .nil pass0 (pa_cons (pv 0) (pa_cons (pe_lst (pa_cons pe_int (pa_cons pe_int (pa_cons pe_int (pa_cons (pe_un un_neg pe_int) (pa_cons pe_int (pa_cons (pe_un un_neg pe_int) (pa_cons pe_int (pa_cons (pe_un un_neg pe_int) (pa_cons (pe_op op_sub (pe_call G_draw (hr.mono (by omega)) (by rfl) m_draw F_draw.kp b_draw .nil pass0 (pa_cons (pv 0) (pa_cons pe_int pa_nil))) pe_int) pa_nil)))))))))) pa_nil))))) pss_nil)
      (pss_cons (ps_if (pt_cmpR op_lt (pv 3) pe_int (nomark _)) (pss_one (ps_ret (pe_call G_one (hr.mono (by omega)) (by rfl) m_one F_one.kp b_one .nil pass0 (pa_cons (pv 0) (pa_cons (pv 1) pa_nil))))) pss_nil)
      (pss_cons (ps_if (pt_cmpR op_eq (pv 3) pe_int (nomark _)) (pss_cons (ps_set (i := 4) scExpression.nd rfl (by first | exact Or.inl rfl | exact Or.inr rfl) (pe_call G_one (hr.mono (by omega)) (by rfl) m_one F_one.kp b_one .nil pass0 (pa_cons (pv 0) (pa_cons (pe_lst (pa_cons (pe_un un_neg pe_int) (pa_cons (pe_un un_neg pe_int) (pa_cons (pe_un un_neg pe_int) (pa_cons (pe_un un_neg pe_int) (pa_cons (pe_un un_neg pe_int) (pa_cons pe_int (pa_cons pe_int (pa_cons pe_int (pa_cons pe_int pa_nil)))))))))) pa_nil))))
      (pss_one (ps_ret (pe_tup (pa_cons pe_str (pa_cons (pv 4) (pa_cons (pe_call G_expression (hr.mono (by omega)) (by rfl) m_expression F_expression.kp b_expression .nil pass0 (pa_cons (pv 0) (pa_cons (pv 1) (pa_cons (pe_op op_sub (pv 2) pe_int) pa_nil)))) pa_nil))))))) pss_nil)
      (pss_cons (ps_set (i := 5) scExpression.nd rfl (by first | exact Or.inl rfl | exact Or.inr rfl) (pe_call G_expression (hr.mono (by omega)) (by rfl) m_expression F_expression.kp b_expression .nil pass0 (pa_cons (pv 0) (pa_cons (pv 1) (pa_cons (pe_op op_sub (pv 2) pe_int) pa_nil)))))
      (pss_one (ps_ret (pe_tup (pa_cons (pe_ix ix_list (pe_lst (pa_cons pe_str (pa_cons pe_str pa_nil))) (pe_op op_mod (pe_callTy call_int1 (by rfl) z_int boot_int (pa_cons (pv 3) pa_nil)) pe_int) (fun _ _ => rfl)) (pa_cons (pv 5) (pa_cons (pe_call G_expression (hr.mono (by omega)) (by rfl) m_expression F_expression.kp b_expression .nil pass0 (pa_cons (pv 0) (pa_cons (pv 1) (pa_cons (pe_op op_sub (pv 2) pe_int) pa_nil)))) pa_nil))))))))))), ?_⟩
      have e1 := cE_one d
      have e2 := cE_pos d
      have hs : V.int (((d + 1 : Nat) : Int) - 1) = V.int (d : Int) := by rw [show ((d + 1 : Nat) : Int) - 1 = (d : Int) by omega]
      refine ⟨fun σ' H' => ∃ cs1 r, σ' = [some (.ref a), some (.ref nm), some (.int ((d + 1 : Nat) : Int)), some (.int r), none, none] ∧ Sx [a, c] H H' ∧ Dk H' a c cs1 (k + 1) ∧ 0 ≤ r ∧ r < 7 ∧ (d = 0 → r < 4), ?_, ?_⟩
      · refine ⟨_, rfl, _, 1, rfl, rfl, _, rfl, ite2 (fun e => ?_) (fun e => ?_)⟩
        · have e' : (1 : Int) < ((d + 1 : Nat) : Int) := of_decide_eq_true e
          refine ⟨_, rfl, a, c, cs, k, 7, rfl, D, by decide, by decide, by omega, fun H1 cs1 r s1 D1 r0 r1 => ⟨cs1, r, rfl, s1, D1, r0, r1, fun z => by omega⟩⟩
        · refine ⟨_, rfl, a, c, cs, k, 4, rfl, D, by decide, by decide, by omega, fun H1 cs1 r s1 D1 r0 r1 => ⟨cs1, r, rfl, s1, D1, r0, by omega, fun _ => r1⟩⟩
      · rintro _ H1 ⟨cs1, r, rfl, s1, D1, r0, r7, rd⟩
        have N1 := N.keep s1 (by simp [na, nc])
        refine ⟨_, rfl, rfl, _, rfl, ite2 (fun e => ?_) (fun e => ?_)⟩
        -- 0: an integer
        · refine ⟨_, rfl, 1, rfl, 5, rfl, 99, rfl, _, rfl, a, c, cs1, k + 1, 199, rfl, D1, by decide, by decide, by omega, fun H2 cs2 z s2 D2 z0 z1 => ?_⟩
          refine ⟨z, 99, rfl, rfl, by show 9 ≤ sizeLine; decide, fun p hp => ?_⟩
          obtain ⟨pa, pc⟩ := D2.nw hp
          refine ⟨a, c, cs2, _, _, rfl, D2.same ((Sx.refl _).new hp), by omega, .inl ⟨p, _, rfl, .inl (.inl upd_same), by simp, by show 9 ≤ 100000; decide, pa, pc, fun H3 cs3 x s4 D3 hx => ?_⟩⟩
          obtain ⟨i, rfl, i0, i1⟩ : ∃ i : Int, x = .int i ∧ -99 ≤ i ∧ i ≤ 99 := by
            simp only [List.not_mem_nil, List.mem_cons, or_false] at hx
            rcases hx with rfl | rfl | rfl | rfl | rfl | rfl | rfl | rfl | rfl
            all_goals first
              | exact ⟨_, rfl, by decide, by decide⟩
              | exact ⟨_, rfl, by show -99 ≤ z - 99; omega, by show z - 99 ≤ 99; omega⟩
          exact q H3 cs3 _ _ _ (((s1.trans s2).new hp).trans s4) D3 (by omega) (by omega) (.int i) (.int i i0 i1)
        · refine ⟨_, rfl, _, 4, rfl, rfl, _, rfl, ite2 (fun e4 => ?_) (fun e4 => ?_)⟩
          -- below 4: a name
          · refine ⟨_, rfl, _, rfl, a, c, cs1, k + 1, _, rfl, D1, by omega, .inl ⟨nm, _, rfl, N1.at_, by simp [N.ne], by rw [List.length_map]; have := N.len; omega, na, nc, fun H3 cs3 x s4 D3 hx => ?_⟩⟩
            obtain ⟨z, hz, rfl⟩ := List.mem_map.mp hx
            exact q H3 cs3 _ _ _ (s1.trans s4) D3 (by omega) (by omega) (.str z) (.name z hz)
          · have e4' : ¬ r < 4 := fun z => e4 (decide_eq_true z)
            have hd0 : 1 ≤ d := by
              rcases Nat.eq_zero_or_pos d with z | z
              · exact absurd (rd z) e4'
              · exact z
            refine ⟨_, rfl, rfl, _, rfl, ite2 (fun e6 => ?_) (fun e6 => ?_)⟩
            -- 6: times
            · refine ⟨_, rfl, 9, rfl, 4, rfl, 3, rfl, 2, rfl, 1, rfl, by show 9 ≤ sizeLine; decide, fun p hp => ?_⟩
              obtain ⟨pa, pc⟩ := D1.nw hp
              refine ⟨a, c, cs1, _, _, rfl, D1.same ((Sx.refl _).new hp), by omega, .inl ⟨p, _, rfl, .inl (.inl upd_same), by simp, by show 9 ≤ 100000; decide, pa, pc, fun H2 cs2 x s2 D2 hx => ?_⟩⟩
              obtain ⟨i, rfl, i0, i1⟩ : ∃ i : Int, x = .int i ∧ -9 ≤ i ∧ i ≤ 9 := by
                simp only [List.not_mem_nil, List.mem_cons, or_false] at hx
                rcases hx with rfl | rfl | rfl | rfl | rfl | rfl | rfl | rfl | rfl
                all_goals exact ⟨_, rfl, by decide, by decide⟩
              have s12 : Sx [a, c] H1 H2 := ((Sx.refl _).new hp).trans s2
              have N2 := N1.keep s12 (by simp [na, nc])
              refine ⟨_, rfl, _, rfl, _, rfl, _, rfl, _, 1, rfl, rfl, a, c, cs2, k + 1 + 1, nm, ns, congrArg (fun z => [V.ref a, V.ref nm, z]) hs, D2, N2, na, nc, hd0, by omega, fun H3 cs3 k3 v ev s3 D3 k3a k3b t3 x3 => ?_⟩
              refine ⟨by show 3 ≤ sizeLine; decide, fun t ht => ?_⟩
              exact q _ cs3 k3 _ _ (((s1.trans s12).trans s3).new ht) (D3.new ht) (by omega) (by omega) (.tup upd_same (.cons (.str _) (.cons (.int i) (.cons (t3.new ht) .nil)))) (.times i i0 i1 x3)
            -- plus, minus
            · refine ⟨_, rfl, _, rfl, _, rfl, _, 1, rfl, rfl, a, c, cs1, k + 1, nm, ns, congrArg (fun z => [V.ref a, V.ref nm, z]) hs, D1, N1, na, nc, hd0, by omega, fun H2 cs2 k2 v ev s2 D2 k2a k2b t2 x2 => ?_⟩
              refine ⟨by show 2 ≤ sizeLine; decide, fun l hl => ?_⟩
              obtain ⟨la, lc⟩ := D2.nw hl
              have n2 : Sx [] H2 (upd H2 l _) := (Sx.refl _).new (o := .lst [.str "plus", .str "minus"]) hl
              have D2' := D2.same n2
              have N2 := (N1.keep s2 (by simp [na, nc])).keep n2 (by simp)
              have t2' := t2.keep n2.tk0
              obtain ⟨b, hb, hr2⟩ : ∃ b : Str, (b = "plus" ∨ b = "minus") ∧ atI [V.str "plus", V.str "minus"] (r % 2) = some (.str b) := by
                rcases (show r % 2 = 0 ∨ r % 2 = 1 by omega) with z | z
                · exact ⟨_, .inl rfl, by rw [z]; rfl⟩
                · exact ⟨_, .inr rfl, by rw [z]; rfl⟩
              refine ⟨_, rfl, .inl ⟨r, rfl, r, 2, rfl, rfl, (by decide : (0 : Int) < 2), l, _, _, .str b, rfl, rfl, .inl (.inl upd_same), hr2, ?_⟩⟩
              refine ⟨_, rfl, _, rfl, _, rfl, _, rfl, _, 1, rfl, rfl, a, c, cs2, k2, nm, ns, congrArg (fun z => [V.ref a, V.ref nm, z]) hs, D2', N2, na, nc, hd0, by omega, fun H3 cs3 k3 v' ev' s3 D3 k3a k3b t3 x3 => ?_⟩
              refine ⟨by show 3 ≤ sizeLine; decide, fun t ht => ?_⟩
              refine q _ cs3 k3 _ (.tuple [.str b, ev, ev']) ((((s1.trans s2).trans n2.nil).trans s3).new ht) (D3.new ht) (by omega) (by omega) (.tup upd_same (.cons (.str _) (.cons ((t2'.keep (D2'.tk s3)).new ht) (.cons (t3.new ht) .nil)))) ?_
              rcases hb with rfl | rfl
              · exact .plus x2 x3
              · exact .minus x2 x3
def spTest (K : PySem.W.Frag) : Sp := fun vs H Q _ => ∃ (a c : Addr) (cs : List Int) (k : Int) (nm : Addr) (ns : List Str) (rm : Addr) (r0 r1 r2 r3 t : Int), vs = [.ref a, .ref nm, .ref rm, .int t] ∧ Dk H a c cs k ∧ Nms K H nm ns ∧ Rm H rm r0 r1 r2 r3 ∧
  nm ≠ a ∧ nm ≠ c ∧ nm ≠ rm ∧ rm ≠ a ∧ rm ≠ c ∧ 1 ≤ t ∧ k + 46 ≤ KB ∧
  ∀ H' cs' k' v e, Sx [a, c, rm] H H' → Dk H' a c cs' k' → k ≤ k' → k' ≤ k + 46 → Tp H' v e →
    ((e = .tuple [] ∧ Rm H' rm r0 r1 r2 r3) ∨ ∃ b, TsD ns 2 b e ∧ Rm H' rm r0 r1 (r2 - t * bI b) (r3 - t * bI (!b))) → Q v H'
theorem ok_test {f fD fO fE : Addr} {fd fdD fdO fdE : FuncData} (F : Fun K "_law_test" "_law_test" sTest f fd) (F_draw : Fun K "_law_draw" "_law_draw" sDraw fD fdD) (F_one : Fun K "_law_one" "_law_one" sOne fO fdO) (F_expression : Fun K "_law_expression" "_law_expression" sExpression fE fdE)
    (G_draw : FnOk P w K mg base CX0 1 fD fdD ["_law_deck_here", "_law_many"] spDraw) (G_one : FnOk P w K mg base CX0 2 fO fdO ["_law_deck_here", "_law_items"] (spOne K)) (G_expression : FnOk P w K mg base CX0 5 fE fdE ["_law_deck_here", "_law_names_here", "_law_deep"] (spExpr K 3))
    (b_draw : Binds K fdD ["_law_deck_here", "_law_many"] []) (b_one : Binds K fdO ["_law_deck_here", "_law_items"] []) (b_expression : Binds K fdE ["_law_deck_here", "_law_names_here", "_law_deep"] [])
    (m_draw : mg "_law_draw" = some (.ref fD)) (m_one : mg "_law_one" = some (.ref fO)) (m_expression : mg "_law_expression" = some (.ref fE)) (z_max : mg "max" = none) (z_range : mg "range" = none) :
    FnOk P w K mg base CX0 6 f fd ["_law_deck_here", "_law_names_here", "_law_room", "_law_times"] (spTest K) := by
  refine F.ok scTest (fun vs H Q E h => ?_) (fun cdv A outer s H vs Q E hr h => ?_)
  · obtain ⟨a, c, cs, k, nm, ns, rm, r0, r1, r2, r3, t, rfl, _⟩ := h
    rfl
  · obtain ⟨a, c, cs, k, nm, ns, rm, r0, r1, r2, r3, t, rfl, D, N, R, na, nc, nr, ra, rc, ht, hk, q⟩ := h
    have e3 : cE 3 = 21 := by decide
    refine ⟨_, (pss_cons (ps_par (i := 4) (j := 5) (by rfl) scTest.nd rfl rfl (by decide) rfl rfl (pa_cons (pe_op op_sub (pe_call G_draw (hr.mono (by omega)) (by rfl) m_draw F_draw.kp b_draw .nil pass0 (pa_cons (pv 0) (pa_cons pe_int pa_nil))) pe_int) (pa_cons (pe_tup pa_nil) pa_nil)) (by rfl))
      (C8.pss_cut (ps_if (PW.pt (pw_and (pt_cmpR op_eq (pe_call G_draw (hr.mono (by omega)) (by rfl) m_draw F_draw.kp b_draw .nil pass0 (pa_cons (pv 0) (pa_cons pe_int pa_nil))) pe_int (nomark _)) (pw_and1 (pt_cmpR op_ge (pe_ix ix_list (pv 2) pe_int (fun _ _ => rfl)) (pv 3) (nomark _))))) (pss_cons (ps_asg (pe_op op_sub (pe_ix ix_list (pv 2) pe_int (fun _ _ => rfl)) (pv 3)) (pg_sub (pv 2) pe_int set_list))
      (pss_cons (ps_set (i := 6) scTest.nd rfl (by first | exact Or.inl rfl | exact Or.inr rfl) (pe_op op_add pe_int (pe_call G_draw (hr.mono (by omega)) (by rfl) m_draw F_draw.kp b_draw .nil pass0 (pa_cons (pv 0) (pa_cons pe_int pa_nil)))))
      (pss_one (ps_set (i := 5) scTest.nd rfl (by first | exact Or.inl rfl | exact Or.inr rfl) (pe_tup (pa_cons pe_str (pa_cons (pe_call G_expression (hr.mono (by omega)) (by rfl) m_expression F_expression.kp b_expression .nil pass0 (pa_cons (pv 0) (pa_cons (pv 1) (pa_cons pe_int pa_nil)))) (pa_cons (pv 6) (pa_cons (pe_call G_draw (hr.mono (by omega)) (by rfl) m_draw F_draw.kp b_draw .nil pass0 (pa_cons (pv 0) (pa_cons (pv 6) pa_nil))) pa_nil))))))))) (pss_one (ps_if (pt_cmpR op_ge (pe_ix ix_list (pv 2) pe_int (fun _ _ => rfl)) (pv 3) (nomark _)) (pss_cons (ps_asg (pe_op op_sub (pe_ix ix_list (pv 2) pe_int (fun _ _ => rfl)) (pv 3)) (pg_sub (pv 2) pe_int set_list))
      (pss_cons (ps_set (i := 7) scTest.nd rfl (by first | exact Or.inl rfl | exact Or.inr rfl) (pe_call G_expression (hr.mono (by omega)) (by rfl) m_expression F_expression.kp b_expression .nil pass0 (pa_cons (pv 0) (pa_cons (pv 1) (pa_cons pe_int pa_nil)))))
      (pss_one (ps_set (i := 5) scTest.nd rfl (by first | exact Or.inl rfl | exact Or.inr rfl) (pe_tup (pa_cons pe_str (pa_cons (pv 7) (pa_cons (pe_call G_one (hr.mono (by omega)) (by rfl) m_one F_one.kp b_one .nil pass0 (pa_cons (pv 0) (pa_cons (pe_lst (pa_cons (pe_op op_sub (pe_call G_draw (hr.mono (by omega)) (by rfl) m_draw F_draw.kp b_draw .nil pass0 (pa_cons (pv 0) (pa_cons pe_int pa_nil))) pe_int) (pa_cons (pe_call G_expression (hr.mono (by omega)) (by rfl) m_expression F_expression.kp b_expression .nil pass0 (pa_cons (pv 0) (pa_cons (pv 1) (pa_cons pe_int pa_nil)))) pa_nil))) pa_nil))) pa_nil)))))))) pss_nil)))
      (C8.pss_cut (ps_for PassesOwn.never rfl (pi_range1 (by rfl) z_range (pa_cons (pe_ifExp (pt_cmpR (op_neD hr.units) (pv 5) (pe_tup pa_nil) (nomark _)) (pe_callB (call_max2 rfl) (by rfl) z_max boot_max (pa_cons pe_int (pa_cons (pv 4) pa_nil))) pe_int) pa_nil)) (pg_name (i := 8) scTest.nd rfl (by first | exact Or.inl rfl | exact Or.inr rfl)) (pss_one (ps_set (i := 5) scTest.nd rfl (by first | exact Or.inl rfl | exact Or.inr rfl) (pe_tup (pa_cons pe_str (pa_cons (pv 5) pa_nil))))))
      (pss_one (ps_ret (pv 5)))))), ?_⟩
    -- _law_nots, _law_test_here = .. - 2, ()
    refine ⟨_, rfl, a, c, cs, k, 5, rfl, D, by decide, by decide, by omega, fun H1 cs1 z s1 D1 z0 z1 => ⟨z, 2, rfl, rfl, Nat.zero_le _, fun p hp => ⟨_, _, rfl, ?_⟩⟩⟩
    refine gh (H1 := upd _ p _) (F := fun H2 => Sx [a, c, rm] H H2 ∧ Dk H2 a c cs1 (k + 1) ∧ Nms K H2 nm ns ∧ Rm H2 rm r0 r1 r2 r3 ∧ Tp H2 (.ref p) (.tuple []))
      ⟨(s1.mono (by simp)).new hp, D1.new hp, (N.keep s1 (by simp [na, nc])).keep ((Sx.refl (ex := []) _).new hp) (by simp), (R.sx s1 (by simp [ra, rc])).new hp, .tup upd_same .nil⟩ (fun H2 ⟨s2, D2, N2, R2, T2⟩ => ?_)
    -- the test made
    refine ⟨fun σ' H' => ∃ (cs' : List Int) (k' : Int) (v : V) (e : PyData) (y6 y7 : Option V), σ' = [some (.ref a), some (.ref nm), some (.ref rm), some (.int t), some (.int (z - 2)), some v, y6, y7, none] ∧ Sx [a, c, rm] H H' ∧ Dk H' a c cs' k' ∧ k ≤ k' ∧ k' ≤ k + 46 ∧ Tp H' v e ∧
      ((e = .tuple [] ∧ Rm H' rm r0 r1 r2 r3) ∨ ∃ b, TsD ns 0 b e ∧ Rm H' rm r0 r1 (r2 - t * bI b) (r3 - t * bI (!b))), ?_, ?_⟩
    · refine ⟨_, rfl, a, c, cs1, k + 1, 2, rfl, D2, by decide, by decide, by omega, fun H3 cs3 y s3 D3 y0 y1 => ?_⟩
      have N3 := N2.keep s3 (by simp [na, nc])
      have R3 := R2.sx s3 (by simp [ra, rc])
      have s03 : Sx [a, c, rm] H H3 := s2.trans (s3.mono (by simp))
      have T3 := T2.keep (D2.tk s3)
      refine ⟨rfl, _, rfl, ite2 (fun e => ⟨.ref rm, rfl, rm, _, 2, .int r2, rfl, rfl, .inl (.inl R3.at_), rfl, _, rfl, r2, t, rfl, rfl, _, rfl, ite2 (fun e2 => ?main) (fun e2 => ?els)⟩) (fun e => ?els2)⟩
      case main =>
        have e2' : t ≤ r2 := of_decide_eq_true e2
        -- _law_room[2] = ..
        refine ⟨.ref rm, rfl, rm, _, 2, .int r2, rfl, rfl, .inl (.inl R3.at_), rfl, _, rfl, r2, t, rfl, rfl, _, rfl, rm, _, 2, 2, rfl, rfl, R3.at_, rfl, ?_⟩
        refine gh (H1 := upd _ rm _) (F := fun H4 => Sx [a, c, rm] H H4 ∧ Dk H4 a c cs3 (k + 1 + 1) ∧ Nms K H4 nm ns ∧ Rm H4 rm r0 r1 (r2 - t) r3)
          ⟨s03.put (by simp), D3.sx ((Sx.refl (ex := [rm]) _).put (by simp)) (by simp [ra.symm]) (by simp [rc.symm]), N3.keep ((Sx.refl (ex := [rm]) _).put (by simp)) (by simp [nr]), upd_same, R3.p0, R3.p1, by omega, R3.p3⟩ (fun H4 ⟨s4, D4, N4, R4⟩ => ?_)
        -- _law_by
        refine ⟨_, rfl, a, c, cs3, _, 5, rfl, D4, by decide, by decide, by omega, fun H5 cs5 b s5 D5 b0 b1 => ⟨2, b, rfl, rfl, ?_⟩⟩
        have N5 := N4.keep s5 (by simp [na, nc])
        have R5 := R4.sx s5 (by simp [ra, rc])
        -- the tuple
        refine ⟨_, rfl, _, rfl, a, c, cs5, _, nm, ns, rfl, D5, N5, na, nc, by decide, by omega, fun H6 cs6 k6 v6 x6 s6 D6 k6a k6b T6 X6 => ?_⟩
        refine ⟨_, rfl, _, rfl, _, rfl, a, c, cs6, k6, _, rfl, D6, by show (0 : Int) < 2 + b; omega, by show 2 + b < 1073741824; omega, by omega, fun H7 cs7 y7 s7 D7 y70 y71 => ?_⟩
        refine ⟨by show 4 ≤ sizeLine; decide, fun u hu => ?_⟩
        have R7 := (R5.sx s6 (by simp [ra, rc])).sx s7 (by simp [ra, rc])
        refine ⟨cs7, k6 + 1, .ref u, .tuple [.str "rest", x6, .int (2 + b), .int y7], _, _, rfl, (((s4.trans (s5.mono (by simp))).trans (s6.mono (by simp))).trans (s7.mono (by simp))).new hu, D7.new hu, by omega, by omega,
          .tup upd_same (.cons (.str _) (.cons ((T6.keep (D6.tk s7)).new hu) (.cons (.int _) (.cons (.int _) .nil)))), .inr ⟨true, .rest _ _ X6 (by omega) (by omega) y70 y71, ?_⟩⟩
        have R8 := R7.new (o := .tup [.str "rest", v6, .int (2 + b), .int y7]) hu
        simpa [bI] using R8
      all_goals
        refine ⟨.ref rm, rfl, rm, _, 3, .int r3, rfl, rfl, .inl (.inl R3.at_), rfl, _, rfl, r3, t, rfl, rfl, _, rfl, ite2 (fun e2 => ?_) (fun e2 => ?_)⟩
        · have e2' : t ≤ r3 := of_decide_eq_true e2
          refine ⟨.ref rm, rfl, rm, _, 3, .int r3, rfl, rfl, .inl (.inl R3.at_), rfl, _, rfl, r3, t, rfl, rfl, _, rfl, rm, _, 3, 3, rfl, rfl, R3.at_, rfl, ?_⟩
          refine gh (H1 := upd _ rm _) (F := fun H4 => Sx [a, c, rm] H H4 ∧ Dk H4 a c cs3 (k + 1 + 1) ∧ Nms K H4 nm ns ∧ Rm H4 rm r0 r1 r2 (r3 - t))
            ⟨s03.put (by simp), D3.sx ((Sx.refl (ex := [rm]) _).put (by simp)) (by simp [ra.symm]) (by simp [rc.symm]), N3.keep ((Sx.refl (ex := [rm]) _).put (by simp)) (by simp [nr]), upd_same, R3.p0, R3.p1, R3.p2, by omega⟩ (fun H4 ⟨s4, D4, N4, R4⟩ => ?_)
          -- _law_first
          refine ⟨_, rfl, _, rfl, a, c, cs3, _, nm, ns, rfl, D4, N4, na, nc, by decide, by omega, fun H6 cs6 k6 v6 x6 s6 D6 k6a k6b T6 X6 => ?_⟩
          have N6 := N4.keep s6 (by simp [na, nc])
          -- the second side
          refine ⟨_, rfl, _, rfl, _, rfl, a, c, cs6, k6, 41, rfl, D6, by decide, by decide, by omega, fun H7 cs7 y7 s7 D7 y70 y71 => ⟨y7, 20, rfl, rfl, ?_⟩⟩
          have N7 := N6.keep s7 (by simp [na, nc])
          refine ⟨_, rfl, _, rfl, a, c, cs7, _, nm, ns, rfl, D7, N7, na, nc, by decide, by omega, fun H8 cs8 k8 v8 x8 s8 D8 k8a k8b T8 X8 => ?_⟩
          refine ⟨by show 2 ≤ sizeLine; decide, fun l hl => ?_⟩
          obtain ⟨la, lc⟩ := D8.nw hl
          refine ⟨a, c, cs8, k8, _, rfl, D8.new hl, by omega, .inl ⟨l, _, rfl, .inl (.inl upd_same), by simp, by show 2 ≤ 100000; decide, la, lc, fun H9 cs9 v9 s9 D9 hv => ?_⟩⟩
          have k9 : Tk H8 H9 := ((Sx.refl (ex := []) _).new hl).tk0.trans ((D8.new hl).tk s9)
          obtain ⟨x9, T9, X9⟩ : ∃ x9, Tp H9 v9 x9 ∧ ExD ns 3 x9 := by
            simp only [List.not_mem_nil, List.mem_cons, or_false] at hv
            rcases hv with rfl | rfl
            · exact ⟨_, .int _, .int _ (by show -99 ≤ y7 - 20; omega) (by show y7 - 20 ≤ 99; omega)⟩
            · exact ⟨x8, T8.keep k9, X8⟩
          refine ⟨by show 3 ≤ sizeLine; decide, fun u hu => ?_⟩
          have s89 : Sx [a, c] H8 H9 := ((Sx.refl _).new hl).trans s9
          have R9 := (((R4.sx s6 (by simp [ra, rc])).sx s7 (by simp [ra, rc])).sx s8 (by simp [ra, rc])).sx s89 (by simp [ra, rc])
          refine ⟨cs9, k8 + 1, .ref u, .tuple [.str "less", x6, x9], _, _, rfl, ((((s4.trans (s6.mono (by simp))).trans (s7.mono (by simp))).trans (s8.mono (by simp))).trans (s89.mono (by simp))).new hu, D9.new hu, by omega, by omega,
            .tup upd_same (.cons (.str _) (.cons ((((T6.keep (D6.tk s7)).keep (D7.tk s8)).keep k9).new hu) (.cons (T9.new hu) .nil))), .inr ⟨false, .less X6 X9, ?_⟩⟩
          have R10 := R9.new (o := .tup [.str "less", v6, v9]) hu
          simpa [bI] using R10
        · exact ⟨cs3, _, .ref p, .tuple [], _, _, rfl, s03, D3, by omega, by omega, T3, .inl ⟨rfl, R3⟩⟩
    -- the nots
    · rintro _ H3 ⟨cs3, k3, v, e, y6, y7, rfl, s3, D3, k3a, k3b, T3, h3⟩
      have sh : SeqAt.shaped e = true := by
        rcases h3 with ⟨rfl, _⟩ | ⟨b, hb, _⟩
        · exact (Sh.tup (n := 0) .nil).shaped (by decide)
        · exact (hb.sh N.ok).shaped (by decide)
      refine ⟨fun σ' H' => ∃ v', σ'[5]? = some (some v') ∧ Q v' H', ?_, fun _ _ h => h⟩
      refine ⟨_, rfl, Nat.zero_le _, fun u hu => ⟨e, .tuple [], (T3.new hu).dp, .tup (SqT.of upd_same) .nil, sh, (Sh.tup (n := 0) .nil).shaped (by decide), _, rfl, ?_⟩⟩
      rcases h3 with ⟨rfl, R3⟩ | ⟨b, hb, R3⟩
      · -- no test
        refine iteF ⟨0, rfl, by decide, by decide, ?_⟩
        refine for_range (lo := 0) (n := 0) (fun i σ' H' => σ'[5]? = some (some v) ∧ Sx [a, c, rm] H H' ∧ Dk H' a c cs3 k3 ∧ Tp H' v (.tuple []) ∧ Rm H' rm r0 r1 r2 r3) ⟨rfl, s3.new hu, D3.new hu, T3.new hu, R3.new hu⟩ (fun i σ' H' hi _ => absurd hi (Nat.not_lt_zero _)) (fun σ' H' ⟨p1, p2, p3, p4, p5⟩ => ?_)
        exact ⟨v, p1, q _ cs3 k3 v _ p2 p3 k3a k3b p4 (.inl ⟨rfl, p5⟩)⟩
      · have hne : (!PyData.eqv e (.tuple [])) = true := by
          cases hb <;> rfl
        refine (show ∀ {c : Bool} {A B : Prop}, c = true → A → (if c = true then A else B) from fun h1 h2 => by rw [if_pos h1]; exact h2) hne ?_
        refine ⟨_, rfl, 0, z - 2, rfl, ?_⟩
        have hm : (if z - 2 > 0 then z - 2 else 0) = (((z - 2).toNat : Nat) : Int) := by
          split <;> omega
        refine ⟨_, congrArg (fun y => [V.int y]) hm, by omega, by omega, ?_⟩
        refine for_range (lo := 0) (fun i σ' H' => ∃ v' e' y8, σ' = [some (.ref a), some (.ref nm), some (.ref rm), some (.int t), some (.int (z - 2)), some v', y6, y7, y8] ∧ Sx [a, c, rm] H H' ∧ Dk H' a c cs3 k3 ∧ Tp H' v' e' ∧ TsD ns i b e' ∧ Rm H' rm r0 r1 (r2 - t * bI b) (r3 - t * bI (!b)))
          ⟨v, e, _, rfl, s3.new hu, D3.new hu, T3.new hu, hb, R3.new hu⟩ (fun i σ' H' hi hp => ?_) (fun σ' H' hp => ?_)
        · obtain ⟨v', e', y8, rfl, p1, p2, p3, p4, p5⟩ := hp
          refine ⟨_, rfl, by show 2 ≤ sizeLine; decide, fun x hx => ?_⟩
          exact ⟨.ref x, .tuple [.str "not", e'], _, rfl, p1.new hx, p2.new hx, .tup upd_same (.cons (.str _) (.cons (p3.new hx) .nil)), .not p4, p5.new hx⟩
        · obtain ⟨v', e', y8, rfl, p1, p2, p3, p4, p5⟩ := hp
          exact ⟨v', rfl, q _ cs3 k3 v' e' p1 p2 k3a k3b p3 (.inr ⟨b, p4.up (by omega), p5⟩)⟩
def spPlain (K : PySem.W.Frag) : Sp := fun vs H Q _ => ∃ (a c : Addr) (cs : List Int) (k : Int) (nm : Addr) (ns : List Str), vs = [.ref a, .ref nm] ∧ Dk H a c cs k ∧ Nms K H nm ns ∧ nm ≠ a ∧ nm ≠ c ∧ k + 24 ≤ KB ∧
  ∀ H' cs' k' v e, Sx [a, c] H H' → Dk H' a c cs' k' → k ≤ k' → k' ≤ k + 24 → Tp H' v e → (∀ d, StD ns d 1 1 0 0 e) → Q v H'
theorem ok_plain {f fD fO fE : Addr} {fd fdD fdO fdE : FuncData} (F : Fun K "_law_plain" "_law_plain" sPlain f fd) (F_draw : Fun K "_law_draw" "_law_draw" sDraw fD fdD) (F_one : Fun K "_law_one" "_law_one" sOne fO fdO) (F_expression : Fun K "_law_expression" "_law_expression" sExpression fE fdE)
    (G_draw : FnOk P w K mg base CX0 1 fD fdD ["_law_deck_here", "_law_many"] spDraw) (G_one : FnOk P w K mg base CX0 2 fO fdO ["_law_deck_here", "_law_items"] (spOne K)) (G_expression : FnOk P w K mg base CX0 5 fE fdE ["_law_deck_here", "_law_names_here", "_law_deep"] (spExpr K 3))
    (b_draw : Binds K fdD ["_law_deck_here", "_law_many"] []) (b_one : Binds K fdO ["_law_deck_here", "_law_items"] []) (b_expression : Binds K fdE ["_law_deck_here", "_law_names_here", "_law_deep"] [])
    (m_draw : mg "_law_draw" = some (.ref fD)) (m_one : mg "_law_one" = some (.ref fO)) (m_expression : mg "_law_expression" = some (.ref fE)) :
    FnOk P w K mg base CX0 6 f fd ["_law_deck_here", "_law_names_here"] (spPlain K) := by
  refine F.ok scPlain (fun vs H Q E h => ?_) (fun cdv A outer s H vs Q E hr h => ?_)
  · obtain ⟨a, c, cs, k, nm, ns, rfl, _⟩ := h
    rfl
  · obtain ⟨a, c, cs, k, nm, ns, rfl, D, N, na, nc, hk, q⟩ := h
    have e3 : cE 3 = 21 := by decide
    refine ⟨_, (pss_cons (ps_par (i := 2) (j := 3) (by rfl) scPlain.nd rfl rfl (by decide) rfl rfl (pa_cons (pe_call G_draw (hr.mono (by omega)) (by rfl) m_draw F_draw.kp b_draw .nil pass0 (pa_cons (pv 0) (pa_cons pe_int pa_nil))) (pa_cons (pe_call G_one (hr.mono (by omega)) (by rfl) m_one F_one.kp b_one .nil pass0 (pa_cons (pv 0) (pa_cons (pv 1) pa_nil))) pa_nil)) (by rfl))
      (pss_cons (ps_if (pt_cmpR op_lt (pv 2) pe_int (nomark _)) (pss_one (ps_ret (pe_tup (pa_cons pe_str (pa_cons (pv 3) (pa_cons (pe_call G_expression (hr.mono (by omega)) (by rfl) m_expression F_expression.kp b_expression .nil pass0 (pa_cons (pv 0) (pa_cons (pv 1) (pa_cons pe_int pa_nil)))) pa_nil)))))) pss_nil)
      (pss_cons (ps_if (pt_cmpR op_eq (pv 2) pe_int (nomark _)) (pss_one (ps_ret (pe_tup (pa_cons pe_str (pa_cons (pv 3) (pa_cons (pv 3) pa_nil)))))) pss_nil)
      (pss_cons (ps_if (PW.pt (pw_and (pt_cmpR op_eq (pv 2) pe_int (nomark _)) (pw_and1 (pt_cmpR op_eq (pe_call G_draw (hr.mono (by omega)) (by rfl) m_draw F_draw.kp b_draw .nil pass0 (pa_cons (pv 0) (pa_cons pe_int pa_nil))) pe_int (nomark _))))) (pss_one (ps_ret (pe_tup (pa_cons pe_str pa_nil)))) pss_nil)
      (pss_one (ps_ret (pe_tup (pa_cons pe_str (pa_cons (pe_call G_expression (hr.mono (by omega)) (by rfl) m_expression F_expression.kp b_expression .nil pass0 (pa_cons (pv 0) (pa_cons (pv 1) (pa_cons pe_int pa_nil)))) pa_nil))))))))), ?_⟩
    refine ⟨_, rfl, a, c, cs, k, 12, rfl, D, by decide, by decide, by omega, fun H1 cs1 r s1 D1 r0 r1 => ?_⟩
    have N1 := N.keep s1 (by simp [na, nc])
    refine ⟨_, rfl, _, rfl, a, c, cs1, k + 1, _, rfl, D1, by omega, .inl ⟨nm, _, rfl, N1.at_, by simp [N.ne], by rw [List.length_map]; have := N.len; omega, na, nc, fun H2 cs2 x s2 D2 hx => ?_⟩⟩
    obtain ⟨z, hz, rfl⟩ := List.mem_map.mp hx
    have N2 := N1.keep s2 (by simp [na, nc])
    have s02 := s1.trans s2
    refine ⟨_, _, rfl, ?_⟩
    refine ⟨_, rfl, _, 4, rfl, rfl, _, rfl, ite2 (fun e => ?_) (fun e => ?_)⟩
    · refine ⟨_, rfl, _, rfl, _, rfl, a, c, cs2, _, nm, ns, rfl, D2, N2, na, nc, by decide, by omega, fun H3 cs3 k3 v x s3 D3 k3a k3b T3 X3 => ?_⟩
      refine ⟨by show 3 ≤ sizeLine; decide, fun t ht => ?_⟩
      exact q _ cs3 k3 _ _ ((s02.trans s3).new ht) (D3.new ht) (by omega) (by omega) (.tup upd_same (.cons (.str _) (.cons (.str z) (.cons (T3.new ht) .nil)))) (fun d => .set z hz X3)
    · refine ⟨_, rfl, rfl, _, rfl, ite2 (fun e4 => ?_) (fun e4 => ?_)⟩
      · refine ⟨_, rfl, _, rfl, by show 3 ≤ sizeLine; decide, fun t ht => ?_⟩
        exact q _ cs2 _ _ _ (s02.new ht) (D2.new ht) (by omega) (by omega) (.tup upd_same (.cons (.str _) (.cons (.str z) (.cons (.str z) .nil)))) (fun d => .set z hz (.name z hz))
      · refine ⟨_, rfl, rfl, _, rfl, ite2 (fun e5 => ⟨_, rfl, a, c, cs2, _, 2, rfl, D2, by decide, by decide, by omega, fun H3 cs3 y s3 D3 y0 y1 => ⟨rfl, _, rfl, ite2 (fun e6 => ?stop) (fun e6 => ?pay)⟩⟩) (fun e5 => ?pay2)⟩
        case stop =>
          refine ⟨by show 1 ≤ sizeLine; decide, fun t ht => ?_⟩
          exact q _ cs3 _ _ _ ((s02.trans s3).new ht) (D3.new ht) (by omega) (by omega) (.tup upd_same (.cons (.str _) .nil)) (fun d => .stop)
        case pay =>
          refine ⟨_, rfl, _, rfl, a, c, cs3, _, nm, ns, rfl, D3, N2.keep s3 (by simp [na, nc]), na, nc, by decide, by omega, fun H4 cs4 k4 v x s4 D4 k4a k4b T4 X4 => ?_⟩
          refine ⟨by show 2 ≤ sizeLine; decide, fun t ht => ?_⟩
          exact q _ cs4 k4 _ _ (((s02.trans s3).trans s4).new ht) (D4.new ht) (by omega) (by omega) (.tup upd_same (.cons (.str _) (.cons (T4.new ht) .nil))) (fun d => .pay X4)
        case pay2 =>
          refine ⟨_, rfl, _, rfl, a, c, cs2, _, nm, ns, rfl, D2, N2, na, nc, by decide, by omega, fun H4 cs4 k4 v x s4 D4 k4a k4b T4 X4 => ?_⟩
          refine ⟨by show 2 ≤ sizeLine; decide, fun t ht => ?_⟩
          exact q _ cs4 k4 _ _ ((s02.trans s4).new ht) (D4.new ht) (by omega) (by omega) (.tup upd_same (.cons (.str _) (.cons (T4.new ht) .nil))) (fun d => .pay X4)
theorem ok_row {f fD fO fT fP fB : Addr} {fd fdD fdO fdT fdP fdB : FuncData} {d : Nat} (F : Fun K "_law_row" "_law_row" sRow f fd) (F_draw : Fun K "_law_draw" "_law_draw" sDraw fD fdD) (F_one : Fun K "_law_one" "_law_one" sOne fO fdO) (F_test : Fun K "_law_test" "_law_test" sTest fT fdT) (F_plain : Fun K "_law_plain" "_law_plain" sPlain fP fdP) (F_block : Fun K "_law_block" "_law_block" sBlock fB fdB)
    (G_draw : FnOk P w K mg base CX0 1 fD fdD ["_law_deck_here", "_law_many"] spDraw) (G_one : FnOk P w K mg base CX0 2 fO fdO ["_law_deck_here", "_law_items"] (spOne K)) (G_test : FnOk P w K mg base CX0 6 fT fdT ["_law_deck_here", "_law_names_here", "_law_room", "_law_times"] (spTest K))
    (G_plain : FnOk P w K mg base CX0 6 fP fdP ["_law_deck_here", "_law_names_here"] (spPlain K)) (G_block : FnOk P w K mg base CX0 (6 + 2 * d) fB fdB ["_law_deck_here", "_law_names_here", "_law_room", "_law_times", "_law_depth"] (spBlock K d))
    (b_draw : Binds K fdD ["_law_deck_here", "_law_many"] []) (b_one : Binds K fdO ["_law_deck_here", "_law_items"] []) (b_test : Binds K fdT ["_law_deck_here", "_law_names_here", "_law_room", "_law_times"] []) (b_plain : Binds K fdP ["_law_deck_here", "_law_names_here"] []) (b_block : Binds K fdB ["_law_deck_here", "_law_names_here", "_law_room", "_law_times", "_law_depth"] [])
    (m_draw : mg "_law_draw" = some (.ref fD)) (m_one : mg "_law_one" = some (.ref fO)) (m_test : mg "_law_test" = some (.ref fT)) (m_plain : mg "_law_plain" = some (.ref fP)) (m_block : mg "_law_block" = some (.ref fB)) :
    FnOk P w K mg base CX0 (6 + 2 * d + 1) f fd ["_law_deck_here", "_law_names_here", "_law_room", "_law_times", "_law_depth"] (spRow K d) := by
  refine F.ok scRow (fun vs H Q E h => ?_) (fun cdv A outer s H vs Q E hr h => ?_)
  · obtain ⟨a, c, cs, k, nm, ns, rm, r0, r1, r2, r3, t, rfl, _⟩ := h
    rfl
  · obtain ⟨a, c, cs, k, nm, ns, rm, r0, r1, r2, r3, t, rfl, D, N, R, na, nc, nr, ra, rc, ht, h30, hk, q⟩ := h
    have eB := cB_pos d
    refine ⟨_, (pss_cons (ps_if (PW.pt (pw_or (pt_cmpR op_lt (pe_ix ix_list (pv 2) pe_int (fun _ _ => rfl)) pe_int (nomark _)) (pw_or1 (pt_cmpR op_lt (pe_ix ix_list (pv 2) pe_int (fun _ _ => rfl)) (pv 3) (nomark _))))) (pss_one (ps_ret (pe_tup pa_nil))) pss_nil)
      (pss_cons (ps_asg (pe_tup (pa_cons (pe_op op_sub (pe_ix ix_list (pv 2) pe_int (fun _ _ => rfl)) pe_int) (pa_cons (pe_op op_sub (pe_ix ix_list (pv 2) pe_int (fun _ _ => rfl)) (pv 3)) pa_nil))) (pg_tup rfl (pgs_cons (pg_sub (pv 2) pe_int set_list) (pgs_cons (pg_sub (pv 2) pe_int set_list) pgs_nil))))
      (pss_cons (ps_set (i := 5) scRow.nd rfl (by first | exact Or.inl rfl | exact Or.inr rfl) (pe_call G_draw (hr.mono (by omega)) (by rfl) m_draw F_draw.kp b_draw .nil pass0 (pa_cons (pv 0) (pa_cons pe_int pa_nil))))
      (C8.pss_cut (ps_set (i := 6) scRow.nd rfl (by first | exact Or.inl rfl | exact Or.inr rfl) (pe_ifExp (pt_cmpR op_lt (pv 5) pe_int (nomark _)) (pe_call G_test (hr.mono (by omega)) (by rfl) m_test F_test.kp b_test .nil pass0 (pa_cons (pv 0) (pa_cons (pv 1) (pa_cons (pv 2) (pa_cons (pv 3) pa_nil))))) (pe_tup pa_nil)))
      (pss_cons (ps_if (pt_cmpR (op_neD hr.units) (pv 6) (pe_tup pa_nil) (nomark _)) (pss_cons (ps_set (i := 7) scRow.nd rfl (by first | exact Or.inl rfl | exact Or.inr rfl) (pe_call G_block (hr.mono (by omega)) (by rfl) m_block F_block.kp b_block .nil pass0 (pa_cons (pv 0) (pa_cons (pv 1) (pa_cons (pv 2) (pa_cons (pv 3) (pa_cons (pe_op op_add (pv 4) pe_int) pa_nil)))))))
      (pss_one (ps_ret (pe_tup (pa_cons pe_str (pa_cons (pv 6) (pa_cons (pv 7) (pa_cons (pe_call G_block (hr.mono (by omega)) (by rfl) m_block F_block.kp b_block .nil pass0 (pa_cons (pv 0) (pa_cons (pv 1) (pa_cons (pv 2) (pa_cons (pv 3) (pa_cons (pe_op op_add (pv 4) pe_int) pa_nil)))))) pa_nil)))))))) pss_nil)
      (pss_cons (ps_if (PW.pt (pw_or (pt_cmpR op_eq (pv 5) pe_int (nomark _)) (pw_or1 (pt_cmpR op_eq (pv 5) pe_int (nomark _))))) (pss_cons (ps_set (i := 8) scRow.nd rfl (by first | exact Or.inl rfl | exact Or.inr rfl) (pe_call G_one (hr.mono (by omega)) (by rfl) m_one F_one.kp b_one .nil pass0 (pa_cons (pv 0) (pa_cons (pe_lst (pa_cons pe_int (pa_cons pe_int (pa_cons pe_int (pa_cons pe_int (pa_cons pe_int (pa_cons pe_int (pa_cons pe_int pa_nil)))))))) pa_nil))))
      (pss_one (ps_ret (pe_tup (pa_cons pe_str (pa_cons (pv 8) (pa_cons (pe_call G_block (hr.mono (by omega)) (by rfl) m_block F_block.kp b_block .nil pass0 (pa_cons (pv 0) (pa_cons (pv 1) (pa_cons (pv 2) (pa_cons (pe_op op_mul (pv 3) (pv 8)) (pa_cons (pe_op op_add (pv 4) pe_int) pa_nil)))))) pa_nil))))))) pss_nil)
      (pss_one (ps_ret (pe_call G_plain (hr.mono (by omega)) (by rfl) m_plain F_plain.kp b_plain .nil pass0 (pa_cons (pv 0) (pa_cons (pv 1) pa_nil))))))))))), ?_⟩
    refine ⟨.ref rm, rfl, rm, _, 0, .int r0, rfl, rfl, .inl (.inl R.at_), rfl, _, 1, rfl, rfl, _, rfl, ite2 (fun e => ⟨Nat.zero_le _, fun p hp => ?_⟩)
      (fun e => ⟨.ref rm, rfl, rm, _, 1, .int r1, rfl, rfl, .inl (.inl R.at_), rfl, _, rfl, _, _, rfl, rfl, _, rfl, ite2 (fun e1 => ⟨Nat.zero_le _, fun p hp => ?_⟩) (fun e1 => ?_)⟩)⟩
    · exact q _ cs k _ (.tuple []) ((Sx.refl _).new hp) (D.new hp) (Int.le_refl _) (by omega) (.tup upd_same .nil) (.inl ⟨rfl, R.new hp⟩)
    · exact q _ cs k _ (.tuple []) ((Sx.refl _).new hp) (D.new hp) (Int.le_refl _) (by omega) (.tup upd_same .nil) (.inl ⟨rfl, R.new hp⟩)
    have g0 : 1 ≤ r0 := by
      have : ¬ r0 < 1 := fun z => e (decide_eq_true z)
      omega
    have g1 : t ≤ r1 := by
      have : ¬ r1 < t := fun z => e1 (decide_eq_true z)
      omega
    -- the room shrinks
    refine ⟨.ref rm, rfl, rm, _, 0, .int r0, rfl, rfl, .inl (.inl R.at_), rfl, _, 1, rfl, rfl, .ref rm, rfl, rm, _, 1, .int r1, rfl, rfl, .inl (.inl R.at_), rfl, _, rfl, _, _, rfl, rfl, by show 2 ≤ sizeLine; decide, fun p hp => ?_⟩
    refine ⟨p, _, rfl, .inl (.inl upd_same), rfl, _, _, rfl, .ref rm, rfl, rm, _, 0, 0, rfl, rfl, (R.new hp).at_, rfl, _, _, rfl, .ref rm, rfl, rm, _, 1, 1, rfl, rfl, upd_same, rfl, rfl, ?_⟩
    refine gh (H1 := upd (upd (upd H p _) rm _) rm _) (F := fun H2 => Sx [a, c, rm] H H2 ∧ Dk H2 a c cs k ∧ Nms K H2 nm ns ∧ Rm H2 rm (r0 - 1) (r1 - t) r2 r3)
      ⟨(((Sx.refl _).new hp).put (by simp)).put (by simp), (D.new hp).sx (((Sx.refl (ex := [rm]) _).put (by simp)).put (by simp)) (by simp [ra.symm]) (by simp [rc.symm]), N.keep ((((Sx.refl (ex := [rm]) _).new hp).put (by simp)).put (by simp)) (by simp [nr]),
        ⟨by rw [upd_upd]; exact upd_same, by omega, by omega, R.p2, R.p3⟩⟩ (fun H2 ⟨s2, D2, N2, R2⟩ => ?_)
    refine ⟨_, rfl, a, c, cs, k, 9, rfl, D2, by decide, by decide, by omega, fun H3 cs3 y s3 D3 y0 y1 => ?_⟩
    have N3 := N2.keep s3 (by simp [na, nc])
    have R3 := R2.sx s3 (by simp [ra, rc])
    have s03 : Sx [a, c, rm] H H3 := s2.trans (s3.mono (by simp))
    -- the test
    refine ⟨fun σ' H' => ∃ (cs' : List Int) (k' : Int) (v : V) (e : PyData), σ' = [some (.ref a), some (.ref nm), some (.ref rm), some (.int t), some (.int (3 - (d : Int))), some (.int y), some v, none, none] ∧ Sx [a, c, rm] H H' ∧ Dk H' a c cs' k' ∧ k ≤ k' ∧ k' ≤ k + 47 ∧ Nms K H' nm ns ∧ Tp H' v e ∧
      ((e = .tuple [] ∧ Rm H' rm (r0 - 1) (r1 - t) r2 r3) ∨ ∃ b, TsD ns 2 b e ∧ Rm H' rm (r0 - 1) (r1 - t) (r2 - t * bI b) (r3 - t * bI (!b))), ?_, ?_⟩
    · refine ⟨_, rfl, _, 3, rfl, rfl, _, rfl, ite2 (fun e3 => ?_) (fun e3 => ?_)⟩
      · refine ⟨_, rfl, _, rfl, _, rfl, _, rfl, a, c, cs3, k + 1, nm, ns, rm, _, _, _, _, t, rfl, D3, N3, R3, na, nc, nr, ra, rc, ht, by omega, fun H4 cs4 k4 v x s4 D4 k4a k4b T4 h4 => ?_⟩
        exact ⟨cs4, k4, v, x, rfl, s03.trans s4, D4, by omega, by omega, N3.keep s4 (by simp [na, nc, nr]), T4, h4⟩
      · refine ⟨Nat.zero_le _, fun u hu => ?_⟩
        exact ⟨cs3, k + 1, .ref u, .tuple [], rfl, s03.new hu, D3.new hu, by omega, by omega, N3.keep ((Sx.refl (ex := []) _).new hu) (by simp), .tup upd_same .nil, .inl ⟨rfl, R3.new hu⟩⟩
    rintro _ H4 ⟨cs4, k4, v, e, rfl, s4, D4, k4a, k4b, N4, T4, h4⟩
    have sh : SeqAt.shaped e = true := by
      rcases h4 with ⟨rfl, _⟩ | ⟨b, hb, _⟩
      · exact (Sh.tup (n := 0) .nil).shaped (by decide)
      · exact (hb.sh N.ok).shaped (by decide)
    refine ⟨_, rfl, Nat.zero_le _, fun u hu => ⟨e, .tuple [], (T4.new hu).dp, .tup (SqT.of upd_same) .nil, sh, (Sh.tup (n := 0) .nil).shaped (by decide), _, rfl, ?_⟩⟩
    have eb := cB_pos d
    rcases h4 with ⟨rfl, R4⟩ | ⟨b, hb, R4⟩
    · refine iteF ?_
      refine gh (H1 := upd H4 u _) (F := fun H5 => Sx [a, c, rm] H H5 ∧ Dk H5 a c cs4 k4 ∧ Nms K H5 nm ns ∧ Rm H5 rm (r0 - 1) (r1 - t) r2 r3) ⟨s4.new hu, D4.new hu, N4.keep ((Sx.refl (ex := []) _).new hu) (by simp), R4.new hu⟩ (fun H5 ⟨s5, D5, N5, R5⟩ => ?_)
      have elsP : ∀ (H6 : Hp), H6 = H5 → True := fun _ _ => trivial
      refine ⟨_, rfl, rfl, _, rfl, ite2 (fun e3 => ?rep) (fun e3 => ⟨_, rfl, rfl, _, rfl, ite2 (fun e4 => ?rep2) (fun e4 => ?plain)⟩)⟩
      case plain =>
        refine ⟨_, rfl, _, rfl, a, c, cs4, k4, nm, ns, rfl, D5, N5, na, nc, by omega, fun H6 cs6 k6 v6 x6 s6 D6 k6a k6b T6 X6 => ?_⟩
        have R6 := R5.sx s6 (by simp [ra, rc])
        refine q _ cs6 k6 _ x6 (s5.trans (s6.mono (by simp))) D6 (by omega) (by omega) T6 (.inr ⟨1, 1, 0, 0, X6 d, R6.cast ?_ ?_ ?_ ?_, by omega, ?_⟩)
        all_goals omega
      all_goals
        refine ⟨_, rfl, by show 7 ≤ sizeLine; decide, fun l hl => ?_⟩
        obtain ⟨la, lc⟩ := D5.nw hl
        have lr := R5.nw hl
        refine ⟨a, c, cs4, k4, _, rfl, D5.new hl, by omega, .inl ⟨l, _, rfl, .inl (.inl upd_same), by simp, by show 7 ≤ 100000; decide, la, lc, fun H6 cs6 v6 s6 D6 hv => ?_⟩⟩
        have s56 : Sx [a, c] H5 H6 := ((Sx.refl _).new hl).trans s6
        have R6 := R5.sx s56 (by simp [ra, rc])
        have N6 := N5.keep s56 (by simp [na, nc])
        obtain ⟨g, rfl, ga, gb⟩ : ∃ g : Int, v6 = .int g ∧ 1 ≤ g ∧ g ≤ 8 := by
          simp only [List.not_mem_nil, List.mem_cons, or_false] at hv
          rcases hv with rfl | rfl | rfl | rfl | rfl | rfl | rfl
          all_goals exact ⟨_, rfl, by decide, by decide⟩
        have hs : (3 - (d : Int)) + 1 = 4 - (d : Int) := by omega
        have tg : 1 ≤ t * g := by
          have := Int.mul_le_mul ht ga (by decide) (by omega)
          omega
        refine ⟨_, rfl, _, rfl, _, rfl, _, rfl, _, rfl, _, rfl, t, g, rfl, rfl, .inl ⟨by omega, by omega⟩, _, rfl, _, 1, rfl, rfl, a, c, cs6, k4 + 1, nm, ns, rm, _, _, _, _, t * g, congrArg (fun z => [V.ref a, V.ref nm, V.ref rm, V.int (t * g), V.int z]) hs, D6, N6, R6, na, nc, nr, ra, rc, tg, by omega, by omega, fun H7 cs7 k7 v7 es7 n7 w7 q7 c7 s7 D7 k7a k7b T7 B7 R7 w70 w7l => ?_⟩
        refine ⟨by show 3 ≤ sizeLine; decide, fun u hu => ?_⟩
        have m1 : ∀ x y : Int, t * (x + g * y) = t * x + t * g * y := fun x y => by rw [Int.mul_add, Int.mul_assoc]
        have m2 : ∀ y : Int, t * (g * y) = t * g * y := fun y => by rw [Int.mul_assoc]
        have gw : 0 ≤ g * w7 := Int.mul_nonneg (by omega) w70
        refine q _ cs7 k7 _ (.tuple [.str "repeat", .int g, .tuple es7]) (((s5.trans (s56.mono (by simp))).trans s7).new hu) (D7.new hu) (by omega) (by omega)
          (.tup upd_same (.cons (.str _) (.cons (.int g) (.cons (T7.new hu) .nil)))) (.inr ⟨_, _, _, _, .rep g ga gb B7, (R7.new hu).cast ?_ ?_ ?_ ?_, by omega, ?_⟩)
        all_goals (first | rw [m1] | rw [m2] | skip)
        all_goals omega
    · have hne : (!PyData.eqv e (.tuple [])) = true := by
        cases hb <;> rfl
      refine (show ∀ {c : Bool} {A B : Prop}, c = true → A → (if c = true then A else B) from fun h1 h2 => by rw [if_pos h1]; exact h2) hne ?_
      refine gh (H1 := upd H4 u _) (F := fun H5 => Sx [a, c, rm] H H5 ∧ Dk H5 a c cs4 k4 ∧ Nms K H5 nm ns ∧ Tp H5 v e ∧ Rm H5 rm (r0 - 1) (r1 - t) (r2 - t * bI b) (r3 - t * bI (!b))) ⟨s4.new hu, D4.new hu, N4.keep ((Sx.refl (ex := []) _).new hu) (by simp), T4.new hu, R4.new hu⟩ (fun H5 ⟨s5, D5, N5, T5, R5⟩ => ?_)
      have hs : (3 - (d : Int)) + 1 = 4 - (d : Int) := by omega
      refine ⟨_, rfl, _, rfl, _, rfl, _, rfl, _, rfl, _, 1, rfl, rfl, a, c, cs4, k4, nm, ns, rm, _, _, _, _, t, congrArg (fun z => [V.ref a, V.ref nm, V.ref rm, V.int t, V.int z]) hs, D5, N5, R5, na, nc, nr, ra, rc, ht, by omega, by omega, fun H6 cs6 k6 v6 es6 n6 w6 q6 c6 s6 D6 k6a k6b T6 B6 R6 w60 w6l => ?_⟩
      have N6 := N5.keep s6 (by simp [na, nc, nr])
      refine ⟨_, rfl, _, rfl, _, rfl, _, rfl, _, rfl, _, rfl, _, rfl, _, 1, rfl, rfl, a, c, cs6, k6, nm, ns, rm, _, _, _, _, t, congrArg (fun z => [V.ref a, V.ref nm, V.ref rm, V.int t, V.int z]) hs, D6, N6, R6, na, nc, nr, ra, rc, ht, by omega, by omega, fun H7 cs7 k7 v7 es7 n7 w7 q7 c7 s7 D7 k7a k7b T7 B7 R7 w70 w7l => ?_⟩
      refine ⟨by show 4 ≤ sizeLine; decide, fun u hu => ?_⟩
      have t6 : Tk H5 H6 := s6.tk (lst3 D5 R5)
      have t7 : Tk H6 H7 := s7.tk (lst3 D6 R6)
      have m1 : ∀ x y z : Int, t * (x + y + z) = t * x + t * y + t * z := fun x y z => by rw [Int.mul_add, Int.mul_add]
      refine q _ cs7 k7 _ (.tuple [.str "if", e, .tuple es6, .tuple es7]) (((s5.trans s6).trans s7).new hu) (D7.new hu) (by omega) (by omega)
        (.tup upd_same (.cons (.str _) (.cons (((T5.keep t6).keep t7).new hu) (.cons ((T6.keep t7).new hu) (.cons (T7.new hu) .nil))))) (.inr ⟨_, _, _, _, .ite hb B6 B7, (R7.new hu).cast ?_ ?_ ?_ ?_, by omega, ?_⟩)
      all_goals (first | rw [m1] | skip)
      all_goals omega
theorem ok_block0 {f : Addr} {fd : FuncData} {k : Nat} (F : Fun K "_law_block" "_law_block" sBlock f fd) : FnOk P w K mg base CX0 (k + 1) f fd ["_law_deck_here", "_law_names_here", "_law_room", "_law_times", "_law_depth"] (spBlock K 0) := by
  refine F.ok scBlock (fun vs H Q E h => ?_) (fun cdv A outer s H vs Q E hr h => ?_)
  · obtain ⟨a, c, cs, k, nm, ns, rm, r0, r1, r2, r3, t, rfl, _⟩ := h
    rfl
  · obtain ⟨a, c, cs, k, nm, ns, rm, r0, r1, r2, r3, t, rfl, D, N, R, na, nc, nr, ra, rc, ht, h30, hk, q⟩ := h
    refine ⟨_, pss_cons (ps_if (pt_cmpR op_gt (pv 4) pe_int (nomark _)) (pss_one (ps_ret (pe_tup pa_nil))) pss_nil) pss_never, ?_⟩
    refine ⟨_, rfl, _, 3, rfl, rfl, _, rfl, ite2 (fun e => ⟨Nat.zero_le _, fun p hp => ?_⟩) (fun e => ?_)⟩
    · have e0 : ∀ x y : Int, x - y * 0 = x := fun x y => by omega
      have e1 : ∀ x : Int, x - 0 = x := fun x => by omega
      refine q _ cs k _ [] 0 0 0 0 ((Sx.refl _).new hp) (D.new hp) (Int.le_refl _) (by have := cB_pos 0; omega) (.tup upd_same .nil) .nil ((R.new hp).cast ?_ ?_ ?_ ?_) (Int.le_refl _) ?_
      all_goals omega
    · exact absurd (decide_eq_true (by decide : (3 : Int) < 4 - ((0 : Nat) : Int))) e
theorem ok_block {f fD fR : Addr} {fd fdD fdR : FuncData} {d : Nat} (hd3 : d ≤ 3) (F : Fun K "_law_block" "_law_block" sBlock f fd) (F_draw : Fun K "_law_draw" "_law_draw" sDraw fD fdD) (F_row : Fun K "_law_row" "_law_row" sRow fR fdR)
    (G_draw : FnOk P w K mg base CX0 1 fD fdD ["_law_deck_here", "_law_many"] spDraw) (G_row : FnOk P w K mg base CX0 (6 + 2 * d + 1) fR fdR ["_law_deck_here", "_law_names_here", "_law_room", "_law_times", "_law_depth"] (spRow K d))
    (b_draw : Binds K fdD ["_law_deck_here", "_law_many"] []) (b_row : Binds K fdR ["_law_deck_here", "_law_names_here", "_law_room", "_law_times", "_law_depth"] [])
    (m_draw : mg "_law_draw" = some (.ref fD)) (m_row : mg "_law_row" = some (.ref fR)) (z_int : mg "int" = none) (z_range : mg "range" = none) (z_tuple : mg "tuple" = none) :
    FnOk P w K mg base CX0 (6 + 2 * d + 1 + 1) f fd ["_law_deck_here", "_law_names_here", "_law_room", "_law_times", "_law_depth"] (spBlock K (d + 1)) := by
  refine F.ok scBlock (fun vs H Q E h => ?_) (fun cdv A outer s H vs Q E hr h => ?_)
  · obtain ⟨a, c, cs, k, nm, ns, rm, r0, r1, r2, r3, t, rfl, _⟩ := h
    rfl
  · obtain ⟨a, c, cs, k, nm, ns, rm, r0, r1, r2, r3, t, rfl, D, N, R, na, nc, nr, ra, rc, ht, h30, hk, q⟩ := h
    have eB := cB_pos d
    have eB1 := cB_one d
    have hdep : (4 - ((d + 1 : Nat) : Int)) = 3 - (d : Int) := by omega
    refine ⟨_, (pss_cons (ps_if (pt_cmpR op_gt (pv 4) pe_int (nomark _)) (pss_one (ps_ret (pe_tup pa_nil))) pss_nil)
      (pss_cons (ps_par (i := 5) (j := 6) (by rfl) scBlock.nd rfl rfl (by decide) rfl rfl (pa_cons (pe_op op_add (pe_call G_draw (hr.mono (by omega)) (by rfl) m_draw F_draw.kp b_draw .nil pass0 (pa_cons (pv 0) (pa_cons pe_int pa_nil))) (pe_callTy call_int1 (by rfl) z_int boot_int (pa_cons (pe_cmpR op_eq (pv 4) pe_int (nomark _)) pa_nil))) (pa_cons (pe_lst pa_nil) pa_nil)) (by rfl))
      (C8.pss_cut (ps_for PassesOwn.never rfl (pi_range1 (by rfl) z_range (pa_cons (pv 5) pa_nil)) (pg_name (i := 7) scBlock.nd rfl (by first | exact Or.inl rfl | exact Or.inr rfl)) (pss_one (ps_expr (pe_bm PySem.F.plainAttrs_list PySem.F.slot_list_append PySem.F.type_list_append mt_append (pv 6) (pa_cons (pe_call G_row (hr.mono (by omega)) (by rfl) m_row F_row.kp b_row .nil pass0 (pa_cons (pv 0) (pa_cons (pv 1) (pa_cons (pv 2) (pa_cons (pv 3) (pa_cons (pv 4) pa_nil)))))) pa_nil)))))
      (pss_one (ps_ret (pe_callTy call_tuple_of (by rfl) z_tuple boot_tuple (pa_cons (pe_lc (own := [("_law_row_here", 8)]) (g := gName 8) (tt := _) rfl scBlock.nd (pi_list (pv 6)) (blkOk_by (N := nBlock) (sc := defScope sBlock) (by decide +kernel)) (fun _ _ _ _ _ => (pg_name (i := 8) scBlock.nd rfl (by first | exact Or.inl rfl | exact Or.inr rfl))) (fun _ _ _ _ _ => pts_one (pt_cmpR (show OpR _ _ (rNeD K) from op_neD hr.units) (pv 8) (pe_tup pa_nil) (nomark _))) (fun _ _ _ _ _ => (pv 8))) pa_nil))))))), ?_⟩
    refine ⟨_, rfl, _, 3, rfl, rfl, _, rfl, ite2 (fun e => ?_) (fun e => ?_)⟩
    · have : (3 : Int) < 4 - ((d + 1 : Nat) : Int) := of_decide_eq_true e
      omega
    refine ⟨_, rfl, a, c, cs, k, 4, rfl, D, by decide, by decide, by omega, fun H1 cs1 y s1 D1 y0 y1 => ?_⟩
    refine ⟨_, rfl, rfl, .inr ⟨_, rfl, _, _, rfl, rfl, Nat.zero_le _, fun L hL => ⟨_, _, rfl, ?_⟩⟩⟩
    obtain ⟨La, Lc⟩ := D1.nw hL
    have R1 := R.sx s1 (by simp [ra, rc])
    have Lr := R1.nw hL
    have HL : H L = none := s1.free (by simp [La, Lc]) hL
    have N1 := N.keep s1 (by simp [na, nc])
    have nL : nm ≠ L := N1.nw hL
    generalize hm : (y + if decide (V.int (4 - ((d + 1 : Nat) : Int)) = V.int 0) = true then (1 : Int) else 0) = m
    have m0 : 0 ≤ m ∧ m ≤ 4 := by
      rw [← hm]
      split <;> omega
    refine ⟨fun σ' H' => ∃ (cs' : List Int) (k' : Int) (es : List PyData) (vs : List V) (n w' rr cc : Int) (y7 : Option V), σ' = [some (.ref a), some (.ref nm), some (.ref rm), some (.int t), some (.int (4 - ((d + 1 : Nat) : Int))), some (.int m), some (.ref L), y7, none] ∧ Sx [a, c, rm] H H' ∧ Dk H' a c cs' k' ∧ k ≤ k' ∧ k' ≤ k + cB (d + 1) ∧
      H' L = some (.lst vs) ∧ TpAll H' vs es ∧ (∀ e ∈ es, SeqAt.shaped e = true) ∧ es.length ≤ 4 ∧ BkD ns (d + 1) n w' rr cc (es.filter ne0) ∧ Rm H' rm (r0 - n) (r1 - t * w') (r2 - t * rr) (r3 - t * cc) ∧ 0 ≤ w' ∧ r1 - t * w' ≤ r1, ?_, ?_⟩
    · refine ⟨_, rfl, m, congrArg (fun z => [V.int z]) hm, by omega, by omega, ?_⟩
      have hmul : ∀ i : Nat, (i : Int) ≤ 4 → (i : Int) * (71 + 2 * cB d) ≤ 4 * (71 + 2 * cB d) := fun i hi => Int.mul_le_mul_of_nonneg_right hi (by omega)
      refine for_range (lo := 0) (n := m.toNat) (fun i σ' H' => ∃ (cs' : List Int) (k' : Int) (es : List PyData) (vs : List V) (n w' rr cc : Int) (y7 : Option V), σ' = [some (.ref a), some (.ref nm), some (.ref rm), some (.int t), some (.int (4 - ((d + 1 : Nat) : Int))), some (.int m), some (.ref L), y7, none] ∧ Sx [a, c, rm] H H' ∧ Dk H' a c cs' k' ∧ k ≤ k' ∧ k' ≤ k + 1 + (i : Int) * (71 + 2 * cB d) ∧
        H' L = some (.lst vs) ∧ TpAll H' vs es ∧ (∀ e ∈ es, SeqAt.shaped e = true) ∧ es.length = i ∧ BkD ns (d + 1) n w' rr cc (es.filter ne0) ∧ Rm H' rm (r0 - n) (r1 - t * w') (r2 - t * rr) (r3 - t * cc) ∧ 0 ≤ w' ∧ r1 - t * w' ≤ r1) ?_ (fun i σ' H' hi hp => ?_) (fun σ' H' hp => ?_)
      · refine ⟨cs1, k + 1, [], [], 0, 0, 0, 0, none, by rw [← hm]; rfl, (s1.mono (by simp)).new hL, D1.new hL, by omega, by omega, upd_same, .nil, fun _ z => by simp at z, rfl, .nil, (R1.new hL).cast ?_ ?_ ?_ ?_, Int.le_refl _, ?_⟩
        all_goals omega
      · obtain ⟨cs2, k2, es, vs, n, w', rr, cc, y7, rfl, s2, D2, k2a, k2b, hLv, TA, hsh, hlen, B2, R2, w0, wl⟩ := hp
        have hi4 : i < 4 := by omega
        have hm1 := hmul (i + 1) (by omega)
        have hm2 : ((i + 1 : Nat) : Int) * (71 + 2 * cB d) = (i : Int) * (71 + 2 * cB d) + (71 + 2 * cB d) := by
          rw [show ((i + 1 : Nat) : Int) = (i : Int) + 1 from by omega, Int.add_mul, Int.one_mul]
        have N2 := N.keep s2 (by simp [na, nc, nr])
        refine ⟨_, rfl, .inl ⟨rfl, _, .inl (.inl hLv)⟩, _, rfl, _, rfl, _, rfl, _, rfl, _, rfl, a, c, cs2, k2, nm, ns, rm, _, _, _, _, t, congrArg (fun z => [V.ref a, V.ref nm, V.ref rm, V.int t, V.int z]) hdep, D2, N2, R2, na, nc, nr, ra, rc, ht, by omega, by omega, fun H3 cs3 k3 v e s3 D3 k3a k3b T3 h3 => ?_⟩
        have hL3 : H3 L = some (.lst vs) := s3 _ _ (by simp [La, Lc, Lr]) hLv
        have t3 : Tk _ H3 := s3.tk (lst3 D2 R2)
        have vl : vs.length = i := by rw [TA.len, hlen]
        refine ⟨L, vs, v, rfl, rfl, hL3, lt_line (by omega), ?_⟩
        have tL : Tk H3 (upd H3 L (.lst (vs ++ [v]))) := ((Sx.refl (ex := [L]) _).put (by simp)).tk (fun b hb => by rw [List.mem_singleton.mp hb]; exact ⟨_, hL3⟩)
        have sL : Sx [L] H3 (upd H3 L (.lst (vs ++ [v]))) := (Sx.refl (ex := [L]) _).put (by simp)
        have common : Sx [a, c, rm] H (upd H3 L (.lst (vs ++ [v]))) ∧ Dk (upd H3 L (.lst (vs ++ [v]))) a c cs3 k3 ∧ TpAll (upd H3 L (.lst (vs ++ [v]))) (vs ++ [v]) (es ++ [e]) :=
          ⟨(s2.trans s3).own HL, D3.sx sL (by simp [La.symm]) (by simp [Lc.symm]), ((TA.keep t3).keep tL).append (.cons (T3.keep tL) .nil)⟩
        obtain ⟨q1, q2, q3⟩ := common
        rcases h3 with ⟨rfl, R3⟩ | ⟨n3, w3, rr3, cc3, S3, R3, w30, w3l⟩
        · refine ⟨cs3, k3, es ++ [.tuple []], vs ++ [v], n, w', rr, cc, _, rfl, q1, q2, by omega, by omega, upd_same, q3, fun x hx => ?_, by rw [List.length_append, hlen]; rfl, ?_, R3.sx sL (by simp [Lr.symm]), w0, wl⟩
          · rcases List.mem_append.1 hx with z | z
            · exact hsh x z
            · rw [List.mem_singleton.mp z]; exact (Sh.tup (n := 0) .nil).shaped (by decide)
          · rw [List.filter_append, show List.filter ne0 [PyData.tuple []] = [] from rfl, List.append_nil]
            exact B2
        · have ma : ∀ x z : Int, t * (x + z) = t * x + t * z := fun x z => Int.mul_add _ _ _
          refine ⟨cs3, k3, es ++ [e], vs ++ [v], n + n3, w' + w3, rr + rr3, cc + cc3, _, rfl, q1, q2, by omega, by omega, upd_same, q3, fun x hx => ?_, by rw [List.length_append, hlen]; rfl, ?_, (R3.sx sL (by simp [Lr.symm])).cast ?_ ?_ ?_ ?_, by omega, ?_⟩
          · rcases List.mem_append.1 hx with z | z
            · exact hsh x z
            · rw [List.mem_singleton.mp z]; exact (S3.sh N.ok).shaped (by omega)
          · rw [List.filter_append, show List.filter ne0 [e] = [e] by rw [List.filter_cons, if_pos S3.ne0]; rfl]
            exact BkD.snoc S3 _ B2
          all_goals (first | rw [ma] | skip)
          all_goals omega
      · obtain ⟨cs2, k2, es, vs, n, w', rr, cc, y7, rfl, s2, D2, k2a, k2b, hLv, TA, hsh, hlen, B2, R2, w0, wl⟩ := hp
        have := hmul m.toNat (by omega)
        exact ⟨cs2, k2, es, vs, n, w', rr, cc, y7, rfl, s2, D2, k2a, by omega, hLv, TA, hsh, by omega, B2, R2, w0, wl⟩
    · rintro _ H2 ⟨cs2, k2, es, vs, n, w', rr, cc, y7, rfl, s2, D2, k2a, k2b, hLv, TA, hsh, hlen, B2, R2, w0, wl⟩
      have vl : vs.length = es.length := TA.len
      refine ⟨_, rfl, L, rfl, ⟨_, .inl (.inl hLv)⟩, fun Z hZ => ?_⟩
      obtain ⟨Za, Zc⟩ := D2.nw hZ
      have Zr := R2.nw hZ
      have ZL : L ≠ Z := ne_of_none hLv hZ
      have HZ : H Z = none := s2.free (by simp [Za, Zc, Zr]) hZ
      refine lc_list (xs := vs) (fun i H' => Sx [a, c, rm] H H' ∧ Dk H' a c cs2 k2 ∧ Rm H' rm (r0 - n) (r1 - t * w') (r2 - t * rr) (r3 - t * cc) ∧ H' L = some (.lst vs) ∧ TpAll H' vs es ∧ ∃ acc, H' Z = some (.lst acc) ∧ TpAll H' acc ((es.take i).filter ne0) ∧ acc.length ≤ i)
        ⟨s2.own HZ, D2.new hZ, R2.new hZ, by rw [upd_ne ZL]; exact hLv, TA.new hZ, [], upd_same, .nil, Nat.le_refl _⟩ (fun i H' _ p => .inl (.inl p.2.2.2.1)) (fun i x H' hx p => ?_) (fun H' p => ?_)
      · obtain ⟨p1, p2, p3, p4, p5, acc, p6, p7, p8⟩ := p
        obtain ⟨e, he, T⟩ := p5.get hx
        have hi : i < es.length := (List.getElem?_eq_some_iff.mp he).1
        have hse := hsh e (List.mem_of_getElem? he)
        refine ⟨rfl, _, rfl, Nat.zero_le _, fun u hu => ⟨e, .tuple [], (T.new hu).dp, .tup (SqT.of upd_same) .nil, hse, (Sh.tup (n := 0) .nil).shaped (by decide), _, rfl, ?_⟩⟩
        have pu1 := p1.new (o := .tup []) hu
        have pu2 := p2.new (o := .tup []) hu
        have pu3 := p3.new (o := .tup []) hu
        have pu4 : (upd H' u (.tup [])) L = some (.lst vs) := (Sx.refl (ex := []) _).new hu _ _ (by simp) p4
        have pu5 := p5.new (o := .tup []) hu
        have pu6 : (upd H' u (.tup [])) Z = some (.lst acc) := (Sx.refl (ex := []) _).new hu _ _ (by simp) p6
        have pu7 := p7.new (o := .tup []) hu
        have T' := T.new (o := .tup []) hu
        have tk : (es.take (i + 1)).filter ne0 = (es.take i).filter ne0 ++ (if ne0 e = true then [e] else []) := by
          rw [List.take_add_one, he, Option.toList_some, List.filter_append, List.filter_cons, List.filter_nil]
        cases hne : ne0 e with
        | false =>
          have hne' : (!PyData.eqv e (.tuple [])) = false := hne
          rw [hne, if_neg Bool.false_ne_true, List.append_nil] at tk
          refine (show ∀ {c : Bool} {A B : Prop}, c = false → B → (if c = true then A else B) from fun h1 h2 => by rw [h1, if_neg Bool.false_ne_true]; exact h2) hne' ?_
          exact ⟨pu1, pu2, pu3, pu4, pu5, acc, pu6, by rw [tk]; exact pu7, by omega⟩
        | true =>
          have hne' : (!PyData.eqv e (.tuple [])) = true := hne
          rw [hne, if_pos rfl] at tk
          refine (show ∀ {c : Bool} {A B : Prop}, c = true → A → (if c = true then A else B) from fun h1 h2 => by rw [h1, if_pos rfl]; exact h2) hne' ?_
          refine ⟨x, rfl, acc, pu6, lt_line (by omega), ?_⟩
          have sZ : Sx [Z] (upd H' u (.tup [])) (upd (upd H' u (.tup [])) Z (.lst (acc ++ [x]))) := (Sx.refl (ex := [Z]) _).put (by simp)
          have tZ : Tk (upd H' u (.tup [])) (upd (upd H' u (.tup [])) Z (.lst (acc ++ [x]))) := sZ.tk (fun b hb => by rw [List.mem_singleton.mp hb]; exact ⟨_, pu6⟩)
          exact ⟨pu1.own HZ, pu2.sx sZ (by simp [Za.symm]) (by simp [Zc.symm]), pu3.sx sZ (by simp [Zr.symm]), by rw [upd_ne ZL]; exact pu4, pu5.keep tZ, acc ++ [x], upd_same, by rw [tk]; exact (pu7.keep tZ).append (.cons (T'.keep tZ) .nil), by rw [List.length_append]; show acc.length + 1 ≤ i + 1; omega⟩
      · obtain ⟨p1, p2, p3, p4, p5, acc, p6, p7, p8⟩ := p
        rw [vl, List.take_length] at p7
        refine ⟨Z, acc, rfl, .inl ⟨.inl (.inl p6), fun l hl => ?_⟩⟩
        exact q _ cs2 k2 _ (es.filter ne0) n w' rr cc (p1.new hl) (p2.new hl) k2a k2b (.tup upd_same (p7.new hl)) B2 (p3.new hl) w0 wl
theorem ok_program {f fD fE fB : Addr} {fd fdD fdE fdB : FuncData} (F : Fun K "_law_program" "_law_program" sProgram f fd) (F_draw : Fun K "_law_draw" "_law_draw" sDraw fD fdD) (F_expression : Fun K "_law_expression" "_law_expression" sExpression fE fdE) (F_block : Fun K "_law_block" "_law_block" sBlock fB fdB)
    (G_draw : FnOk P w K mg base CX0 1 fD fdD ["_law_deck_here", "_law_many"] spDraw) (G_expression : FnOk P w K mg base CX0 4 fE fdE ["_law_deck_here", "_law_names_here", "_law_deep"] (spExpr K 2)) (G_block : FnOk P w K mg base CX0 14 fB fdB ["_law_deck_here", "_law_names_here", "_law_room", "_law_times", "_law_depth"] (spBlock K 4))
    (b_draw : Binds K fdD ["_law_deck_here", "_law_many"] []) (b_expression : Binds K fdE ["_law_deck_here", "_law_names_here", "_law_deep"] []) (b_block : Binds K fdB ["_law_deck_here", "_law_names_here", "_law_room", "_law_times", "_law_depth"] [])
    (m_draw : mg "_law_draw" = some (.ref fD)) (m_expression : mg "_law_expression" = some (.ref fE)) (m_block : mg "_law_block" = some (.ref fB)) (z_range : mg "range" = none) :
    FnOk P w K mg base CX0 15 f fd ["_law_deck_here", "_law_names_here"] (spProgram K) := by
  refine F.ok scProgram (fun vs H Q E h => ?_) (fun cdv A outer s H vs Q E hr h => ?_)
  · obtain ⟨a, c, cs, k, nm, ns, rfl, _⟩ := h
    rfl
  · obtain ⟨a, c, cs, k, nm, ns, rfl, D, N, na, nc, hk, q⟩ := h
    have e4 : cB 4 = 166725 := by decide
    have e2 : cE 2 = 9 := by decide
    have eP : cP = 700000 := rfl
    refine ⟨_, (pss_cons (ps_par (i := 2) (j := 3) (by rfl) scProgram.nd rfl rfl (by decide) rfl rfl (pa_cons (pe_lst (pa_cons pe_int (pa_cons pe_int (pa_cons pe_int (pa_cons pe_int pa_nil))))) (pa_cons (pe_tup pa_nil) pa_nil)) (by rfl))
      (C8.pss_cut (ps_for PassesOwn.never rfl (pi_range1 (by rfl) z_range (pa_cons (pe_op op_add pe_int (pe_call G_draw (hr.mono (by omega)) (by rfl) m_draw F_draw.kp b_draw .nil pass0 (pa_cons (pv 0) (pa_cons pe_int pa_nil)))) pa_nil)) (pg_name (i := 4) scProgram.nd rfl (by first | exact Or.inl rfl | exact Or.inr rfl)) (pss_one (ps_set (i := 3) scProgram.nd rfl (by first | exact Or.inl rfl | exact Or.inr rfl) (pe_op op_catA (pv 3) (pe_call G_block (hr.mono (by omega)) (by rfl) m_block F_block.kp b_block .nil pass0 (pa_cons (pv 0) (pa_cons (pv 1) (pa_cons (pv 2) (pa_cons pe_int (pa_cons pe_int pa_nil))))))))))
      (pss_cons (ps_if (PW.pt (pw_or (pt_cmpR op_lt (pe_ix ix_list (pv 2) pe_int (fun _ _ => rfl)) pe_int (nomark _)) (pw_or (pt_cmpR op_lt (pe_ix ix_list (pv 2) pe_int (fun _ _ => rfl)) pe_int (nomark _)) (pw_or1 (pt_cmpR op_eq (pe_call G_draw (hr.mono (by omega)) (by rfl) m_draw F_draw.kp b_draw .nil pass0 (pa_cons (pv 0) (pa_cons pe_int pa_nil))) pe_int (nomark _)))))) (pss_one (ps_ret (pv 3))) pss_nil)
      (pss_one (ps_ret (pe_op op_catA (pv 3) (pe_tup (pa_cons (pe_tup (pa_cons pe_str (pa_cons (pe_call G_expression (hr.mono (by omega)) (by rfl) m_expression F_expression.kp b_expression .nil pass0 (pa_cons (pv 0) (pa_cons (pv 1) (pa_cons pe_int pa_nil)))) pa_nil))) pa_nil)))))))), ?_⟩
    refine ⟨by show 4 ≤ sizeLine; decide, fun rm hrm => ⟨Nat.zero_le _, fun p hp => ⟨_, _, rfl, ?_⟩⟩⟩
    obtain ⟨ra, rc⟩ := D.nw hrm
    have nr := N.nw hrm
    have n0 : Sx [a, c] H (upd (upd H rm (.lst [.int 24, .int 30, .int 2, .int 2])) p (.tup [])) := ((Sx.refl _).new hrm).new hp
    refine gh (H1 := upd (upd H rm _) p _) (F := fun H2 => Sx [a, c] H H2 ∧ Dk H2 a c cs k ∧ Nms K H2 nm ns ∧ Rm H2 rm 24 30 2 2 ∧ Tp H2 (.ref p) (.tuple []))
      ⟨n0, (D.new hrm).new hp, N.keep n0 (by simp [na, nc]), Rm.new ⟨upd_same, by decide, by decide, by decide, by decide⟩ hp, .tup upd_same .nil⟩ (fun H2 ⟨s2, D2, N2, R2, T2⟩ => ?_)
    refine ⟨fun σ' H' => ∃ (cs' : List Int) (k' : Int) (v : V) (es : List PyData) (n w' rr cc : Int) (y4 : Option V), σ' = [some (.ref a), some (.ref nm), some (.ref rm), some v, y4] ∧ Sx [a, c] H H' ∧ Dk H' a c cs' k' ∧ k ≤ k' ∧ k' ≤ k + 666901 ∧ Nms K H' nm ns ∧ Tp H' v (.tuple es) ∧ BkD ns 4 n w' rr cc es ∧ Rm H' rm (24 - n) (30 - w') (2 - rr) (2 - cc), ?_, ?_⟩
    · refine ⟨_, rfl, a, c, cs, k, 4, rfl, D2, by decide, by decide, by omega, fun H3 cs3 y s3 D3 y0 y1 => ⟨1, y, rfl, rfl, _, rfl, by omega, by omega, ?_⟩⟩
      refine for_range (lo := 0) (n := (1 + y).toNat) (fun i σ' H' => ∃ (cs' : List Int) (k' : Int) (v : V) (es : List PyData) (n w' rr cc : Int) (y4 : Option V), σ' = [some (.ref a), some (.ref nm), some (.ref rm), some v, y4] ∧ Sx [a, c] H H' ∧ Dk H' a c cs' k' ∧ k ≤ k' ∧ k' ≤ k + 1 + (i : Int) * 166725 ∧ Nms K H' nm ns ∧ Tp H' v (.tuple es) ∧ BkD ns 4 n w' rr cc es ∧ Rm H' rm (24 - n) (30 - w') (2 - rr) (2 - cc)) ?_ (fun i σ' H' hi hp => ?_) (fun σ' H' hp => ?_)
      · exact ⟨cs3, k + 1, .ref p, [], 0, 0, 0, 0, none, rfl, s2.trans s3, D3, by omega, by omega, N2.keep s3 (by simp [na, nc]), T2.keep (D2.tk s3), .nil, R2.sx s3 (by simp [ra, rc])⟩
      · obtain ⟨cs4, k4, v, es, n, w', rr, cc, y4, rfl, s4, D4, k4a, k4b, N4, T4, B4, R4⟩ := hp
        have hp4 := B4.pos
        refine ⟨_, rfl, _, rfl, _, rfl, _, rfl, a, c, cs4, k4, nm, ns, rm, _, _, _, _, 1, rfl, D4, N4, R4, na, nc, nr, ra, rc, by decide, by omega, by omega, fun H5 cs5 k5 v5 es5 n5 w5 q5 c5 s5 D5 k5a k5b T5 B5 R5 w50 w5l => ?_⟩
        have t5 : Tk H' H5 := s5.tk (lst3 D4 R4)
        have hp5 := B5.pos
        have g4 := R4.p0
        have g5 := R5.p0
        have s45 : Sx [a, c] H H5 := s4.step s5 (fun x hx => by
          simp only [List.not_mem_nil, List.mem_cons, or_false] at hx
          rcases hx with rfl | rfl | rfl
          · exact .inl (by simp)
          · exact .inl (by simp)
          · exact .inr hrm)
        refine cat_tp (T4.keep t5) T5 (by omega) (fun H6 z s6 _ T6 => ?_)
        refine ⟨cs5, k5, z, es ++ es5, n + n5, w' + w5, rr + q5, cc + c5, _, rfl, s45.trans s6.nil, D5.same s6, by omega, by omega, (N4.keep s5 (by simp [na, nc, nr])).keep s6 (by simp), T6, BkD.append B5 _ B4, (R5.sx s6 (by simp)).cast ?_ ?_ ?_ ?_⟩
        all_goals omega
      · obtain ⟨cs4, k4, v, es, n, w', rr, cc, y4, rfl, s4, D4, k4a, k4b, N4, T4, B4, R4⟩ := hp
        exact ⟨cs4, k4, v, es, n, w', rr, cc, y4, rfl, s4, D4, k4a, by omega, N4, T4, B4, R4⟩
    · rintro _ H4 ⟨cs4, k4, v, es, n, w', rr, cc, y4, rfl, s4, D4, k4a, k4b, N4, T4, B4, R4⟩
      have p0 := R4.p0
      have p1 := R4.p1
      have p2 := R4.p2
      have p3 := R4.p3
      have hpos := B4.pos
      refine ⟨.ref rm, rfl, rm, _, 0, _, rfl, rfl, .inl (.inl R4.at_), rfl, _, 1, rfl, rfl, _, rfl, ite2 (fun e => ?_) (fun e => ⟨.ref rm, rfl, rm, _, 1, _, rfl, rfl, .inl (.inl R4.at_), rfl, _, 1, rfl, rfl, _, rfl, ite2 (fun e1 => ?_) (fun e1 => ?_)⟩)⟩
      · exact ⟨v, rfl, q H4 cs4 k4 v es n w' rr cc s4 D4 k4a (by omega) T4 B4 (by omega) (by omega) (by omega) (by omega)⟩
      · exact ⟨v, rfl, q H4 cs4 k4 v es n w' rr cc s4 D4 k4a (by omega) T4 B4 (by omega) (by omega) (by omega) (by omega)⟩
      have g0 : 1 ≤ 24 - n := by
        have : ¬ 24 - n < 1 := fun z => e (decide_eq_true z)
        omega
      have g1 : 1 ≤ 30 - w' := by
        have : ¬ 30 - w' < 1 := fun z => e1 (decide_eq_true z)
        omega
      refine ⟨_, rfl, a, c, cs4, k4, 4, rfl, D4, by decide, by decide, by omega, fun H5 cs5 y s5 D5 y0 y1 => ⟨rfl, _, rfl, ite2 (fun e2 => ?_) (fun e2 => ?_)⟩⟩
      · exact ⟨v, rfl, q H5 cs5 _ v es n w' rr cc (s4.trans s5) D5 (by omega) (by omega) (T4.keep (D4.tk s5)) B4 (by omega) (by omega) (by omega) (by omega)⟩
      · refine ⟨_, rfl, _, rfl, _, rfl, a, c, cs5, _, nm, ns, rfl, D5, N4.keep s5 (by simp [na, nc]), na, nc, by decide, by omega, fun H6 cs6 k6 v6 x6 s6 D6 k6a k6b T6 X6 => ?_⟩
        refine ⟨by show 2 ≤ sizeLine; decide, fun t ht => ⟨by show 1 ≤ sizeLine; decide, fun u hu => ?_⟩⟩
        have t46 : Tk H4 (upd (upd H6 t (.tup [.str "pay", v6])) u (.tup [.ref t])) := ((D4.tk s5).trans (D5.tk s6)).trans ((((Sx.refl (ex := []) _).new ht).new hu).tk0)
        have Tu : Tp (upd (upd H6 t (.tup [.str "pay", v6])) u (.tup [.ref t])) (.ref u) (.tuple [.tuple [.str "pay", x6]]) :=
          .tup upd_same (.cons (Tp.new (.tup upd_same (.cons (.str _) (.cons (T6.new ht) .nil))) hu) .nil)
        refine cat_tp (T4.keep t46) Tu (by show es.length + 1 ≤ 16777216; omega) (fun H7 z s7 _ T7 => ?_)
        have BB : BkD ns 4 (1 + 0) (1 + 0) (0 + 0) (0 + 0) [.tuple [.str "pay", x6]] := .cons (.pay (X6.up (by decide))) .nil
        refine q H7 cs6 k6 z _ _ _ _ _ (((((s4.trans s5).trans s6).new ht).new hu).trans s7.nil) (((D6.new ht).new hu).same s7) (by omega) (by omega) T7 (BkD.append BB _ B4) ?_ ?_ ?_ ?_
        all_goals omega
theorem ok_names {f fD fO : Addr} {fd fdD fdO : FuncData} {k : Nat} (F : Fun K "_law_names" "_law_names" sNames f fd) (F_draw : Fun K "_law_draw" "_law_draw" sDraw fD fdD) (F_one : Fun K "_law_one" "_law_one" sOne fO fdO)
    (G_draw : FnOk P w K mg base CX0 1 fD fdD ["_law_deck_here", "_law_many"] spDraw) (G_one : FnOk P w K mg base CX0 2 fO fdO ["_law_deck_here", "_law_items"] (spOne K))
    (b_draw : Binds K fdD ["_law_deck_here", "_law_many"] []) (b_one : Binds K fdO ["_law_deck_here", "_law_items"] [])
    (m_draw : mg "_law_draw" = some (.ref fD)) (m_one : mg "_law_one" = some (.ref fO)) (z_range : mg "range" = none) :
    FnOk P w K mg base CX0 3 f fd ["_law_deck_here"] (spNames K) := by
  refine F.ok scNames (fun vs H Q E h => ?_) (fun cdv A outer s H vs Q E hr h => ?_)
  · obtain ⟨a, c, cs, k, rfl, _⟩ := h
    rfl
  · obtain ⟨a, c, cs, k, rfl, D, hk, q⟩ := h
    refine ⟨_, (pss_cons (ps_set (i := 1) scNames.nd rfl (by first | exact Or.inl rfl | exact Or.inr rfl) pe_str)
      (pss_cons (ps_set (i := 2) scNames.nd rfl (by first | exact Or.inl rfl | exact Or.inr rfl) (pe_op op_add_str (pv 1) pe_str))
      (pss_cons (ps_set (i := 3) scNames.nd rfl (by first | exact Or.inl rfl | exact Or.inr rfl) (pe_lst (pa_cons pe_str (pa_cons pe_str (pa_cons pe_str (pa_cons pe_str (pa_cons pe_str (pa_cons pe_str (pa_cons pe_str (pa_cons pe_str (pa_cons pe_str (pa_cons pe_str (pa_cons pe_str (pa_cons pe_str pa_nil))))))))))))))
      (pss_cons (ps_par (i := 4) (j := 5) (by rfl) scNames.nd rfl rfl (by decide) rfl rfl (pa_cons (pe_call G_draw (hr.mono (by omega)) (by rfl) m_draw F_draw.kp b_draw .nil pass0 (pa_cons (pv 0) (pa_cons pe_int pa_nil))) (pa_cons (pe_call G_one (hr.mono (by omega)) (by rfl) m_one F_one.kp b_one .nil pass0 (pa_cons (pv 0) (pa_cons (pe_lst (pa_cons pe_int (pa_cons pe_int (pa_cons pe_int (pa_cons pe_int (pa_cons pe_int (pa_cons pe_int (pa_cons pe_int pa_nil)))))))) pa_nil))) pa_nil)) (by rfl))
      (pss_cons (ps_if (pt_cmpR op_lt (pv 4) pe_int (nomark _)) (pss_one (ps_ret (pe_op op_cat (pe_lst (pa_cons pe_str pa_nil)) (pe_slice sl_list (pv 3) (po_some (pv 4)) (po_some (pe_op op_add (pv 4) pe_int)))))) pss_nil)
      (pss_cons (ps_set (i := 6) scNames.nd rfl (by first | exact Or.inl rfl | exact Or.inr rfl) (pe_join pe_str (pe_lc (own := [("_law_k", 8)]) (g := gName 8) (tt := tYes) rfl scNames.nd (pi_range1 (by rfl) z_range (pa_cons (pv 5) pa_nil)) (blkOk_by (N := nNames) (sc := defScope sNames) (by decide +kernel)) (fun _ _ _ _ _ => (pg_name (i := 8) scNames.nd rfl (by first | exact Or.inl rfl | exact Or.inr rfl))) (fun _ _ _ _ _ => pts_nil) (fun _ _ _ _ _ => (pe_call G_one (hr.mono (by omega)) (by rfl) m_one F_one.kp b_one .nil pass0 (pa_cons (pv 0) (pa_cons (pv 1) pa_nil)))))))
      (pss_cons (ps_set (i := 7) scNames.nd rfl (by first | exact Or.inl rfl | exact Or.inr rfl) (pe_join pe_str (pe_lc (own := [("_law_k", 8)]) (g := gName 8) (tt := tYes) rfl scNames.nd (pi_range1 (by rfl) z_range (pa_cons (pe_call G_draw (hr.mono (by omega)) (by rfl) m_draw F_draw.kp b_draw .nil pass0 (pa_cons (pv 0) (pa_cons (pe_op op_sub pe_int (pv 5)) pa_nil))) pa_nil)) (blkOk_by (N := nNames) (sc := defScope sNames) (by decide +kernel)) (fun _ _ _ _ _ => (pg_name (i := 8) scNames.nd rfl (by first | exact Or.inl rfl | exact Or.inr rfl))) (fun _ _ _ _ _ => pts_nil) (fun _ _ _ _ _ => (pe_call G_one (hr.mono (by omega)) (by rfl) m_one F_one.kp b_one .nil pass0 (pa_cons (pv 0) (pa_cons (pv 2) pa_nil)))))))
      (pss_one (ps_ret (pe_op op_cat (pe_lst (pa_cons pe_str pa_nil)) (pe_lc (own := [("_law_k", 8)]) (g := gName 8) (tt := tYes) rfl scNames.nd (pi_range1 (by rfl) z_range (pa_cons pe_int pa_nil)) (blkOk_by (N := nNames) (sc := defScope sNames) (by decide +kernel)) (fun _ _ _ _ _ => (pg_name (i := 8) scNames.nd rfl (by first | exact Or.inl rfl | exact Or.inr rfl))) (fun _ _ _ _ _ => pts_nil) (fun _ _ _ _ _ => (pe_op op_add_str (pe_op op_add_str (pv 6) (pe_ix ix_str pe_str (pv 8) (fun _ _ => rfl))) (pv 7)))))))))))))), ?_⟩
    refine ⟨_, rfl, _, _, rfl, rfl, by decide +kernel, by show 12 ≤ sizeLine; decide, fun wd hwd => ?_⟩
    obtain ⟨wa, wc⟩ := D.nw hwd
    have Dw := D.new (o := .lst [.str "turns", .str "items", .str "total", .str "plus", .str "less", .str "times", .str "minus", .str "worth", .str "signs", .str "rows", .str "none", .str "place"]) hwd
    have hw1 : (upd H wd (.lst [.str "turns", .str "items", .str "total", .str "plus", .str "less", .str "times", .str "minus", .str "worth", .str "signs", .str "rows", .str "none", .str "place"])) wd = some (.lst (List.map V.str ["turns", "items", "total", "plus", "less", "times", "minus", "worth", "signs", "rows", "none", "place"])) := upd_same
    refine gnm ?_
    refine gh (H1 := upd H wd _) (F := fun H2 => Sx [a, c] H H2 ∧ Dk H2 a c cs k ∧ H2 wd = some (.lst (List.map V.str ["turns", "items", "total", "plus", "less", "times", "minus", "worth", "signs", "rows", "none", "place"]))) ⟨(Sx.refl _).new hwd, Dw, hw1⟩ (fun H2 ⟨s2, D2, w2⟩ => ?_)
    clear Dw hw1
    refine ⟨_, rfl, a, c, cs, k, 60, rfl, D2, by decide, by decide, by omega, fun H3 cs3 r s3 D3 r0 r1 => ?_⟩
    refine ⟨_, rfl, by show 7 ≤ sizeLine; decide, fun l hl => ?_⟩
    obtain ⟨la, lc⟩ := D3.nw hl
    refine ⟨a, c, cs3, _, _, rfl, D3.new hl, by omega, .inl ⟨l, _, rfl, .inl (.inl upd_same), by simp, by show 7 ≤ 100000; decide, la, lc, fun H4 cs4 x s4 D4 hx => ?_⟩⟩
    obtain ⟨n, rfl, hn⟩ : ∃ n : Nat, x = .int (n : Int) ∧ n ≤ 7 := by
      simp only [List.not_mem_nil, List.mem_cons, or_false] at hx
      rcases hx with rfl | rfl | rfl | rfl | rfl | rfl | rfl
      · exact ⟨0, rfl, by decide⟩
      · exact ⟨1, rfl, by decide⟩
      · exact ⟨2, rfl, by decide⟩
      · exact ⟨3, rfl, by decide⟩
      · exact ⟨5, rfl, by decide⟩
      · exact ⟨6, rfl, by decide⟩
      · exact ⟨7, rfl, by decide⟩
    have s04 : Sx [a, c] H H4 := (s2.trans (s3.new hl)).trans s4
    have w4 : H4 wd = some (.lst (List.map V.str ["turns", "items", "total", "plus", "less", "times", "minus", "worth", "signs", "rows", "none", "place"])) := s4 _ _ (by simp [wa, wc]) ((Sx.refl (ex := []) _).new hl _ _ (by simp) (s3 _ _ (by simp [wa, wc]) w2))
    clear w2 s3 s4
    refine ⟨_, _, rfl, ?_⟩
    refine ⟨_, rfl, _, 10, rfl, rfl, _, rfl, ite2 (fun e => ?_) (fun e => ?_)⟩
    -- the usual words
    · refine ⟨by show 1 ≤ sizeLine; decide, fun g hg => ?_⟩
      obtain ⟨ga, gc⟩ := D4.nw hg
      refine ⟨_, rfl, _, rfl, r, rfl, _, rfl, _, 3, rfl, rfl, r + 3, rfl, wd, _, rfl, .inl (.inl ((Sx.refl (ex := []) _).new hg _ _ (by simp) w4)), fun u hu => ?_⟩
      have gu : g ≠ u := fun z => by rw [← z, upd_same] at hu; cases hu
      have hsub : ∃ ws : List Str, cutV (List.map V.str ["turns", "items", "total", "plus", "less", "times", "minus", "worth", "signs", "rows", "none", "place"]) (some r) (some (r + 3)) = ws.map V.str ∧ ws.length ≤ 12 ∧ ∀ z ∈ ws, NmOk z := by
        unfold cutV
        rw [← List.map_drop, ← List.map_take]
        refine ⟨_, rfl, ?_, fun z hz => ?_⟩
        · refine Nat.le_trans (List.length_take_le' _ _) ?_
          rw [List.length_drop]
          exact Nat.sub_le _ _
        · have hz' := List.mem_of_mem_drop (List.mem_of_mem_take hz)
          exact nmOk_of ((by decide +kernel : ∀ z ∈ (["turns", "items", "total", "plus", "less", "times", "minus", "worth", "signs", "rows", "none", "place"] : List Str), nmOkB z = true) z hz')
      obtain ⟨ws, ews, lws, hws⟩ := hsub
      refine ⟨g, u, _, _, rfl, rfl, by rw [upd_ne gu]; exact upd_same, by rw [upd_same, ews], by show 1 + (List.map V.str ws).length ≤ sizeLine; rw [List.length_map]; exact le_line (by omega), fun v hv => ?_⟩
      have hv1 : (upd H4 g (.lst [.str "n"])) v = none := by
        by_cases z : v = u
        · rw [z]; exact hu
        · rw [upd_ne z] at hv; exact hv
      have Dv := ((D4.new (o := .lst [.str "n"]) hg).new (o := .lst (ws.map V.str)) hu)
      rw [← ews] at Dv
      obtain ⟨va, vc⟩ := Dv.nw hv
      refine q _ cs4 _ v ("n" :: ws) (((s04.new hg).new hu).new hv) (Dv.new hv) (by omega) (by omega) ((((s04.new (o := .lst [.str "n"]) hg).new (o := .lst _) hu)).free (by simp [va, vc]) hv) va vc ⟨upd_same, by simp, by rw [List.length_cons]; omega, fun z hz => ?_⟩
      rcases List.mem_cons.1 hz with rfl | hz
      · exact nmOk_of (by decide +kernel)
      · exact hws z hz
    -- names of drawn signs
    · have hr0 : 0 ≤ r := r0
      -- ahead
      refine ⟨⟨_, rfl⟩, _, rfl, (n : Int), rfl, by omega, by omega, fun Z hZ => lc_range (lo := 0) (n := ((n : Nat) : Int).toNat) (fun i H' => Pz H4 a c (k + 1 + 1) Z "abcdefghijklmnopqrstuvwxyz" i H') (Pz.zero D4 hZ) (fun i H' hi p => ?_) (fun H' p => ?_)⟩
      · obtain ⟨p1, ⟨cs', D'⟩, _⟩ := id p
        refine ⟨rfl, _, rfl, _, rfl, a, c, cs', _, _, rfl, D', by omega, .inr ⟨_, rfl, by decide +kernel, by decide +kernel, fun H5 cs5 x s5 D5 hx => ?_⟩⟩
        exact p.step hZ D4 s5 D5 hx (by omega)
      · obtain ⟨p1, ⟨cs', D'⟩, ls, p3, p4, p5⟩ := p
        have p4' : ls.length = n := by omega
        refine ⟨_, Z, ls.map s1, rfl, rfl, .inl (.inl (.inl p3)), by rw [sum_s1, List.length_map]; show ls.length + ls.length * 0 ≤ 16777216; omega, ?_⟩
        have es := join_s1 ls
        have s5 := s04.trans p1
        have D5 : Dk H' a c cs' (k + 2 + n) := by
          have e : k + 1 + 1 + ((((n : Nat) : Int).toNat : Nat) : Int) = k + 2 + n := by omega
          rw [e] at D'
          exact D'
        clear p1 p3 D'
        -- behind
        refine ⟨⟨_, rfl⟩, _, rfl, _, rfl, 8, (n : Int), rfl, rfl, a, c, cs', _, _, rfl, D5, by omega, by omega, by omega, fun H6 cs6 y s6 D6 y0 y1 => ⟨y, rfl, by omega, by omega, fun Y hY => ?_⟩⟩
        refine lc_range (lo := 0) (n := y.toNat) (fun i H' => Pz H6 a c (k + 2 + n + 1) Y ("abcdefghijklmnopqrstuvwxyz" ++ "0123456789") i H') (Pz.zero D6 hY) (fun i H7 hi p => ?_) (fun H7 p => ?_)
        · obtain ⟨p1, ⟨cs', D'⟩, _⟩ := id p
          refine ⟨rfl, _, rfl, _, rfl, a, c, cs', _, _, rfl, D', by omega, .inr ⟨_, rfl, by decide +kernel, by decide +kernel, fun H8 cs8 x s8 D8 hx => ?_⟩⟩
          exact p.step hY D6 s8 D8 hx (by omega)
        · obtain ⟨q1, ⟨cs7, D7⟩, gs, q3, q4, q5⟩ := p
          refine ⟨_, Y, gs.map s1, rfl, rfl, .inl (.inl (.inl q3)), by rw [sum_s1, List.length_map]; show gs.length + gs.length * 0 ≤ 16777216; omega, ?_⟩
          have eg := join_s1 gs
          have s7 := (s5.trans s6).trans q1
          -- the list of names
          refine ⟨by show 1 ≤ sizeLine; decide, fun g hg => ⟨3, rfl, by decide, by decide, fun X hX => ?_⟩⟩
          have gX : g ≠ X := fun z => by rw [← z, upd_same] at hX; cases hX
          have D8 := (D7.new (o := .lst [.str "n"]) hg)
          obtain ⟨Xa, Xc⟩ := D8.nw hX
          have HX7 : H7 X = none := by rw [upd_ne gX.symm] at hX; exact hX
          have HX : H X = none := s7.free (by simp [Xa, Xc]) HX7
          refine lc_range (lo := 0) (n := (3 : Int).toNat) (fun i H' => Sx [a, c] H H' ∧ Dk H' a c cs7 (k + 2 + n + 1 + y.toNat) ∧ H' g = some (.lst [.str "n"]) ∧ ∃ ns : List Str, H' X = some (.lst (ns.map V.str)) ∧ ns.length = i ∧ ∀ z ∈ ns, NmOk z)
            ⟨(s7.new hg).new hX, D8.new hX, by rw [upd_ne gX]; exact upd_same, [], upd_same, rfl, fun _ z => by simp at z⟩ (fun i H' hi p => ?_) (fun H' p => ?_)
          · obtain ⟨u1, u2, u3, ns, u4, u5, u6⟩ := p
            have hi3 : i < 3 := hi
            obtain ⟨x, hx, hc⟩ : ∃ x : Nat, atI (Str.ofString "qvz").cps.toList ((0 : Int) + (i : Int)) = some x ∧ (x = 113 ∨ x = 118 ∨ x = 122) := by
              rcases (show i = 0 ∨ i = 1 ∨ i = 2 by omega) with rfl | rfl | rfl
              · exact ⟨113, by decide +kernel, .inl rfl⟩
              · exact ⟨118, by decide +kernel, .inr (.inl rfl)⟩
              · exact ⟨122, by decide +kernel, .inr (.inr rfl)⟩
            have hnm : NmOk (Txt.join (Str.ofString "") (ls.map s1) ++ s1 x ++ Txt.join (Str.ofString "") (gs.map s1)) := by
              rw [es, eg]
              exact nm_made (fun z hz => ab_az z (p5 z hz)) (fun z hz => ab_09 z (q5 z hz)) hc (by omega)
            have hle := hnm.hi
            have hle2 : (Txt.join (Str.ofString "") (ls.map s1) ++ s1 x).length ≤ 8 := by
              have : (Txt.join (Str.ofString "") (ls.map s1) ++ s1 x ++ Txt.join (Str.ofString "") (gs.map s1)).length = (Txt.join (Str.ofString "") (ls.map s1) ++ s1 x).length + (Txt.join (Str.ofString "") (gs.map s1)).length := Str.length_append _ _
              omega
            have e1 := Str.length_append (Txt.join (Str.ofString "") (ls.map s1)) (s1 x)
            have e2 := Str.length_append (Txt.join (Str.ofString "") (ls.map s1) ++ s1 x) (Txt.join (Str.ofString "") (gs.map s1))
            refine ⟨rfl, _, rfl, _, rfl, _, _, x, rfl, rfl, by decide +kernel, hx, _, _, rfl, rfl, le_line (by rw [← e1]; omega), _, rfl, _, _, rfl, rfl, le_line (by rw [← e2]; omega), _, u4, lt_line (by rw [List.length_map]; omega), ?_⟩
            have sX : Sx [X] H' (upd H' X (.lst (ns.map V.str ++ [.str (Txt.join (Str.ofString "") (ls.map s1) ++ s1 x ++ Txt.join (Str.ofString "") (gs.map s1))]))) := (Sx.refl (ex := [X]) _).put (by simp)
            refine ⟨u1.own HX, u2.sx sX (by simp [Xa.symm]) (by simp [Xc.symm]), by rw [upd_ne gX]; exact u3, ns ++ [Txt.join (Str.ofString "") (ls.map s1) ++ s1 x ++ Txt.join (Str.ofString "") (gs.map s1)], by rw [upd_same, List.map_append]; rfl, by rw [List.length_append, u5]; rfl, fun z hz => ?_⟩
            rcases List.mem_append.1 hz with h | h
            · exact u6 z h
            · rw [List.mem_singleton.mp h]; exact hnm
          · obtain ⟨u1, u2, u3, ns, u4, u5, u6⟩ := p
            have u5' : ns.length = 3 := u5
            refine ⟨g, X, _, _, rfl, rfl, u3, u4, by show 1 + (ns.map V.str).length ≤ sizeLine; rw [List.length_map]; exact le_line (by omega), fun v hv => ?_⟩
            obtain ⟨va, vc⟩ := u2.nw hv
            refine q _ cs7 _ v ("n" :: ns) (u1.new hv) (u2.new hv) (by omega) (by omega) (u1.free (by simp [va, vc]) hv) va vc ⟨upd_same, by simp, by rw [List.length_cons]; omega, fun z hz => ?_⟩
            rcases List.mem_cons.1 hz with rfl | hz
            · exact nmOk_of (by decide +kernel)
            · exact u6 z hz
end
/-! ### defs called where no repr is under way -/
/-- a def's promise where nothing guards the stack -/
structure FnG (P : Program) (w : World) (K : PySem.W.Frag) (mg : Str → Option Value) (base : Heap) (k : Nat) (f : Addr) (fd : FuncData) (ps : List Str) (sp : Sp) : Prop where
  len : ∀ (as : List V) (H : Hp) (Q : VK) (E : XK), sp as H Q E → as.length = ps.length
  go : ∀ (A : Around) (callers : List Env) (s : Shared) (H : Hp) (ar : Args) (us : List Value) (vs : List V) (Q : VK), Room k A → A.guards = some [] → Env0 P w K mg base A callers s H → BindsTo s fd ar (ps.zip us) → Vals vs us → sp vs H Q E0 →
    codeAny (model P w) A (.call (.ref f) ar) (CR CX0 callers P w H s Q E0) s
theorem FnG.of {P : Program} {w : World} {K : PySem.W.Frag} {mg : Str → Option Value} {base : Heap} {k : Nat} {f : Addr} {fd : FuncData} {ps : List Str} {sp : Sp} (F : FnOk P w K mg base CX0 k f fd ps sp) : FnG P w K mg base k f fd ps sp :=
  ⟨F.len, fun A o s H ar us vs Q hr _ e b r h => F.run A o s H ar us vs Q E0 hr e b r h⟩
theorem FnG.up {P : Program} {w : World} {K : PySem.W.Frag} {mg : Str → Option Value} {base : Heap} {j k : Nat} {f : Addr} {fd : FuncData} {ps : List Str} {sp : Sp} (F : FnG P w K mg base j f fd ps sp) (h : j ≤ k) : FnG P w K mg base k f fd ps sp :=
  ⟨F.len, fun A o s H ar us vs Q hr => F.go A o s H ar us vs Q (hr.mono h)⟩
theorem Fun.okG {P : Program} {w : World} {K : PySem.W.Frag} {mg : Str → Option Value} {base : Heap} {x qual : Str} {st : Stmt} {f : Addr} {fd : FuncData} {N ps : List Str} {k : Nat} {sp : Sp} (F : Fun K x qual st f fd) (S : FnScope N ps (defScope st))
    (len : ∀ (as : List V) (H : Hp) (Q : VK) (E : XK), sp as H Q E → as.length = ps.length)
    (hbody : ∀ (cdv : Value) (A : Around) (outer : List Env) (s : Shared) (H : Hp) (vs : List V) (Q : VK) (E : XK), Room k (A.deeper (envOfC qual (defScope st) s.heap.objs.size f cdv)) → A.guards = some [] → sp vs H Q E →
      ∃ t, PSs (cxOf CX0 P w K mg base N qual (defScope st) f cdv A outer s H E).nox (defBody st) t ∧ t { nx := fun _ H' => Q .non H', rt := Q } (start N vs) H) : FnG P w K mg base (k + 1) f fd ps sp := by
  rcases F.ex with ⟨oc, od, kV, doc, pm, an, cdv, ct, osl, rfl, lk, hcd⟩
  refine ⟨len, fun A callers s H ar us vs Q hr hg e0 hb rv hsp => ?_⟩
  have inK : K.In s.heap := e0.mod.kin.keeps fun b o e => (e0.bs b o e).1
  have knd : ∀ y ∈ ps.zip us, (defScope st).names.lookup y.1 = some .local ∨ ((defScope st).names.lookup y.1 = some .cell ∧ ((cellsFrom (s.heap.objs.size + 1) (defScope st).names []).lookup y.1).isSome = true) := by
    rintro ⟨n, v⟩ hy
    exact (S.par n (List.of_mem_zip hy).1).imp id fun q => ⟨q, PySem.W.cellsFrom_some _ _ _ (.inl q)⟩
  refine codeAny_call_function hr.depth (inK _ _ lk) rfl S.co S.gen rfl (PySem.W.codeRec_of inK hcd) (hb _ _ _ _ (wpAny_newFunctionEnv_cells S.kind knd fun env he s1 x => ?_))
  subst he
  refine ⟨(e0.mod.nolimit.keeps fun b o e => (e0.bs b o e).1).keeps x.toInCall.keep, codeAny_func ?_⟩
  obtain ⟨t, ht, hq⟩ := hbody cdv A callers s H vs Q E0 (hr.deeper _) hg hsp
  have I0 := inv_start (CX := CX0) (E := E0) S hr.hd e0 (len _ _ _ _ hsp) rv x
  refine wpAny_mono (ht.nox.run [] s1 (start N vs) H _ I0 hq) (fun fl s' hs => ?_) fun e s' hs => hs
  cases fl with
  | ret u =>
    obtain ⟨v, σ', H', J, r1, q1⟩ := hs
    exact ⟨v, H', J.os, J.bare, J.base, J.hok, r1, q1⟩
  | next =>
    obtain ⟨σ', H', J, q1⟩ := hs
    exact ⟨.non, H', J.os, J.bare, J.base, J.hok, rfl, q1⟩
  | brk => exact absurd hs (by rintro ⟨_, _, _, q1⟩; exact q1)
  | cont => exact absurd hs (by rintro ⟨_, _, _, q1⟩; exact q1)
theorem pe_callG {X : Cx} {x : Str} {p pos : Pos} {e : Expr} {es : List Expr} {t : TA} {k : Nat} {f : Addr} {fd : FuncData} {ps : List Str} {sp : Sp} {ds : List Value} {dvs : List V} (F : FnG X.prog X.w X.K X.mg X.base k f fd ps sp) (hr : Room k X.A) (hgd : X.A.guards = some []) (hg : Gl X x) (hm : X.mg x = some (.ref f)) (hk : PySem.W.keepIn X.K (.ref f) = true)
    (hb : Binds X.K fd ps ds) (hd : Vals dvs ds) (ha : PA X (e :: es) t) (hdb : (x == ("__debug__" : Str)) = false := by decide) (he : starEach (e :: es) X.env = (false, eval e X.env) :: starEach es X.env := by rfl) (hpl : (backTo pos (starEach es X.env)).any (·.1) = false := by rfl) :
    PE X (Expr.Call (.Name x p) (e :: es) [] pos) (tCall sp dvs E0 t) := by
  refine ⟨fun pins s σ H Q I h => wpAny_Call_Name_kw (ld_glob I hg hm ?_ hdb)⟩
  refine PySem.W.callWith_K (h₀ := X.base) I.ok.mod.kin hk (thn (ha.run pos pins s σ H _ I h) fun us s1 ⟨vs, H1, I1, r, q⟩ => And.intro I1.kIn ?_) he hpl
  have rr : Vals (vs ++ dvs) (us ++ ds) := r.append hd
  have ll : (us ++ ds).length = ps.length := rr.length.symm.trans (F.len _ _ _ _ q)
  refine wpAny_call (codeAny_mono (F.go X.A X.stack s1 H1 ⟨us, []⟩ (us ++ ds) (vs ++ dvs) Q hr hgd I1.env0 (hb s1 us I1.kIn ll) rr q) fun rs s' hq => ?_)
  match rs, hq with
  | .ok (.ret u), hq => exact I1.after hq
/-! ### repr of data -/
/-- repr(x), x a list or a tuple of data -/
def rRepr (K : PySem.W.Frag) : List V → Hp → VK → Prop := fun xs H Q => ∃ x d, xs = [x] ∧ Dp K H x d ∧ d.showable = true ∧ d.hasDict = false ∧ d.depth ≤ 60 ∧ d.shown.length ≤ 16777216 ∧ (∀ z, d ≠ .str z) ∧ (∀ b, d ≠ .bool b) ∧ d ≠ .none ∧ Q (.str d.shown) H
theorem call_reprD {X : Cx} (hgd : X.A.guards = some []) (hu : X.A.units + 64 < cLine) : CallR X (.builtin "repr") (rRepr X.K) := by
  intro pins s σ H xs us Q I r h0; have h := h0
  obtain ⟨x, d, rfl, hd, hs, hnd, hdp, hz, n1, n2, n3, q⟩ := h
  rcases vals1 r with ⟨u, rfl, rx⟩
  have fin : ∀ {as : List Addr} {a : Addr}, Reads s.heap (.ref a) d as → wpAny (model X.prog X.w) X.A (call (.builtin "repr") [.ref a]) (EP X pins σ Q) X.xe s := fun {as a} rd =>
    repr_of_reads' rd hs (fun h => by rw [hnd] at h; cases h) hgd (by omega) (fun _ _ e => e) (fun h' u' tk hk => ⟨.str d.shown, H, I.kept hk, ⟨u', rfl⟩, q⟩) hz
  obtain ⟨as, rd⟩ := Dp.reads I d x u hd rx
  cases hd with
  | non => exact absurd rfl n3
  | bl b => exact absurd rfl (n2 b)
  | int i =>
    obtain ⟨t, rfl⟩ := rx
    have hi : i.natAbs.log2 < 1920 := by
      have : (PyData.int i).showable = true := hs
      simpa only [PyData.showable, decide_eq_true_eq] using this
    have e : (PyData.int i).shown = (toString i : String) := by simp only [PyData.shown]
    rw [e] at q
    exact PySem.P.repr_of_int hi ⟨.str _, H, I.tok _, ⟨_, rfl⟩, q⟩
  | str z => exact absurd rfl (n1 z)
  | lst hq ha => cases rx; exact fin rd
  | tup hq ha => cases rx; exact fin rd
/-! ### the law's end -/
/-- the script, as the heap tells it -/
theorem script_hp {P : Program} {w : World} {K : PySem.W.Frag} {s : Shared} {a : Addr} {vs : List Value} {ns : List Int} (KX : K.In s.heap) (ha : s.heap.get? a = some { cls := .type "list", data := .seq vs.toArray }) (hi : IntsAre vs ns) (hl : ns.length ≤ sizeLine) :
    ∃ H : Hp, Only H ∧ SqL K H a (ns.map V.int) ∧ HOk P w H s.heap ∧ (∀ b, H b ≠ none → b = a) ∧ (H a ≠ none → K.lookup a = none) := by
  have rv := vals_ints hi
  cases e : K.lookup a with
  | some o =>
    have h := KX a o e
    rw [ha] at h
    cases h
    refine ⟨fun _ => none, fun _ => .inl rfl, .inr ⟨_, vs.toArray, _, e, rfl, rfl, rfl, by rw [List.size_toArray, hi.length]; exact hl, by simpa using rv⟩, fun b u z => (by cases z), fun b z => absurd rfl z, fun z => absurd rfl z⟩
  | none =>
    have at_a : (fun b : Addr => if b = a then some (HO.frz { cls := .type "list", data := .seq vs.toArray } (.lst (ns.map V.int))) else none) a = some (HO.frz { cls := .type "list", data := .seq vs.toArray } (.lst (ns.map V.int))) := if_pos rfl
    refine ⟨fun b => if b = a then some (.frz { cls := .type "list", data := .seq vs.toArray } (.lst (ns.map V.int))) else none, fun b => ?_, .inl (.inr ⟨_, at_a⟩), fun b u z => ?_, fun b z => ?_, fun _ => rfl⟩
    · by_cases h : b = a
      · exact .inr ⟨_, _, if_pos h⟩
      · exact .inl (if_neg h)
    · by_cases h : b = a
      · have z2 := (if_pos h).symm.trans z
        cases z2
        subst h
        exact ⟨ha, by simpa using hl, vs, _, rv, ha⟩
      · have z2 := (if_neg h).symm.trans z
        cases z2
    · by_cases h : b = a
      · exact h
      · exact absurd (if_neg h) z
theorem law_callG {P : Program} {w : World} {K : PySem.W.Frag} {mg mb : Str → Option Value} {k : Nat} {fa a : Addr} {fd : FuncData} {x : Str} {sp : Sp} {s : Shared} {vs : List Value} {ns : List Int}
    (KX : K.In s.heap) (h1 : s.heap.Ns mainGlobals mg) (h2 : s.heap.Ns builtinsNs mb) (h3 : ∀ x : Str, x ≠ "__name__" → mb x = bootBuiltins x) (h4 : s.heap.NoLimit) (h5 : s.gens = #[])
    (ha : s.heap.get? a = some { cls := .type "list", data := .seq vs.toArray }) (hi : IntsAre vs ns) (hl : ns.length ≤ sizeLine) (hr : Room k callerA)
    (F : ∀ base : Heap, K.In base → base.Ns mainGlobals mg → FnG P w K mg base k fa fd [x] sp) (hb : ∀ (s : Shared) (u : Value), BindsTo s fd ⟨[u], []⟩ [(x, u)])
    (hsp : ∀ H : Hp, Only H → SqL K H a (ns.map V.int) → sp [.ref a] H (fun v _ => v = .bl true) E0) :
    codeAny (model P w) callerA (.call (.ref fa) ⟨[.ref a], []⟩) (fun r s' => r = .ok (.ret (.bool true)) ∧ OldK s.heap s'.heap ∧ s'.os = s.os ∧ AllBare s'.gens) s := by
  obtain ⟨H, hO, hS, hok, hA, hK⟩ := script_hp (P := P) (w := w) KX ha hi hl
  have only_a : ∀ {b : Addr} {u : HO}, H b = some u → b = a := fun e => hA _ (by rw [e]; simp)
  have unseen : ∀ {b : Addr} {o : Obj} {es : Array DictEntry} {ep : Nat}, s.heap.get? b = some o → o.data = .dict es ep → H b = none := fun {b o es ep} e d => by
    cases q : H b with
    | none => rfl
    | some u =>
      have z := only_a q
      subst z
      rw [ha] at e
      cases e
      cases d
  have ns_of : ∀ {b : Addr} {m : Str → Option Value}, s.heap.Ns b m → (hidT s.heap H).Ns b m := fun {b m} ⟨o, es, ep, e, d, r⟩ => ⟨o, es, ep, hidT_get e (unseen e d), d, r⟩
  have inB : K.In (hidT s.heap H) := fun b o e => hidT_get (KX b o e) (by
    cases q : H b with
    | none => rfl
    | some u =>
      have z := only_a q
      subst z
      rw [hK (by simp [q])] at e
      cases e)
  have md : Mod K mg (hidT s.heap H) := ⟨inB, ns_of h1, ⟨mb, ns_of h2, h3⟩, let ⟨mc, y1, y2⟩ := h4; ⟨mc, ns_of y1, y2⟩⟩
  have e0 : Env0 P w K mg (hidT s.heap H) callerA [] s H := ⟨rfl, md, fun b o e => of_hidT e, Nat.le_of_eq (hidT_size _ _), trivial, fun b hb => absurd (show b ∈ ([] : List Addr) from hb) (by simp), hok, .of_eq h5⟩
  refine codeAny_mono ((F _ inB (ns_of h1)).go callerA [] s H ⟨[.ref a], []⟩ [.ref a] [.ref a] _ hr rfl e0 (hb s (.ref a)) (.cons rfl .nil) (hsp H hO hS)) fun r s' h => ?_
  match r, h with
  | .ok (.ret u), h =>
    rcases h with ⟨v, H', os, bare, un, hok', r', q⟩
    have q' : v = .bl true := q
    subst q'
    have eu : u = Value.bool true := r'; subst eu
    refine ⟨rfl, .of_keep fun b o e => ?_, os, bare⟩
    cases q2 : H b with
    | none => exact un.keep b o e q2 (fun z => absurd (show b ∈ ([] : List Addr) from z) (by simp)) (by simp)
    | some u =>
      obtain z | ⟨ob, xs, z⟩ := hO b
      · rw [q2] at z; cases z
      · obtain ⟨e1, _⟩ := hok b _ z
        obtain ⟨e2, _⟩ := hok' b _ (un.frzs b ob _ z)
        rw [e] at e1
        cases e1
        exact e2
/-! ### programs, typed -/
inductive Ex where
  | int (i : Int)
  | name (z : Str)
  | plus (x y : Ex)
  | minus (x y : Ex)
  | times (f : Int) (x : Ex)
namespace Ex
def d : Ex → PyData
  | .int i => .int i
  | .name z => .str z
  | .plus x y => .tuple [.str "plus", x.d, y.d]
  | .minus x y => .tuple [.str "minus", x.d, y.d]
  | .times f x => .tuple [.str "times", .int f, x.d]
def ok (ns : List Str) : Ex → Nat → Prop
  | .int i, n => 1 ≤ n ∧ -99 ≤ i ∧ i ≤ 99
  | .name z, n => 1 ≤ n ∧ z ∈ ns
  | .plus x y, n => 1 ≤ n ∧ ok ns x (n - 1) ∧ ok ns y (n - 1)
  | .minus x y, n => 1 ≤ n ∧ ok ns x (n - 1) ∧ ok ns y (n - 1)
  | .times f x, n => 1 ≤ n ∧ -9 ≤ f ∧ f ≤ 9 ∧ ok ns x (n - 1)
def ev (ρ : Str → Int) : Ex → Int
  | .int i => i
  | .name z => ρ z
  | .plus x y => x.ev ρ + y.ev ρ
  | .minus x y => x.ev ρ - y.ev ρ
  | .times f x => f * x.ev ρ
theorem of {ns : List Str} {n : Nat} {e : PyData} (h : ExD ns n e) : ∃ x : Ex, x.d = e ∧ x.ok ns n := by
  induction h with
  | int i a b => exact ⟨.int i, rfl, by omega, a, b⟩
  | name z a => exact ⟨.name z, rfl, by omega, a⟩
  | plus _ _ a b => obtain ⟨x, rfl, hx⟩ := a; obtain ⟨y, rfl, hy⟩ := b; exact ⟨.plus x y, rfl, by omega, hx, hy⟩
  | minus _ _ a b => obtain ⟨x, rfl, hx⟩ := a; obtain ⟨y, rfl, hy⟩ := b; exact ⟨.minus x y, rfl, by omega, hx, hy⟩
  | times f a b _ c => obtain ⟨x, rfl, hx⟩ := c; exact ⟨.times f x, rfl, by omega, a, b, hx⟩
/-- no name has a value above B, so no expression has one above 9 ^ n times that -/
theorem ev_le {ns : List Str} {ρ : Str → Int} {B : Int} (hB : 99 ≤ B) (h : ∀ z, -B ≤ ρ z ∧ ρ z ≤ B) : ∀ (x : Ex) (n : Nat), x.ok ns n → -((9 : Int) ^ n * B) ≤ x.ev ρ * 9 ∧ x.ev ρ * 9 ≤ (9 : Int) ^ n * B
  | .int i, n, ⟨h1, h2, h3⟩ => by
    obtain ⟨m, rfl⟩ : ∃ m : Nat, n = m + 1 := ⟨n - 1, by omega⟩
    have p : (1 : Int) ≤ 9 ^ m := Int.pow_pos (by decide)
    have q : B ≤ 9 ^ m * B := by have := Int.mul_le_mul_of_nonneg_right p (show 0 ≤ B by omega); omega
    have e : (9 : Int) ^ (m + 1) * B = 9 * (9 ^ m * B) := by rw [Int.pow_succ, Int.mul_comm (9 ^ m) 9, Int.mul_assoc]
    rw [e]
    show -_ ≤ i * 9 ∧ i * 9 ≤ _
    omega
  | .name z, n, ⟨h1, h2⟩ => by
    obtain ⟨m, rfl⟩ : ∃ m : Nat, n = m + 1 := ⟨n - 1, by omega⟩
    have p : (1 : Int) ≤ 9 ^ m := Int.pow_pos (by decide)
    have q : B ≤ 9 ^ m * B := by have := Int.mul_le_mul_of_nonneg_right p (show 0 ≤ B by omega); omega
    have e : (9 : Int) ^ (m + 1) * B = 9 * (9 ^ m * B) := by rw [Int.pow_succ, Int.mul_comm (9 ^ m) 9, Int.mul_assoc]
    rw [e]
    have := h z
    show -_ ≤ ρ z * 9 ∧ ρ z * 9 ≤ _
    omega
  | .plus x y, n, ⟨h1, h2, h3⟩ => by
    obtain ⟨m, rfl⟩ : ∃ m : Nat, n = m + 1 := ⟨n - 1, by omega⟩
    have a := ev_le hB h x m h2
    have b := ev_le hB h y m h3
    have e : (9 : Int) ^ (m + 1) * B = 9 * (9 ^ m * B) := by rw [Int.pow_succ, Int.mul_comm (9 ^ m) 9, Int.mul_assoc]
    rw [e]
    show -_ ≤ (x.ev ρ + y.ev ρ) * 9 ∧ (x.ev ρ + y.ev ρ) * 9 ≤ _
    omega
  | .minus x y, n, ⟨h1, h2, h3⟩ => by
    obtain ⟨m, rfl⟩ : ∃ m : Nat, n = m + 1 := ⟨n - 1, by omega⟩
    have a := ev_le hB h x m h2
    have b := ev_le hB h y m h3
    have e : (9 : Int) ^ (m + 1) * B = 9 * (9 ^ m * B) := by rw [Int.pow_succ, Int.mul_comm (9 ^ m) 9, Int.mul_assoc]
    rw [e]
    show -_ ≤ (x.ev ρ - y.ev ρ) * 9 ∧ (x.ev ρ - y.ev ρ) * 9 ≤ _
    omega
  | .times f x, n, ⟨h1, h2, h3, h4⟩ => by
    obtain ⟨m, rfl⟩ : ∃ m : Nat, n = m + 1 := ⟨n - 1, by omega⟩
    have a := ev_le hB h x m h4
    have e : (9 : Int) ^ (m + 1) * B = 9 * (9 ^ m * B) := by rw [Int.pow_succ, Int.mul_comm (9 ^ m) 9, Int.mul_assoc]
    rw [e]
    show -_ ≤ f * x.ev ρ * 9 ∧ f * x.ev ρ * 9 ≤ _
    have c : ∀ v C : Int, -C ≤ v * 9 → v * 9 ≤ C → -(9 * C) ≤ f * v * 9 ∧ f * v * 9 ≤ 9 * C := fun v C u1 u2 => by
      rcases (show f = -9 ∨ f = -8 ∨ f = -7 ∨ f = -6 ∨ f = -5 ∨ f = -4 ∨ f = -3 ∨ f = -2 ∨ f = -1 ∨ f = 0 ∨ f = 1 ∨ f = 2 ∨ f = 3 ∨ f = 4 ∨ f = 5 ∨ f = 6 ∨ f = 7 ∨ f = 8 ∨ f = 9 by omega) with
        rfl | rfl | rfl | rfl | rfl | rfl | rfl | rfl | rfl | rfl | rfl | rfl | rfl | rfl | rfl | rfl | rfl | rfl | rfl <;> omega
    exact c _ _ a.1 a.2
end Ex
inductive Ts where
  | rest (x : Ex) (b r : Int)
  | less (x y : Ex)
  | not (t : Ts)
namespace Ts
def d : Ts → PyData
  | .rest x b r => .tuple [.str "rest", x.d, .int b, .int r]
  | .less x y => .tuple [.str "less", x.d, y.d]
  | .not t => .tuple [.str "not", t.d]
def ok (ns : List Str) : Ts → Nat → Prop
  | .rest x b r, _ => x.ok ns 3 ∧ 2 ≤ b ∧ b ≤ 6 ∧ 0 ≤ r ∧ r < b
  | .less x y, _ => x.ok ns 3 ∧ y.ok ns 3
  | .not t, n => 1 ≤ n ∧ ok ns t (n - 1)
def ev (ρ : Str → Int) : Ts → Bool
  | .rest x b r => decide ((x.ev ρ - r) % b = 0)
  | .less x y => decide (x.ev ρ < y.ev ρ)
  | .not t => !t.ev ρ
/-- of a rest -/
def isR : Ts → Bool
  | .rest _ _ _ => true
  | .less _ _ => false
  | .not t => t.isR
theorem of {ns : List Str} {n : Nat} {b : Bool} {e : PyData} (h : TsD ns n b e) : ∃ x : Ts, x.d = e ∧ x.ok ns n ∧ x.isR = b := by
  induction h with
  | rest b r a h1 h2 h3 h4 => obtain ⟨x, rfl, hx⟩ := Ex.of a; exact ⟨.rest x b r, rfl, ⟨hx, h1, h2, h3, h4⟩, rfl⟩
  | less a b => obtain ⟨x, rfl, hx⟩ := Ex.of a; obtain ⟨y, rfl, hy⟩ := Ex.of b; exact ⟨.less x y, rfl, ⟨hx, hy⟩, rfl⟩
  | not _ ih => obtain ⟨x, rfl, hx, hr⟩ := ih; exact ⟨.not x, rfl, ⟨by omega, hx⟩, hr⟩
end Ts
mutual
inductive St where
  | set (z : Str) (e : Ex)
  | pay (e : Ex)
  | stop
  | ite (t : Ts) (y n : Bk)
  | rep (k : Int) (y : Bk)
inductive Bk where
  | nil
  | cons (s : St) (b : Bk)
end
mutual
def St.d : St → PyData
  | .set z e => .tuple [.str "set", .str z, e.d]
  | .pay e => .tuple [.str "pay", e.d]
  | .stop => .tuple [.str "stop"]
  | .ite t y n => .tuple [.str "if", t.d, .tuple y.ds, .tuple n.ds]
  | .rep k y => .tuple [.str "repeat", .int k, .tuple y.ds]
def Bk.ds : Bk → List PyData
  | .nil => []
  | .cons s b => s.d :: b.ds
end
mutual
def St.ok (ns : List Str) : St → Nat → Prop
  | .set z e, _ => z ∈ ns ∧ e.ok ns 3
  | .pay e, _ => e.ok ns 3
  | .stop, _ => True
  | .ite t y n, d => t.ok ns 2 ∧ Bk.ok ns y d ∧ Bk.ok ns n d
  | .rep k y, d => 1 ≤ k ∧ k ≤ 8 ∧ Bk.ok ns y d
def Bk.ok (ns : List Str) : Bk → Nat → Prop
  | .nil, _ => True
  | .cons s b, d => 1 ≤ d ∧ St.ok ns s (d - 1) ∧ Bk.ok ns b d
end
mutual
/-- places -/
def St.sz : St → Nat
  | .set _ _ => 1
  | .pay _ => 1
  | .stop => 1
  | .ite _ y n => 1 + y.sz + n.sz
  | .rep _ y => 1 + y.sz
def Bk.sz : Bk → Nat
  | .nil => 0
  | .cons s b => s.sz + b.sz
end
mutual
def St.wt : St → Nat
  | .set _ _ => 1
  | .pay _ => 1
  | .stop => 1
  | .ite _ y n => 1 + y.wt + n.wt
  | .rep k y => 1 + k.toNat * y.wt
def Bk.wt : Bk → Nat
  | .nil => 0
  | .cons s b => s.wt + b.wt
end
mutual
/-- rests (true), comparings (false) -/
def St.tn (q : Bool) : St → Nat
  | .set _ _ => 0
  | .pay _ => 0
  | .stop => 0
  | .ite t y n => (if t.isR = q then 1 else 0) + y.tn q + n.tn q
  | .rep k y => k.toNat * y.tn q
def Bk.tn (q : Bool) : Bk → Nat
  | .nil => 0
  | .cons s b => s.tn q + b.tn q
end
mutual
theorem St.of {ns : List Str} : ∀ {d : Nat} {n w r c : Int} {e : PyData}, StD ns d n w r c e → ∃ s : St, s.d = e ∧ s.ok ns d ∧ (s.sz : Int) = n ∧ (s.wt : Int) = w ∧ (s.tn true : Int) = r ∧ (s.tn false : Int) = c
  | _, _, _, _, _, _, .set z hz hx => by
    obtain ⟨x, rfl, h⟩ := Ex.of hx
    exact ⟨.set z x, rfl, ⟨hz, h⟩, rfl, rfl, rfl, rfl⟩
  | _, _, _, _, _, _, .pay hx => by
    obtain ⟨x, rfl, h⟩ := Ex.of hx
    exact ⟨.pay x, rfl, h, rfl, rfl, rfl, rfl⟩
  | _, _, _, _, _, _, .stop => ⟨.stop, rfl, trivial, rfl, rfl, rfl, rfl⟩
  | _, _, _, _, _, _, .ite (b := b) ht hy hz => by
    obtain ⟨t, rfl, h, hb⟩ := Ts.of ht
    obtain ⟨y, hyd, y1, y2, y3, y4, y5⟩ := Bk.of hy
    obtain ⟨z, hzd, z1, z2, z3, z4, z5⟩ := Bk.of hz
    refine ⟨.ite t y z, by rw [St.d, hyd, hzd], ⟨h, y1, z1⟩, ?_, ?_, ?_, ?_⟩
    · simp only [St.sz]; omega
    · simp only [St.wt]; omega
    · simp only [St.tn, hb]; cases b <;> simp [bI] <;> omega
    · simp only [St.tn, hb]; cases b <;> simp [bI] <;> omega
  | _, _, _, _, _, _, .rep k h1 h2 hy => by
    obtain ⟨y, hyd, y1, y2, y3, y4, y5⟩ := Bk.of hy
    refine ⟨.rep k y, by rw [St.d, hyd], ⟨h1, h2, y1⟩, ?_, ?_, ?_, ?_⟩
    · simp only [St.sz]; omega
    · simp only [St.wt]; rw [← y3, Int.natCast_add, Int.natCast_mul, Int.toNat_of_nonneg (by omega)]; rfl
    · simp only [St.tn]; rw [← y4, Int.natCast_mul, Int.toNat_of_nonneg (by omega)]
    · simp only [St.tn]; rw [← y5, Int.natCast_mul, Int.toNat_of_nonneg (by omega)]
theorem Bk.of {ns : List Str} : ∀ {d : Nat} {n w r c : Int} {es : List PyData}, BkD ns d n w r c es → ∃ b : Bk, b.ds = es ∧ b.ok ns d ∧ (b.sz : Int) = n ∧ (b.wt : Int) = w ∧ (b.tn true : Int) = r ∧ (b.tn false : Int) = c
  | _, _, _, _, _, _, .nil => ⟨.nil, rfl, trivial, rfl, rfl, rfl, rfl⟩
  | _, _, _, _, _, _, .cons h hs => by
    obtain ⟨s, hsd, s1, s2, s3, s4, s5⟩ := St.of h
    obtain ⟨b, hbd, b1, b2, b3, b4, b5⟩ := Bk.of hs
    refine ⟨.cons s b, by rw [Bk.ds, hsd, hbd], ⟨by omega, s1, b1⟩, ?_, ?_, ?_, ?_⟩
    · simp only [Bk.sz]; omega
    · simp only [Bk.wt]; omega
    · simp only [Bk.tn]; omega
    · simp only [Bk.tn]; omega
end
/-! ### runs -/
structure Wd where
  en : Str → Int
  tot : Int
  pl : List Int
/-- so often, until it stops -/
def itr (f : Wd → Wd × Bool) : Nat → Wd → Wd × Bool
  | 0, w => (w, false)
  | n + 1, w => if (f w).2 = true then f w else itr f n (f w).1
mutual
def St.run : St → Int → Wd → Wd × Bool
  | .set z e, p, w => (⟨fun y => if y = z then e.ev w.en else w.en y, w.tot, w.pl ++ [p]⟩, false)
  | .pay e, p, w => (⟨w.en, w.tot + e.ev w.en, w.pl ++ [p]⟩, false)
  | .stop, p, w => (⟨w.en, w.tot, w.pl ++ [p]⟩, true)
  | .ite t y n, p, w => if t.ev w.en = true then y.run (p + 1) ⟨w.en, w.tot, w.pl ++ [p]⟩ else n.run (p + 1 + y.sz) ⟨w.en, w.tot, w.pl ++ [p]⟩
  | .rep k y, p, w => itr (y.run (p + 1)) k.toNat ⟨w.en, w.tot, w.pl ++ [p]⟩
def Bk.run : Bk → Int → Wd → Wd × Bool
  | .nil, _, w => (w, false)
  | .cons s b, p, w => if (s.run p w).2 = true then s.run p w else b.run (p + s.sz) (s.run p w).1
end
abbrev sValue : Stmt := topS 67
abbrev nValue : List Str := ["_law_expression_here", "_law_names_here", "_law_second", "_law_first"]
theorem scValue : FnScope nValue ["_law_expression_here", "_law_names_here"] (defScope sValue) := ⟨rfl, rfl, rfl, by decide +kernel, rfl, by decide +kernel, by decide +kernel⟩
abbrev sTrue : Stmt := topS 68
abbrev nTrue : List Str := ["_law_test_here", "_law_names_here"]
theorem scTrue : FnScope nTrue ["_law_test_here", "_law_names_here"] (defScope sTrue) := ⟨rfl, rfl, rfl, by decide +kernel, rfl, by decide +kernel, by decide +kernel⟩
/-- the names' values, in a dict -/
def En (H : Hp) (N : Addr) (ρ : Str → Int) : Prop := ∃ kvs : List (Key × V), H N = some (.dK kvs) ∧ ∀ z, (valV kvs (.inr z)).getD (.int 0) = .int (ρ z)
def spValue (ns : List Str) (d : Nat) : Sp := fun vs H Q _ => ∃ (v : V) (N : Addr) (e : Ex) (ρ : Str → Int), vs = [v, .ref N] ∧ Tp H v e.d ∧ e.ok ns d ∧ En H N ρ ∧ Q (.int (e.ev ρ)) H
theorem tp3 {H : Hp} {v : V} {x y z : PyData} (h : Tp H v (.tuple [x, y, z])) : ∃ a p q r, v = .ref a ∧ H a = some (.tup [p, q, r]) ∧ Tp H p x ∧ Tp H q y ∧ Tp H r z := by
  obtain ⟨a, xs, rfl, ha, hx⟩ := h.tuple
  cases hx with | cons h1 hx => cases hx with | cons h2 hx => cases hx with | cons h3 hx => cases hx with | nil => exact ⟨a, _, _, _, rfl, ha, h1, h2, h3⟩
theorem tp2 {H : Hp} {v : V} {x y : PyData} (h : Tp H v (.tuple [x, y])) : ∃ a p q, v = .ref a ∧ H a = some (.tup [p, q]) ∧ Tp H p x ∧ Tp H q y := by
  obtain ⟨a, xs, rfl, ha, hx⟩ := h.tuple
  cases hx with | cons h1 hx => cases hx with | cons h2 hx => cases hx with | nil => exact ⟨a, _, _, rfl, ha, h1, h2⟩
theorem tp1 {H : Hp} {v : V} {x : PyData} (h : Tp H v (.tuple [x])) : ∃ a p, v = .ref a ∧ H a = some (.tup [p]) ∧ Tp H p x := by
  obtain ⟨a, xs, rfl, ha, hx⟩ := h.tuple
  cases hx with | cons h1 hx => cases hx with | nil => exact ⟨a, _, rfl, ha, h1⟩
theorem tp4 {H : Hp} {v : V} {x y z u : PyData} (h : Tp H v (.tuple [x, y, z, u])) : ∃ a p q r s, v = .ref a ∧ H a = some (.tup [p, q, r, s]) ∧ Tp H p x ∧ Tp H q y ∧ Tp H r z ∧ Tp H s u := by
  obtain ⟨a, xs, rfl, ha, hx⟩ := h.tuple
  cases hx with | cons h1 hx => cases hx with | cons h2 hx => cases hx with | cons h3 hx => cases hx with | cons h4 hx => cases hx with | nil => exact ⟨a, _, _, _, _, rfl, ha, h1, h2, h3, h4⟩
theorem tpI {H : Hp} {v : V} {i : Int} (h : Tp H v (.int i)) : v = .int i := by cases h; rfl
theorem tpS {H : Hp} {v : V} {z : Str} (h : Tp H v (.str z)) : v = .str z := by cases h; rfl
theorem iteP {c A B : Prop} [Decidable c] (hc : c) (h : A) : if c then A else B := by rw [if_pos hc]; exact h
theorem iteN {c A B : Prop} [Decidable c] (hc : ¬ c) (h : B) : if c then A else B := by rw [if_neg hc]; exact h
section
variable {w : World} {P : Program} {K : PySem.W.Frag} {mg : Str → Option Value} {base : Heap}
theorem ok_value {f : Addr} {fd : FuncData} {ns : List Str} (F_value : Fun K "_law_value" "_law_value" sValue f fd) (b_value : Binds K fd ["_law_expression_here", "_law_names_here"] []) (m_value : mg "_law_value" = some (.ref f))
    (z_isinstance : mg "isinstance" = none) (z_int : mg "int" = none) (z_str : mg "str" = none) :
    ∀ d : Nat, FnOk P w K mg base CX0 (d + 1) f fd ["_law_expression_here", "_law_names_here"] (spValue ns d) := by
  intro d
  induction d with
  | zero => exact ⟨fun vs H Q E h => by obtain ⟨_, _, _, _, rfl, _⟩ := h; rfl, fun _ _ _ _ _ _ _ _ _ _ _ _ _ h => by
      obtain ⟨_, _, e, _, _, _, h, _⟩ := h
      cases e <;> exact absurd h.1 (by decide)⟩
  | succ d G_value =>
    refine F_value.ok scValue (fun vs H Q E h => ?_) (fun cdv A outer s H vs Q E hr h => ?_)
    · obtain ⟨_, _, _, _, rfl, _⟩ := h
      rfl
    · obtain ⟨v, N, e, ρ, rfl, t, ho, ⟨kvs, hN, hv⟩, q⟩ := h
      refine ⟨_, (pss_cons (ps_if (pt_val (pe_callB call_isi (by rfl) z_isinstance (by decide +kernel) (pa_cons (pv 0) (pa_cons (pe_bltn (v := .ty "int") (by rfl) z_int (by decide +kernel) rfl) pa_nil)))) (pss_one (ps_ret (pv 0))) pss_nil)
      (pss_cons (ps_if (pt_val (pe_callB call_isi (by rfl) z_isinstance (by decide +kernel) (pa_cons (pv 0) (pa_cons (pe_bltn (v := .ty "str") (by rfl) z_str (by decide +kernel) rfl) pa_nil)))) (pss_one (ps_ret (pe_dget2 (hu_of hr) (pv 1) (pv 0) pe_int ⟨rfl, rfl, rfl, rfl⟩))) pss_nil)
      (pss_cons (ps_set (i := 2) scValue.nd rfl (by first | exact Or.inl rfl | exact Or.inr rfl) (pe_call G_value (hr.mono (by omega)) (by rfl) m_value F_value.kp b_value .nil pass0 (pa_cons (pe_ix ix_tup (pv 0) pe_int (fun _ _ => rfl)) (pa_cons (pv 1) pa_nil))))
      (pss_cons (ps_if (pt_cmpR op_eq (pe_ix ix_tup (pv 0) pe_int (fun _ _ => rfl)) pe_str (nomark _)) (pss_one (ps_ret (pe_op op_mul (pe_ix ix_tup (pv 0) pe_int (fun _ _ => rfl)) (pv 2)))) pss_nil)
      (pss_cons (ps_set (i := 3) scValue.nd rfl (by first | exact Or.inl rfl | exact Or.inr rfl) (pe_call G_value (hr.mono (by omega)) (by rfl) m_value F_value.kp b_value .nil pass0 (pa_cons (pe_ix ix_tup (pv 0) pe_int (fun _ _ => rfl)) (pa_cons (pv 1) pa_nil))))
      (pss_one (ps_ret (pe_ifExp (pt_cmpR op_eq (pe_ix ix_tup (pv 0) pe_int (fun _ _ => rfl)) pe_str (nomark _)) (pe_op op_add (pv 3) (pv 2)) (pe_op op_sub (pv 3) (pv 2)))))))))), ?_⟩
      cases e with
      | int i =>
        obtain rfl := tpI t
        exact ⟨_, rfl, _, _, _, _, _, rfl, .ty _, .base (.int i), kit_ty (r := true) (by decide +kernel), _, rfl, iteT ⟨_, rfl, q⟩⟩
      | name z =>
        obtain rfl := tpS t
        refine ⟨_, rfl, _, _, _, _, _, rfl, .ty _, .base (.str z), kit_ty (r := false) (by decide +kernel), _, rfl, iteF ⟨_, rfl, _, _, _, _, _, rfl, .ty _, .base (.str z), kit_ty (r := true) (by decide +kernel), _, rfl, iteT ⟨_, rfl, N, rfl, .inl ⟨kvs, .inl hN⟩, _, rfl, _, DGet.k (k := .inr z) hN, ?_⟩⟩⟩
        rw [hv z]
        exact q
      | plus x y =>
        obtain ⟨a, p, u, r, rfl, ha, t1, t2, t3⟩ := tp3 t
        obtain rfl := tpS t1
        refine ⟨_, rfl, _, _, _, _, _, rfl, .ty _, .base (.tup ha), kit_ty (r := false) (by decide +kernel), _, rfl, iteF ⟨_, rfl, _, _, _, _, _, rfl, .ty _, .base (.tup ha), kit_ty (r := false) (by decide +kernel), _, rfl, iteF ?_⟩⟩
        refine ⟨_, rfl, a, _, _, r, rfl, rfl, SqT.of ha, rfl, _, rfl, r, N, y, ρ, rfl, t3, ho.2.2, ⟨kvs, hN, hv⟩, ?_⟩
        refine ⟨_, rfl, a, _, _, _, rfl, rfl, SqT.of ha, rfl, rfl, _, rfl, iteN (by decide +kernel) ?_⟩
        refine ⟨_, rfl, a, _, _, u, rfl, rfl, SqT.of ha, rfl, _, rfl, u, N, x, ρ, rfl, t2, ho.2.1, ⟨kvs, hN, hv⟩, ?_⟩
        exact ⟨_, rfl, a, _, _, _, rfl, rfl, SqT.of ha, rfl, rfl, _, rfl, iteP (by decide +kernel) ⟨_, rfl, _, rfl, _, _, rfl, rfl, q⟩⟩
      | minus x y =>
        obtain ⟨a, p, u, r, rfl, ha, t1, t2, t3⟩ := tp3 t
        obtain rfl := tpS t1
        refine ⟨_, rfl, _, _, _, _, _, rfl, .ty _, .base (.tup ha), kit_ty (r := false) (by decide +kernel), _, rfl, iteF ⟨_, rfl, _, _, _, _, _, rfl, .ty _, .base (.tup ha), kit_ty (r := false) (by decide +kernel), _, rfl, iteF ?_⟩⟩
        refine ⟨_, rfl, a, _, _, r, rfl, rfl, SqT.of ha, rfl, _, rfl, r, N, y, ρ, rfl, t3, ho.2.2, ⟨kvs, hN, hv⟩, ?_⟩
        refine ⟨_, rfl, a, _, _, _, rfl, rfl, SqT.of ha, rfl, rfl, _, rfl, iteN (by decide +kernel) ?_⟩
        refine ⟨_, rfl, a, _, _, u, rfl, rfl, SqT.of ha, rfl, _, rfl, u, N, x, ρ, rfl, t2, ho.2.1, ⟨kvs, hN, hv⟩, ?_⟩
        exact ⟨_, rfl, a, _, _, _, rfl, rfl, SqT.of ha, rfl, rfl, _, rfl, iteN (by decide +kernel) ⟨_, rfl, _, rfl, _, _, rfl, rfl, q⟩⟩
      | times f x =>
        obtain ⟨a, p, u, r, rfl, ha, t1, t2, t3⟩ := tp3 t
        obtain rfl := tpS t1
        obtain rfl := tpI t2
        refine ⟨_, rfl, _, _, _, _, _, rfl, .ty _, .base (.tup ha), kit_ty (r := false) (by decide +kernel), _, rfl, iteF ⟨_, rfl, _, _, _, _, _, rfl, .ty _, .base (.tup ha), kit_ty (r := false) (by decide +kernel), _, rfl, iteF ?_⟩⟩
        refine ⟨_, rfl, a, _, _, r, rfl, rfl, SqT.of ha, rfl, _, rfl, r, N, x, ρ, rfl, t3, ho.2.2.2, ⟨kvs, hN, hv⟩, ?_⟩
        refine ⟨_, rfl, a, _, _, _, rfl, rfl, SqT.of ha, rfl, rfl, _, rfl, iteP (by decide +kernel) ?_⟩
        have h1 : -9 ≤ f := ho.2.1
        have h2 : f ≤ 9 := ho.2.2.1
        exact ⟨_, rfl, a, _, _, _, rfl, rfl, SqT.of ha, rfl, _, rfl, _, _, rfl, rfl, .inl ⟨by omega, by omega⟩, q⟩
end
def spTrue (ns : List Str) (n : Nat) : Sp := fun vs H Q _ => ∃ (v : V) (N : Addr) (t : Ts) (ρ : Str → Int), vs = [v, .ref N] ∧ Tp H v t.d ∧ 1 ≤ n ∧ t.ok ns (n - 1) ∧ En H N ρ ∧ Q (.bl (t.ev ρ)) H
section
variable {w : World} {P : Program} {K : PySem.W.Frag} {mg : Str → Option Value} {base : Heap}
theorem ok_true {f fV : Addr} {fd fdV : FuncData} {ns : List Str} (F_true : Fun K "_law_true" "_law_true" sTrue f fd) (F_value : Fun K "_law_value" "_law_value" sValue fV fdV)
    (b_true : Binds K fd ["_law_test_here", "_law_names_here"] []) (b_value : Binds K fdV ["_law_expression_here", "_law_names_here"] []) (m_true : mg "_law_true" = some (.ref f)) (m_value : mg "_law_value" = some (.ref fV))
    (G_value : FnOk P w K mg base CX0 4 fV fdV ["_law_expression_here", "_law_names_here"] (spValue ns 3)) (z_int : mg "int" = none) :
    ∀ n : Nat, FnOk P w K mg base CX0 (n + 4) f fd ["_law_test_here", "_law_names_here"] (spTrue ns n) := by
  intro n
  induction n with
  | zero => exact ⟨fun vs H Q E h => by obtain ⟨_, _, _, _, rfl, _⟩ := h; rfl, fun _ _ _ _ _ _ _ _ _ _ _ _ _ h => by
      obtain ⟨_, _, e, _, _, _, h, _⟩ := h
      omega⟩
  | succ n G_true =>
    refine F_true.ok scTrue (fun vs H Q E h => ?_) (fun cdv A outer s H vs Q E hr h => ?_)
    · obtain ⟨_, _, _, _, rfl, _⟩ := h
      rfl
    · obtain ⟨v, N, e, ρ, rfl, t, _, ho, En0, q⟩ := h
      refine ⟨_, (pss_cons (ps_if (pt_cmpR op_eq (pe_ix ix_tup (pv 0) pe_int (fun _ _ => rfl)) pe_str (nomark _)) (pss_one (ps_ret (pe_not (pe_call G_true (hr.mono (by omega)) (by rfl) m_true F_true.kp b_true .nil pass0 (pa_cons (pe_ix ix_tup (pv 0) pe_int (fun _ _ => rfl)) (pa_cons (pv 1) pa_nil)))))) pss_nil)
      (pss_cons (ps_if (pt_cmpR op_eq (pe_ix ix_tup (pv 0) pe_int (fun _ _ => rfl)) pe_str (nomark _)) (pss_one (ps_ret (pe_cmpR op_eq (pe_op op_mod (pe_callTy call_int1 (by rfl) z_int boot_int (pa_cons (pe_op op_sub (pe_call G_value (hr.mono (by omega)) (by rfl) m_value F_value.kp b_value .nil pass0 (pa_cons (pe_ix ix_tup (pv 0) pe_int (fun _ _ => rfl)) (pa_cons (pv 1) pa_nil))) (pe_ix ix_tup (pv 0) pe_int (fun _ _ => rfl))) pa_nil)) (pe_ix ix_tup (pv 0) pe_int (fun _ _ => rfl))) pe_int (nomark _)))) pss_nil)
      (pss_one (ps_ret (pe_cmpR op_lt (pe_call G_value (hr.mono (by omega)) (by rfl) m_value F_value.kp b_value .nil pass0 (pa_cons (pe_ix ix_tup (pv 0) pe_int (fun _ _ => rfl)) (pa_cons (pv 1) pa_nil))) (pe_call G_value (hr.mono (by omega)) (by rfl) m_value F_value.kp b_value .nil pass0 (pa_cons (pe_ix ix_tup (pv 0) pe_int (fun _ _ => rfl)) (pa_cons (pv 1) pa_nil))) (nomark _)))))), ?_⟩
      cases e with
      | rest x b r =>
        obtain ⟨a, p, u, y, z, rfl, ha, t1, t2, t3, t4⟩ := tp4 t
        obtain rfl := tpS t1
        obtain rfl := tpI t3
        obtain rfl := tpI t4
        obtain ⟨o1, o2, o3, o4, o5⟩ := ho
        refine ⟨_, rfl, a, _, _, _, rfl, rfl, SqT.of ha, rfl, rfl, _, rfl, iteN (by decide +kernel) ?_⟩
        refine ⟨_, rfl, a, _, _, _, rfl, rfl, SqT.of ha, rfl, rfl, _, rfl, iteP (by decide +kernel) ?_⟩
        refine ⟨_, rfl, a, _, _, u, rfl, rfl, SqT.of ha, rfl, _, rfl, u, N, x, ρ, rfl, t2, o1, En0, ?_⟩
        refine ⟨_, rfl, a, _, _, _, rfl, rfl, SqT.of ha, rfl, _, _, rfl, rfl, .inl ⟨_, rfl, ?_⟩⟩
        refine ⟨_, rfl, a, _, _, _, rfl, rfl, SqT.of ha, rfl, _, b, rfl, rfl, (by show (0 : Int) < b; omega), rfl, ?_⟩
        have e1 : decide (V.int ((x.ev ρ - r) % b) = V.int 0) = decide ((x.ev ρ - r) % b = 0) := by simp
        rw [e1]
        exact q
      | less x y =>
        obtain ⟨a, p, u, r, rfl, ha, t1, t2, t3⟩ := tp3 t
        obtain rfl := tpS t1
        refine ⟨_, rfl, a, _, _, _, rfl, rfl, SqT.of ha, rfl, rfl, _, rfl, iteN (by decide +kernel) ?_⟩
        refine ⟨_, rfl, a, _, _, _, rfl, rfl, SqT.of ha, rfl, rfl, _, rfl, iteN (by decide +kernel) ?_⟩
        refine ⟨_, rfl, a, _, _, u, rfl, rfl, SqT.of ha, rfl, _, rfl, u, N, x, ρ, rfl, t2, ho.1, En0, ?_⟩
        refine ⟨_, rfl, a, _, _, r, rfl, rfl, SqT.of ha, rfl, _, rfl, r, N, y, ρ, rfl, t3, ho.2, En0, ?_⟩
        exact ⟨_, _, rfl, rfl, q⟩
      | not t' =>
        obtain ⟨a, p, u, rfl, ha, t1, t2⟩ := tp2 t
        obtain rfl := tpS t1
        refine ⟨_, rfl, a, _, _, _, rfl, rfl, SqT.of ha, rfl, rfl, _, rfl, iteP (by decide +kernel) ?_⟩
        refine ⟨_, rfl, a, _, _, u, rfl, rfl, SqT.of ha, rfl, _, rfl, u, N, t', ρ, rfl, t2, ho.1, ho.2, En0, ?_⟩
        exact ⟨_, rfl, q⟩
end
abbrev sParts : Stmt := topS 58
abbrev nParts : List Str := ["_law_row_here"]
theorem scParts : FnScope nParts ["_law_row_here"] (defScope sParts) := ⟨rfl, rfl, rfl, by decide +kernel, rfl, by decide +kernel, by decide +kernel⟩
abbrev sSize : Stmt := topS 69
abbrev nSize : List Str := ["_law_block_here", "_law_row_here", "_law_part"]
theorem scSize : FnScope nSize ["_law_block_here"] (defScope sSize) := ⟨rfl, rfl, rfl, by decide +kernel, rfl, by decide +kernel, by decide +kernel⟩
/-- the scope of the comprehension that a def returns within a call -/
def cScopeOf (st : Stmt) : Scope := match defBody st with
  | [.Return (some (.Call _ [.ListComp _ _ sc _] _ _)) _] => sc
  | _ => defScope st
def St.parts : St → List PyData
  | .ite _ y n => [.tuple y.ds, .tuple n.ds]
  | .rep _ y => [.tuple y.ds]
  | _ => []
def St.blks : St → List Bk
  | .ite _ y n => [y, n]
  | .rep _ y => [y]
  | _ => []
theorem St.parts_blks (s : St) : s.parts = s.blks.map fun b => .tuple b.ds := by cases s <;> rfl
def spParts : Sp := fun vs H Q _ => ∃ (v : V) (s : St), vs = [v] ∧ Tp H v s.d ∧ ∀ H' v', Sx [] H H' → Tp H' v' (.tuple s.parts) → Q v' H'
def Bk.lst : Bk → List St
  | .nil => []
  | .cons s b => s :: b.lst
theorem Bk.ds_lst : ∀ b : Bk, b.ds = b.lst.map St.d
  | .nil => rfl
  | .cons s b => by rw [Bk.ds, Bk.lst, List.map_cons, Bk.ds_lst b]
theorem Bk.sz_lst : ∀ b : Bk, b.sz = (b.lst.map St.sz).sum
  | .nil => rfl
  | .cons s b => by rw [Bk.sz, Bk.lst, List.map_cons, List.sum_cons, Bk.sz_lst b]
theorem St.sz_blks (s : St) : s.sz = 1 + (s.blks.map Bk.sz).sum := by
  cases s <;> simp [St.sz, St.blks] <;> omega
/-- blocks lie at most so deep -/
theorem Bk.ok_mem {ns : List Str} {d : Nat} : ∀ {b : Bk} {s : St}, b.ok ns d → s ∈ b.lst → 1 ≤ d ∧ s.ok ns (d - 1)
  | .cons s b, t, h, hm => by
    rcases List.mem_cons.1 hm with rfl | hm
    · exact ⟨h.1, h.2.1⟩
    · exact Bk.ok_mem (b := b) h.2.2 hm
theorem St.ok_mem {ns : List Str} {d : Nat} {s : St} {b : Bk} (h : s.ok ns d) (hm : b ∈ s.blks) : b.ok ns d := by
  cases s with
  | ite t y n =>
    simp only [St.blks, List.mem_cons, List.not_mem_nil, or_false] at hm
    rcases hm with rfl | rfl
    · exact h.2.1
    · exact h.2.2
  | rep k y =>
    simp only [St.blks, List.mem_cons, List.not_mem_nil, or_false] at hm
    subst hm
    exact h.2.2
  | _ => simp [St.blks] at hm
theorem pi_tupK {X : Cx} {K : PySem.W.Frag} {l tg : Expr} {tl : TE} (h : X.K = K) (hl : PE X l tl) : PI X tg l (iTup K tl) := h ▸ pi_tup hl
theorem cr_sumK {X : Cx} {K : PySem.W.Frag} (h : X.K = K) (hc : X.calm = true) : CallR X (.builtin "sum") (rSum K) := h ▸ cr_sum hc
theorem sum_mem {l : List Nat} {x : Nat} (h : x ∈ l) : x ≤ l.sum := by
  induction l with
  | nil => cases h
  | cons y l ih =>
    rw [List.sum_cons]
    rcases List.mem_cons.1 h with rfl | h
    · omega
    · have := ih h; omega
theorem cast_sum (l : List Nat) : ((l.sum : Nat) : Int) = (l.map fun x : Nat => (x : Int)).sum := by
  induction l with
  | nil => rfl
  | cons y l ih => rw [List.sum_cons, List.map_cons, List.sum_cons, Int.natCast_add, ih]
section
variable {w : World} {P : Program} {K : PySem.W.Frag} {mg : Str → Option Value} {base : Heap}
theorem ok_parts {f : Addr} {fd : FuncData} {k : Nat} (F_parts : Fun K "_law_parts" "_law_parts" sParts f fd) : FnOk P w K mg base CX0 (k + 1) f fd ["_law_row_here"] spParts := by
  refine F_parts.ok scParts (fun vs H Q E h => ?_) (fun cdv A outer s H vs Q E hr h => ?_)
  · obtain ⟨_, _, rfl, _⟩ := h
    rfl
  · obtain ⟨v, s, rfl, t, q⟩ := h
    refine ⟨_, (pss_one (ps_ret (pe_ifExp (pt_cmpR op_in_seq (pe_ix ix_tup (pv 0) pe_int (fun _ _ => rfl)) (pe_tup (pa_cons pe_str (pa_cons pe_str pa_nil))) (by with_unfolding_all rfl)) (pe_slice sl_tup (pv 0) (po_some pe_int) po_none) (pe_tup pa_nil)))), ?_⟩
    have tup : Sx [] H H := Sx.refl _
    cases s with
    | set z e =>
      obtain ⟨a, p, u, y, rfl, ha, t1, _, _⟩ := tp3 t
      obtain rfl := tpS t1
      refine ⟨_, rfl, a, _, _, _, rfl, rfl, SqT.of ha, rfl, by show 2 ≤ sizeLine; decide, fun p hp => ⟨p, _, rfl, .inr (SqT.of upd_same), rfl, rfl, _, rfl, iteN (by decide +kernel) ⟨by show 0 ≤ sizeLine; decide, fun p' hp' => ?_⟩⟩⟩
      exact q _ _ ((tup.new hp).new hp') (.tup upd_same .nil)
    | pay e =>
      obtain ⟨a, p, u, rfl, ha, t1, _⟩ := tp2 t
      obtain rfl := tpS t1
      refine ⟨_, rfl, a, _, _, _, rfl, rfl, SqT.of ha, rfl, by show 2 ≤ sizeLine; decide, fun p hp => ⟨p, _, rfl, .inr (SqT.of upd_same), rfl, rfl, _, rfl, iteN (by decide +kernel) ⟨by show 0 ≤ sizeLine; decide, fun p' hp' => ?_⟩⟩⟩
      exact q _ _ ((tup.new hp).new hp') (.tup upd_same .nil)
    | stop =>
      obtain ⟨a, p, rfl, ha, t1⟩ := tp1 t
      obtain rfl := tpS t1
      refine ⟨_, rfl, a, _, _, _, rfl, rfl, SqT.of ha, rfl, by show 2 ≤ sizeLine; decide, fun p hp => ⟨p, _, rfl, .inr (SqT.of upd_same), rfl, rfl, _, rfl, iteN (by decide +kernel) ⟨by show 0 ≤ sizeLine; decide, fun p' hp' => ?_⟩⟩⟩
      exact q _ _ ((tup.new hp).new hp') (.tup upd_same .nil)
    | ite ts y n =>
      obtain ⟨a, p, u, y', n', rfl, ha, t1, _, t3, t4⟩ := tp4 t
      obtain rfl := tpS t1
      refine ⟨_, rfl, a, _, _, _, rfl, rfl, SqT.of ha, rfl, by show 2 ≤ sizeLine; decide, fun p hp => ⟨p, _, rfl, .inr (SqT.of upd_same), rfl, rfl, _, rfl, iteP (by decide +kernel) ?_⟩⟩
      have ha' := (tup.new (o := .tup [.str "if", .str "repeat"]) hp) a _ (by simp) ha
      refine ⟨_, rfl, 2, rfl, a, _, rfl, SqT.of ha', fun z => absurd z.1 (by show ¬ (2 : Nat) = 0; decide), fun p' hp' => ?_⟩
      exact q _ _ ((tup.new hp).new hp') (.tup (xs := [y', n']) upd_same (.cons ((t3.new hp).new hp') (.cons ((t4.new hp).new hp') .nil)))
    | rep k y =>
      obtain ⟨a, p, u, y', rfl, ha, t1, _, t3⟩ := tp3 t
      obtain rfl := tpS t1
      refine ⟨_, rfl, a, _, _, _, rfl, rfl, SqT.of ha, rfl, by show 2 ≤ sizeLine; decide, fun p hp => ⟨p, _, rfl, .inr (SqT.of upd_same), rfl, rfl, _, rfl, iteP (by decide +kernel) ?_⟩⟩
      have ha' := (tup.new (o := .tup [.str "if", .str "repeat"]) hp) a _ (by simp) ha
      refine ⟨_, rfl, 2, rfl, a, _, rfl, SqT.of ha', fun z => absurd z.1 (by show ¬ (2 : Nat) = 0; decide), fun p' hp' => ?_⟩
      exact q _ _ ((tup.new hp).new hp') (.tup (xs := [y']) upd_same (.cons ((t3.new hp).new hp') .nil))
/-- so deep lie the blocks of a block -/
def spSize (d : Nat) : Sp := fun vs H Q _ => ∃ (v : V) (b : Bk) (ns : List Str), vs = [v] ∧ Tp H v (.tuple b.ds) ∧ b.ok ns (d - 1) ∧ 1 ≤ d ∧ b.sz < 16777216 ∧ ∀ H', Sx [] H H' → Q (.int b.sz) H'
theorem TpAll.lst {H : Hp} {α : Type} (g : α → PyData) : ∀ {xs : List V} {as : List α}, TpAll H xs (as.map g) → xs.length = as.length ∧ ∀ (i : Nat) (x : V), xs[i]? = some x → ∃ a, as[i]? = some a ∧ Tp H x (g a)
  | [], [], .nil => ⟨rfl, fun _ _ h => by simp at h⟩
  | x :: xs, a :: as, .cons h hs => by
    have r := TpAll.lst g (as := as) hs
    refine ⟨by rw [List.length_cons, List.length_cons, r.1], fun i y hy => ?_⟩
    cases i with
    | zero => exact ⟨a, rfl, by cases hy; exact h⟩
    | succ i => exact r.2 i y hy
theorem ok_size {f fP : Addr} {fd fdP : FuncData} (F_size : Fun K "_law_size" "_law_size" sSize f fd) (F_parts : Fun K "_law_parts" "_law_parts" sParts fP fdP) (G_parts : FnOk P w K mg base CX0 1 fP fdP ["_law_row_here"] spParts)
    (b_size : Binds K fd ["_law_block_here"] []) (b_parts : Binds K fdP ["_law_row_here"] []) (m_size : mg "_law_size" = some (.ref f)) (m_parts : mg "_law_parts" = some (.ref fP)) (z_sum : mg "sum" = none) :
    ∀ d : Nat, FnOk P w K mg base CX0 (d + 1) f fd ["_law_block_here"] (spSize d) := by
  intro d
  induction d with
  | zero => exact ⟨fun vs H Q E h => by obtain ⟨_, _, _, rfl, _⟩ := h; rfl, fun _ _ _ _ _ _ _ _ _ _ _ _ _ h => by
      obtain ⟨_, _, _, _, _, _, h, _⟩ := h
      omega⟩
  | succ d G_size =>
    refine F_size.ok scSize (fun vs H Q E h => ?_) (fun cdv A outer s H vs Q E hr h => ?_)
    · obtain ⟨_, _, _, rfl, _⟩ := h
      rfl
    · obtain ⟨v, b, ns, rfl, t, ho, _, hz, q⟩ := h
      refine ⟨_, (pss_one (ps_ret (pe_callB (cr_sum rfl) (by rfl) z_sum boot_sum (pa_cons (pe_lc (own := [("_law_row_here", 1)]) (g := gName 1) (tt := tYes) rfl scSize.nd (pi_tup (pv 0)) (blkOk_by (N := nSize) (sc := defScope sSize) (by decide +kernel)) (fun _ _ _ _ _ => (pg_name (i := 1) scSize.nd rfl (by first | exact Or.inl rfl | exact Or.inr rfl))) (fun _ _ _ _ _ => pts_nil) (fun _ _ _ _ _ => by exact (pe_op op_add pe_int (pe_callB (cr_sumK (K := K) rfl rfl) (by rfl) z_sum boot_sum (pa_cons (pe_lc (own := [("_law_part", 2)]) (g := gName 2) (tt := tYes) rfl scSize.nd (pi_tupK rfl (pe_call G_parts (hr.mono (by omega)) (by rfl) m_parts F_parts.kp b_parts .nil pass0 (pa_cons (pv 1) pa_nil))) (blkOk_by (N := nSize) (sc := cScopeOf sSize) (by decide +kernel)) (fun _ _ _ _ _ => (pg_name (i := 2) scSize.nd rfl (by first | exact Or.inl rfl | exact Or.inr rfl))) (fun _ _ _ _ _ => pts_nil) (fun _ _ _ _ _ => (pe_call G_size (hr.mono (by omega)) (by rfl) m_size F_size.kp b_size .nil pass0 (pa_cons (pv 2) pa_nil)))) pa_nil))))) pa_nil)))), ?_⟩
      obtain ⟨a, xs, rfl, ha, hx⟩ := t.tuple
      rw [b.ds_lst] at hx
      obtain ⟨hl, hg⟩ := hx.lst
      rw [b.sz_lst] at hz q
      refine ⟨_, rfl, a, rfl, ⟨_, SqT.of ha⟩, fun D hD => lc_tup (xs := xs)
        (fun i H' => Sx [] H H' ∧ H' D = some (.lst (((b.lst.map fun s => (s.sz : Int)).take i).map V.int))) ⟨(Sx.refl _).new hD, upd_same⟩ (fun i H' _ p => SqT.of (p.1 _ _ (by simp) ha)) (fun i x H' hi p => ?_) (fun H' p => ?_)⟩
      · obtain ⟨p1, p2⟩ := p
        obtain ⟨s, hs, hts⟩ := hg i x hi
        have hm : s ∈ b.lst := List.mem_of_getElem? hs
        obtain ⟨d1, so⟩ := Bk.ok_mem ho hm
        refine ⟨rfl, ?_⟩
        refine ⟨x, rfl, x, s, rfl, hts.keep p1.tk0, fun H2 v' s2 t2 => ?_⟩
        obtain ⟨a2, ys, rfl, ha2, hy⟩ := t2.tuple
        rw [s.parts_blks] at hy
        obtain ⟨hl2, hg2⟩ := hy.lst
        refine ⟨a2, rfl, ⟨_, SqT.of ha2⟩, fun D2 hD2 => lc_tup (xs := ys)
          (fun j H3 => Sx [] H2 H3 ∧ H3 D2 = some (.lst (((s.blks.map fun s => (s.sz : Int)).take j).map V.int))) ⟨(Sx.refl _).new hD2, upd_same⟩ (fun i H' _ p => SqT.of (p.1 _ _ (by simp) ha2)) (fun j y H3 hj p => ?_) (fun H3 p => ?_)⟩
        · obtain ⟨p3, p4⟩ := p
          obtain ⟨b2, hb2, htb⟩ := hg2 j y hj
          have hm2 : b2 ∈ s.blks := List.mem_of_getElem? hb2
          have z1 : b2.sz ≤ s.sz := by
            rw [s.sz_blks]
            have := sum_mem (List.mem_map_of_mem (f := Bk.sz) hm2)
            omega
          have z2 : s.sz ≤ (b.lst.map St.sz).sum := sum_mem (List.mem_map_of_mem hm)
          have z3 : s.blks.length ≤ 2 := by cases s <;> simp [St.blks]
          refine ⟨rfl, ?_⟩
          refine ⟨y, rfl, y, b2, ns, rfl, htb.keep p3.tk0, (St.ok_mem so hm2 : b2.ok ns (d + 1 - 1 - 1)), by omega, by omega, fun H4 s4 => ⟨_, s4 _ _ (by simp) p4, lt_line (by rw [List.length_map, List.length_take, List.length_map]; omega), ?_, ?_⟩⟩
          · exact (p3.trans s4).own hD2
          · rw [upd_same, List.take_add_one, List.getElem?_map, hb2]
            simp
        · obtain ⟨p3, p4⟩ := p
          rw [hl2, List.take_of_length_le (by rw [List.length_map]; exact Nat.le_refl _)] at p4
          refine ⟨D2, _, rfl, SqL.of p4, 1, _, rfl, rfl, ?_⟩
          have hD0 : H D ≠ none ∨ H D = none := by cases H D <;> simp
          have s13 : Sx [] H H3 := (p1.trans s2).trans p3
          have z3 : b.lst.length ≤ (b.lst.map St.sz).sum := by
            have : ∀ l : List St, l.length ≤ (l.map St.sz).sum := fun l => by
              induction l with
              | nil => simp
              | cons s l ih => rw [List.length_cons, List.map_cons, List.sum_cons, s.sz_blks]; omega
            exact this _
          refine ⟨_, p3 _ _ (by simp) (s2 _ _ (by simp) p2), lt_line (by rw [List.length_map, List.length_take, List.length_map]; omega), s13.own hD, ?_⟩
          rw [upd_same, List.take_add_one, List.getElem?_map, hs]
          have e1 : (1 : Int) + (s.blks.map fun s => (s.sz : Int)).sum = (s.sz : Int) := by
            rw [s.sz_blks, Int.natCast_add, cast_sum, List.map_map]
            rfl
          have e2 : (1 : Int) + (s.blks.map fun s => (s.sz : Int)).sum = ((fun s : St => (s.sz : Int)) s) := e1
          simp only [e2, Option.map_some, Option.toList_some, List.map_append, List.map_cons, List.map_nil]
      · obtain ⟨p1, p2⟩ := p
        rw [hl, List.take_of_length_le (by rw [List.length_map]; exact Nat.le_refl _)] at p2
        refine ⟨D, _, rfl, SqL.of p2, ?_⟩
        have e1 : (b.lst.map fun s => (s.sz : Int)).sum = (((b.lst.map St.sz).sum : Nat) : Int) := by
          rw [cast_sum, List.map_map]
          rfl
        rw [e1]
        exact q H' p1
end
abbrev sGo : Stmt := topS 70
abbrev nGo : List Str := ["_law_world", "_law_block_here", "_law_place", "_law_row_here", "_law_inner", "_law_truth", "_law_part", "_law_first"]
theorem scGo : FnScope nGo ["_law_world", "_law_block_here", "_law_place"] (defScope sGo) := ⟨rfl, rfl, rfl, by decide +kernel, rfl, by decide +kernel, by decide +kernel⟩
/-- the world's dict -/
def wk (N : Addr) (t : Int) (L : Addr) : List (Key × V) := [(.inr "names", .ref N), (.inr "total", .int t), (.inr "places", .ref L)]
theorem k_nt : ¬ ((.inr "names" : Key) = .inr "total") := by decide +kernel
theorem k_np : ¬ ((.inr "names" : Key) = .inr "places") := by decide +kernel
theorem k_tp : ¬ ((.inr "total" : Key) = .inr "places") := by decide +kernel
theorem k_pt : ¬ ((.inr "places" : Key) = .inr "total") := by decide +kernel
theorem wk_n (N : Addr) (t : Int) (L : Addr) : valV (wk N t L) (.inr "names") = some (.ref N) := by
  simp [valV, wk]
theorem wk_t (N : Addr) (t : Int) (L : Addr) : valV (wk N t L) (.inr "total") = some (.int t) := by
  unfold valV wk
  rw [List.find?_cons_of_neg (by simpa using k_nt), List.find?_cons_of_pos (by simp)]
  rfl
theorem wk_p (N : Addr) (t : Int) (L : Addr) : valV (wk N t L) (.inr "places") = some (.ref L) := by
  unfold valV wk
  rw [List.find?_cons_of_neg (by simpa using k_np), List.find?_cons_of_neg (by simpa using k_tp), List.find?_cons_of_pos (by simp)]
  rfl
theorem wk_put (N : Addr) (t t' : Int) (L : Addr) : putK (wk N t L) (.inr "total") (.int t') = wk N t' L := by
  have h : ((wk N t L).any fun kv => decide (kv.1 = .inr "total")) = true := by simp [wk]
  rw [putK, if_pos h]
  simp only [wk, List.map_cons, List.map_nil]
  rw [if_neg k_nt, if_pos trivial, if_neg k_pt]
/-- the world at W: the names' dict at N, the places at L; c more names fit in -/
structure Wr (H : Hp) (W N L : Addr) (w : Wd) (c : Nat) : Prop where
  hw : H W = some (.dK (wk N w.tot L))
  hn : ∃ kvs : List (Key × V), H N = some (.dK kvs) ∧ kvs.length + c ≤ w.pl.length + 1 ∧ ∀ z, (valV kvs (.inr z)).getD (.int 0) = .int (w.en z)
  hl : H L = some (.lst (w.pl.map V.int))
  ne : W ≠ N
namespace Wr
variable {H H' : Hp} {W N L p : Addr} {w : Wd} {c : Nat} {o : HO}
theorem wl (R : Wr H W N L w c) : W ≠ L := fun e => by
  have h := R.hw
  rw [e, R.hl] at h
  cases h
theorem nl (R : Wr H W N L w c) : N ≠ L := fun e => by
  obtain ⟨kvs, h, _⟩ := R.hn
  rw [e, R.hl] at h
  cases h
theorem en (R : Wr H W N L w c) : En H N w.en := by
  obtain ⟨kvs, h1, _, h2⟩ := R.hn
  exact ⟨kvs, h1, h2⟩
theorem sx (R : Wr H W N L w c) (s : Sx [] H H') : Wr H' W N L w c := by
  obtain ⟨kvs, h1, h2, h3⟩ := R.hn
  exact ⟨s _ _ (by simp) R.hw, ⟨kvs, s _ _ (by simp) h1, h2, h3⟩, s _ _ (by simp) R.hl, R.ne⟩
theorem less (R : Wr H W N L w (c + 1)) : Wr H W N L w c := by
  obtain ⟨kvs, h1, h2, h3⟩ := R.hn
  exact ⟨R.hw, ⟨kvs, h1, by omega, h3⟩, R.hl, R.ne⟩
theorem nw (R : Wr H W N L w c) (h : H p = none) : p ∉ [W, N, L] := by
  obtain ⟨kvs, h1, _, _⟩ := R.hn
  intro hm
  simp only [List.not_mem_nil, List.mem_cons, or_false] at hm
  rcases hm with rfl | rfl | rfl
  · rw [R.hw] at h; cases h
  · rw [h1] at h; cases h
  · rw [R.hl] at h; cases h
theorem nt {xs : List V} (R : Wr H W N L w c) (h : H p = some (.tup xs)) : p ∉ [W, N, L] := by
  obtain ⟨kvs, h1, _, _⟩ := R.hn
  intro hm
  simp only [List.not_mem_nil, List.mem_cons, or_false] at hm
  rcases hm with rfl | rfl | rfl
  · rw [R.hw] at h; cases h
  · rw [h1] at h; cases h
  · rw [R.hl] at h; cases h
theorem place (R : Wr H W N L w 0) (i : Int) : Wr (upd H L (.lst (w.pl.map V.int ++ [.int i]))) W N L ⟨w.en, w.tot, w.pl ++ [i]⟩ 1 := by
  obtain ⟨kvs, h1, h2, h3⟩ := R.hn
  refine ⟨by rw [upd_ne R.wl]; exact R.hw, ⟨kvs, by rw [upd_ne R.nl]; exact h1, ?_, h3⟩, by rw [upd_same, List.map_append]; rfl, R.ne⟩
  show kvs.length + 1 ≤ (w.pl ++ [i]).length + 1
  rw [List.length_append]
  have : [i].length = 1 := rfl
  omega
theorem pay (R : Wr H W N L w c) (t : Int) : Wr (upd H W (.dK (wk N t L))) W N L ⟨w.en, t, w.pl⟩ c := by
  obtain ⟨kvs, h1, h2, h3⟩ := R.hn
  exact ⟨upd_same, ⟨kvs, by rw [upd_ne R.ne.symm]; exact h1, h2, h3⟩, by rw [upd_ne R.wl.symm]; exact R.hl, R.ne⟩
theorem set {kvs : List (Key × V)} (R : Wr H W N L w 1) (h : H N = some (.dK kvs)) (z : Str) (v : Int) : kvs.length < w.pl.length + 1 ∧ Wr (upd H N (.dK (putK kvs (.inr z) (.int v)))) W N L ⟨fun y => if y = z then v else w.en y, w.tot, w.pl⟩ 0 := by
  obtain ⟨kvs', h1, h2, h3⟩ := R.hn
  rw [h1] at h
  cases h
  refine ⟨by omega, by rw [upd_ne R.ne]; exact R.hw, ⟨_, upd_same, ?_, fun y => ?_⟩, by rw [upd_ne R.nl.symm]; exact R.hl, R.ne⟩
  · have : (putK kvs (.inr z) (.int v)).length ≤ kvs.length + 1 := by
      unfold putK
      split
      · rw [List.length_map]; omega
      · rw [List.length_append]; exact Nat.le_refl _
    show (putK kvs (.inr z) (.int v)).length + 0 ≤ w.pl.length + 1
    omega
  · rw [valV_put]
    by_cases e : y = z
    · rw [if_pos (by rw [e]), e]
      show V.int v = V.int (if z = z then v else w.en z)
      rw [if_pos rfl]
    · rw [if_neg (fun q => e (Sum.inr.inj q)), h3 y]
      show V.int (w.en y) = V.int (if y = z then v else w.en y)
      rw [if_neg e]
theorem gN (R : Wr H W N L w c) : DGet H W (.str "names") (some (.ref N)) := wk_n N w.tot L ▸ DGet.k (k := .inr "names") R.hw
theorem gT (R : Wr H W N L w c) : DGet H W (.str "total") (some (.int w.tot)) := wk_t N w.tot L ▸ DGet.k (k := .inr "total") R.hw
theorem gP (R : Wr H W N L w c) : DGet H W (.str "places") (some (.ref L)) := wk_p N w.tot L ▸ DGet.k (k := .inr "places") R.hw
theorem pT (R : Wr H W N L w c) (t : Int) : DPut H W (.str "total") (.int t) (upd H W (.dK (wk N t L))) := wk_put N w.tot t L ▸ DPut.k (k := .inr "total") R.hw (by show (3 : Nat) < sizeLine; decide)
theorem tk (R : Wr H W N L w c) (s : Sx [W, N, L] H H') : Tk H H' := fun b xs e => s b _ (R.nt e) e
end Wr
theorem itr_len {f : Wd → Wd × Bool} {c : Nat} (hf : ∀ w, (f w).1.pl.length ≤ w.pl.length + c) : ∀ (n : Nat) (w : Wd), (itr f n w).1.pl.length ≤ w.pl.length + n * c
  | 0, w => by show w.pl.length ≤ _; omega
  | n + 1, w => by
    unfold itr
    have h1 := hf w
    have h2 := itr_len hf n (f w).1
    have e : (n + 1) * c = n * c + c := Nat.succ_mul n c
    split
    · omega
    · omega
mutual
theorem St.run_len : ∀ (s : St) (p : Int) (w : Wd), (s.run p w).1.pl.length ≤ w.pl.length + s.wt
  | .set z e, p, w => by simp [St.run, St.wt]
  | .pay e, p, w => by simp [St.run, St.wt]
  | .stop, p, w => by simp [St.run, St.wt]
  | .ite t y n, p, w => by
    have h1 := Bk.run_len y (p + 1) ⟨w.en, w.tot, w.pl ++ [p]⟩
    have h2 := Bk.run_len n (p + 1 + y.sz) ⟨w.en, w.tot, w.pl ++ [p]⟩
    simp only [List.length_append, List.length_cons, List.length_nil] at h1 h2
    simp only [St.run, St.wt]
    split <;> omega
  | .rep k y, p, w => by
    have h1 := itr_len (Bk.run_len y (p + 1)) k.toNat ⟨w.en, w.tot, w.pl ++ [p]⟩
    simp only [List.length_append, List.length_cons, List.length_nil] at h1
    simp only [St.run, St.wt]
    omega
theorem Bk.run_len : ∀ (b : Bk) (p : Int) (w : Wd), (b.run p w).1.pl.length ≤ w.pl.length + b.wt
  | .nil, p, w => by simp [Bk.run, Bk.wt]
  | .cons s b, p, w => by
    have h1 := St.run_len s p w
    have h2 := Bk.run_len b (p + s.sz) (s.run p w).1
    simp only [Bk.run, Bk.wt]
    split <;> omega
end
theorem itr_one (f : Wd → Wd × Bool) (w : Wd) : itr f 1 w = f w := by
  show (if (f w).2 = true then f w else ((f w).1, false)) = f w
  by_cases h : (f w).2 = true
  · rw [if_pos h]
  · rw [if_neg h]
    have : (f w).2 = false := by simpa using h
    rw [← this]
theorem flat_rep (n : Nat) (x : V) : (List.replicate n [x]).flatten = List.replicate n x := by
  induction n with
  | zero => rfl
  | succ n ih => rw [List.replicate_succ, List.flatten_cons, ih, List.replicate_succ]; rfl
/-- a statement's word -/
def St.hd : St → Str
  | .set _ _ => "set"
  | .pay _ => "pay"
  | .stop => "stop"
  | .ite _ _ _ => "if"
  | .rep _ _ => "repeat"
theorem St.at_ {H : Hp} {x : V} {s : St} (t : Tp H x s.d) : ∃ a xs, x = .ref a ∧ H a = some (.tup (.str s.hd :: xs)) := by
  have h : ∃ ds, s.d = .tuple (.str s.hd :: ds) := by cases s <;> exact ⟨_, rfl⟩
  obtain ⟨ds, e⟩ := h
  rw [e] at t
  obtain ⟨a, xs, rfl, ha, hx⟩ := t.tuple
  cases hx with
  | cons h hs =>
    obtain rfl := tpS h
    exact ⟨a, _, rfl, ha⟩
theorem at0 (v : V) (xs : List V) : atI (v :: xs) 0 = some v := atI_nat (j := 0) rfl
theorem Sx.n0 {H : Hp} {p : Addr} {o : HO} (h : H p = none) : Sx [] H (upd H p o) := (Sx.refl _).new h
def spGo (ns : List Str) (d : Nat) : Sp := fun vs H Q _ => ∃ (W N L : Addr) (v : V) (b : Bk) (p : Int) (w : Wd), vs = [.ref W, v, .int p] ∧ Tp H v (.tuple b.ds) ∧ 1 ≤ d ∧ b.ok ns (d - 1) ∧ Wr H W N L w 0 ∧ b.sz < 16777216 ∧ w.pl.length + b.wt ≤ 1000000 ∧
  ∀ H', Sx [W, N, L] H H' → Wr H' W N L (b.run p w).1 0 → Q (.bl (b.run p w).2) H'
section
variable {w : World} {P : Program} {K : PySem.W.Frag} {mg : Str → Option Value} {base : Heap}
theorem ok_go {f fT fV fS : Addr} {fd fdT fdV fdS : FuncData} {ns : List Str} (F_go : Fun K "_law_go" "_law_go" sGo f fd) (F_true : Fun K "_law_true" "_law_true" sTrue fT fdT) (F_value : Fun K "_law_value" "_law_value" sValue fV fdV) (F_size : Fun K "_law_size" "_law_size" sSize fS fdS)
    (b_go : Binds K fd ["_law_world", "_law_block_here", "_law_place"] []) (b_true : Binds K fdT ["_law_test_here", "_law_names_here"] []) (b_value : Binds K fdV ["_law_expression_here", "_law_names_here"] []) (b_size : Binds K fdS ["_law_block_here"] [])
    (m_go : mg "_law_go" = some (.ref f)) (m_true : mg "_law_true" = some (.ref fT)) (m_value : mg "_law_value" = some (.ref fV)) (m_size : mg "_law_size" = some (.ref fS))
    (G_true : FnOk P w K mg base CX0 7 fT fdT ["_law_test_here", "_law_names_here"] (spTrue ns 3)) (G_value : FnOk P w K mg base CX0 4 fV fdV ["_law_expression_here", "_law_names_here"] (spValue ns 3)) (G_size : ∀ d, FnOk P w K mg base CX0 (d + 1) fS fdS ["_law_block_here"] (spSize d)) :
    ∀ d : Nat, FnOk P w K mg base CX0 (d + 8) f fd ["_law_world", "_law_block_here", "_law_place"] (spGo ns d) := by
  intro d
  induction d with
  | zero => exact ⟨fun vs H Q E h => by obtain ⟨_, _, _, _, _, _, _, rfl, _⟩ := h; rfl, fun _ _ _ _ _ _ _ _ _ _ _ _ _ h => by
      obtain ⟨_, _, _, _, _, _, _, _, _, h, _⟩ := h
      omega⟩
  | succ d G_go =>
    refine F_go.ok scGo (fun vs H Q E h => ?_) (fun cdv A outer s H vs Q E hr h => ?_)
    · obtain ⟨_, _, _, _, _, _, _, rfl, _⟩ := h
      rfl
    · obtain ⟨W, N, L, v, b, p, wd, rfl, t, _, ho, R, hz, hm, q⟩ := h
      refine ⟨_, (C8.pss_cut (ps_for PassesOwn.never rfl (pi_tup (pv 1)) (pg_name (i := 3) scGo.nd rfl (by first | exact Or.inl rfl | exact Or.inr rfl)) (pss_cons (ps_expr (pe_bm PySem.F.plainAttrs_list PySem.F.slot_list_append PySem.F.type_list_append mt_append (pe_dget (hu_of hr) (pv 0) pe_str (fun _ _ => rfl)) (pa_cons (pv 2) pa_nil)))
      (pss_cons (ps_set (i := 4) scGo.nd rfl (by first | exact Or.inl rfl | exact Or.inr rfl) (pe_lst pa_nil))
      (pss_cons (ps_if (pt_cmpR op_eq (pe_ix ix_tup (pv 3) pe_int (fun _ _ => rfl)) pe_str (nomark _)) (pss_one (ps_ret pe_bl)) pss_nil)
      (C8.pss_cut (ps_if (pt_cmpR op_eq (pe_ix ix_tup (pv 3) pe_int (fun _ _ => rfl)) pe_str (nomark _)) (pss_one (ps_set (i := 4) scGo.nd rfl (by first | exact Or.inl rfl | exact Or.inr rfl) (pe_op op_rep (pe_lst (pa_cons (pe_tup (pa_cons (pe_ix ix_tup (pv 3) pe_int (fun _ _ => rfl)) (pa_cons (pe_op op_add (pv 2) pe_int) pa_nil))) pa_nil)) (pe_ix ix_tup (pv 3) pe_int (fun _ _ => rfl))))) (pss_one (ps_if (pt_cmpR op_eq (pe_ix ix_tup (pv 3) pe_int (fun _ _ => rfl)) pe_str (nomark _)) (pss_cons (ps_set (i := 5) scGo.nd rfl (by first | exact Or.inl rfl | exact Or.inr rfl) (pe_call G_true (hr.mono (by omega)) (by rfl) m_true F_true.kp b_true .nil pass0 (pa_cons (pe_ix ix_tup (pv 3) pe_int (fun _ _ => rfl)) (pa_cons (pe_dget (hu_of hr) (pv 0) pe_str (fun _ _ => rfl)) pa_nil))))
      (pss_one (ps_set (i := 4) scGo.nd rfl (by first | exact Or.inl rfl | exact Or.inr rfl) (pe_lst (pa_cons (pe_ifExp (pt_val (pv 5)) (pe_tup (pa_cons (pe_ix ix_tup (pv 3) pe_int (fun _ _ => rfl)) (pa_cons (pe_op op_add (pv 2) pe_int) pa_nil))) (pe_tup (pa_cons (pe_ix ix_tup (pv 3) pe_int (fun _ _ => rfl)) (pa_cons (pe_op op_add (pe_op op_add (pv 2) pe_int) (pe_call (G_size d) (hr.mono (by omega)) (by rfl) m_size F_size.kp b_size .nil pass0 (pa_cons (pe_ix ix_tup (pv 3) pe_int (fun _ _ => rfl)) pa_nil))) pa_nil)))) pa_nil))))) (pss_one (ps_if (pt_cmpR op_eq (pe_ix ix_tup (pv 3) pe_int (fun _ _ => rfl)) pe_str (nomark _)) (pss_one (ps_dput (hu_of hr) (pe_dget (hu_of hr) (pv 0) pe_str (fun _ _ => rfl)) (pe_ix ix_tup (pv 3) pe_int (fun _ _ => rfl)) (pe_call G_value (hr.mono (by omega)) (by rfl) m_value F_value.kp b_value .nil pass0 (pa_cons (pe_ix ix_tup (pv 3) pe_int (fun _ _ => rfl)) (pa_cons (pe_dget (hu_of hr) (pv 0) pe_str (fun _ _ => rfl)) pa_nil))) rfl)) (pss_one (ps_dput (hu_of hr) (pv 0) pe_str (pe_op op_add (pe_dget (hu_of hr) (pv 0) pe_str (fun _ _ => rfl)) (pe_call G_value (hr.mono (by omega)) (by rfl) m_value F_value.kp b_value .nil pass0 (pa_cons (pe_ix ix_tup (pv 3) pe_int (fun _ _ => rfl)) (pa_cons (pe_dget (hu_of hr) (pv 0) pe_str (fun _ _ => rfl)) pa_nil)))) rfl)))))))
      (C8.pss_cut (ps_for PassesOwn.never rfl (pi_list (pv 4)) (pg_tup rfl (pgs_cons (pg_name (i := 6) scGo.nd rfl (by first | exact Or.inl rfl | exact Or.inr rfl)) (pgs_cons (pg_name (i := 7) scGo.nd rfl (by first | exact Or.inl rfl | exact Or.inr rfl)) pgs_nil))) (pss_one (ps_if (pt_val (pe_call G_go (hr.mono (by omega)) (by rfl) m_go F_go.kp b_go .nil pass0 (pa_cons (pv 0) (pa_cons (pv 6) (pa_cons (pv 7) pa_nil))))) (pss_one (ps_ret pe_bl)) pss_nil)))
      (pss_one (ps_set (i := 2) scGo.nd rfl (by first | exact Or.inl rfl | exact Or.inr rfl) (pe_op op_add (pv 2) (pe_call (G_size (d + 1)) (hr.mono (by omega)) (by rfl) m_size F_size.kp b_size .nil pass0 (pa_cons (pe_tup (pa_cons (pv 3) pa_nil)) pa_nil)))))))))))
      (pss_one (ps_ret pe_bl) )), ?_⟩
      obtain ⟨a, xs, rfl, ha, hx⟩ := t.tuple
      rw [b.ds_lst] at hx
      obtain ⟨hl, hg⟩ := hx.lst
      have na : a ∉ [W, N, L] := R.nt ha
      refine ⟨fun _ H' => Q (.bl false) H', ?_, fun _ _ h => h⟩
      refine ⟨_, rfl, a, rfl, ⟨_, SqT.of ha⟩, for_tup (xs := xs)
        (fun i σ H' => ∃ (b' : Bk) (p' : Int) (w' : Wd) (o3 o4 o5 o6 o7 : Option V), σ = [some (.ref W), some (.ref a), some (.int p'), o3, o4, o5, o6, o7] ∧ Sx [W, N, L] H H' ∧ Wr H' W N L w' 0 ∧ b'.lst = b.lst.drop i ∧ b.run p wd = b'.run p' w' ∧ w'.pl.length + b'.wt ≤ 1000000)
        ⟨b, p, wd, _, _, _, _, _, rfl, Sx.refl _, R, rfl, rfl, hm⟩ (fun i σ H' _ h => by obtain ⟨_, _, _, _, _, _, _, _, _, s1, _⟩ := h; exact SqT.of (s1 _ _ na ha)) (fun i x σ H' hi h => ?_) (fun σ H' h => ?_)⟩
      · obtain ⟨b', p', w', o3, o4, o5, o6, o7, rfl, s1, R1, hb, hrun, hm1⟩ := h
        obtain ⟨st, hst, tst⟩ := hg i x hi
        have hmem : st ∈ b.lst := List.mem_of_getElem? hst
        obtain ⟨d1, so⟩ := Bk.ok_mem ho hmem
        have szle : st.sz ≤ b.sz := by rw [b.sz_lst]; exact sum_mem (List.mem_map_of_mem hmem)
        obtain ⟨hlt, hge⟩ := List.getElem?_eq_some_iff.mp hst
        rw [List.drop_eq_getElem_cons hlt, hge] at hb
        cases b' with
        | nil => cases hb
        | cons s' b2 =>
          obtain ⟨e1, hb2⟩ := List.cons.inj hb
          subst e1
          have ts1 : Tp H' x s'.d := tst.keep (R.tk s1)
          refine gnm ?_
          -- the place is told
          refine ⟨_, rfl, W, .ref L, rfl, R1.gP, .inl ⟨rfl, _, SqL.of R1.hl⟩, _, rfl, L, _, _, rfl, rfl, R1.hl, lt_line (by rw [List.length_map]; omega), ?_⟩
          have R2 := R1.place p'
          have s2 : Sx [W, N, L] H' (upd H' L (.lst (w'.pl.map V.int ++ [.int p']))) := (Sx.refl _).put (by simp)
          have ts2 : Tp (upd H' L (.lst (w'.pl.map V.int ++ [.int p']))) x s'.d := ts1.keep (R1.tk s2)
          have hm2 : (w'.pl ++ [p']).length = w'.pl.length + 1 := by rw [List.length_append]; rfl
          refine gh (H1 := upd H' L (.lst (w'.pl.map V.int ++ [.int p']))) (F := fun H2 => Wr H2 W N L ⟨w'.en, w'.tot, w'.pl ++ [p']⟩ 1 ∧ Sx [W, N, L] H H2 ∧ Tp H2 x s'.d) ⟨R2, s1.trans s2, ts2⟩ (fun H2 ⟨R2, s2, ts2⟩ => ?_)
          -- nothing is inner
          refine ⟨by show 0 ≤ sizeLine; decide, fun I0 hI0 => ?_⟩
          have R3 := R2.sx ((Sx.refl (ex := []) _).new (o := .lst []) hI0)
          have ts3 : Tp (upd H2 I0 (.lst [])) x s'.d := ts2.new hI0
          have nI0 := R2.nw hI0
          have I0at : upd H2 I0 (.lst []) I0 = some (.lst []) := upd_same
          refine gh (H1 := upd H2 I0 (.lst [])) (F := fun H3 => Wr H3 W N L ⟨w'.en, w'.tot, w'.pl ++ [p']⟩ 1 ∧ Sx [W, N, L] H H3 ∧ Tp H3 x s'.d ∧ H3 I0 = some (.lst [])) ⟨R3, s2.new hI0, ts3, I0at⟩ (fun H3 ⟨R3, s3, ts3, I0at⟩ => ?_)
          obtain ⟨ax, xs', rfl, hax⟩ := St.at_ ts3
          refine ⟨_, rfl, ax, _, _, .str s'.hd, rfl, rfl, SqT.of hax, at0 _ _, rfl, _, rfl, ite2 (fun e => ?_) (fun e => ?_)⟩
          -- stop
          · cases s' with
            | stop =>
              have hr2 : b.run p wd = (⟨w'.en, w'.tot, w'.pl ++ [p']⟩, true) := by
                rw [hrun]
                simp [Bk.run, St.run]
              have := q H3 s3 (by rw [hr2]; exact R3.less)
              rw [hr2] at this
              exact this
            | _ => exact absurd (V.str.inj (of_decide_eq_true e)) (by simp only [St.hd]; decide +kernel)
          · have nstop : s' ≠ .stop := fun z => by rw [z] at e; exact e (by decide +kernel)
            -- the inner blocks, so often
            refine ⟨fun σ4 H4 => ∃ (I t4 : Addr) (n : Nat) (y : Bk) (q4 : Int) (u : V) (w1 : Wd) (o5 o6 o7 : Option V), σ4 = [some (.ref W), some (.ref a), some (.int p'), some (.ref ax), some (.ref I), o5, o6, o7] ∧ Sx [W, N, L] H3 H4 ∧ Wr H4 W N L w1 0 ∧
              H4 I = some (.lst (List.replicate n (.ref t4))) ∧ I ∉ [W, N, L] ∧ (n ≠ 0 → H4 t4 = some (.tup [u, .int q4]) ∧ Tp H4 u (.tuple y.ds) ∧ 1 ≤ d ∧ y.ok ns (d - 1) ∧ y.sz < 16777216) ∧ n ≤ 8 ∧ s'.run p' w' = itr (y.run q4) n w1 ∧ w1.pl.length + n * y.wt + b2.wt ≤ 1000000, ?_, ?_⟩
            · cases s' with
              | stop => exact absurd rfl nstop
              | set z ex =>
                obtain ⟨a', p1, p2, p3, ea, hA, t1, t2, t3⟩ := tp3 ts3
                cases ea
                obtain rfl := tpS t1
                obtain rfl := tpS t2
                obtain ⟨kvs, hN, _, hv⟩ := R3.hn
                refine ⟨_, rfl, ax, _, _, _, rfl, rfl, SqT.of hA, rfl, rfl, _, rfl, iteN (by decide +kernel) ⟨_, rfl, ax, _, _, _, rfl, rfl, SqT.of hA, rfl, rfl, _, rfl, iteN (by decide +kernel) ⟨_, rfl, ax, _, _, _, rfl, rfl, SqT.of hA, rfl, rfl, _, rfl, iteP (by decide +kernel) ?_⟩⟩⟩
                have R4 := R3.set hN z (ex.ev w'.en)
                refine ⟨_, rfl, ax, _, _, p3, rfl, rfl, SqT.of hA, rfl, _, rfl, W, .ref N, rfl, R3.gN, p3, N, ex, w'.en, rfl, t3, so.2, R3.en, ?_⟩
                refine ⟨_, rfl, W, .ref N, rfl, R3.gN, _, rfl, ax, _, _, .str z, rfl, rfl, SqT.of hA, rfl, N, _, rfl, DPut.k (k := .inr z) hN (lt_line (by have := R4.1; simp only [List.length_append, List.length_cons, List.length_nil] at this; omega)), ?_⟩
                refine ⟨I0, 0, 0, .nil, 0, .non, _, _, _, _, rfl, (Sx.refl _).put (by simp), R4.2, ?_, nI0, fun z => absurd rfl z, by omega, rfl, ?_⟩
                · rw [upd_ne (fun z => nI0 (by rw [z]; simp))]
                  exact I0at
                · simp only [Bk.wt, St.wt] at hm1
                  simp only [hm2]
                  omega
              | pay ex =>
                obtain ⟨a', p1, p2, ea, hA, t1, t2⟩ := tp2 ts3
                cases ea
                obtain rfl := tpS t1
                refine ⟨_, rfl, ax, _, _, _, rfl, rfl, SqT.of hA, rfl, rfl, _, rfl, iteN (by decide +kernel) ⟨_, rfl, ax, _, _, _, rfl, rfl, SqT.of hA, rfl, rfl, _, rfl, iteN (by decide +kernel) ⟨_, rfl, ax, _, _, _, rfl, rfl, SqT.of hA, rfl, rfl, _, rfl, iteN (by decide +kernel) ?_⟩⟩⟩
                have R4 := R3.pay (w'.tot + ex.ev w'.en)
                refine ⟨_, rfl, W, .int w'.tot, rfl, R3.gT, _, rfl, ax, _, _, p2, rfl, rfl, SqT.of hA, rfl, _, rfl, W, .ref N, rfl, R3.gN, p2, N, ex, w'.en, rfl, t2, so, R3.en, ?_⟩
                refine ⟨_, _, rfl, rfl, _, rfl, W, _, rfl, R3.pT _, ?_⟩
                refine ⟨I0, 0, 0, .nil, 0, .non, _, _, _, _, rfl, (Sx.refl _).put (by simp), R4.less, ?_, nI0, fun z => absurd rfl z, by omega, rfl, ?_⟩
                · rw [upd_ne (fun z => nI0 (by rw [z]; simp))]
                  exact I0at
                · simp only [Bk.wt, St.wt] at hm1
                  simp only [hm2]
                  omega
              | rep k y =>
                obtain ⟨a', p1, p2, p3, ea, hA, t1, t2, t3⟩ := tp3 ts3
                cases ea
                obtain rfl := tpS t1
                obtain rfl := tpI t2
                obtain ⟨k1, k8, yo⟩ := so
                refine ⟨_, rfl, ax, _, _, _, rfl, rfl, SqT.of hA, rfl, rfl, _, rfl, iteP (by decide +kernel) ?_⟩
                refine ⟨_, rfl, ax, _, _, p3, rfl, rfl, SqT.of hA, rfl, _, rfl, p', 1, rfl, rfl, by show 2 ≤ sizeLine; decide, fun t4 h4 => ?_⟩
                refine ⟨by show 1 ≤ sizeLine; decide, fun l4 hl4 => ?_⟩
                have n5 : Sx [] H3 (upd (upd H3 t4 (.tup [p3, .int (p' + 1)])) l4 (.lst [.ref t4])) := (Sx.n0 h4).trans (Sx.n0 hl4)
                refine ⟨_, rfl, ax, _, _, .int k, rfl, rfl, SqT.of (n5 _ _ (by simp) hA), rfl, l4, k, _, rfl, rfl, upd_same, by omega, by omega, le_line (by rw [show ([V.ref t4] : List V).length = 1 from rfl]; omega), fun I hI => ?_⟩
                rw [flat_rep]
                have n6 : Sx [] H3 (upd (upd (upd H3 t4 (.tup [p3, .int (p' + 1)])) l4 (.lst [.ref t4])) I (.lst (List.replicate k.toNat (.ref t4)))) := n5.new hI
                have t4at : (upd H3 t4 (.tup [p3, .int (p' + 1)])) t4 = some (.tup [p3, .int (p' + 1)]) := upd_same
                refine ⟨I, t4, k.toNat, y, p' + 1, p3, _, _, _, _, rfl, n6.nil, (R3.sx n6).less, upd_same, (R3.sx n5).nw hI, fun _ => ⟨Sx.n0 hI _ _ (by simp) (Sx.n0 hl4 _ _ (by simp) t4at), t3.keep n6.tk0, d1, yo, ?_⟩, by omega, rfl, ?_⟩
                · simp only [St.sz] at szle
                  omega
                · simp only [Bk.wt, St.wt] at hm1
                  simp only [hm2]
                  omega
              | ite ts y n =>
                obtain ⟨a', p1, p2, p3, p4, ea, hA, t1, t2, t3, t4⟩ := tp4 ts3
                cases ea
                obtain rfl := tpS t1
                obtain ⟨o1, yo, no⟩ := so
                simp only [St.sz] at szle
                refine ⟨_, rfl, ax, _, _, _, rfl, rfl, SqT.of hA, rfl, rfl, _, rfl, iteN (by decide +kernel) ⟨_, rfl, ax, _, _, _, rfl, rfl, SqT.of hA, rfl, rfl, _, rfl, iteP (by decide +kernel) ?_⟩⟩
                refine ⟨_, rfl, ax, _, _, p2, rfl, rfl, SqT.of hA, rfl, _, rfl, W, .ref N, rfl, R3.gN, p2, N, ts, w'.en, rfl, t2, by omega, o1, R3.en, ?_⟩
                refine ⟨_, rfl, _, rfl, ite2 (fun e => ?_) (fun e => ?_)⟩
                · refine ⟨_, rfl, ax, _, _, p3, rfl, rfl, SqT.of hA, rfl, _, rfl, p', 1, rfl, rfl, by show 2 ≤ sizeLine; decide, fun t5 h5 => ?_⟩
                  refine ⟨by show 1 ≤ sizeLine; decide, fun I hI => ?_⟩
                  have n5 : Sx [] H3 (upd H3 t5 (.tup [p3, .int (p' + 1)])) := Sx.n0 h5
                  refine ⟨I, t5, 1, y, p' + 1, p3, _, _, _, _, rfl, (n5.new hI).nil, (R3.sx (n5.new hI)).less, upd_same, (R3.sx n5).nw hI, fun _ => ⟨Sx.n0 hI _ _ (by simp) upd_same, t3.keep (n5.new hI).tk0, d1, yo, by omega⟩, by omega, ?_, ?_⟩
                  · rw [itr_one]
                    simp only [St.run, e, if_true]
                  · simp only [Bk.wt, St.wt] at hm1
                    simp only [hm2]
                    omega
                · refine ⟨_, rfl, ax, _, _, p4, rfl, rfl, SqT.of hA, rfl, _, rfl, p', 1, rfl, rfl, _, rfl, ax, _, _, p3, rfl, rfl, SqT.of hA, rfl, p3, y, ns, rfl, t3, yo, d1, by omega, fun H4 s4 => ?_⟩
                  refine ⟨_, _, rfl, rfl, by show 2 ≤ sizeLine; decide, fun t5 h5 => ?_⟩
                  refine ⟨by show 1 ≤ sizeLine; decide, fun I hI => ?_⟩
                  have n5 : Sx [] H3 (upd H4 t5 (.tup [p4, .int (p' + 1 + y.sz)])) := s4.trans (Sx.n0 h5)
                  refine ⟨I, t5, 1, n, p' + 1 + y.sz, p4, _, _, _, _, rfl, (n5.new hI).nil, (R3.sx (n5.new hI)).less, upd_same, (R3.sx n5).nw hI, fun _ => ⟨Sx.n0 hI _ _ (by simp) upd_same, t4.keep (n5.new hI).tk0, d1, no, by omega⟩, by omega, ?_, ?_⟩
                  · rw [itr_one]
                    simp only [St.run]
                    rw [if_neg e]
                  · simp only [Bk.wt, St.wt] at hm1
                    simp only [hm2]
                    omega
            · rintro _ H4 ⟨I, t4, n, y, q4, u, w1, o5, o6, o7, rfl, s4, R4, hI, nI, ht4, hn8, hrun4, hm4⟩
              refine ⟨fun σ5 H5 => ∃ (w2 : Wd) (o5 o6 o7 : Option V), σ5 = [some (.ref W), some (.ref a), some (.int p'), some (.ref ax), some (.ref I), o5, o6, o7] ∧ Sx [W, N, L] H3 H5 ∧ Wr H5 W N L w2 0 ∧ s'.run p' w' = (w2, false) ∧ w2.pl.length + b2.wt ≤ 1000000, ?_, ?_⟩
              · refine ⟨_, rfl, I, rfl, ⟨_, SqL.of hI⟩, for_list (xs := List.replicate n (.ref t4))
                  (fun j σ5 H5 => ∃ (w2 : Wd) (o5 o6 o7 : Option V), σ5 = [some (.ref W), some (.ref a), some (.int p'), some (.ref ax), some (.ref I), o5, o6, o7] ∧ Sx [W, N, L] H4 H5 ∧ Wr H5 W N L w2 0 ∧ itr (y.run q4) n w1 = itr (y.run q4) (n - j) w2 ∧ w2.pl.length + (n - j) * y.wt + b2.wt ≤ 1000000)
                  ⟨w1, _, _, _, rfl, Sx.refl _, R4, rfl, hm4⟩ (fun j σ5 H5 _ h => by obtain ⟨_, _, _, _, _, s5, _⟩ := h; exact SqL.of (s5 _ _ nI hI)) (fun j z σ5 H5 hj h => ?_) (fun σ5 H5 h => ?_)⟩
                · obtain ⟨w2, o5, o6, o7, rfl, s5, R5, hit, hm5⟩ := h
                  rw [List.getElem?_replicate] at hj
                  have hjn : j < n := by
                    by_cases z : j < n
                    · exact z
                    · rw [if_neg z] at hj; cases hj
                  rw [if_pos hjn] at hj
                  cases hj
                  obtain ⟨h4, u4, d4, yo, ysz⟩ := ht4 (by omega)
                  have nt4 := R4.nt h4
                  obtain ⟨m, hmn⟩ : ∃ m, n - j = m + 1 := ⟨n - j - 1, by omega⟩
                  have hmn' : n - (j + 1) = m := by omega
                  rw [hmn] at hit hm5
                  rw [Nat.succ_mul] at hm5
                  refine ⟨t4, _, rfl, SqT.of (s5 _ _ nt4 h4), rfl, _, _, rfl, gnm ⟨_, _, rfl, gnm ⟨rfl, ?_⟩⟩⟩
                  refine ⟨_, rfl, _, rfl, _, rfl, W, N, L, u, y, q4, w2, rfl, u4.keep (R4.tk s5), d4, yo, R5, ysz, by omega, fun H6 s6 R6 => ?_⟩
                  refine ⟨_, rfl, ite2 (fun e2 => ?_) (fun e2 => ?_)⟩
                  · have hr2 : b.run p wd = y.run q4 w2 := by
                      rw [hrun, Bk.run, hrun4, hit, itr, if_pos e2, if_pos e2]
                    have := q H6 ((s3.trans s4).trans (s5.trans s6)) (by rw [hr2]; exact R6)
                    rw [hr2, e2] at this
                    exact this
                  · rw [itr, if_neg e2] at hit
                    have := Bk.run_len y q4 w2
                    exact ⟨_, _, _, _, rfl, s5.trans s6, R6, by rw [hmn']; exact hit, by rw [hmn']; omega⟩
                · obtain ⟨w2, o5, o6, o7, rfl, s5, R5, hit, hm5⟩ := h
                  rw [List.length_replicate, Nat.sub_self] at hit hm5
                  exact ⟨w2, _, _, _, rfl, s4.trans s5, R5, by rw [hrun4, hit]; rfl, by omega⟩
              · rintro _ H5 ⟨w2, o5, o6, o7, rfl, s5, R5, hrun5, hm5⟩
                have nax : ax ∉ [W, N, L] := R3.nt hax
                have ts5 := ts3.keep (R3.tk s5)
                refine ⟨_, rfl, _, rfl, by show 1 ≤ sizeLine; decide, fun t5 h5 => ?_⟩
                refine ⟨.ref t5, .cons s' .nil, ns, rfl, .tup upd_same (.cons (ts5.new h5) .nil), ⟨d1, so, trivial⟩, by omega, by simp only [Bk.sz]; omega, fun H6 s6 => ?_⟩
                have s7 : Sx [W, N, L] H H6 := (s3.trans s5).trans (((Sx.n0 h5).trans s6).nil)
                have e3 : ((Bk.cons s' .nil).sz : Int) = s'.sz := by simp [Bk.sz]
                refine ⟨_, _, rfl, rfl, b2, _, w2, _, _, _, _, _, rfl, s7, R5.sx ((Sx.n0 h5).trans s6), hb2, ?_, hm5⟩
                rw [hrun, Bk.run, hrun5, e3]
                rfl
      · obtain ⟨b', p', w', o3, o4, o5, o6, o7, rfl, s1, R1, hb, hrun, hm1⟩ := h
        rw [hl, List.drop_length] at hb
        cases b' with
        | cons s b => cases hb
        | nil =>
          have := q H' s1 (by rw [hrun]; exact R1)
          rw [hrun] at this
          exact this
end
abbrev sNumber : Stmt := topS 57
abbrev nNumber : List Str := ["_law_deck_here", "_law_way", "_law_side"]
theorem scNumber : FnScope nNumber ["_law_deck_here"] (defScope sNumber) := ⟨rfl, rfl, rfl, by decide +kernel, rfl, by decide +kernel, by decide +kernel⟩
abbrev sRun : Stmt := topS 71
abbrev nRun : List Str := ["_law_program_here", "_law_number_here", "_law_world"]
theorem scRun : FnScope nRun ["_law_program_here", "_law_number_here"] (defScope sRun) := ⟨rfl, rfl, rfl, by decide +kernel, rfl, by decide +kernel, by decide +kernel⟩
abbrev sSign : Stmt := topS 72
abbrev nSign : List Str := ["_law_total"]
theorem scSign : FnScope nSign ["_law_total"] (defScope sSign) := ⟨rfl, rfl, rfl, by decide +kernel, rfl, by decide +kernel, by decide +kernel⟩
def spNumber : Sp := fun vs H Q _ => ∃ (a c : Addr) (cs : List Int) (k : Int), vs = [.ref a] ∧ Dk H a c cs k ∧ k + 4 ≤ KB ∧
  ∀ H' cs' k' i, Sx [a, c] H H' → Dk H' a c cs' k' → k ≤ k' → k' ≤ k + 4 → -1000000000000000000000000000000000000000000000000000000000000 ≤ i → i ≤ 1000000000000000000000000000000000000000000000000000000000000 → Q (.int i) H'
/-- where a run begins -/
def Wd.at (x : Int) : Wd := ⟨fun y => if y = "n" then x else 0, 0, []⟩
/-- what a run tells -/
def Bk.told (b : Bk) (x : Int) : PyData := .tuple [.int (b.run 0 (Wd.at x)).1.tot, .tuple ((b.run 0 (Wd.at x)).1.pl.map .int)]
def spRun (ns : List Str) : Sp := fun vs H Q _ => ∃ (v : V) (b : Bk) (x : Int), vs = [v, .int x] ∧ Tp H v (.tuple b.ds) ∧ b.ok ns 4 ∧ b.sz < 16777216 ∧ b.wt ≤ 1000000 ∧ ∀ H' r, Sx [] H H' → Tp H' r (b.told x) → Q r H'
def sgn (t : Int) : Int := if t < 0 then -1 else if 0 < t then 1 else 0
def spSign : Sp := fun vs H Q _ => ∃ t : Int, vs = [.int t] ∧ Q (.int (sgn t)) H
theorem putK_new {kvs : List (Key × V)} {k : Key} {v : V} (h : ∀ kv ∈ kvs, ¬ kv.1 = k) : putK kvs k v = kvs ++ [(k, v)] := by
  rw [putK, if_neg]
  intro z
  rw [List.any_eq_true] at z
  obtain ⟨kv, hm, hd⟩ := z
  exact h kv hm (of_decide_eq_true hd)
theorem wk_made (N L : Addr) : mergeK [] [((.inr "names" : Key), V.ref N), (.inr "total", .int 0), (.inr "places", .ref L)] = wk N 0 L := by
  show putK (putK (putK [] (.inr "names" : Key) (V.ref N)) (.inr "total" : Key) (.int 0)) (.inr "places" : Key) (.ref L) = _
  rw [putK_new (kvs := []) (fun kv h => by cases h), putK_new (kvs := [] ++ _) (fun kv h => by rw [List.mem_singleton.mp h]; exact k_nt), putK_new (fun kv h => ?_)]
  · rfl
  · simp only [List.nil_append, List.cons_append, List.mem_cons, List.not_mem_nil, or_false] at h
    rcases h with rfl | rfl
    · exact k_np
    · exact k_tp
theorem Dk.none_ne {H : Hp} {a p : Addr} {o : HO} (h : H a = some o) (n : H p = none) : p ≠ a := fun e => by rw [e, h] at n; cases n
theorem TpAll.ints {H : Hp} : ∀ l : List Int, TpAll H (l.map V.int) (l.map PyData.int)
  | [] => .nil
  | i :: l => .cons (.int i) (TpAll.ints l)
section
variable {w : World} {P : Program} {K : PySem.W.Frag} {mg : Str → Option Value} {base : Heap}
theorem ok_number {f fD fO : Addr} {fd fdD fdO : FuncData} (F_number : Fun K "_law_number" "_law_number" sNumber f fd) (F_draw : Fun K "_law_draw" "_law_draw" sDraw fD fdD) (F_one : Fun K "_law_one" "_law_one" sOne fO fdO)
    (G_draw : FnOk P w K mg base CX0 1 fD fdD ["_law_deck_here", "_law_many"] spDraw) (G_one : FnOk P w K mg base CX0 2 fO fdO ["_law_deck_here", "_law_items"] (spOne K))
    (b_draw : Binds K fdD ["_law_deck_here", "_law_many"] []) (b_one : Binds K fdO ["_law_deck_here", "_law_items"] [])
    (m_draw : mg "_law_draw" = some (.ref fD)) (m_one : mg "_law_one" = some (.ref fO)) : FnOk P w K mg base CX0 3 f fd ["_law_deck_here"] spNumber := by
  refine F_number.ok scNumber (fun vs H Q E h => ?_) (fun cdv A outer s H vs Q E hr h => ?_)
  · obtain ⟨a, c, cs, k, rfl, _⟩ := h
    rfl
  · obtain ⟨a, c, cs, k, rfl, D, hk, q⟩ := h
    refine ⟨_, (pss_cons (ps_par (i := 1) (j := 2) (by rfl) scNumber.nd rfl rfl (by decide) rfl rfl (pa_cons (pe_call G_draw (hr.mono (by omega)) (by rfl) m_draw F_draw.kp b_draw .nil pass0 (pa_cons (pv 0) (pa_cons pe_int pa_nil))) (pa_cons (pe_call G_one (hr.mono (by omega)) (by rfl) m_one F_one.kp b_one .nil pass0 (pa_cons (pv 0) (pa_cons (pe_lst (pa_cons pe_int (pa_cons (pe_un un_neg pe_int) pa_nil))) pa_nil))) pa_nil)) (by rfl))
      (pss_cons (ps_if (pt_cmpR op_lt (pv 1) pe_int (nomark _)) (pss_one (ps_ret (pe_op op_mul (pv 2) (pe_call G_draw (hr.mono (by omega)) (by rfl) m_draw F_draw.kp b_draw .nil pass0 (pa_cons (pv 0) (pa_cons pe_int pa_nil)))))) pss_nil)
      (pss_one (ps_ret (pe_op op_mul (pv 2) (pe_op op_add (pe_op op_mul (pe_op op_pow pe_int pe_int) (pe_call G_draw (hr.mono (by omega)) (by rfl) m_draw F_draw.kp b_draw .nil pass0 (pa_cons (pv 0) (pa_cons (pe_op op_pow pe_int pe_int) pa_nil)))) (pe_call G_draw (hr.mono (by omega)) (by rfl) m_draw F_draw.kp b_draw .nil pass0 (pa_cons (pv 0) (pa_cons (pe_op op_pow pe_int pe_int) pa_nil))))))))), ?_⟩
    refine ⟨_, rfl, a, c, cs, k, 5, rfl, D, by decide, by decide, by omega, fun H1 cs1 r s1 D1 r0 r1 => ?_⟩
    refine ⟨_, rfl, 1, rfl, by show 2 ≤ sizeLine; decide, fun l hl => ?_⟩
    obtain ⟨la, lc⟩ := D1.nw hl
    refine ⟨a, c, cs1, _, _, rfl, D1.same (Sx.n0 hl), by omega, .inl ⟨l, _, rfl, .inl (.inl upd_same), by simp, by show 2 ≤ 100000; decide, la, lc, fun H2 cs2 x s2 D2 hx => ?_⟩⟩
    have s12 : Sx [a, c] H H2 := (s1.new hl).trans s2
    obtain ⟨i, rfl, hi⟩ : ∃ i : Int, x = .int i ∧ (i = 1 ∨ i = -1) := by
      simp only [List.not_mem_nil, List.mem_cons, or_false] at hx
      rcases hx with rfl | rfl
      · exact ⟨_, rfl, .inl rfl⟩
      · exact ⟨_, rfl, .inr rfl⟩
    refine ⟨_, _, rfl, ?_⟩
    refine ⟨_, rfl, _, 4, rfl, rfl, _, rfl, ite2 (fun e => ?_) (fun e => ?_)⟩
    · refine ⟨_, rfl, _, rfl, a, c, cs2, _, 40, rfl, D2, by decide, by decide, by omega, fun H3 cs3 z s3 D3 z0 z1 => ?_⟩
      refine ⟨i, z, rfl, rfl, .inl ⟨by omega, by omega⟩, ?_⟩
      refine q H3 cs3 _ _ (s12.trans s3) D3 (by omega) (by omega) ?_ ?_ <;> rcases hi with rfl | rfl <;> omega
    · refine ⟨_, rfl, 10, 50, rfl, rfl, ⟨by decide, by decide, by decide⟩, _, rfl, 10, 9, rfl, rfl, ⟨by decide, by decide, by decide⟩, a, c, cs2, _, _, rfl, D2, by decide, by decide, by omega, fun H3 cs3 z s3 D3 z0 z1 => ?_⟩
      have ez : ((10 : Int) ^ Int.toNat 9) = 1000000000 := by decide
      rw [ez] at z1
      refine ⟨_, z, rfl, rfl, .inr ⟨by omega, by omega⟩, _, rfl, 10, 9, rfl, rfl, ⟨by decide, by decide, by decide⟩, a, c, cs3, _, _, rfl, D3, by decide, by decide, by omega, fun H4 cs4 y s4 D4 y0 y1 => ?_⟩
      rw [ez] at y1
      have e50 : ((10 : Int) ^ Int.toNat 50) = 100000000000000000000000000000000000000000000000000 := by decide
      refine ⟨_, _, rfl, rfl, i, _, rfl, rfl, .inl ⟨by omega, by omega⟩, ?_⟩
      rw [e50]
      refine q H4 cs4 _ _ ((s12.trans s3).trans s4) D4 (by omega) (by omega) ?_ ?_ <;> rcases hi with rfl | rfl <;> omega
theorem ok_sign {f : Addr} {fd : FuncData} {k : Nat} (F_sign : Fun K "_law_sign" "_law_sign" sSign f fd) (z_int : mg "int" = none) : FnOk P w K mg base CX0 (k + 1) f fd ["_law_total"] spSign := by
  refine F_sign.ok scSign (fun vs H Q E h => ?_) (fun cdv A outer s H vs Q E hr h => ?_)
  · obtain ⟨t, rfl, _⟩ := h
    rfl
  · obtain ⟨t, rfl, q⟩ := h
    refine ⟨_, (pss_one (ps_ret (pe_ifExp (pt_cmpR op_lt (pv 0) pe_int (nomark _)) (pe_un un_neg pe_int) (pe_callTy call_int1 (by rfl) z_int boot_int (pa_cons (pe_cmpR op_gt (pv 0) pe_int (nomark _)) pa_nil))))), ?_⟩
    refine ⟨_, rfl, t, 0, rfl, rfl, _, rfl, ite2 (fun e => ?_) (fun e => ?_)⟩
    · have e' := of_decide_eq_true e
      refine ⟨1, rfl, ?_⟩
      unfold sgn at q
      rw [if_pos e'] at q
      exact q
    · have e' : ¬ t < 0 := fun z => e (decide_eq_true z)
      refine ⟨_, rfl, t, 0, rfl, rfl, .inr ⟨_, rfl, ?_⟩⟩
      unfold sgn at q
      rw [if_neg e'] at q
      by_cases h : 0 < t
      · rw [if_pos h] at q
        rw [show decide (t > 0) = true from decide_eq_true h]
        exact q
      · rw [if_neg h] at q
        rw [show decide (t > 0) = false from decide_eq_false h]
        exact q
theorem ok_run {f fG : Addr} {fd fdG : FuncData} {ns : List Str} (F_run : Fun K "_law_run" "_law_run" sRun f fd) (F_go : Fun K "_law_go" "_law_go" sGo fG fdG)
    (G_go : FnOk P w K mg base CX0 13 fG fdG ["_law_world", "_law_block_here", "_law_place"] (spGo ns 5)) (b_go : Binds K fdG ["_law_world", "_law_block_here", "_law_place"] []) (m_go : mg "_law_go" = some (.ref fG)) (z_tuple : mg "tuple" = none) :
    FnOk P w K mg base CX0 14 f fd ["_law_program_here", "_law_number_here"] (spRun ns) := by
  refine F_run.ok scRun (fun vs H Q E h => ?_) (fun cdv A outer s H vs Q E hr h => ?_)
  · obtain ⟨_, _, _, rfl, _⟩ := h
    rfl
  · obtain ⟨v, b, x, rfl, t, ho, hz, hw, q⟩ := h
    refine ⟨_, (pss_cons (ps_set (i := 2) scRun.nd rfl (by first | exact Or.inl rfl | exact Or.inr rfl) (pe_disp (pps_cons pe_str (pe_disp (pps_cons pe_str (pv 1) pps_nil) (by rfl) (by rfl) (fun z => by cases z) (by decide)) (pps_cons pe_str pe_int (pps_cons pe_str (pe_lst pa_nil) pps_nil))) (by rfl) (by rfl) (fun z => by cases z) (by decide)))
      (pss_cons (ps_expr (pe_call G_go (hr.mono (by omega)) (by rfl) m_go F_go.kp b_go .nil pass0 (pa_cons (pv 2) (pa_cons (pv 0) (pa_cons pe_int pa_nil)))))
      (pss_one (ps_ret (pe_tup (pa_cons (pe_dget (hu_of hr) (pv 2) pe_str (fun _ _ => rfl)) (pa_cons (pe_callTy call_tuple_of (by rfl) z_tuple boot_tuple (pa_cons (pe_dget (hu_of hr) (pv 2) pe_str (fun _ _ => rfl)) pa_nil)) pa_nil))))))), ?_⟩
    refine fun W hW => fun N hN => ?_
    have hNW := Dk.none_ne (upd_same : upd H W (.dK []) W = _) hN
    refine ⟨_, rfl, upd_same, [(.inr "n", .int x)], rfl, by show 1 ≤ 15; decide, ?_⟩
    refine ⟨by show 0 ≤ sizeLine; decide, fun L hL => ?_⟩
    have hWN : W ≠ N := hNW.symm
    have hLW := Dk.none_ne (by rw [upd_ne hWN, upd_ne hWN]; exact upd_same : upd (upd (upd H W (.dK [])) N (.dK [])) N (.dK (mergeK [] [(.inr "n", .int x)])) W = _) hL
    have hLN := Dk.none_ne (upd_same : upd (upd (upd H W (.dK [])) N (.dK [])) N (.dK (mergeK [] [(.inr "n", .int x)])) N = _) hL
    refine ⟨by rw [upd_ne hLW.symm, upd_ne hWN, upd_ne hWN]; exact upd_same, [(.inr "names", .ref N), (.inr "total", .int 0), (.inr "places", .ref L)], rfl, by show 3 ≤ 15; decide, ?_⟩
    rw [wk_made]
    have en : mergeK [] [((.inr "n" : Key), V.int x)] = [(.inr "n", .int x)] := by
      show putK [] (.inr "n" : Key) (V.int x) = _
      rw [putK_new (fun kv h => by cases h)]
      rfl
    rw [en]
    have hHN : H N = none := by
      rw [upd_ne hNW] at hN
      exact hN
    have hHL : H L = none := by
      rw [upd_ne hLN, upd_ne hLN, upd_ne hLW] at hL
      exact hL
    refine gh (F := fun H1 => Sx [] H H1 ∧ Wr H1 W N L (Wd.at x) 0) ⟨?_, upd_same, ⟨[(.inr "n", .int x)], ?_, by show 1 ≤ 0 + 1; decide, fun z => ?_⟩, ?_, hWN⟩ (fun H1 ⟨s1, R⟩ => ?_)
    · exact ((((Sx.n0 hW).own hHN).own hHN).own hHL).own hW
    · rw [upd_ne hNW, upd_ne hLN.symm, upd_same]
    · show (valV [((.inr "n" : Key), V.int x)] (.inr z)).getD (.int 0) = .int (if z = "n" then x else 0)
      by_cases h : z = "n"
      · rw [if_pos h, h]
        unfold valV
        rw [List.find?_cons_of_pos (by simp)]
        rfl
      · rw [if_neg h]
        unfold valV
        rw [List.find?_cons_of_neg (by simp only [decide_eq_true_eq]; exact fun e => h (Sum.inr.inj e).symm)]
        rfl
    · rw [upd_ne hLW, upd_same]
      rfl
    refine ⟨_, rfl, _, rfl, W, N, L, v, b, 0, Wd.at x, rfl, t.keep s1.tk0, by decide, ho, R, hz, by show 0 + b.wt ≤ 1000000; omega, fun H2 s2 R2 => ?_⟩
    have s12 : Sx [] H H2 := fun p o _ e => by
      have z := s1 p o (by simp) e
      refine s2 p o (fun hm => ?_) z
      have : H p = none := by
        simp only [List.not_mem_nil, List.mem_cons, or_false] at hm
        rcases hm with rfl | rfl | rfl
        · exact hW
        · exact hHN
        · exact hHL
      rw [this] at e
      cases e
    refine ⟨_, rfl, W, _, rfl, R2.gT, _, rfl, W, .ref L, rfl, R2.gP, L, _, rfl, .inl ⟨SqL.of R2.hl, fun l hl => ?_⟩⟩
    refine ⟨by show 2 ≤ sizeLine; decide, fun u hu => ?_⟩
    exact q _ _ ((s12.new hl).new hu) (.tup upd_same (.cons (.int _) (.cons (.tup (by rw [upd_ne (ne_of_none upd_same hu)]; exact upd_same) (TpAll.ints _)) .nil)))
end
/-! ### data that repr shows -/
structure Shw (k n : Nat) (d : PyData) : Prop where
  s : d.showable = true
  h : d.hasDict = false
  l : d.leavesShort 1921 = true
  dp : d.depth ≤ k
  w : d.weight ≤ n
structure ShwA (k n : Nat) (ds : List PyData) : Prop where
  s : PyData.showableAll ds = true
  h : PyData.hasDictAll ds = false
  l : PyData.leavesShortAll 1921 ds = true
  dp : PyData.depthAll ds ≤ k
  w : PyData.weightAll ds ≤ n
namespace Shw
theorem mono {k n k' n' : Nat} {d : PyData} (h : Shw k n d) (hk : k ≤ k') (hn : n ≤ n') : Shw k' n' d := ⟨h.s, h.h, h.l, Nat.le_trans h.dp hk, Nat.le_trans h.w hn⟩
theorem int {i : Int} {n : Nat} (h : i.natAbs < 2 ^ n) (h0 : 0 < n) (hn : n ≤ 1920) (k : Nat) : Shw k n (.int i) := by
  have l := PySem.Flt.log2_lt_of h0 h
  have l' : i.natAbs.log2 < 1920 := by omega
  refine ⟨by simp only [PyData.showable, decide_eq_true_eq]; exact l', by simp only [PyData.hasDict], ?_, by simp only [PyData.depth]; omega, ?_⟩
  · simp only [PyData.leavesShort, decide_eq_true_eq, PyData.shown]
    exact decide_eq_true (int_text_len_1921 l')
  · simp only [PyData.weight]
    split <;> omega
theorem str {z : Str} (h : PyData.strOk z = true) (k n : Nat) (hn : z.length ≤ n) : Shw k n (.str z) := by
  refine ⟨by simp only [PyData.showable], by simp only [PyData.hasDict], ?_, by simp only [PyData.depth]; omega, by simp only [PyData.weight]; exact hn⟩
  simp only [PyData.leavesShort]
  rw [List.all_eq_true]
  intro c hc
  unfold PyData.strOk at h
  rw [Array.all_eq_true'] at h
  have := of_decide_eq_true (h c (Array.mem_toList_iff.mp hc))
  have e : (16 : Nat) ^ 8 = 4294967296 := rfl
  refine decide_eq_true ?_; omega
theorem tup {k n : Nat} {ds : List PyData} (h : ShwA k n ds) : Shw (k + 1) n (.tuple ds) :=
  ⟨by simp only [PyData.showable]; exact h.s, by simp only [PyData.hasDict]; exact h.h, by simp only [PyData.leavesShort]; exact h.l, by simp only [PyData.depth]; have := h.dp; omega, by simp only [PyData.weight]; exact h.w⟩
theorem lst {k n : Nat} {ds : List PyData} (h : ShwA k n ds) : Shw (k + 1) n (.list ds) :=
  ⟨by simp only [PyData.showable]; exact h.s, by simp only [PyData.hasDict]; exact h.h, by simp only [PyData.leavesShort]; exact h.l, by simp only [PyData.depth]; have := h.dp; omega, by simp only [PyData.weight]; exact h.w⟩
/-- what repr asks -/
theorem len {k n : Nat} {d : PyData} (h : Shw k n d) (hn : n ≤ 8000) : d.shown.length ≤ 16777216 := by
  have := PyData.shown_le 1921 (by decide) d h.l
  have := h.w
  omega
end Shw
namespace ShwA
theorem nil (k n : Nat) : ShwA k n [] := ⟨by simp only [PyData.showableAll], by simp only [PyData.hasDictAll], by simp only [PyData.leavesShortAll], by simp only [PyData.depthAll]; omega, by simp only [PyData.weightAll]; omega⟩
theorem cons {k n m : Nat} {d : PyData} {ds : List PyData} (h : Shw k n d) (hs : ShwA k m ds) : ShwA k (n + 1 + m) (d :: ds) := by
  refine ⟨?_, ?_, ?_, ?_, ?_⟩
  · simp only [PyData.showableAll, h.s, hs.s, Bool.and_self]
  · simp only [PyData.hasDictAll, h.h, hs.h, Bool.or_self]
  · simp only [PyData.leavesShortAll, h.l, hs.l, Bool.and_self]
  · simp only [PyData.depthAll]; have := h.dp; have := hs.dp; omega
  · simp only [PyData.weightAll]; have := h.w; have := hs.w; omega
theorem mono {k n k' n' : Nat} {d : List PyData} (h : ShwA k n d) (hk : k ≤ k') (hn : n ≤ n') : ShwA k' n' d := ⟨h.s, h.h, h.l, Nat.le_trans h.dp hk, Nat.le_trans h.w hn⟩
theorem allInt {l : List Int} {n : Nat} (h0 : 0 < n) (hn : n ≤ 1920) (h : ∀ i ∈ l, i.natAbs < 2 ^ n) (k : Nat) : ShwA k ((n + 1) * l.length) (l.map PyData.int) := by
  induction l with
  | nil => exact .nil _ _
  | cons i l ih =>
    refine (ShwA.cons (Shw.int (h i (by simp)) h0 hn k) (ih fun j hj => h j (List.mem_cons_of_mem _ hj))).mono (Nat.le_refl _) ?_
    rw [List.length_cons, Nat.mul_succ]
    omega
end ShwA
theorem sm {i : Int} (h1 : -120 ≤ i) (h2 : i ≤ 120) (k : Nat) : Shw k 7 (.int i) := by
  have e : (2 : Nat) ^ 7 = 128 := by decide
  exact Shw.int (by omega) (by decide) (by decide) k
def wE : Nat → Nat
  | 0 => 0
  | n + 1 => 2 * wE n + 16
theorem Ex.shw {ns : List Str} (hn : ∀ z ∈ ns, NmOk z) : ∀ (e : Ex) (n : Nat), e.ok ns n → Shw n (wE n) e.d
  | .int i, n, ⟨h1, h2, h3⟩ => by
    obtain ⟨m, rfl⟩ : ∃ m : Nat, n = m + 1 := ⟨n - 1, by omega⟩
    exact (sm (by omega) (by omega) _).mono (Nat.le_refl _) (by simp only [wE]; omega)
  | .name z, n, ⟨h1, h2⟩ => by
    obtain ⟨m, rfl⟩ : ∃ m : Nat, n = m + 1 := ⟨n - 1, by omega⟩
    exact Shw.str (hn z h2).ok _ _ (by have := (hn z h2).hi; simp only [wE]; omega)
  | .plus x y, n, ⟨h1, h2, h3⟩ => by
    obtain ⟨m, rfl⟩ : ∃ m : Nat, n = m + 1 := ⟨n - 1, by omega⟩
    exact (Shw.tup (.cons (Shw.str (n := 4) (by decide +kernel) m (by decide)) (.cons (Ex.shw hn x m h2) (.cons (Ex.shw hn y m h3) (.nil m 0))))).mono (Nat.le_refl _) (by simp only [wE]; omega)
  | .minus x y, n, ⟨h1, h2, h3⟩ => by
    obtain ⟨m, rfl⟩ : ∃ m : Nat, n = m + 1 := ⟨n - 1, by omega⟩
    exact (Shw.tup (.cons (Shw.str (n := 5) (by decide +kernel) m (by decide)) (.cons (Ex.shw hn x m h2) (.cons (Ex.shw hn y m h3) (.nil m 0))))).mono (Nat.le_refl _) (by simp only [wE]; omega)
  | .times f x, n, ⟨h1, h2, h3, h4⟩ => by
    obtain ⟨m, rfl⟩ : ∃ m : Nat, n = m + 1 := ⟨n - 1, by omega⟩
    exact (Shw.tup (.cons (Shw.str (n := 5) (by decide +kernel) m (by decide)) (.cons (sm (by omega) (by omega) m) (.cons (Ex.shw hn x m h4) (.nil m 0))))).mono (Nat.le_refl _) (by simp only [wE]; omega)
theorem Ts.shw {ns : List Str} (hn : ∀ z ∈ ns, NmOk z) : ∀ (t : Ts) (n : Nat), t.ok ns n → Shw (n + 4) (5 * n + 240) t.d
  | .rest x b r, n, ⟨h1, h2, h3, h4, h5⟩ => (Shw.tup (.cons (Shw.str (n := 4) (by decide +kernel) 3 (by decide)) (.cons (Ex.shw hn x 3 h1) (.cons (sm (by omega) (by omega) 3) (.cons (sm (by omega) (by omega) 3) (.nil 3 0)))))).mono (by omega) (by simp only [wE]; omega)
  | .less x y, n, ⟨h1, h2⟩ => (Shw.tup (.cons (Shw.str (n := 4) (by decide +kernel) 3 (by decide)) (.cons (Ex.shw hn x 3 h1) (.cons (Ex.shw hn y 3 h2) (.nil 3 0))))).mono (by omega) (by simp only [wE]; omega)
  | .not t, n, ⟨h1, h2⟩ => by
    obtain ⟨m, rfl⟩ : ∃ m : Nat, n = m + 1 := ⟨n - 1, by omega⟩
    exact (Shw.tup (.cons (Shw.str (n := 3) (by decide +kernel) _ (by decide)) (.cons (Ts.shw hn t m h2) (.nil _ 0)))).mono (by omega) (by omega)
mutual
theorem St.shw {ns : List Str} (hn : ∀ z ∈ ns, NmOk z) : ∀ (s : St) (d : Nat), s.ok ns d → Shw (2 * d + 9) (300 * s.sz - 1) s.d
  | .set z e, d, ⟨h1, h2⟩ => (Shw.tup (.cons (Shw.str (n := 3) (by decide +kernel) 3 (by decide)) (.cons (Shw.str (n := 8) (hn z h1).ok 3 (hn z h1).hi) (.cons (Ex.shw hn e 3 h2) (.nil 3 0))))).mono (by omega) (by simp only [wE, St.sz]; omega)
  | .pay e, d, h => (Shw.tup (.cons (Shw.str (n := 3) (by decide +kernel) 3 (by decide)) (.cons (Ex.shw hn e 3 h) (.nil 3 0)))).mono (by omega) (by simp only [wE, St.sz]; omega)
  | .stop, d, h => (Shw.tup (.cons (Shw.str (n := 4) (by decide +kernel) 3 (by decide)) (.nil 3 0))).mono (by omega) (by simp only [St.sz]; omega)
  | .ite t y n, d, ⟨h1, h2, h3⟩ => (Shw.tup (.cons (Shw.str (n := 2) (by decide +kernel) (2 * d + 8) (by decide)) (.cons ((Ts.shw hn t 2 h1).mono (by omega) (Nat.le_refl _)) (.cons ((Shw.tup (Bk.shw hn y d h2)).mono (by omega) (Nat.le_refl _)) (.cons ((Shw.tup (Bk.shw hn n d h3)).mono (by omega) (Nat.le_refl _)) (.nil _ 0)))))).mono (by omega) (by simp only [St.sz]; omega)
  | .rep k y, d, ⟨h1, h2, h3⟩ => (Shw.tup (.cons (Shw.str (n := 6) (by decide +kernel) (2 * d + 8) (by decide)) (.cons (sm (by omega) (by omega) _) (.cons ((Shw.tup (Bk.shw hn y d h3)).mono (by omega) (Nat.le_refl _)) (.nil _ 0))))).mono (by omega) (by simp only [St.sz]; omega)
theorem Bk.shw {ns : List Str} (hn : ∀ z ∈ ns, NmOk z) : ∀ (b : Bk) (d : Nat), b.ok ns d → ShwA (2 * d + 7) (300 * b.sz) b.ds
  | .nil, d, _ => .nil _ _
  | .cons s b, d, ⟨h1, h2, h3⟩ => by
    have p : 1 ≤ s.sz := by rw [s.sz_blks]; omega
    exact (ShwA.cons ((St.shw hn s (d - 1) h2).mono (by omega) (Nat.le_refl _)) (Bk.shw hn b d h3)).mono (Nat.le_refl _) (by simp only [Bk.sz]; omega)
end
/-! ### how far a run gets -/
structure Bd (B : Int) (w : Wd) : Prop where
  h : 99 ≤ B
  en : ∀ z, -B ≤ w.en z ∧ w.en z ≤ B
  t1 : -B ≤ w.tot
  t2 : w.tot ≤ B
theorem Bd.mono {B C : Int} {w : Wd} (h : Bd B w) (l : B ≤ C) : Bd C w := ⟨Int.le_trans h.h l, fun z => by have := h.en z; omega, by have := h.t1; omega, by have := h.t2; omega⟩
theorem Bd.pl {B : Int} {e : Str → Int} {t : Int} {l l' : List Int} (h : Bd B ⟨e, t, l⟩) : Bd B ⟨e, t, l'⟩ := ⟨h.h, h.en, h.t1, h.t2⟩
theorem p128 (n : Nat) : (1 : Int) ≤ 128 ^ n := Int.pow_pos (by decide)
theorem p128_le {B : Int} (h : 0 ≤ B) {m n : Nat} (l : m ≤ n) : (128 : Int) ^ m * B ≤ 128 ^ n * B := by
  refine Int.mul_le_mul_of_nonneg_right ?_ h
  obtain ⟨k, rfl⟩ : ∃ k, n = m + k := ⟨n - m, by omega⟩
  rw [Int.pow_add]
  have a := p128 m
  have b := p128 k
  have := Int.mul_le_mul_of_nonneg_left b (show (0 : Int) ≤ 128 ^ m by omega)
  omega
theorem Bd.up {B : Int} {w : Wd} {m n : Nat} (h : Bd (128 ^ m * B) w) (hB : 0 ≤ B) (l : m ≤ n) : Bd (128 ^ n * B) w := h.mono (p128_le hB l)
theorem ev81 {ns : List Str} {ρ : Str → Int} {B : Int} (hB : 99 ≤ B) (h : ∀ z, -B ≤ ρ z ∧ ρ z ≤ B) {e : Ex} (ho : e.ok ns 3) : -(81 * B) ≤ e.ev ρ ∧ e.ev ρ ≤ 81 * B := by
  have := Ex.ev_le hB h e 3 ho
  have e9 : (9 : Int) ^ 3 = 729 := by decide
  rw [e9] at this
  omega
theorem itr_bd {f : Wd → Wd × Bool} {c : Nat} (hf : ∀ w B, Bd B w → Bd (128 ^ c * B) (f w).1) : ∀ (n : Nat) (w : Wd) (B : Int), Bd B w → Bd (128 ^ (n * c) * B) (itr f n w).1
  | 0, w, B, h => by
    rw [Nat.zero_mul, Int.pow_zero, Int.one_mul]
    exact h
  | n + 1, w, B, h => by
    have h1 := hf w B h
    have h2 := itr_bd hf n (f w).1 _ h1
    have hB : 0 ≤ B := by have := h.h; omega
    rw [← Int.mul_assoc, ← Int.pow_add, ← Nat.succ_mul] at h2
    unfold itr
    split
    · exact h1.up hB (by rw [Nat.succ_mul]; omega)
    · exact h2
mutual
theorem St.run_bd {ns : List Str} : ∀ (s : St) (d : Nat) (p : Int) (w : Wd) (B : Int), s.ok ns d → Bd B w → Bd (128 ^ s.wt * B) (s.run p w).1
  | .set z e, d, p, w, B, ⟨h1, h2⟩, h => by
    have v := ev81 h.h h.en h2
    have hB := h.h
    rw [show St.wt (.set z e) = 1 from rfl, Int.pow_one]
    refine ⟨by omega, fun y => ?_, by have := h.t1; show -(128 * B) ≤ w.tot; omega, by have := h.t2; show w.tot ≤ 128 * B; omega⟩
    show -(128 * B) ≤ (if y = z then e.ev w.en else w.en y) ∧ (if y = z then e.ev w.en else w.en y) ≤ 128 * B
    have := h.en y
    split <;> omega
  | .pay e, d, p, w, B, h2, h => by
    have v := ev81 h.h h.en h2
    have hB := h.h
    rw [show St.wt (.pay e) = 1 from rfl, Int.pow_one]
    refine ⟨by omega, fun y => by have := h.en y; show -(128 * B) ≤ w.en y ∧ w.en y ≤ 128 * B; omega, ?_, ?_⟩
    · have := h.t1; show -(128 * B) ≤ w.tot + e.ev w.en; omega
    · have := h.t2; show w.tot + e.ev w.en ≤ 128 * B; omega
  | .stop, d, p, w, B, _, h => by
    have hB := h.h
    rw [show St.wt .stop = 1 from rfl, Int.pow_one]
    exact (Bd.pl h : Bd B ⟨w.en, w.tot, w.pl ++ [p]⟩).mono (by omega)
  | .ite t y n, d, p, w, B, ⟨h1, h2, h3⟩, h => by
    have hB := h.h
    have h' : Bd B ⟨w.en, w.tot, w.pl ++ [p]⟩ := Bd.pl h
    simp only [St.run, St.wt]
    split
    · exact (Bk.run_bd y d _ _ B h2 h').up (by omega) (by omega)
    · exact (Bk.run_bd n d _ _ B h3 h').up (by omega) (by omega)
  | .rep k y, d, p, w, B, ⟨h1, h2, h3⟩, h => by
    have hB := h.h
    have h' : Bd B ⟨w.en, w.tot, w.pl ++ [p]⟩ := Bd.pl h
    simp only [St.run, St.wt]
    exact (itr_bd (fun w B h => Bk.run_bd y d (p + 1) w B h3 h) k.toNat _ B h').up (by omega) (by omega)
theorem Bk.run_bd {ns : List Str} : ∀ (b : Bk) (d : Nat) (p : Int) (w : Wd) (B : Int), b.ok ns d → Bd B w → Bd (128 ^ b.wt * B) (b.run p w).1
  | .nil, d, p, w, B, _, h => by
    rw [show Bk.wt .nil = 0 from rfl, Int.pow_zero, Int.one_mul]
    exact h
  | .cons s b, d, p, w, B, ⟨h1, h2, h3⟩, h => by
    have hB : 0 ≤ B := by have := h.h; omega
    have a := St.run_bd s (d - 1) p w B h2 h
    have c := Bk.run_bd b d (p + s.sz) (s.run p w).1 _ h3 a
    rw [← Int.mul_assoc, ← Int.pow_add, Nat.add_comm] at c
    simp only [Bk.run, Bk.wt]
    split
    · exact a.up hB (by omega)
    · exact c
end
/-- places are places -/
def Pl (lo hi : Int) (l l' : List Int) : Prop := ∀ x ∈ l', x ∈ l ∨ (lo ≤ x ∧ x < hi)
theorem Pl.trans {lo hi : Int} {l l1 l2 : List Int} (a : Pl lo hi l l1) (b : Pl lo hi l1 l2) : Pl lo hi l l2 := fun x hx => (b x hx).elim (a x) .inr
theorem Pl.mono {lo hi lo' hi' : Int} {l l1 : List Int} (a : Pl lo hi l l1) (h1 : lo' ≤ lo) (h2 : hi ≤ hi') : Pl lo' hi' l l1 := fun x hx => (a x hx).imp id (fun z => by omega)
theorem Pl.refl (lo hi : Int) (l : List Int) : Pl lo hi l l := fun _ hx => .inl hx
theorem Pl.one {lo hi p : Int} (l : List Int) (h1 : lo ≤ p) (h2 : p < hi) : Pl lo hi l (l ++ [p]) := fun x hx => by
  rcases List.mem_append.1 hx with z | z
  · exact .inl z
  · rw [List.mem_singleton.mp z]; exact .inr ⟨h1, h2⟩
theorem itr_pl {f : Wd → Wd × Bool} {lo hi : Int} (hf : ∀ w, Pl lo hi w.pl (f w).1.pl) : ∀ (n : Nat) (w : Wd), Pl lo hi w.pl (itr f n w).1.pl
  | 0, w => .refl _ _ _
  | n + 1, w => by
    unfold itr
    split
    · exact hf w
    · exact (hf w).trans (itr_pl hf n _)
mutual
theorem St.run_pl : ∀ (s : St) (p : Int) (w : Wd), Pl p (p + s.sz) w.pl (s.run p w).1.pl
  | .set z e, p, w => .one _ (Int.le_refl _) (by simp [St.sz]; omega)
  | .pay e, p, w => .one _ (Int.le_refl _) (by simp [St.sz]; omega)
  | .stop, p, w => .one _ (Int.le_refl _) (by simp [St.sz]; omega)
  | .ite t y n, p, w => by
    simp only [St.run, St.sz]
    have z : Pl p (p + ((1 + y.sz + n.sz : Nat) : Int)) w.pl (w.pl ++ [p]) := .one _ (Int.le_refl _) (by omega)
    split
    · exact z.trans ((Bk.run_pl y (p + 1) ⟨w.en, w.tot, w.pl ++ [p]⟩).mono (by omega) (by omega))
    · exact z.trans ((Bk.run_pl n (p + 1 + y.sz) ⟨w.en, w.tot, w.pl ++ [p]⟩).mono (by omega) (by omega))
  | .rep k y, p, w => by
    simp only [St.run, St.sz]
    have z : Pl p (p + ((1 + y.sz : Nat) : Int)) w.pl (w.pl ++ [p]) := .one _ (Int.le_refl _) (by omega)
    exact z.trans ((itr_pl (Bk.run_pl y (p + 1)) k.toNat ⟨w.en, w.tot, w.pl ++ [p]⟩).mono (by omega) (by omega))
theorem Bk.run_pl : ∀ (b : Bk) (p : Int) (w : Wd), Pl p (p + b.sz) w.pl (b.run p w).1.pl
  | .nil, p, w => .refl _ _ _
  | .cons s b, p, w => by
    simp only [Bk.run, Bk.sz]
    have a := St.run_pl s p w
    have c := Bk.run_pl b (p + s.sz) (s.run p w).1
    split
    · exact a.mono (Int.le_refl _) (by omega)
    · exact (a.mono (Int.le_refl _) (by omega)).trans (c.mono (by omega) (by omega))
end
set_option exponentiation.threshold 2000 in
/-- what a run tells can be shown -/
theorem Bk.told_shw {ns : List Str} {b : Bk} {d : Nat} {x : Int} (ho : b.ok ns d) (hw : b.wt ≤ 30) (hs : b.sz ≤ 24) (h1 : -1000000000000000000000000000000000000000000000000000000000000 ≤ x) (h2 : x ≤ 1000000000000000000000000000000000000000000000000000000000000) : Shw 2 800 (b.told x) := by
  have h0 : Bd 1000000000000000000000000000000000000000000000000000000000000 (Wd.at x) := ⟨by decide, fun z => by
    show _ ≤ (if z = "n" then x else 0) ∧ (if z = "n" then x else 0) ≤ _
    split <;> omega, by show _ ≤ (0 : Int); decide, by show (0 : Int) ≤ _; decide⟩
  have h := (Bk.run_bd b d 0 _ _ ho h0).up (by decide) hw
  have e : (128 : Int) ^ 30 * 1000000000000000000000000000000000000000000000000000000000000 = 1645504557321206042154969182557350504982735865633579863348609024000000000000000000000000000000000000000000000000000000000000 := by decide
  rw [e] at h
  have p1 := Bk.run_pl b 0 (Wd.at x)
  have p2 := Bk.run_len b 0 (Wd.at x)
  have p3 : (b.run 0 (Wd.at x)).1.pl.length ≤ 30 := by
    have : (Wd.at x).pl.length = 0 := rfl
    omega
  have t1 := h.t1
  have t2 := h.t2
  have e2 : (2 : Nat) ^ 450 > 1645504557321206042154969182557350504982735865633579863348609024000000000000000000000000000000000000000000000000000000000000 := by decide
  have z : ShwA 0 ((7 + 1) * (b.run 0 (Wd.at x)).1.pl.length) ((b.run 0 (Wd.at x)).1.pl.map PyData.int) := .allInt (by decide) (by decide) (fun i hi => by
    have e7 : (2 : Nat) ^ 7 = 128 := by decide
    rcases p1 i hi with z | z
    · cases z
    · omega) 0
  exact (Shw.tup (.cons (Shw.int (n := 450) (by omega) (by decide) (by decide) 1) (.cons (Shw.tup z) (.nil 1 0)))).mono (Nat.le_refl _) (by omega)
def spRunA : Sp := fun vs H Q E => ∃ ns, spRun ns vs H Q E
def spSignA : Sp := fun vs H Q _ => ∃ (ns : List Str) (v : V) (b : Bk) (x : Int), vs = [v, .int x] ∧ Tp H v (.tuple b.ds) ∧ b.ok ns 4 ∧ b.sz < 16777216 ∧ b.wt ≤ 1000000 ∧ ∀ H', Sx [] H H' → Q (.int (sgn (b.run 0 (Wd.at x)).1.tot)) H'
theorem FnOk.ex {P : Program} {w : World} {K : PySem.W.Frag} {mg : Str → Option Value} {base : Heap} {CX : CXT} {k : Nat} {f : Addr} {fd : FuncData} {ps : List Str} {ι : Type} {sp : ι → Sp} (F : ∀ i, FnOk P w K mg base CX k f fd ps (sp i)) :
    FnOk P w K mg base CX k f fd ps (fun vs H Q E => ∃ i, sp i vs H Q E) :=
  ⟨fun vs H Q E ⟨i, h⟩ => (F i).len vs H Q E h, fun A o s H ar us vs Q E hr e b r ⟨i, h⟩ => (F i).run A o s H ar us vs Q E hr e b r h⟩
/-! ### t[::-1] of a tuple -/
theorem places_back (n : Nat) : Builtin.Slice.slicePlaces ((n : Int) - 1) (-1) (-1) = n := by
  unfold Builtin.Slice.slicePlaces;
  rw [if_neg (by omega)]
  by_cases h : n = 0
  · subst h; rfl
  · rw [if_pos (by omega), show ((n : Int) - 1 - -1 - 1) = (n : Int) - 1 by omega, show (- -1 : Int) = 1 from rfl, Int.ediv_one]
    omega
theorem pick_back (xs : Array Value) : ((List.range xs.size).filterMap fun (m : Nat) => xs[((xs.size : Int) - 1 + (m : Int) * -1).toNat]?).toArray = xs.toList.reverse.toArray := by
  congr 1
  apply List.ext_getElem?
  intro i
  have hlen : ∀ l : List Nat, (∀ m ∈ l, m < xs.size) → (l.filterMap fun (m : Nat) => xs[((xs.size : Int) - 1 + (m : Int) * -1).toNat]?) = l.map fun m => xs.toList.reverse.getD m .none := by
    intro l
    induction l with
    | nil => intro _; rfl
    | cons m l ih =>
      intro h
      have hm := h m (by simp)
      have e : ((xs.size : Int) - 1 + (m : Int) * -1).toNat = xs.size - 1 - m := by omega
      have e2 : xs[xs.size - 1 - m]? = some (xs.toList.reverse.getD m .none) := by
        rw [List.getD_eq_getElem?_getD, List.getElem?_reverse (by simpa using hm), Array.length_toList]
        rw [Array.getElem?_toList]
        rw [Array.getElem?_eq_getElem (by omega)]
        rfl
      rw [List.filterMap_cons, e, e2, List.map_cons, ih fun k hk => h k (List.mem_cons_of_mem _ hk)]
  rw [hlen _ fun m hm => List.mem_range.mp hm, List.getElem?_map]
  by_cases hi : i < xs.size
  · rw [List.getElem?_range hi, Option.map_some, List.getD_eq_getElem?_getD, List.getElem?_eq_getElem (by simpa using hi)]
    rfl
  · rw [List.getElem?_eq_none (by simp; omega), List.getElem?_eq_none (by simp; omega)]
    rfl
theorem getItem_tuple_back {P : Program} {w : World} {A : Around} {E : Value → Shared → Prop} {s : Shared} {t sl : Addr} {items : Array Value} {vl vu vs : Value} {Q : Value → Shared → Prop} (ht : IsTup s.heap t items) (hs : s.heap.IsSliceOf sl vl vu vs) (pl : IsPart vl none) (pu : IsPart vu none) (ps : IsPart vs (some (-1)))
    (h : Q (.ref s.heap.objs.size) { s with heap := s.heap.push { cls := .type "tuple", data := .seq items.toList.reverse.toArray } }) (hz : items.size ≤ sizeLine) : wpAny (model P w) A (getItem (.ref t) (.ref sl)) Q E s := by
  have hfit : sizeOk (.seq items.toList.reverse.toArray) := by
    show items.toList.reverse.toArray.size ≤ sizeLine
    simpa using hz
  rcases id hs with ⟨os, hos, hcs, hds⟩
  have isSl : s.TypeIs (.ref sl) "slice" := ⟨os, hos, hcs⟩
  unfold getItem; try with_reducible refine wpAny_holding ?_
  try (refine wpAny_bind (wpAny_pure ?_))
  refine wpAny_bind (wpAny_sequenceKey ht.typeIs (by decide) (wpAny_bind (wpAny_callSpecial?_slot (name := Str.ofString "__getitem__") ht.typeIs PyProof.Rows.slot_tuple_getitem (wpAny_call_entry PyProof.Rows.slot_tuple_getitem ht.typeIs entry_tuple_getitem ?_ (args_tuple_getitem _ _)))))
  show wpAny _ _ (Builtin.Tuple.tupleItemsOf (.ref t) >>= fun xs => _) _ _ s
  refine wpAny_bind (tupleItemsOf_ ht (wpAny_bind (wpAny_typeOf isSl ?_))); rw [if_pos (by decide)]
  refine wpAny_bind ?_; unfold Builtin.Slice.sliceApplied Builtin.Slice.sliceFields
  refine wpAny_bind (wpAny_bind (wpAny_field hos hds (x := vl) rfl (wpAny_bind (wpAny_field hos hds (x := vu) rfl (wpAny_bind (wpAny_field hos hds (x := vs) rfl (wpAny_pure ?_))))))); refine wpAny_bind (HT.slicePart_ ps ?_)
  show wpAny _ _ (if ((-1 : Int) == 0) = true then _ else _) _ _ s; rw [if_neg (by decide)]
  refine wpAny_bind (HT.slicePart_ pl (wpAny_bind (HT.slicePart_ pu (wpAny_bind (wpAny_pure (wpAny_pure ?_))))))
  show wpAny _ _ (if (((items.size : Int) - 1) == 0 && (-1 : Int) == 1 && (Builtin.Slice.slicePlaces ((items.size : Int) - 1) (-1) (-1)) == items.size) = true then _ else _) _ _ s
  rw [if_neg (by rw [show ((-1 : Int) == 1) = false from rfl, Bool.and_false, Bool.false_and]; exact Bool.false_ne_true)]
  show wpAny _ _ (Builtin.Tuple.tupleExact ((List.range (Builtin.Slice.slicePlaces ((items.size : Int) - 1) (-1) (-1))).filterMap fun (k : Nat) => items[((items.size : Int) - 1 + (k : Int) * -1).toNat]?).toArray >>= _) _ _ s
  rw [places_back, pick_back]
  exact wpAny_bind (m := Builtin.Tuple.tupleExact _) (wpAny_newObj_type (wpAny_pure ⟨_, rfl, wpAny_pure h⟩) hfit)
section
variable {X : Cx}
/-- t[::-1]: a new tuple -/
def tRevT (K : PySem.W.Frag) (te : TE) : TE := fun σ H Q => te σ H fun x H1 => ∃ a xs, x = .ref a ∧ SqT K H1 a xs ∧ ∀ p, H1 p = none → Q (.ref p) (upd H1 p (.tup xs.reverse))
theorem pe_revT {e : Expr} {te : TE} {k : Nat} {p1 p2 p3 pos : Pos} (he : PE X e te) : PE X (.Subscript e (.Slice none none (some (.UnaryOp .USub (.Constant (.int 1) k p1) p2)) p3) pos) (tRevT X.K te) := by
  refine ⟨fun pins s σ H Q I h => Subscript_ (thn (he.run pins s σ H _ I h) fun v s1 ⟨x, H1, I1, r1, a, xs, ex, hx, q⟩ => ?_)⟩
  subst ex; cases r1
  have hst : PO X (some (.UnaryOp .USub (.Constant (.int 1) k p1) p2)) (tPart (tUn (rU fun i => .int (-i)) (tC (.int 1)))) := po_some (pe_un un_neg pe_int); refine wpAny_Slice (thn (po_none.run pins s1 σ H1 (fun o H2 => o = none ∧ H2 = H1) I1 ⟨rfl, rfl⟩) fun vl s2 ⟨l, H2, I2, pl, el, e2⟩ => ?_)
  subst el e2; refine thn (po_none.run pins s2 σ H2 (fun o H3 => o = none ∧ H3 = H2) I2 ⟨rfl, rfl⟩) fun vu s3 ⟨u, H3, I3, pu, eu, e3⟩ => ?_
  subst eu e3; refine thn (hst.run pins s3 σ H3 (fun o H4 => o = some (-1) ∧ H4 = H3) I3 ⟨1, rfl, -1, rfl, rfl, rfl⟩) fun vs s4 ⟨o, H4, I4, ps, eo, e4⟩ => ?_
  subst eo e4
  have I5 : Inv X pins σ H4 { s4 with heap := s4.heap.push { cls := .type "slice", data := .fields #[vl, vu, vs] } } := I4.kept (t' := s4.toks) fun b ob z => Heap.get?_push_of_some _ z
  obtain ⟨its, r, ht, hz⟩ := I5.tuple hx
  have hlen := r.length
  show wpAny (model X.prog X.w) X.A (subscriptTail e (.Slice none none (some (.UnaryOp .USub (.Constant (.int 1) k p1) p2)) p3) (.ref a) (.ref s4.heap.objs.size)) (EP X pins σ Q) X.xe { s4 with heap := s4.heap.push ⟨.type "slice", none, .fields #[vl, vu, vs], #[]⟩ }
  refine tail_any (ops := [.ref a, .ref s4.heap.objs.size]) ht.typeIs PyProof.Rows.slot_tuple_getitem.lookup ?_ (by with_unfolding_all rfl)
  refine getItem_tuple_back ht (Heap.IsSliceOf.new _ vl vu vs) pl pu ps ?_ (by rw [List.size_toArray]; omega)
  refine ⟨.ref _, _, I5.laid (t' := s4.toks) (o := .tup xs.reverse) (fun b ob z => Heap.get?_push_of_some _ z) (Nat.le_refl _) ?_, rfl, q _ (I5.hok.fresh (Nat.le_refl _))⟩
  exact ⟨by rw [List.length_reverse]; exact hz, _, by simpa using r.reverse, IsTup.new _ _⟩
end
abbrev sPIsInteger : Stmt := topS 18
abbrev nPIsInteger : List Str := ["value"]
theorem scPIsInteger : FnScope nPIsInteger ["value"] (defScope sPIsInteger) := ⟨rfl, rfl, rfl, by decide +kernel, rfl, by decide +kernel, by decide +kernel⟩
abbrev sPBlocksOf : Stmt := topS 26
abbrev nPBlocksOf : List Str := ["statement"]
theorem scPBlocksOf : FnScope nPBlocksOf ["statement"] (defScope sPBlocksOf) := ⟨rfl, rfl, rfl, by decide +kernel, rfl, by decide +kernel, by decide +kernel⟩
abbrev sPEachStatement : Stmt := topS 30
abbrev nPEachStatement : List Str := ["program", "waiting", "place", "depth", "statement", "block", "inner"]
theorem scPEachStatement : GScope nPEachStatement ["program"] (defScope sPEachStatement) := ⟨rfl, rfl, rfl, by decide +kernel, rfl, by decide +kernel, by decide +kernel⟩
abbrev sPPlacesIn : Stmt := topS 31
abbrev nPPlacesIn : List Str := ["block"]
theorem scPPlacesIn : FnScope nPPlacesIn ["block"] (defScope sPPlacesIn) := ⟨rfl, rfl, rfl, by decide +kernel, rfl, by decide +kernel, by decide +kernel⟩
/-! ### the program's walk over statements -/
/-- a row that is handed out: place, depth, statement -/
abbrev Rw := Int × Int × St
def rwD (r : Rw) : PyData := .tuple [.int r.1, .int r.2.1, r.2.2.d]
def prD (x : Int × St) : PyData := .tuple [.int x.1, x.2.d]
mutual
def St.rws : St → Int → Int → List Rw
  | .set z e, d, p => [(p, d, .set z e)]
  | .pay e, d, p => [(p, d, .pay e)]
  | .stop, d, p => [(p, d, .stop)]
  | .ite t y n, d, p => (p, d, .ite t y n) :: (y.rws (d + 1) (p + 1) ++ n.rws (d + 1) (p + 1 + y.sz))
  | .rep k y, d, p => (p, d, .rep k y) :: y.rws (d + 1) (p + 1)
def Bk.rws : Bk → Int → Int → List Rw
  | .nil, _, _ => []
  | .cons s b, d, p => s.rws d p ++ b.rws d (p + s.sz)
end
mutual
theorem St.rws_len : ∀ (s : St) (d p : Int), (s.rws d p).length = s.sz
  | .set _ _, _, _ => rfl
  | .pay _, _, _ => rfl
  | .stop, _, _ => rfl
  | .ite t y n, d, p => by simp only [St.rws, St.sz, List.length_cons, List.length_append, Bk.rws_len y, Bk.rws_len n]; omega
  | .rep k y, d, p => by simp only [St.rws, St.sz, List.length_cons, Bk.rws_len y]; omega
theorem Bk.rws_len : ∀ (b : Bk) (d p : Int), (b.rws d p).length = b.sz
  | .nil, _, _ => rfl
  | .cons s b, d, p => by simp only [Bk.rws, Bk.sz, List.length_append, St.rws_len s, Bk.rws_len b]
end
def stkRws : List (Int × St) → Int → List Rw
  | [], _ => []
  | (d, s) :: r, p => s.rws d p ++ stkRws r (p + s.sz)
def stkSz (l : List (Int × St)) : Nat := (l.map fun x => x.2.sz).sum
theorem stkSz_cons (x : Int × St) (l : List (Int × St)) : stkSz (x :: l) = x.2.sz + stkSz l := rfl
theorem stkSz_append (l m : List (Int × St)) : stkSz (l ++ m) = stkSz l + stkSz m := by unfold stkSz; rw [List.map_append, List.sum_append]
theorem stk_append : ∀ (l m : List (Int × St)) (p : Int), stkRws (l ++ m) p = stkRws l p ++ stkRws m (p + stkSz l)
  | [], m, p => by show stkRws m p = stkRws m (p + 0); rw [Int.add_zero]
  | (d, s) :: l, m, p => by
    show s.rws d p ++ stkRws (l ++ m) (p + s.sz) = (s.rws d p ++ stkRws l (p + s.sz)) ++ _
    rw [stk_append l m, List.append_assoc, stkSz_cons, Int.natCast_add, Int.add_assoc]
theorem stkRws_len : ∀ (l : List (Int × St)) (p : Int), (stkRws l p).length = stkSz l
  | [], _ => rfl
  | (d, s) :: l, p => by
    show (s.rws d p ++ stkRws l (p + s.sz)).length = _
    rw [List.length_append, St.rws_len, stkRws_len l, stkSz_cons]
theorem St.sz_pos (s : St) : 1 ≤ s.sz := by rw [s.sz_blks]; omega
theorem stk_le : ∀ l : List (Int × St), l.length ≤ stkSz l
  | [] => Nat.le_refl _
  | x :: l => by
    rw [List.length_cons, stkSz_cons]
    have := stk_le l
    have := x.2.sz_pos
    omega
def Bk.stk (b : Bk) (d : Int) : List (Int × St) := b.lst.map fun s => (d, s)
theorem stk_bk : ∀ (b : Bk) (d p : Int), stkRws (b.stk d) p = b.rws d p
  | .nil, _, _ => rfl
  | .cons s b, d, p => by
    show s.rws d p ++ stkRws (b.stk d) (p + s.sz) = s.rws d p ++ b.rws d (p + s.sz)
    rw [stk_bk b]
theorem stkSz_bk : ∀ (b : Bk) (d : Int), stkSz (b.stk d) = b.sz
  | .nil, _ => rfl
  | .cons s b, d => by
    show stkSz ((d, s) :: b.stk d) = s.sz + b.sz
    rw [stkSz_cons, stkSz_bk b]
/-- what lies right in a statement -/
def kidsOf (l : List Bk) (d : Int) : List (Int × St) := (l.map fun b => b.stk d).flatten
theorem St.rws_kids (s : St) (d p : Int) : s.rws d p = (p, d, s) :: stkRws (kidsOf s.blks (d + 1)) (p + 1) := by
  cases s with
  | ite t y n =>
    show (p, d, St.ite t y n) :: (y.rws (d + 1) (p + 1) ++ n.rws (d + 1) (p + 1 + y.sz)) = _ :: stkRws (y.stk (d + 1) ++ (n.stk (d + 1) ++ [])) (p + 1)
    rw [List.append_nil, stk_append, stk_bk, stk_bk, stkSz_bk]
  | rep k y =>
    show (p, d, St.rep k y) :: y.rws (d + 1) (p + 1) = _ :: stkRws (y.stk (d + 1) ++ []) (p + 1)
    rw [List.append_nil, stk_bk]
  | _ => rfl
theorem kidsSz : ∀ (l : List Bk) (d : Int), stkSz (kidsOf l d) = (l.map Bk.sz).sum
  | [], _ => rfl
  | b :: l, d => by
    show stkSz (b.stk d ++ kidsOf l d) = b.sz + (l.map Bk.sz).sum
    rw [stkSz_append, stkSz_bk, kidsSz l]
theorem rev_get {α : Type} {xs : List α} {i : Nat} {x : α} (h : xs.reverse[i]? = some x) : i < xs.length ∧ xs[xs.length - 1 - i]? = some x := by
  have hi : i < xs.length := by
    have := (List.getElem?_eq_some_iff.mp h).1
    simpa using this
  rw [List.getElem?_reverse hi] at h
  exact ⟨hi, h⟩
theorem drop_back {α : Type} {l : List α} {i : Nat} {s : α} (hi : i < l.length) (h : l[l.length - 1 - i]? = some s) : l.drop (l.length - (i + 1)) = s :: l.drop (l.length - i) := by
  obtain ⟨hlt, hge⟩ := List.getElem?_eq_some_iff.mp h
  have e : l.length - (i + 1) = l.length - 1 - i := by omega
  rw [e, List.drop_eq_getElem_cons hlt, hge]
  congr 2
  omega
theorem tpPair {H : Hp} {a : Addr} {i : Int} {x : V} {s : St} (h : H a = some (.tup [.int i, x])) (t : Tp H x s.d) : Tp H (.ref a) (prD (i, s)) := .tup h (.cons (.int i) (.cons t .nil))
theorem passCX0 {X : Cx} : Passes (CX X.prog X.w) X E0 := fun _ _ _ _ _ _ _ c => by
  obtain ⟨_, _, _, _, _, _, _, _, _, _, _, _, z⟩ := c
  exact z.elim
theorem noStop0 {K : PySem.W.Frag} : NoStop K E0 := fun _ _ _ z => z.elim
theorem bk_le (b : Bk) : b.lst.length ≤ b.sz := by
  have h := stk_le (b.stk 0)
  rw [stkSz_bk] at h
  unfold Bk.stk at h
  rwa [List.length_map] at h
theorem Tk.lst {H : Hp} {p : Addr} {ys : List V} {o : HO} (h : H p = some (.lst ys)) : Tk H (upd H p o) := fun b xs e => by
  rw [upd_ne (fun z => by rw [z, h] at e; cases e)]
  exact e
/-- an int that is no bool -/
def isIntV (H : Hp) (v : V) (b : Bool) : Prop := (∃ i, v = .int i ∧ b = true) ∨ (∃ z, v = .str z ∧ b = false) ∨ (∃ a xs, v = .ref a ∧ H a = some (.tup xs) ∧ b = false)
def spIsInt : Sp := fun vs H Q _ => ∃ v b, vs = [v] ∧ isIntV H v b ∧ Q (.bl b) H
def spBlocks : Sp := fun vs H Q _ => ∃ (v : V) (s : St), vs = [v] ∧ Tp H v s.d ∧ ∀ H' v', Sx [] H H' → Tp H' v' (.tuple s.parts) → Q v' H'
def spEach : SpG := fun vs H Q _ => ∃ (v : V) (b : Bk), vs = [v] ∧ Tp H v (.tuple b.ds) ∧ b.sz < 16777216 ∧ ∀ ys H', Sx [] H H' → TpAll H' ys ((b.rws 0 0).map rwD) → Q ys H'
def spPlaces : Sp := fun vs H Q _ => ∃ (v : V) (b : Bk), vs = [v] ∧ Tp H v (.tuple b.ds) ∧ b.sz < 16777216 ∧ ∀ H', Sx [] H H' → Q (.int b.sz) H'
section
variable {w : World} {P : Program} {K : PySem.W.Frag} {mg : Str → Option Value} {base : Heap}
theorem ok_pis_integer {f : Addr} {fd : FuncData} {k : Nat} (F_pis_integer : Fun K "is_integer" "is_integer" sPIsInteger f fd) (z_isinstance : mg "isinstance" = none) (z_int : mg "int" = none) (z_bool : mg "bool" = none) : FnOk P w K mg base CX0 (k + 1) f fd ["value"] spIsInt := by
  refine F_pis_integer.ok scPIsInteger (fun vs H Q E h => ?_) (fun cdv A outer s H vs Q E hr h => ?_)
  · obtain ⟨_, _, rfl, _⟩ := h
    rfl
  · obtain ⟨v, b, rfl, iv, q⟩ := h
    refine ⟨_, (pss_one (ps_ret (pe_and (pe_callB call_isi (by rfl) z_isinstance (by decide +kernel) (pa_cons (pv 0) (pa_cons (pe_bltn (v := .ty "int") (by rfl) z_int (by decide +kernel) rfl) pa_nil))) (pe_one (pe_not (pe_callB call_isi (by rfl) z_isinstance (by decide +kernel) (pa_cons (pv 0) (pa_cons (pe_bltn (v := .ty "bool") (by rfl) z_bool (by decide +kernel) rfl) pa_nil)))))))), ?_⟩
    rcases iv with ⟨i, rfl, rfl⟩ | ⟨z, rfl, rfl⟩ | ⟨a, xs, rfl, ha, rfl⟩
    · exact ⟨_, rfl, _, _, _, _, _, rfl, .ty _, .base (.int i), kit_ty (r := true) (by decide +kernel), _, rfl, iteT ⟨_, rfl, _, _, _, _, _, rfl, .ty _, .base (.int i), kit_ty (r := false) (by decide +kernel), _, rfl, q⟩⟩
    · exact ⟨_, rfl, _, _, _, _, _, rfl, .ty _, .base (.str z), kit_ty (r := false) (by decide +kernel), _, rfl, iteF q⟩
    · exact ⟨_, rfl, _, _, _, _, _, rfl, .ty _, .base (.tup ha), kit_ty (r := false) (by decide +kernel), _, rfl, iteF q⟩
theorem ok_pblocks_of {f : Addr} {fd : FuncData} {k : Nat} (F_pblocks_of : Fun K "blocks_of" "blocks_of" sPBlocksOf f fd) : FnOk P w K mg base CX0 (k + 1) f fd ["statement"] spBlocks := by
  refine F_pblocks_of.ok scPBlocksOf (fun vs H Q E h => ?_) (fun cdv A outer s H vs Q E hr h => ?_)
  · obtain ⟨_, _, rfl, _⟩ := h
    rfl
  · obtain ⟨v, s, rfl, t, q⟩ := h
    refine ⟨_, (pss_cons (ps_if (pt_cmpR op_eq (pe_ix ix_tup (pv 0) pe_int (fun _ _ => rfl)) pe_str (nomark _)) (pss_one (ps_ret (pe_tup (pa_cons (pe_ix ix_tup (pv 0) pe_int (fun _ _ => rfl)) (pa_cons (pe_ix ix_tup (pv 0) pe_int (fun _ _ => rfl)) pa_nil))))) pss_nil)
      (pss_cons (ps_if (pt_cmpR op_eq (pe_ix ix_tup (pv 0) pe_int (fun _ _ => rfl)) pe_str (nomark _)) (pss_one (ps_ret (pe_tup (pa_cons (pe_ix ix_tup (pv 0) pe_int (fun _ _ => rfl)) pa_nil)))) pss_nil)
      (pss_one (ps_ret (pe_tup pa_nil))))), ?_⟩
    cases s with
    | set z e =>
      obtain ⟨a, p, u, y, rfl, ha, t1, _, _⟩ := tp3 t
      obtain rfl := tpS t1
      refine ⟨_, rfl, a, _, _, _, rfl, rfl, SqT.of ha, rfl, rfl, _, rfl, iteN (by decide +kernel) ⟨_, rfl, a, _, _, _, rfl, rfl, SqT.of ha, rfl, rfl, _, rfl, iteN (by decide +kernel) ⟨by show 0 ≤ sizeLine; decide, fun p' hp' => ?_⟩⟩⟩
      exact q _ _ (Sx.n0 hp') (.tup upd_same .nil)
    | pay e =>
      obtain ⟨a, p, u, rfl, ha, t1, _⟩ := tp2 t
      obtain rfl := tpS t1
      refine ⟨_, rfl, a, _, _, _, rfl, rfl, SqT.of ha, rfl, rfl, _, rfl, iteN (by decide +kernel) ⟨_, rfl, a, _, _, _, rfl, rfl, SqT.of ha, rfl, rfl, _, rfl, iteN (by decide +kernel) ⟨by show 0 ≤ sizeLine; decide, fun p' hp' => ?_⟩⟩⟩
      exact q _ _ (Sx.n0 hp') (.tup upd_same .nil)
    | stop =>
      obtain ⟨a, p, rfl, ha, t1⟩ := tp1 t
      obtain rfl := tpS t1
      refine ⟨_, rfl, a, _, _, _, rfl, rfl, SqT.of ha, rfl, rfl, _, rfl, iteN (by decide +kernel) ⟨_, rfl, a, _, _, _, rfl, rfl, SqT.of ha, rfl, rfl, _, rfl, iteN (by decide +kernel) ⟨by show 0 ≤ sizeLine; decide, fun p' hp' => ?_⟩⟩⟩
      exact q _ _ (Sx.n0 hp') (.tup upd_same .nil)
    | ite ts y n =>
      obtain ⟨a, p, u, y', n', rfl, ha, t1, _, t3, t4⟩ := tp4 t
      obtain rfl := tpS t1
      refine ⟨_, rfl, a, _, _, _, rfl, rfl, SqT.of ha, rfl, rfl, _, rfl, iteP (by decide +kernel) ⟨_, rfl, a, _, _, y', rfl, rfl, SqT.of ha, rfl, _, rfl, a, _, _, n', rfl, rfl, SqT.of ha, rfl, by show 2 ≤ sizeLine; decide, fun p' hp' => ?_⟩⟩
      exact q _ _ (Sx.n0 hp') (.tup upd_same (.cons (t3.new hp') (.cons (t4.new hp') .nil)))
    | rep k y =>
      obtain ⟨a, p, u, y', rfl, ha, t1, _, t3⟩ := tp3 t
      obtain rfl := tpS t1
      refine ⟨_, rfl, a, _, _, _, rfl, rfl, SqT.of ha, rfl, rfl, _, rfl, iteN (by decide +kernel) ⟨_, rfl, a, _, _, _, rfl, rfl, SqT.of ha, rfl, rfl, _, rfl, iteP (by decide +kernel) ⟨_, rfl, a, _, _, y', rfl, rfl, SqT.of ha, rfl, by show 1 ≤ sizeLine; decide, fun p' hp' => ?_⟩⟩⟩
      exact q _ _ (Sx.n0 hp') (.tup upd_same (.cons (t3.new hp') .nil))
end
/-- the pieces on a stack, the top first -/
def Stk (H : Hp) (L : Addr) (ws : List (Int × St)) : Prop := ∃ vals : List V, H L = some (.lst vals.reverse) ∧ TpAll H vals (ws.map prD)
theorem Stk.keep {H H' : Hp} {L : Addr} {ws : List (Int × St)} (h : Stk H L ws) (s : Sx [] H H') : Stk H' L ws := by
  obtain ⟨vals, h1, h2⟩ := h
  exact ⟨vals, s _ _ (by simp) h1, h2.keep s.tk0⟩
theorem Stk.push {H : Hp} {L : Addr} {ws : List (Int × St)} {x : V} {y : Int × St} (h : Stk H L ws) (t : Tp H x (prD y)) : ∃ acc, H L = some (.lst acc) ∧ acc.length = ws.length ∧ Stk (upd H L (.lst (acc ++ [x]))) L (y :: ws) := by
  obtain ⟨vals, h1, h2⟩ := h
  have e := h2.len
  rw [List.length_map] at e
  refine ⟨_, h1, by rw [List.length_reverse, e], x :: vals, by rw [upd_same, List.reverse_cons], ?_⟩
  exact .cons (t.keep (Tk.lst h1)) (h2.keep (Tk.lst h1))
theorem Stk.pop {H : Hp} {L : Addr} {ws : List (Int × St)} {y : Int × St} (h : Stk H L (y :: ws)) : ∃ (acc : List V) (a : Addr) (x : V), H L = some (.lst acc) ∧ acc[acc.length - 1]? = some (.ref a) ∧ H a = some (.tup [.int y.1, x]) ∧ Tp H x y.2.d ∧ Stk (upd H L (.lst acc.dropLast)) L ws ∧ acc.length = ws.length + 1 := by
  obtain ⟨vals, h1, h2⟩ := h
  cases h2 with
  | cons h3 h4 =>
    rename_i v vs
    obtain ⟨a, xs, rfl, ha, hx⟩ := h3.tuple
    cases hx with | cons h5 hx => cases hx with | cons h6 hx => cases hx with | nil =>
    obtain rfl := tpI h5
    have e := h4.len
    rw [List.length_map] at e
    refine ⟨_, a, _, h1, ?_, ha, h6, ⟨vs, by rw [upd_same, List.reverse_cons, List.dropLast_concat], h4.keep (Tk.lst h1)⟩, by rw [List.length_reverse, List.length_cons, e]⟩
    rw [List.reverse_cons, List.length_append]
    simp
theorem Stk.nil_ {H : Hp} {L : Addr} (h : Stk H L []) : H L = some (.lst []) := by
  obtain ⟨vals, h1, h2⟩ := h
  cases h2
  exact h1
section
variable {w : World} {P : Program} {K : PySem.W.Frag} {mg : Str → Option Value} {base : Heap}
theorem ok_peach {f fB : Addr} {fd fdB : FuncData} (F_peach_statement : Fun K "each_statement" "each_statement" sPEachStatement f fd) (F_pblocks_of : Fun K "blocks_of" "blocks_of" sPBlocksOf fB fdB) (G_pblocks_of : FnOk P w K mg base CX0 1 fB fdB ["statement"] spBlocks)
    (b_pblocks_of : Binds K fdB ["statement"] []) (m_pblocks_of : mg "blocks_of" = some (.ref fB)) : GFn P w K mg base 2 f fd ["program"] spEach := by
  obtain ⟨oc, od, kV, doc, pm, an, cdv, ct, osl, rfl, lk, hcd⟩ := F_peach_statement.ex
  refine gfn_of lk hcd scPEachStatement (fun vs H Q E h => ?_) (fun A outer s H vs Q E pn hr h => ?_)
  · obtain ⟨_, _, rfl, _⟩ := h
    rfl
  · obtain ⟨v, b, rfl, t, hz, q⟩ := h
    refine ⟨_, (gss_cons (gs_ps (ps_setLc (i := 1) (own := [("statement", 4)]) (g := gName 4) (tt := tYes) rfl scPEachStatement.nd rfl rfl (sw_true rfl rfl rfl (by decide +kernel)) (pi_tup (pe_revT (pv 0))) (blkOk_by (N := nPEachStatement) (sc := defScope sPEachStatement) (by decide +kernel)) (fun _ _ _ _ _ => (pg_name (i := 4) scPEachStatement.nd rfl (by first | exact Or.inl rfl | exact Or.inr rfl))) (fun _ _ _ _ _ => pts_nil) (fun _ _ _ _ _ => (pe_tup (pa_cons pe_int (pa_cons (pv 4) pa_nil))))))
      (gss_cons (gs_ps (ps_set (i := 2) scPEachStatement.nd rfl (by first | exact Or.inl rfl | exact Or.inr rfl) pe_int))
      (gss_cons (gs_while owns_gcx (pt_truth (pv 1) (fun _ => rfl)) (gss_cons (gs_ps (ps_asg (pe_bm0 PySem.F.plainAttrs_list PySem.F.slot_list_pop PySem.F.type_list_pop mt_pop (pv 1)) (pg_tup rfl (pgs_cons (pg_name (i := 3) scPEachStatement.nd rfl (by first | exact Or.inl rfl | exact Or.inr rfl)) (pgs_cons (pg_name (i := 4) scPEachStatement.nd rfl (by first | exact Or.inl rfl | exact Or.inr rfl)) pgs_nil)))))
      (gss_cons (gs_yield (pe_tup (pa_cons (pv 2) (pa_cons (pv 3) (pa_cons (pv 4) pa_nil)))))
      (gss_pss (pss_cons (ps_aug (i := 2) scPEachStatement.nd rfl (.inl rfl) pe_int ip_add)
      (pss_one (ps_for owns_gcx rfl (pi_tup (pe_revT (pe_call G_pblocks_of (hr.mono (by omega)) (by rfl) m_pblocks_of F_pblocks_of.kp b_pblocks_of .nil pass0 (pa_cons (pv 4) pa_nil)))) (pg_name (i := 5) scPEachStatement.nd rfl (by first | exact Or.inl rfl | exact Or.inr rfl)) (pss_one (ps_for owns_gcx rfl (pi_tup (pe_revT (pv 5))) (pg_name (i := 6) scPEachStatement.nd rfl (by first | exact Or.inl rfl | exact Or.inr rfl)) (pss_one (ps_expr (pe_bm PySem.F.plainAttrs_list PySem.F.slot_list_append PySem.F.type_list_append mt_append (pv 1) (pa_cons (pe_tup (pa_cons (pe_op op_add (pv 3) pe_int) (pa_cons (pv 6) pa_nil))) pa_nil)))))))))))))
      gss_nil))), ?_⟩
    obtain ⟨a, xs, rfl, ha, hx⟩ := t.tuple
    rw [b.ds_lst] at hx
    obtain ⟨hl, hg⟩ := hx.lst
    -- the first stack
    refine ⟨_, rfl, a, xs, rfl, SqT.of ha, fun p hp => ⟨p, rfl, ⟨_, SqT.of upd_same⟩, fun D hD => lc_tup (xs := xs.reverse)
      (fun i H1 => Sx [] H H1 ∧ H1 p = some (.tup xs.reverse) ∧ Stk H1 D ((b.lst.drop (b.lst.length - i)).map fun s => (0, s)))
      ⟨(Sx.n0 hp).trans (Sx.n0 hD), by rw [upd_ne (ne_of_none upd_same hD)]; exact upd_same, [], upd_same, by rw [Nat.sub_zero, List.drop_length]; exact .nil⟩ (fun i H1 _ z => SqT.of z.2.1) (fun i x H1 hi z => ?_) (fun H1 z => ?_)⟩⟩
    · obtain ⟨s1, hp1, hv⟩ := z
      obtain ⟨hi1, hi2⟩ := rev_get hi
      rw [hl] at hi1 hi2
      obtain ⟨st, hst, tst⟩ := hg _ x hi2
      refine ⟨rfl, ?_⟩
      refine ⟨_, rfl, by show 2 ≤ sizeLine; decide, fun u hu => ?_⟩
      have hDn : H D = none := by
        cases e : H D with
        | none => rfl
        | some o => have := Sx.n0 (o := .tup xs.reverse) hp D o (by simp) e; rw [hD] at this; cases this
      have bl := bk_le b
      obtain ⟨acc, e1, e2, e3⟩ := (hv.keep (Sx.n0 hu)).push (x := .ref u) (y := (0, st)) (tpPair upd_same ((tst.keep s1.tk0).new hu))
      have npD : p ≠ D := ne_of_none upd_same hD
      refine ⟨acc, e1, lt_line (by rw [e2, List.length_map, List.length_drop]; omega), (s1.new hu).own hDn, ?_, ?_⟩
      · rw [upd_ne npD]; exact Sx.n0 hu _ _ (by simp) hp1
      · rw [drop_back hi1 hst]; exact e3
    · obtain ⟨s1, _, hv⟩ := z
      have hDn : H D = none := by
        cases e : H D with
        | none => rfl
        | some o => have := Sx.n0 (o := .tup xs.reverse) hp D o (by simp) e; rw [hD] at this; cases this
      rw [List.length_reverse, hl, Nat.sub_self, List.drop_zero] at hv
      refine ⟨fun m ys σ H' => ∃ (ws : List (Int × St)) (dn : List Rw) (o3 o4 o5 o6 : Option V), σ = [some (.ref a), some (.ref D), some (.int dn.length), o3, o4, o5, o6] ∧ Sx [] H H' ∧ Stk H' D ws ∧ TpAll H' ys (dn.map rwD) ∧ dn ++ stkRws ws dn.length = b.rws 0 0 ∧ m = stkSz ws,
        ⟨_, b.stk 0, [], _, _, _, _, rfl, s1, hv, .nil, stk_bk b 0 0, rfl⟩, ?_⟩
      rintro m ys σ H' ⟨ws, dn, o3, o4, o5, o6, rfl, s2, hs, hy, hrows, rfl⟩
      have total := congrArg List.length hrows
      rw [List.length_append, stkRws_len, Bk.rws_len] at total
      cases ws with
      | nil =>
        refine ⟨_, rfl, false, .inl ⟨_, SqL.of hs.nil_, rfl⟩, iteF ?_⟩
        rw [show stkRws [] (dn.length : Int) = [] from rfl, List.append_nil] at hrows
        exact q ys H' s2 (by rw [← hrows]; exact hy)
      | cons y ws =>
        obtain ⟨d, st⟩ := y
        obtain ⟨acc, c, x, e1, e2, e3, e4, e5, e6⟩ := hs.pop
        have ylen := hy.len
        rw [List.length_map] at ylen
        rw [stkSz_cons] at total
        have stp := st.sz_pos
        have wle := stk_le ws
        refine ⟨_, rfl, true, .inl ⟨_, SqL.of e1, ?_⟩, iteT ⟨fun ys' σ' H2 => ∃ m', m' < stkSz ((d, st) :: ws) ∧ ∃ (ws' : List (Int × St)) (dn : List Rw) (o3 o4 o5 o6 : Option V), σ' = [some (.ref a), some (.ref D), some (.int dn.length), o3, o4, o5, o6] ∧ Sx [] H H2 ∧ Stk H2 D ws' ∧ TpAll H2 ys' (dn.map rwD) ∧ dn ++ stkRws ws' dn.length = b.rws 0 0 ∧ m' = stkSz ws', fun _ _ _ z => z, ?_⟩⟩
        · cases acc with
          | nil => simp at e6
          | cons _ _ => rfl
        -- the top is taken
        refine ⟨_, rfl, .inl ⟨rfl, _, SqL.of e1⟩, D, _, _, rfl, rfl, e1, e2, ?_⟩
        have Dc : c ≠ D := fun z => by rw [z, e1] at e3; cases e3
        have k1 : Tk H' (upd H' D (.lst acc.dropLast)) := Tk.lst e1
        refine gh (H1 := upd H' D (.lst acc.dropLast)) (F := fun H2 => Sx [] H H2 ∧ Tk H' H2 ∧ Stk H2 D ws) ⟨s2.own hDn, k1, e5⟩ (fun H2 ⟨s3, k1, e5⟩ => ?_)
        refine ⟨c, _, rfl, SqT.of (k1 _ _ e3), rfl, _, _, rfl, gnm ⟨_, _, rfl, gnm ⟨rfl, ?_⟩⟩⟩
        -- it is handed out
        refine ⟨lt_line (by omega), _, rfl, _, rfl, _, rfl, by show 3 ≤ sizeLine; decide, fun u hu => ?_⟩
        have hy2 : TpAll (upd H2 u (.tup [.int dn.length, .int d, x])) (ys ++ [.ref u]) ((dn ++ [((dn.length : Int), d, st)]).map rwD) := by
          rw [List.map_append]
          exact ((hy.keep k1).new hu).append (.cons (.tup upd_same (.cons (.int _) (.cons (.int _) (.cons ((e4.keep k1).new hu) .nil)))) .nil)
        refine gh (H1 := upd H2 u _) (F := fun H3 => Sx [] H H3 ∧ Stk H3 D ws ∧ Tp H3 x st.d ∧ TpAll H3 (ys ++ [.ref u]) ((dn ++ [((dn.length : Int), d, st)]).map rwD)) ⟨s3.new hu, e5.keep (Sx.n0 hu), (e4.keep k1).new hu, hy2⟩ (fun H3 ⟨s4, e7, e8, hy3⟩ => ?_)
        -- what lies in it
        refine Exists.intro _ ⟨rfl, _, _, rfl, rfl, ?_⟩
        refine ⟨_, rfl, x, st, rfl, e8, fun H4 v4 s5 t4 => ?_⟩
        obtain ⟨a4, xs4, rfl, ha4, hx4⟩ := t4.tuple
        rw [st.parts_blks] at hx4
        obtain ⟨hl4, hg4⟩ := hx4.lst
        have okk : dn ++ [((dn.length : Int), d, st)] ++ stkRws (kidsOf st.blks (d + 1) ++ ws) (dn.length + 1) = b.rws 0 0 := by
          rw [← hrows, stk_append, kidsSz, List.append_assoc]
          show dn ++ ((↑dn.length, d, st) :: (stkRws (kidsOf st.blks (d + 1)) (↑dn.length + 1) ++ stkRws ws _)) = dn ++ (st.rws d dn.length ++ stkRws ws (dn.length + st.sz))
          rw [st.rws_kids, st.sz_blks, List.cons_append]
          congr 4
          omega
        have blk2 : st.blks.length ≤ 2 := by cases st <;> simp [St.blks]
        refine ⟨a4, xs4, rfl, SqT.of ha4, fun p4 hp4 => ⟨p4, rfl, ⟨_, SqT.of upd_same⟩, for_tup (xs := xs4.reverse)
          (fun i σ H5 => ∃ o5 o6, σ = [some (.ref a), some (.ref D), some (.int (dn.length + 1)), some (.int d), some x, o5, o6] ∧ Sx [] H H5 ∧ H5 p4 = some (.tup xs4.reverse) ∧ Tk H4 H5 ∧ Stk H5 D (kidsOf (st.blks.drop (st.blks.length - i)) (d + 1) ++ ws) ∧ TpAll H5 (ys ++ [.ref u]) ((dn ++ [((dn.length : Int), d, st)]).map rwD))
          ⟨_, _, rfl, (s4.trans s5).new hp4, upd_same, (Sx.n0 hp4).tk0, by rw [Nat.sub_zero, List.drop_length]; exact (e7.keep s5).keep (Sx.n0 hp4), (hy3.keep s5.tk0).new hp4⟩ (fun i σ H5 _ z => by obtain ⟨_, _, _, _, z, _⟩ := z; exact SqT.of z) (fun i y σ H5 hi z => ?_) (fun σ H5 z => ?_)⟩⟩
        · obtain ⟨o5, o6, rfl, s6, hp5, k5, hs5, hy5⟩ := z
          obtain ⟨hi1, hi2⟩ := rev_get hi
          rw [hl4] at hi1 hi2
          obtain ⟨bk, hbk, tbk⟩ := hg4 _ y hi2
          have hmem : bk ∈ st.blks := List.mem_of_getElem? hbk
          refine gnm ?_
          obtain ⟨a6, xs6, rfl, ha6, hx6⟩ := (tbk.keep k5).tuple
          rw [bk.ds_lst] at hx6
          obtain ⟨hl6, hg6⟩ := hx6.lst
          rw [drop_back hi1 hbk]
          have szb : bk.sz ≤ st.sz := by
            rw [st.sz_blks]
            have := sum_mem (List.mem_map_of_mem (f := Bk.sz) hmem)
            omega
          have bl := bk_le bk
          have kl : (kidsOf (st.blks.drop (st.blks.length - i)) (d + 1)).length + bk.sz ≤ st.sz := by
            have h1 := stk_le (kidsOf (st.blks.drop (st.blks.length - i)) (d + 1))
            have h2 : ∀ (l : List Bk) (n : Nat), ((l.drop n).map Bk.sz).sum ≤ (l.map Bk.sz).sum := fun l n => by
              have e := congrArg (fun l => (l.map Bk.sz).sum) (List.take_append_drop n l)
              simp only [List.map_append, List.sum_append] at e
              omega
            have h3 := h2 st.blks (st.blks.length - (i + 1))
            rw [drop_back hi1 hbk, List.map_cons, List.sum_cons] at h3
            rw [kidsSz] at h1
            rw [st.sz_blks]
            omega
          have total' : dn.length + (st.sz + stkSz ws) = b.sz := total
          refine ⟨_, rfl, a6, xs6, rfl, SqT.of ha6, fun p6 hp6 => ⟨p6, rfl, ⟨_, SqT.of upd_same⟩, for_tup (xs := xs6.reverse)
            (fun j σ H6 => ∃ o6, σ = [some (.ref a), some (.ref D), some (.int (dn.length + 1)), some (.int d), some x, some (.ref a6), o6] ∧ Sx [] H H6 ∧ H6 p4 = some (.tup xs4.reverse) ∧ H6 p6 = some (.tup xs6.reverse) ∧ Tk H5 H6 ∧ Stk H6 D ((bk.lst.drop (bk.lst.length - j)).map (fun s => (d + 1, s)) ++ (kidsOf (st.blks.drop (st.blks.length - i)) (d + 1) ++ ws)) ∧ TpAll H6 (ys ++ [.ref u]) ((dn ++ [((dn.length : Int), d, st)]).map rwD))
            ⟨_, rfl, s6.new hp6, Sx.n0 hp6 _ _ (by simp) hp5, upd_same, (Sx.n0 hp6).tk0, by rw [Nat.sub_zero, List.drop_length]; exact hs5.keep (Sx.n0 hp6), hy5.new hp6⟩ (fun j σ H6 _ z => by obtain ⟨_, _, _, _, z, _⟩ := z; exact SqT.of z) (fun j y2 σ H6 hj z => ?_) (fun σ H6 z => ?_)⟩⟩
          · obtain ⟨o6, rfl, s7, hp6a, hp6b, k6, hs6, hy6⟩ := z
            obtain ⟨hj1, hj2⟩ := rev_get hj
            rw [hl6] at hj1 hj2
            obtain ⟨st2, hst2, tst2⟩ := hg6 _ y2 hj2
            refine gnm ?_
            obtain ⟨L6, hL6, _⟩ := id hs6
            refine ⟨_, rfl, .inl ⟨rfl, _, SqL.of hL6⟩, _, rfl, d, 1, rfl, rfl, _, rfl, by show 2 ≤ sizeLine; decide, fun u2 hu2 => ?_⟩
            obtain ⟨acc2, g1, g2, g3⟩ := (hs6.keep (Sx.n0 hu2)).push (x := .ref u2) (y := (d + 1, st2)) (tpPair upd_same ((tst2.keep k6).new hu2))
            refine ⟨D, _, _, rfl, rfl, g1, lt_line (by rw [g2, List.length_append, List.length_map, List.length_drop, List.length_append]; omega), ?_⟩
            refine ⟨_, rfl, (s7.new hu2).own hDn, ?_, ?_, (k6.trans (Sx.n0 hu2).tk0).trans (Tk.lst g1), ?_, (hy6.new hu2).keep (Tk.lst g1)⟩
            · exact ((Sx.n0 hu2).tk0.trans (Tk.lst g1)) _ _ hp6a
            · exact ((Sx.n0 hu2).tk0.trans (Tk.lst g1)) _ _ hp6b
            · rw [drop_back hj1 hst2]; exact g3
          · obtain ⟨o6, rfl, s7, hp6a, hp6b, k6, hs6, hy6⟩ := z
            rw [List.length_reverse, hl6, Nat.sub_self, List.drop_zero] at hs6
            refine ⟨_, _, rfl, s7, hp6a, k5.trans k6, ?_, hy6⟩
            show Stk H6 D ((bk.stk (d + 1) ++ kidsOf (st.blks.drop (st.blks.length - i)) (d + 1)) ++ ws)
            rw [List.append_assoc]
            exact hs6
        · obtain ⟨o5, o6, rfl, s6, hp5, k5, hs5, hy5⟩ := z
          rw [List.length_reverse, hl4, Nat.sub_self, List.drop_zero] at hs5
          have e9 : ((dn ++ [((dn.length : Int), d, st)]).length : Int) = dn.length + 1 := by simp
          refine ⟨_, ?_, kidsOf st.blks (d + 1) ++ ws, dn ++ [((dn.length : Int), d, st)], _, _, _, _, by rw [e9], s6, hs5, hy5, by rw [e9]; exact okk, rfl⟩
          rw [stkSz_append, kidsSz, stkSz_cons, st.sz_blks]
          omega
theorem ok_pplaces {f fE : Addr} {fd fdE : FuncData} (F_pplaces_in : Fun K "places_in" "places_in" sPPlacesIn f fd) (F_peach_statement : Fun K "each_statement" "each_statement" sPEachStatement fE fdE) (G_peach_statement : GFn P w K mg base 2 fE fdE ["program"] spEach)
    (b_peach_statement : Binds K fdE ["program"] []) (m_peach_statement : mg "each_statement" = some (.ref fE)) (z_len : mg "len" = none) (z_list : mg "list" = none) : FnOk P w K mg base CX0 6 f fd ["block"] spPlaces := by
  refine F_pplaces_in.ok scPPlacesIn (fun vs H Q E h => ?_) (fun cdv A outer s H vs Q E hr h => ?_)
  · obtain ⟨_, _, rfl, _⟩ := h
    rfl
  · obtain ⟨v, b, rfl, t, hz, q⟩ := h
    have hr2 := hr.mono (show 2 ≤ 5 by omega)
    refine ⟨_, (pss_one (ps_ret (pe_callB call_len_seq (by rfl) z_len boot_len (pa_cons (pe_listG (pgen_call G_peach_statement hr2 (by rfl) m_peach_statement F_peach_statement.kp b_peach_statement .nil (pa_cons (pv 0) pa_nil)) passCX0 noStop0 hr (by rfl) z_list (by decide +kernel)) pa_nil)))), ?_⟩
    refine ⟨_, rfl, v, b, rfl, t, hz, fun ys H' s1 hy => fun p hp => ?_⟩
    refine ⟨p, _, rfl, .inl (SqL.of upd_same), ?_⟩
    rw [hy.len, List.length_map, Bk.rws_len]
    exact q _ (s1.new hp)
end
abbrev sPNumbered : Stmt := topS 39
abbrev nPNumbered : List Str := ["block", "place", "rows", "statement"]
theorem scPNumbered : FnScope nPNumbered ["block", "place"] (defScope sPNumbered) := ⟨rfl, rfl, rfl, by decide +kernel, rfl, by decide +kernel, by decide +kernel⟩
abbrev sPEntered : Stmt := topS 40
abbrev nPEntered : List Str := ["statement", "place", "names"]
theorem scPEntered : FnScope nPEntered ["statement", "place", "names"] (defScope sPEntered) := ⟨rfl, rfl, rfl, by decide +kernel, rfl, by decide +kernel, by decide +kernel⟩
abbrev sPValueOf : Stmt := topS 41
abbrev nPValueOf : List Str := ["expression", "names"]
theorem scPValueOf : FnScope nPValueOf ["expression", "names"] (defScope sPValueOf) := ⟨rfl, rfl, rfl, by decide +kernel, rfl, by decide +kernel, by decide +kernel⟩
abbrev sPIsTrue : Stmt := topS 42
abbrev nPIsTrue : List Str := ["test", "names"]
theorem scPIsTrue : FnScope nPIsTrue ["test", "names"] (defScope sPIsTrue) := ⟨rfl, rfl, rfl, by decide +kernel, rfl, by decide +kernel, by decide +kernel⟩
theorem Ex.isIntV {H : Hp} {v : V} {e : Ex} (t : Tp H v e.d) : GA.isIntV H v (match e with | .int _ => true | _ => false) := by
  cases e with
  | int i => exact .inl ⟨i, tpI t, rfl⟩
  | name z => exact .inr (.inl ⟨z, tpS t, rfl⟩)
  | plus x y => obtain ⟨a, p, q, r, rfl, ha, _⟩ := tp3 t; exact .inr (.inr ⟨a, _, rfl, ha, rfl⟩)
  | minus x y => obtain ⟨a, p, q, r, rfl, ha, _⟩ := tp3 t; exact .inr (.inr ⟨a, _, rfl, ha, rfl⟩)
  | times f x => obtain ⟨a, p, q, r, rfl, ha, _⟩ := tp3 t; exact .inr (.inr ⟨a, _, rfl, ha, rfl⟩)
theorem mod_is {x b r : Int} (h0 : 0 ≤ r) (h1 : r < b) : (x % b = r) ↔ ((x - r) % b = 0) := by
  constructor
  · intro h
    rw [Int.sub_emod, h, Int.emod_eq_of_lt h0 h1, Int.sub_self, Int.zero_emod]
  · intro h
    obtain ⟨k, hk⟩ := Int.dvd_of_emod_eq_zero h
    have e : x = r + b * k := by omega
    rw [e, Int.add_mul_emod_self_left, Int.emod_eq_of_lt h0 h1]
/-- places and statements of a block -/
def Bk.nums : Bk → Int → List (Int × St)
  | .nil, _ => []
  | .cons s b, p => (p, s) :: b.nums (p + s.sz)
def St.ent (ρ : Str → Int) : St → Int → List (Int × St)
  | .ite t y n, p => if t.ev ρ = true then y.nums (p + 1) else n.nums (p + 1 + y.sz)
  | .rep k y, p => (List.replicate k.toNat (y.nums (p + 1))).flatten
  | _, _ => []
def spNumbered : Sp := fun vs H Q _ => ∃ (v : V) (b : Bk) (p : Int), vs = [v, .int p] ∧ Tp H v (.tuple b.ds) ∧ b.sz < 16777216 ∧ ∀ H' l ys, Sx [] H H' → H l = none → H' l = some (.lst ys) → TpAll H' ys ((b.nums p).map prD) → Q (.ref l) H'
def spEntered (ns : List Str) : Sp := fun vs H Q _ => ∃ (v : V) (s : St) (p : Int) (N : Addr) (ρ : Str → Int) (d : Nat), vs = [v, .int p, .ref N] ∧ Tp H v s.d ∧ s.ok ns d ∧ s.sz < 16777216 ∧ s.wt ≤ 1000000 ∧ En H N ρ ∧ ((∃ t y n, s = .ite t y n) ∨ ∃ k y, s = .rep k y) ∧
  ∀ H' l ys, Sx [] H H' → H l = none → H' l = some (.lst ys) → TpAll H' ys ((s.ent ρ p).map prD) → Q (.ref l) H'
theorem nums_len : ∀ (b : Bk) (p : Int), (b.nums p).length = b.lst.length
  | .nil, _ => rfl
  | .cons s b, p => by
    show (b.nums (p + s.sz)).length + 1 = b.lst.length + 1
    rw [nums_len b]
theorem TpAll.flat {H : Hp} {ys : List V} {ds : List PyData} (h : TpAll H ys ds) : ∀ n : Nat, TpAll H (List.replicate n ys).flatten (List.replicate n ds).flatten
  | 0 => .nil
  | n + 1 => by
    simp only [List.replicate_succ, List.flatten_cons]
    exact h.append (TpAll.flat h n)
theorem map_flat {α β : Type} (f : α → β) (n : Nat) (l : List α) : (List.replicate n l).flatten.map f = (List.replicate n (l.map f)).flatten := by
  induction n with
  | zero => rfl
  | succ n ih => rw [List.replicate_succ, List.replicate_succ, List.flatten_cons, List.flatten_cons, List.map_append, ih]
theorem flat_len {α : Type} (n : Nat) (l : List α) : (List.replicate n l).flatten.length = n * l.length := by
  induction n with
  | zero => simp
  | succ n ih => rw [List.replicate_succ, List.flatten_cons, List.length_append, ih, Nat.succ_mul, Nat.add_comm]
mutual
theorem St.sz_wt {ns : List Str} : ∀ {s : St} {d : Nat}, s.ok ns d → s.sz ≤ s.wt
  | .set _ _, _, _ => Nat.le_refl _
  | .pay _, _, _ => Nat.le_refl _
  | .stop, _, _ => Nat.le_refl _
  | .ite t y n, d, ⟨h1, h2, h3⟩ => by
    have a := Bk.sz_wt h2
    have b := Bk.sz_wt h3
    simp only [St.sz, St.wt]
    omega
  | .rep k y, d, ⟨h1, h2, h3⟩ => by
    have a := Bk.sz_wt h3
    simp only [St.sz, St.wt]
    have := Nat.le_mul_of_pos_left y.wt (show 0 < k.toNat by omega)
    omega
theorem Bk.sz_wt {ns : List Str} : ∀ {b : Bk} {d : Nat}, b.ok ns d → b.sz ≤ b.wt
  | .nil, _, _ => Nat.le_refl _
  | .cons s b, d, ⟨h1, h2, h3⟩ => by
    have a := St.sz_wt h2
    have c := Bk.sz_wt h3
    simp only [Bk.sz, Bk.wt]
    omega
end
section
variable {w : World} {P : Program} {K : PySem.W.Frag} {mg : Str → Option Value} {base : Heap}
theorem ok_pvalue {f fI : Addr} {fd fdI : FuncData} {ns : List Str} (F_pvalue_of : Fun K "value_of" "value_of" sPValueOf f fd) (F_pis_integer : Fun K "is_integer" "is_integer" sPIsInteger fI fdI) (G_pis_integer : FnOk P w K mg base CX0 1 fI fdI ["value"] spIsInt)
    (b_pvalue_of : Binds K fd ["expression", "names"] []) (b_pis_integer : Binds K fdI ["value"] []) (m_pvalue_of : mg "value_of" = some (.ref f)) (m_pis_integer : mg "is_integer" = some (.ref fI)) (z_isinstance : mg "isinstance" = none) (z_str : mg "str" = none) :
    ∀ d : Nat, FnOk P w K mg base CX0 (d + 2) f fd ["expression", "names"] (spValue ns d) := by
  intro d
  induction d with
  | zero => exact ⟨fun vs H Q E h => by obtain ⟨_, _, _, _, rfl, _⟩ := h; rfl, fun _ _ _ _ _ _ _ _ _ _ _ _ _ h => by
      obtain ⟨_, _, e, _, _, _, h, _⟩ := h
      cases e <;> exact absurd h.1 (by decide)⟩
  | succ d G_pvalue_of =>
    refine F_pvalue_of.ok scPValueOf (fun vs H Q E h => ?_) (fun cdv A outer s H vs Q E hr h => ?_)
    · obtain ⟨_, _, _, _, rfl, _⟩ := h
      rfl
    · obtain ⟨v, N, e, ρ, rfl, t, ho, ⟨kvs, hN, hv⟩, q⟩ := h
      refine ⟨_, (pss_cons (ps_if (pt_val (pe_call G_pis_integer (hr.mono (by omega)) (by rfl) m_pis_integer F_pis_integer.kp b_pis_integer .nil pass0 (pa_cons (pv 0) pa_nil))) (pss_one (ps_ret (pv 0))) pss_nil)
      (pss_cons (ps_if (pt_val (pe_callB call_isi (by rfl) z_isinstance (by decide +kernel) (pa_cons (pv 0) (pa_cons (pe_bltn (v := .ty "str") (by rfl) z_str (by decide +kernel) rfl) pa_nil)))) (pss_one (ps_ret (pe_dget2 (hu_of hr) (pv 1) (pv 0) pe_int ⟨rfl, rfl, rfl, rfl⟩))) pss_nil)
      (pss_cons (ps_if (pt_cmpR op_eq (pe_ix ix_tup (pv 0) pe_int (fun _ _ => rfl)) pe_str (nomark _)) (pss_one (ps_ret (pe_op op_mul (pe_ix ix_tup (pv 0) pe_int (fun _ _ => rfl)) (pe_call G_pvalue_of (hr.mono (by omega)) (by rfl) m_pvalue_of F_pvalue_of.kp b_pvalue_of .nil pass0 (pa_cons (pe_ix ix_tup (pv 0) pe_int (fun _ _ => rfl)) (pa_cons (pv 1) pa_nil)))))) pss_nil)
      (pss_cons (ps_if (pt_cmpR op_eq (pe_ix ix_tup (pv 0) pe_int (fun _ _ => rfl)) pe_str (nomark _)) (pss_one (ps_ret (pe_op op_add (pe_call G_pvalue_of (hr.mono (by omega)) (by rfl) m_pvalue_of F_pvalue_of.kp b_pvalue_of .nil pass0 (pa_cons (pe_ix ix_tup (pv 0) pe_int (fun _ _ => rfl)) (pa_cons (pv 1) pa_nil))) (pe_call G_pvalue_of (hr.mono (by omega)) (by rfl) m_pvalue_of F_pvalue_of.kp b_pvalue_of .nil pass0 (pa_cons (pe_ix ix_tup (pv 0) pe_int (fun _ _ => rfl)) (pa_cons (pv 1) pa_nil)))))) pss_nil)
      (pss_one (ps_ret (pe_op op_sub (pe_call G_pvalue_of (hr.mono (by omega)) (by rfl) m_pvalue_of F_pvalue_of.kp b_pvalue_of .nil pass0 (pa_cons (pe_ix ix_tup (pv 0) pe_int (fun _ _ => rfl)) (pa_cons (pv 1) pa_nil))) (pe_call G_pvalue_of (hr.mono (by omega)) (by rfl) m_pvalue_of F_pvalue_of.kp b_pvalue_of .nil pass0 (pa_cons (pe_ix ix_tup (pv 0) pe_int (fun _ _ => rfl)) (pa_cons (pv 1) pa_nil)))))))))), ?_⟩
      refine ⟨_, rfl, v, _, rfl, e.isIntV t, ?_⟩
      cases e with
      | int i =>
        obtain rfl := tpI t
        exact ⟨_, rfl, iteT ⟨_, rfl, q⟩⟩
      | name z =>
        obtain rfl := tpS t
        refine ⟨_, rfl, iteF ⟨_, rfl, _, _, _, _, _, rfl, .ty _, .base (.str z), kit_ty (r := true) (by decide +kernel), _, rfl, iteT ⟨_, rfl, N, rfl, .inl ⟨kvs, .inl hN⟩, _, rfl, _, DGet.k (k := .inr z) hN, ?_⟩⟩⟩
        rw [hv z]
        exact q
      | plus x y =>
        obtain ⟨a, p, u, r, rfl, ha, t1, t2, t3⟩ := tp3 t
        obtain rfl := tpS t1
        refine ⟨_, rfl, iteF ⟨_, rfl, _, _, _, _, _, rfl, .ty _, .base (.tup ha), kit_ty (r := false) (by decide +kernel), _, rfl, iteF ?_⟩⟩
        refine ⟨_, rfl, a, _, _, _, rfl, rfl, SqT.of ha, rfl, rfl, _, rfl, iteN (by decide +kernel) ?_⟩
        refine ⟨_, rfl, a, _, _, _, rfl, rfl, SqT.of ha, rfl, rfl, _, rfl, iteP (by decide +kernel) ?_⟩
        refine ⟨_, rfl, a, _, _, u, rfl, rfl, SqT.of ha, rfl, _, rfl, u, N, x, ρ, rfl, t2, ho.2.1, ⟨kvs, hN, hv⟩, ?_⟩
        refine ⟨_, rfl, a, _, _, r, rfl, rfl, SqT.of ha, rfl, _, rfl, r, N, y, ρ, rfl, t3, ho.2.2, ⟨kvs, hN, hv⟩, ?_⟩
        exact ⟨_, _, rfl, rfl, q⟩
      | minus x y =>
        obtain ⟨a, p, u, r, rfl, ha, t1, t2, t3⟩ := tp3 t
        obtain rfl := tpS t1
        refine ⟨_, rfl, iteF ⟨_, rfl, _, _, _, _, _, rfl, .ty _, .base (.tup ha), kit_ty (r := false) (by decide +kernel), _, rfl, iteF ?_⟩⟩
        refine ⟨_, rfl, a, _, _, _, rfl, rfl, SqT.of ha, rfl, rfl, _, rfl, iteN (by decide +kernel) ?_⟩
        refine ⟨_, rfl, a, _, _, _, rfl, rfl, SqT.of ha, rfl, rfl, _, rfl, iteN (by decide +kernel) ?_⟩
        refine ⟨_, rfl, a, _, _, u, rfl, rfl, SqT.of ha, rfl, _, rfl, u, N, x, ρ, rfl, t2, ho.2.1, ⟨kvs, hN, hv⟩, ?_⟩
        refine ⟨_, rfl, a, _, _, r, rfl, rfl, SqT.of ha, rfl, _, rfl, r, N, y, ρ, rfl, t3, ho.2.2, ⟨kvs, hN, hv⟩, ?_⟩
        exact ⟨_, _, rfl, rfl, q⟩
      | times f x =>
        obtain ⟨a, p, u, r, rfl, ha, t1, t2, t3⟩ := tp3 t
        obtain rfl := tpS t1
        obtain rfl := tpI t2
        refine ⟨_, rfl, iteF ⟨_, rfl, _, _, _, _, _, rfl, .ty _, .base (.tup ha), kit_ty (r := false) (by decide +kernel), _, rfl, iteF ?_⟩⟩
        refine ⟨_, rfl, a, _, _, _, rfl, rfl, SqT.of ha, rfl, rfl, _, rfl, iteP (by decide +kernel) ?_⟩
        have h1 : -9 ≤ f := ho.2.1
        have h2 : f ≤ 9 := ho.2.2.1
        refine ⟨_, rfl, a, _, _, _, rfl, rfl, SqT.of ha, rfl, _, rfl, a, _, _, r, rfl, rfl, SqT.of ha, rfl, _, rfl, r, N, x, ρ, rfl, t3, ho.2.2.2, ⟨kvs, hN, hv⟩, ?_⟩
        exact ⟨_, _, rfl, rfl, .inl ⟨by omega, by omega⟩, q⟩
theorem ok_ptrue {f fV : Addr} {fd fdV : FuncData} {ns : List Str} (F_pis_true : Fun K "is_true" "is_true" sPIsTrue f fd) (F_pvalue_of : Fun K "value_of" "value_of" sPValueOf fV fdV)
    (b_pis_true : Binds K fd ["test", "names"] []) (b_pvalue_of : Binds K fdV ["expression", "names"] []) (m_pis_true : mg "is_true" = some (.ref f)) (m_pvalue_of : mg "value_of" = some (.ref fV))
    (G_pvalue_of : FnOk P w K mg base CX0 5 fV fdV ["expression", "names"] (spValue ns 3)) :
    ∀ n : Nat, FnOk P w K mg base CX0 (n + 5) f fd ["test", "names"] (spTrue ns n) := by
  intro n
  induction n with
  | zero => exact ⟨fun vs H Q E h => by obtain ⟨_, _, _, _, rfl, _⟩ := h; rfl, fun _ _ _ _ _ _ _ _ _ _ _ _ _ h => by
      obtain ⟨_, _, e, _, _, _, h, _⟩ := h
      omega⟩
  | succ n G_pis_true =>
    refine F_pis_true.ok scPIsTrue (fun vs H Q E h => ?_) (fun cdv A outer s H vs Q E hr h => ?_)
    · obtain ⟨_, _, _, _, rfl, _⟩ := h
      rfl
    · obtain ⟨v, N, e, ρ, rfl, t, _, ho, En0, q⟩ := h
      refine ⟨_, (pss_cons (ps_if (pt_cmpR op_eq (pe_ix ix_tup (pv 0) pe_int (fun _ _ => rfl)) pe_str (nomark _)) (pss_one (ps_ret (pe_not (pe_call G_pis_true (hr.mono (by omega)) (by rfl) m_pis_true F_pis_true.kp b_pis_true .nil pass0 (pa_cons (pe_ix ix_tup (pv 0) pe_int (fun _ _ => rfl)) (pa_cons (pv 1) pa_nil)))))) pss_nil)
      (pss_cons (ps_if (pt_cmpR op_eq (pe_ix ix_tup (pv 0) pe_int (fun _ _ => rfl)) pe_str (nomark _)) (pss_one (ps_ret (pe_cmpR op_lt (pe_call G_pvalue_of (hr.mono (by omega)) (by rfl) m_pvalue_of F_pvalue_of.kp b_pvalue_of .nil pass0 (pa_cons (pe_ix ix_tup (pv 0) pe_int (fun _ _ => rfl)) (pa_cons (pv 1) pa_nil))) (pe_call G_pvalue_of (hr.mono (by omega)) (by rfl) m_pvalue_of F_pvalue_of.kp b_pvalue_of .nil pass0 (pa_cons (pe_ix ix_tup (pv 0) pe_int (fun _ _ => rfl)) (pa_cons (pv 1) pa_nil))) (nomark _)))) pss_nil)
      (pss_one (ps_ret (pe_cmpR op_eq (pe_op op_mod (pe_call G_pvalue_of (hr.mono (by omega)) (by rfl) m_pvalue_of F_pvalue_of.kp b_pvalue_of .nil pass0 (pa_cons (pe_ix ix_tup (pv 0) pe_int (fun _ _ => rfl)) (pa_cons (pv 1) pa_nil))) (pe_ix ix_tup (pv 0) pe_int (fun _ _ => rfl))) (pe_ix ix_tup (pv 0) pe_int (fun _ _ => rfl)) (nomark _)))))), ?_⟩
      cases e with
      | rest x b r =>
        obtain ⟨a, p, u, y, z, rfl, ha, t1, t2, t3, t4⟩ := tp4 t
        obtain rfl := tpS t1
        obtain rfl := tpI t3
        obtain rfl := tpI t4
        obtain ⟨o1, o2, o3, o4, o5⟩ := ho
        refine ⟨_, rfl, a, _, _, _, rfl, rfl, SqT.of ha, rfl, rfl, _, rfl, iteN (by decide +kernel) ?_⟩
        refine ⟨_, rfl, a, _, _, _, rfl, rfl, SqT.of ha, rfl, rfl, _, rfl, iteN (by decide +kernel) ?_⟩
        refine ⟨_, rfl, a, _, _, u, rfl, rfl, SqT.of ha, rfl, _, rfl, u, N, x, ρ, rfl, t2, o1, En0, ?_⟩
        refine ⟨_, rfl, a, _, _, _, rfl, rfl, SqT.of ha, rfl, _, b, rfl, rfl, (by show (0 : Int) < b; omega), ?_⟩
        refine ⟨_, rfl, a, _, _, _, rfl, rfl, SqT.of ha, rfl, rfl, ?_⟩
        have e1 : decide (V.int (x.ev ρ % b) = V.int r) = decide ((x.ev ρ - r) % b = 0) := by
          rw [decide_eq_decide, ← mod_is o4 o5]
          simp
        rw [e1]
        exact q
      | less x y =>
        obtain ⟨a, p, u, r, rfl, ha, t1, t2, t3⟩ := tp3 t
        obtain rfl := tpS t1
        refine ⟨_, rfl, a, _, _, _, rfl, rfl, SqT.of ha, rfl, rfl, _, rfl, iteN (by decide +kernel) ?_⟩
        refine ⟨_, rfl, a, _, _, _, rfl, rfl, SqT.of ha, rfl, rfl, _, rfl, iteP (by decide +kernel) ?_⟩
        refine ⟨_, rfl, a, _, _, u, rfl, rfl, SqT.of ha, rfl, _, rfl, u, N, x, ρ, rfl, t2, ho.1, En0, ?_⟩
        refine ⟨_, rfl, a, _, _, r, rfl, rfl, SqT.of ha, rfl, _, rfl, r, N, y, ρ, rfl, t3, ho.2, En0, ?_⟩
        exact ⟨_, _, rfl, rfl, q⟩
      | not t' =>
        obtain ⟨a, p, u, rfl, ha, t1, t2⟩ := tp2 t
        obtain rfl := tpS t1
        refine ⟨_, rfl, a, _, _, _, rfl, rfl, SqT.of ha, rfl, rfl, _, rfl, iteP (by decide +kernel) ?_⟩
        refine ⟨_, rfl, a, _, _, u, rfl, rfl, SqT.of ha, rfl, _, rfl, u, N, t', ρ, rfl, t2, ho.1, ho.2, En0, ?_⟩
        exact ⟨_, rfl, q⟩
theorem ok_pnumbered {f fE : Addr} {fd fdE : FuncData} (F_pnumbered : Fun K "numbered" "numbered" sPNumbered f fd) (F_pplaces_in : Fun K "places_in" "places_in" sPPlacesIn fE fdE) (G_pplaces_in : FnOk P w K mg base CX0 6 fE fdE ["block"] spPlaces)
    (b_pplaces_in : Binds K fdE ["block"] []) (m_pplaces_in : mg "places_in" = some (.ref fE)) : FnOk P w K mg base CX0 7 f fd ["block", "place"] spNumbered := by
  refine F_pnumbered.ok scPNumbered (fun vs H Q E h => ?_) (fun cdv A outer s H vs Q E hr h => ?_)
  · obtain ⟨_, _, _, rfl, _⟩ := h
    rfl
  · obtain ⟨v, b, p, rfl, t, hz, q⟩ := h
    refine ⟨_, (pss_cons (ps_set (i := 2) scPNumbered.nd rfl (by first | exact Or.inl rfl | exact Or.inr rfl) (pe_lst pa_nil))
      (C8.pss_cut (ps_for PassesOwn.never rfl (pi_tup (pv 0)) (pg_name (i := 3) scPNumbered.nd rfl (by first | exact Or.inl rfl | exact Or.inr rfl)) (pss_cons (ps_expr (pe_bm PySem.F.plainAttrs_list PySem.F.slot_list_append PySem.F.type_list_append mt_append (pv 2) (pa_cons (pe_tup (pa_cons (pv 1) (pa_cons (pv 3) pa_nil))) pa_nil)))
      (pss_one (ps_aug (i := 1) scPNumbered.nd rfl (.inl rfl) (pe_call G_pplaces_in (hr.mono (by omega)) (by rfl) m_pplaces_in F_pplaces_in.kp b_pplaces_in .nil pass0 (pa_cons (pe_tup (pa_cons (pv 3) pa_nil)) pa_nil)) ip_add))))
      (pss_one (ps_ret (pv 2))))), ?_⟩
    obtain ⟨a, xs, rfl, ha, hx⟩ := t.tuple
    rw [b.ds_lst] at hx
    obtain ⟨hl, hg⟩ := hx.lst
    have bl := bk_le b
    refine ⟨by show 0 ≤ sizeLine; decide, fun L hL => ?_⟩
    refine ⟨fun σ H1 => ∃ o1 o3 ys, σ = [some (.ref a), o1, some (.ref L), o3] ∧ Sx [] H H1 ∧ H1 L = some (.lst ys) ∧ TpAll H1 ys ((b.nums p).map prD), ?_, ?_⟩
    · refine ⟨_, rfl, a, rfl, ⟨_, SqT.of (Sx.n0 hL _ _ (by simp) ha)⟩, for_tup (xs := xs)
        (fun i σ H1 => ∃ (b' : Bk) (p' : Int) (o3 : Option V) (ys : List V) (ds : List (Int × St)), σ = [some (.ref a), some (.int p'), some (.ref L), o3] ∧ Sx [] H H1 ∧ H1 L = some (.lst ys) ∧ TpAll H1 ys (ds.map prD) ∧ ds.length = i ∧ b'.lst = b.lst.drop i ∧ ds ++ b'.nums p' = b.nums p)
        ⟨b, p, _, [], [], rfl, Sx.n0 hL, upd_same, .nil, rfl, rfl, rfl⟩ (fun i σ H1 _ z => by obtain ⟨_, _, _, _, _, _, z, _⟩ := z; exact SqT.of (z _ _ (by simp) ha)) (fun i x σ H1 hi z => ?_) (fun σ H1 z => ?_)⟩
      · obtain ⟨b', p', o3, ys, ds, rfl, s1, hL1, hy, hd, hb, hn⟩ := z
        obtain ⟨st, hst, tst⟩ := hg i x hi
        obtain ⟨hlt, hge⟩ := List.getElem?_eq_some_iff.mp hst
        rw [List.drop_eq_getElem_cons hlt, hge] at hb
        cases b' with
        | nil => cases hb
        | cons s' b2 =>
          obtain ⟨e1, hb2⟩ := List.cons.inj hb
          subst e1
          refine gnm ?_
          have ylen := hy.len
          rw [List.length_map] at ylen
          have hmem : s' ∈ b.lst := List.mem_of_getElem? hst
          have szle : s'.sz ≤ b.sz := by rw [b.sz_lst]; exact sum_mem (List.mem_map_of_mem hmem)
          refine ⟨_, rfl, .inl ⟨rfl, _, SqL.of hL1⟩, _, rfl, _, rfl, by show 2 ≤ sizeLine; decide, fun u hu => ?_⟩
          have g1 : (upd H1 u (.tup [.int p', x])) L = some (.lst ys) := Sx.n0 hu _ _ (by simp) hL1
          refine ⟨L, _, _, rfl, rfl, g1, lt_line (by omega), ?_⟩
          have k1 : Tk H1 (upd (upd H1 u (.tup [.int p', x])) L (.lst (ys ++ [.ref u]))) := (Sx.n0 hu).tk0.trans (Tk.lst g1)
          have u1 : Tp (upd (upd H1 u (.tup [.int p', x])) L (.lst (ys ++ [.ref u]))) (.ref u) (prD (p', s')) := (tpPair upd_same ((tst.keep s1.tk0).new hu)).keep (Tk.lst g1)
          have x1 : Tp (upd (upd H1 u (.tup [.int p', x])) L (.lst (ys ++ [.ref u]))) x s'.d := (tst.keep s1.tk0).keep k1
          refine gh (H1 := upd (upd H1 u (.tup [.int p', x])) L (.lst (ys ++ [.ref u]))) (F := fun H2 => Sx [] H H2 ∧ H2 L = some (.lst (ys ++ [.ref u])) ∧ TpAll H2 (ys ++ [.ref u]) ((ds ++ [(p', s')]).map prD) ∧ Tp H2 x s'.d) ⟨(s1.new hu).own hL, upd_same, by rw [List.map_append]; exact (hy.keep k1).append (.cons u1 .nil), x1⟩ (fun H2 ⟨s2, hL2, hy2, x2⟩ => ?_)
          refine ⟨_, rfl, _, rfl, by show 1 ≤ sizeLine; decide, fun u5 h5 => ?_⟩
          refine ⟨.ref u5, .cons s' .nil, rfl, .tup upd_same (.cons (x2.new h5) .nil), by simp only [Bk.sz]; omega, fun H6 s6 => ?_⟩
          have s7 : Sx [] H2 H6 := (Sx.n0 h5).trans s6
          have e3 : ((Bk.cons s' .nil).sz : Int) = s'.sz := by simp [Bk.sz]
          refine ⟨_, _, rfl, rfl, b2, _, _, _, ds ++ [(p', s')], rfl, s2.trans s7, s7 _ _ (by simp) hL2, hy2.keep s7.tk0, by rw [List.length_append, hd]; rfl, hb2, ?_⟩
          rw [List.append_assoc, e3]
          exact hn
      · obtain ⟨b', p', o3, ys, ds, rfl, s1, hL1, hy, hd, hb, hn⟩ := z
        rw [hl, List.drop_length] at hb
        cases b' with
        | cons s b => cases hb
        | nil =>
          rw [show Bk.nil.nums p' = [] from rfl, List.append_nil] at hn
          exact ⟨_, _, ys, rfl, s1, hL1, by rw [← hn]; exact hy⟩
    · rintro _ H1 ⟨o1, o3, ys, rfl, s1, hL1, hy⟩
      exact ⟨_, rfl, q _ _ _ s1 hL hL1 hy⟩
theorem ok_pentered {f fN fE fT : Addr} {fd fdN fdE fdT : FuncData} {ns : List Str} (F_pentered : Fun K "entered" "entered" sPEntered f fd) (F_pnumbered : Fun K "numbered" "numbered" sPNumbered fN fdN) (F_pplaces_in : Fun K "places_in" "places_in" sPPlacesIn fE fdE) (F_pis_true : Fun K "is_true" "is_true" sPIsTrue fT fdT)
    (G_pnumbered : FnOk P w K mg base CX0 7 fN fdN ["block", "place"] spNumbered) (G_pplaces_in : FnOk P w K mg base CX0 6 fE fdE ["block"] spPlaces) (G_pis_true : FnOk P w K mg base CX0 8 fT fdT ["test", "names"] (spTrue ns 3))
    (b_pnumbered : Binds K fdN ["block", "place"] []) (b_pplaces_in : Binds K fdE ["block"] []) (b_pis_true : Binds K fdT ["test", "names"] [])
    (m_pnumbered : mg "numbered" = some (.ref fN)) (m_pplaces_in : mg "places_in" = some (.ref fE)) (m_pis_true : mg "is_true" = some (.ref fT)) : FnOk P w K mg base CX0 9 f fd ["statement", "place", "names"] (spEntered ns) := by
  refine F_pentered.ok scPEntered (fun vs H Q E h => ?_) (fun cdv A outer s H vs Q E hr h => ?_)
  · obtain ⟨_, _, _, _, _, _, rfl, _⟩ := h
    rfl
  · obtain ⟨v, st, p, N, ρ, d, rfl, t, so, hz, hw, En0, kind, q⟩ := h
    refine ⟨_, (pss_cons (ps_if (pt_cmpR op_eq (pe_ix ix_tup (pv 0) pe_int (fun _ _ => rfl)) pe_str (nomark _)) (pss_one (ps_ret (pe_op op_rep (pe_call G_pnumbered (hr.mono (by omega)) (by rfl) m_pnumbered F_pnumbered.kp b_pnumbered .nil pass0 (pa_cons (pe_ix ix_tup (pv 0) pe_int (fun _ _ => rfl)) (pa_cons (pe_op op_add (pv 1) pe_int) pa_nil))) (pe_ix ix_tup (pv 0) pe_int (fun _ _ => rfl))))) pss_nil)
      (pss_cons (ps_if (pt_val (pe_call G_pis_true (hr.mono (by omega)) (by rfl) m_pis_true F_pis_true.kp b_pis_true .nil pass0 (pa_cons (pe_ix ix_tup (pv 0) pe_int (fun _ _ => rfl)) (pa_cons (pv 2) pa_nil)))) (pss_one (ps_ret (pe_call G_pnumbered (hr.mono (by omega)) (by rfl) m_pnumbered F_pnumbered.kp b_pnumbered .nil pass0 (pa_cons (pe_ix ix_tup (pv 0) pe_int (fun _ _ => rfl)) (pa_cons (pe_op op_add (pv 1) pe_int) pa_nil))))) pss_nil)
      (pss_one (ps_ret (pe_call G_pnumbered (hr.mono (by omega)) (by rfl) m_pnumbered F_pnumbered.kp b_pnumbered .nil pass0 (pa_cons (pe_ix ix_tup (pv 0) pe_int (fun _ _ => rfl)) (pa_cons (pe_op op_add (pe_op op_add (pv 1) pe_int) (pe_call G_pplaces_in (hr.mono (by omega)) (by rfl) m_pplaces_in F_pplaces_in.kp b_pplaces_in .nil pass0 (pa_cons (pe_ix ix_tup (pv 0) pe_int (fun _ _ => rfl)) pa_nil))) pa_nil))))))), ?_⟩
    rcases kind with ⟨ts, y, n, rfl⟩ | ⟨k, y, rfl⟩
    · obtain ⟨a, p1, p2, p3, p4, rfl, ha, t1, t2, t3, t4⟩ := tp4 t
      obtain rfl := tpS t1
      obtain ⟨o1, yo, no⟩ := so
      simp only [St.sz] at hz
      refine ⟨_, rfl, a, _, _, _, rfl, rfl, SqT.of ha, rfl, rfl, _, rfl, iteN (by decide +kernel) ?_⟩
      refine ⟨_, rfl, a, _, _, p2, rfl, rfl, SqT.of ha, rfl, _, rfl, p2, N, ts, ρ, rfl, t2, by omega, o1, En0, ?_⟩
      refine ⟨_, rfl, ite2 (fun e => ?_) (fun e => ?_)⟩
      · refine ⟨_, rfl, a, _, _, p3, rfl, rfl, SqT.of ha, rfl, _, rfl, p, 1, rfl, rfl, p3, y, p + 1, rfl, t3, by omega, fun H' l ys s1 hl e1 hy => ?_⟩
        exact q H' l ys s1 hl e1 (by simp only [St.ent]; rw [if_pos e]; exact hy)
      · refine ⟨_, rfl, a, _, _, p4, rfl, rfl, SqT.of ha, rfl, _, rfl, p, 1, rfl, rfl, _, rfl, a, _, _, p3, rfl, rfl, SqT.of ha, rfl, p3, y, rfl, t3, by omega, fun H4 s4 => ?_⟩
        refine ⟨_, _, rfl, rfl, p4, n, _, rfl, t4.keep s4.tk0, by omega, fun H' l ys s1 hl e1 hy => ?_⟩
        exact q H' l ys (s4.trans s1) (s4.free (by simp) hl) e1 (by simp only [St.ent]; rw [if_neg e]; exact hy)
    · obtain ⟨a, p1, p2, p3, rfl, ha, t1, t2, t3⟩ := tp3 t
      obtain rfl := tpS t1
      obtain rfl := tpI t2
      obtain ⟨k1, k8, yo⟩ := so
      simp only [St.sz] at hz
      simp only [St.wt] at hw
      refine ⟨_, rfl, a, _, _, _, rfl, rfl, SqT.of ha, rfl, rfl, _, rfl, iteP (by decide +kernel) ?_⟩
      refine ⟨_, rfl, a, _, _, p3, rfl, rfl, SqT.of ha, rfl, _, rfl, p, 1, rfl, rfl, p3, y, _, rfl, t3, by omega, fun H1 l ys s1 hl e1 hy => ?_⟩
      have ylen := hy.len
      rw [List.length_map, nums_len] at ylen
      have yb : ys.length * k.toNat ≤ 1000000 := by
        have h1 := bk_le y
        have h2 := Bk.sz_wt yo
        have h3 := Nat.mul_le_mul_right k.toNat (show ys.length ≤ y.wt by omega)
        rw [Nat.mul_comm y.wt] at h3
        omega
      refine ⟨_, rfl, a, _, _, .int k, rfl, rfl, SqT.of (s1 _ _ (by simp) ha), rfl, l, k, _, rfl, rfl, e1, by omega, by omega, le_line (by omega), fun l2 hl2 => ?_⟩
      exact q _ l2 _ (s1.new hl2) (s1.free (by simp) hl2) upd_same (by simp only [St.ent]; rw [map_flat]; exact (hy.flat _).new hl2)
end
abbrev sPRun : Stmt := topS 37
abbrev nPRun : List Str := ["program", "number", "names", "total", "places", "waiting", "place", "statement"]
theorem scPRun : FnScope nPRun ["program", "number"] (defScope sPRun) := ⟨rfl, rfl, rfl, by decide +kernel, rfl, by decide +kernel, by decide +kernel⟩
abbrev sPSign : Stmt := topS 38
abbrev nPSign : List Str := ["program", "number", "total"]
theorem scPSign : FnScope nPSign ["program", "number"] (defScope sPSign) := ⟨rfl, rfl, rfl, by decide +kernel, rfl, by decide +kernel, by decide +kernel⟩
/-- what lies on a stack runs -/
def runS : List (Int × St) → Wd → Wd × Bool
  | [], w => (w, false)
  | (p, s) :: r, w => if (s.run p w).2 = true then s.run p w else runS r (s.run p w).1
theorem runS_append : ∀ (l m : List (Int × St)) (w : Wd), runS (l ++ m) w = if (runS l w).2 = true then runS l w else runS m (runS l w).1
  | [], m, w => by show runS m w = if (false = true) then _ else runS m w; rw [if_neg (by simp)]
  | (p, s) :: l, m, w => by
    show (if (s.run p w).2 = true then s.run p w else runS (l ++ m) (s.run p w).1) = if (runS ((p, s) :: l) w).2 = true then _ else _
    by_cases h : (s.run p w).2 = true
    · have e : runS ((p, s) :: l) w = s.run p w := by show (if _ then _ else _) = _; rw [if_pos h]
      rw [e, if_pos h, if_pos h]
    · have e : runS ((p, s) :: l) w = runS l (s.run p w).1 := by show (if _ then _ else _) = _; rw [if_neg h]
      rw [e, if_neg h, runS_append l m]
theorem runS_nums : ∀ (b : Bk) (p : Int) (w : Wd), runS (b.nums p) w = b.run p w
  | .nil, _, _ => rfl
  | .cons s b, p, w => by
    show (if (s.run p w).2 = true then s.run p w else runS (b.nums (p + s.sz)) (s.run p w).1) = if (s.run p w).2 = true then s.run p w else b.run (p + s.sz) (s.run p w).1
    rw [runS_nums b]
theorem runS_rep (l : List (Int × St)) : ∀ (n : Nat) (w : Wd), runS (List.replicate n l).flatten w = itr (runS l) n w
  | 0, _ => rfl
  | n + 1, w => by
    rw [List.replicate_succ, List.flatten_cons, runS_append, runS_rep l n]
    rfl
/-- a test or a repeat is entered -/
theorem runS_ent {s : St} {p : Int} {w : Wd} (h : (∃ t y n, s = .ite t y n) ∨ ∃ k y, s = .rep k y) : runS (s.ent w.en p) ⟨w.en, w.tot, w.pl ++ [p]⟩ = s.run p w := by
  rcases h with ⟨t, y, n, rfl⟩ | ⟨k, y, rfl⟩
  · simp only [St.ent, St.run]
    split
    · rw [runS_nums]
    · rw [runS_nums]
  · simp only [St.ent, St.run]
    rw [runS_rep]
    congr 1
    funext w
    exact runS_nums y _ w
def stkWt (l : List (Int × St)) : Nat := (l.map fun x => x.2.wt).sum
theorem stkWt_cons (x : Int × St) (l : List (Int × St)) : stkWt (x :: l) = x.2.wt + stkWt l := rfl
theorem stkWt_append (l m : List (Int × St)) : stkWt (l ++ m) = stkWt l + stkWt m := by unfold stkWt; rw [List.map_append, List.sum_append]
theorem stkWt_nums : ∀ (b : Bk) (p : Int), stkWt (b.nums p) = b.wt
  | .nil, _ => rfl
  | .cons s b, p => by
    show stkWt ((p, s) :: b.nums (p + s.sz)) = s.wt + b.wt
    rw [stkWt_cons, stkWt_nums b]
theorem stkWt_rep (l : List (Int × St)) : ∀ n : Nat, stkWt (List.replicate n l).flatten = n * stkWt l
  | 0 => by rw [Nat.zero_mul]; rfl
  | n + 1 => by rw [List.replicate_succ, List.flatten_cons, stkWt_append, stkWt_rep l n, Nat.succ_mul, Nat.add_comm]
theorem St.wt_pos (s : St) : 1 ≤ s.wt := by cases s <;> simp [St.wt] <;> omega
theorem ent_wt {s : St} {p : Int} {ρ : Str → Int} : stkWt (s.ent ρ p) + 1 ≤ s.wt := by
  cases s with
  | ite t y n =>
    simp only [St.ent, St.wt]
    split
    · rw [stkWt_nums]; omega
    · rw [stkWt_nums]; omega
  | rep k y =>
    simp only [St.ent, St.wt]
    rw [stkWt_rep, stkWt_nums]
    omega
  | _ => simp [St.ent, St.wt, stkWt]
theorem wt_le : ∀ l : List (Int × St), l.length ≤ stkWt l
  | [] => Nat.le_refl _
  | x :: l => by
    rw [List.length_cons, stkWt_cons]
    have := wt_le l
    have := x.2.wt_pos
    omega
/-- all that lies there is a statement within bounds -/
def StkOk (ns : List Str) (l : List (Int × St)) : Prop := ∀ x ∈ l, (∃ d, x.2.ok ns d) ∧ x.2.sz < 16777216
theorem StkOk.nums {ns : List Str} {d : Nat} : ∀ {b : Bk} {p : Int}, b.ok ns d → b.sz < 16777216 → StkOk ns (b.nums p)
  | .nil, _, _, _ => fun x hx => by cases hx
  | .cons s b, p, ⟨h1, h2, h3⟩, hz => fun x hx => by
    simp only [Bk.sz] at hz
    rcases List.mem_cons.1 hx with rfl | hx
    · exact ⟨⟨_, h2⟩, by show s.sz < 16777216; omega⟩
    · exact StkOk.nums h3 (by omega) x hx
theorem StkOk.ent {ns : List Str} {s : St} {d : Nat} {p : Int} {ρ : Str → Int} (h : s.ok ns d) (hz : s.sz < 16777216) : StkOk ns (s.ent ρ p) := by
  cases s with
  | ite t y n =>
    simp only [St.sz] at hz
    simp only [St.ent]
    split
    · exact StkOk.nums h.2.1 (by omega)
    · exact StkOk.nums h.2.2 (by omega)
  | rep k y =>
    simp only [St.sz] at hz
    intro x hx
    simp only [St.ent] at hx
    obtain ⟨l, hl, hx⟩ := List.mem_flatten.1 hx
    obtain ⟨_, rfl⟩ := List.mem_replicate.mp hl
    exact StkOk.nums h.2.2 (by omega) x hx
  | _ => intro x hx; cases hx
/-- names at N, places at L; c more names fit in -/
structure Rn (H : Hp) (N L : Addr) (w : Wd) (c : Nat) : Prop where
  hn : ∃ kvs : List (Key × V), H N = some (.dK kvs) ∧ kvs.length + c ≤ w.pl.length + 1 ∧ ∀ z, (valV kvs (.inr z)).getD (.int 0) = .int (w.en z)
  hl : H L = some (.lst (w.pl.map V.int))
theorem Rn.sx {H H' : Hp} {N L : Addr} {w : Wd} {c : Nat} (R : Rn H N L w c) (s : Sx [] H H') : Rn H' N L w c := by
  obtain ⟨kvs, h1, h2, h3⟩ := R.hn
  exact ⟨⟨kvs, s _ _ (by simp) h1, h2, h3⟩, s _ _ (by simp) R.hl⟩
theorem Rn.at_ {H : Hp} {N L Z : Addr} {w : Wd} {c : Nat} {xs : List V} {o : HO} (R : Rn H N L w c) (_ : H Z = some (.lst xs)) (h2 : Z ≠ L) (h3 : Z ≠ N) : Rn (upd H Z o) N L w c := by
  obtain ⟨kvs, h1, h4, h5⟩ := R.hn
  exact ⟨⟨kvs, by rw [upd_ne h3.symm]; exact h1, h4, h5⟩, by rw [upd_ne h2.symm]; exact R.hl⟩
theorem Rn.en {H : Hp} {N L : Addr} {w : Wd} {c : Nat} (R : Rn H N L w c) : En H N w.en := by
  obtain ⟨kvs, h1, _, h2⟩ := R.hn
  exact ⟨kvs, h1, h2⟩
theorem Rn.less {H : Hp} {N L : Addr} {w : Wd} {c : Nat} (R : Rn H N L w (c + 1)) : Rn H N L w c := by
  obtain ⟨kvs, h1, h2, h3⟩ := R.hn
  exact ⟨⟨kvs, h1, by omega, h3⟩, R.hl⟩
theorem Rn.nl {H : Hp} {N L : Addr} {w : Wd} {c : Nat} (R : Rn H N L w c) : N ≠ L := fun e => by
  obtain ⟨kvs, h, _⟩ := R.hn
  rw [e, R.hl] at h
  cases h
theorem Rn.place {H : Hp} {N L : Addr} {w : Wd} (R : Rn H N L w 0) (i : Int) : Rn (upd H L (.lst (w.pl.map V.int ++ [.int i]))) N L ⟨w.en, w.tot, w.pl ++ [i]⟩ 1 := by
  obtain ⟨kvs, h1, h2, h3⟩ := R.hn
  refine ⟨⟨kvs, by rw [upd_ne R.nl]; exact h1, ?_, h3⟩, by rw [upd_same, List.map_append]; rfl⟩
  show kvs.length + 1 ≤ (w.pl ++ [i]).length + 1
  rw [List.length_append]
  have : [i].length = 1 := rfl
  omega
theorem Rn.tot {H : Hp} {N L : Addr} {w : Wd} {c : Nat} (R : Rn H N L w c) (t : Int) : Rn H N L ⟨w.en, t, w.pl⟩ c := ⟨R.hn, R.hl⟩
theorem Rn.set {H : Hp} {N L : Addr} {w : Wd} {kvs : List (Key × V)} (R : Rn H N L w 1) (h : H N = some (.dK kvs)) (z : Str) (v : Int) : kvs.length < w.pl.length + 1 ∧ Rn (upd H N (.dK (putK kvs (.inr z) (.int v)))) N L ⟨fun y => if y = z then v else w.en y, w.tot, w.pl⟩ 0 := by
  obtain ⟨kvs', h1, h2, h3⟩ := R.hn
  rw [h1] at h
  cases h
  refine ⟨by omega, ⟨_, upd_same, ?_, fun y => ?_⟩, by rw [upd_ne R.nl.symm]; exact R.hl⟩
  · have : (putK kvs (.inr z) (.int v)).length ≤ kvs.length + 1 := by
      unfold putK
      split
      · rw [List.length_map]; omega
      · rw [List.length_append]; exact Nat.le_refl _
    show (putK kvs (.inr z) (.int v)).length + 0 ≤ w.pl.length + 1
    omega
  · rw [valV_put]
    by_cases e : y = z
    · rw [if_pos (by rw [e]), e]
      show V.int v = V.int (if z = z then v else w.en z)
      rw [if_pos rfl]
    · rw [if_neg (fun q => e (Sum.inr.inj q)), h3 y]
      show V.int (w.en y) = V.int (if y = z then v else w.en y)
      rw [if_neg e]
theorem Stk.ext {H : Hp} {L : Addr} {ws es : List (Int × St)} {ys : List V} (h : Stk H L ws) (t : TpAll H ys (es.map prD)) : ∃ acc, H L = some (.lst acc) ∧ acc.length = ws.length ∧ Stk (upd H L (.lst (acc ++ ys.reverse))) L (es ++ ws) := by
  obtain ⟨vals, h1, h2⟩ := h
  have e := h2.len
  rw [List.length_map] at e
  refine ⟨_, h1, by rw [List.length_reverse, e], ys ++ vals, by rw [upd_same, List.reverse_append], ?_⟩
  rw [List.map_append]
  exact (t.keep (Tk.lst h1)).append (h2.keep (Tk.lst h1))
theorem Stk.dk {H : Hp} {L N : Addr} {ws : List (Int × St)} {kvs : List (Key × V)} {o : HO} (h : Stk H L ws) (hn : H N = some (.dK kvs)) : Stk (upd H N o) L ws := by
  obtain ⟨vals, h1, h2⟩ := h
  have k : Tk H (upd H N o) := fun b xs e => by
    rw [upd_ne (fun z => by rw [z, hn] at e; cases e)]
    exact e
  exact ⟨vals, by rw [upd_ne (fun z => by rw [z, hn] at h1; cases h1)]; exact h1, h2.keep k⟩
theorem Stk.ls {H : Hp} {L Z : Addr} {ws : List (Int × St)} {xs : List V} {o : HO} (h : Stk H L ws) (hz : H Z = some (.lst xs)) (n : L ≠ Z) : Stk (upd H Z o) L ws := by
  obtain ⟨vals, h1, h2⟩ := h
  exact ⟨vals, by rw [upd_ne n]; exact h1, h2.keep (Tk.lst hz)⟩
theorem hd_is : ¬ (decide (V.str "if" = V.str "set") = true) := by decide +kernel
theorem hd_ip : ¬ (decide (V.str "if" = V.str "pay") = true) := by decide +kernel
theorem hd_rs : ¬ (decide (V.str "repeat" = V.str "set") = true) := by decide +kernel
theorem hd_rp : ¬ (decide (V.str "repeat" = V.str "pay") = true) := by decide +kernel
theorem St.hd_kd {st : St} (kd : (∃ t y' n', st = .ite t y' n') ∨ ∃ k y', st = .rep k y') : ¬ (decide (V.str st.hd = V.str "set") = true) ∧ ¬ (decide (V.str st.hd = V.str "pay") = true) := by
  rcases kd with ⟨_, _, _, rfl⟩ | ⟨_, _, rfl⟩
  · exact ⟨hd_is, hd_ip⟩
  · exact ⟨hd_rs, hd_rp⟩
section
variable {w : World} {P : Program} {K : PySem.W.Frag} {mg : Str → Option Value} {base : Heap}
theorem ok_prun {f fN fV fE : Addr} {fd fdN fdV fdE : FuncData} {ns : List Str} (F_prun : Fun K "run" "run" sPRun f fd) (F_pnumbered : Fun K "numbered" "numbered" sPNumbered fN fdN) (F_pvalue_of : Fun K "value_of" "value_of" sPValueOf fV fdV) (F_pentered : Fun K "entered" "entered" sPEntered fE fdE)
    (G_pnumbered : FnOk P w K mg base CX0 7 fN fdN ["block", "place"] spNumbered) (G_pvalue_of : FnOk P w K mg base CX0 5 fV fdV ["expression", "names"] (spValue ns 3)) (G_pentered : FnOk P w K mg base CX0 9 fE fdE ["statement", "place", "names"] (spEntered ns))
    (b_pnumbered : Binds K fdN ["block", "place"] []) (b_pvalue_of : Binds K fdV ["expression", "names"] []) (b_pentered : Binds K fdE ["statement", "place", "names"] [])
    (m_pnumbered : mg "numbered" = some (.ref fN)) (m_pvalue_of : mg "value_of" = some (.ref fV)) (m_pentered : mg "entered" = some (.ref fE)) (z_tuple : mg "tuple" = none) : FnOk P w K mg base CX0 10 f fd ["program", "number"] (spRun ns) := by
  refine F_prun.ok scPRun (fun vs H Q E h => ?_) (fun cdv A outer s H vs Q E hr h => ?_)
  · obtain ⟨_, _, _, rfl, _⟩ := h
    rfl
  · obtain ⟨v, b, x, rfl, t, ho, hz, hw, q⟩ := h
    refine ⟨_, (pss_cons (ps_set (i := 2) scPRun.nd rfl (by first | exact Or.inl rfl | exact Or.inr rfl) (pe_disp (pps_cons pe_str (pv 1) pps_nil) (by rfl) (by rfl) (fun z => by cases z) (by decide)))
      (pss_cons (ps_set (i := 3) scPRun.nd rfl (by first | exact Or.inl rfl | exact Or.inr rfl) pe_int)
      (pss_cons (ps_set (i := 4) scPRun.nd rfl (by first | exact Or.inl rfl | exact Or.inr rfl) (pe_lst pa_nil))
      (pss_cons (ps_set (i := 5) scPRun.nd rfl (by first | exact Or.inl rfl | exact Or.inr rfl) (pe_revL (pe_call G_pnumbered (hr.mono (by omega)) (by rfl) m_pnumbered F_pnumbered.kp b_pnumbered .nil pass0 (pa_cons (pv 0) (pa_cons pe_int pa_nil)))))
      (C8.pss_cut (ps_while PassesOwn.never (pt_truth (pv 5) (fun _ => rfl)) (pss_cons (ps_asg (pe_bm0 PySem.F.plainAttrs_list PySem.F.slot_list_pop PySem.F.type_list_pop mt_pop (pv 5)) (pg_tup rfl (pgs_cons (pg_name (i := 6) scPRun.nd rfl (by first | exact Or.inl rfl | exact Or.inr rfl)) (pgs_cons (pg_name (i := 7) scPRun.nd rfl (by first | exact Or.inl rfl | exact Or.inr rfl)) pgs_nil))))
      (pss_cons (ps_expr (pe_bm PySem.F.plainAttrs_list PySem.F.slot_list_append PySem.F.type_list_append mt_append (pv 4) (pa_cons (pv 6) pa_nil)))
      (pss_cons (ps_if (pt_cmpR op_eq (pe_ix ix_tup (pv 7) pe_int (fun _ _ => rfl)) pe_str (nomark _)) (pss_one ps_break) pss_nil)
      (pss_one (ps_if (pt_cmpR op_eq (pe_ix ix_tup (pv 7) pe_int (fun _ _ => rfl)) pe_str (nomark _)) (pss_one (ps_dput (hu_of hr) (pv 2) (pe_ix ix_tup (pv 7) pe_int (fun _ _ => rfl)) (pe_call G_pvalue_of (hr.mono (by omega)) (by rfl) m_pvalue_of F_pvalue_of.kp b_pvalue_of .nil pass0 (pa_cons (pe_ix ix_tup (pv 7) pe_int (fun _ _ => rfl)) (pa_cons (pv 2) pa_nil))) rfl)) (pss_one (ps_if (pt_cmpR op_eq (pe_ix ix_tup (pv 7) pe_int (fun _ _ => rfl)) pe_str (nomark _)) (pss_one (ps_aug (i := 3) scPRun.nd rfl (.inl rfl) (pe_call G_pvalue_of (hr.mono (by omega)) (by rfl) m_pvalue_of F_pvalue_of.kp b_pvalue_of .nil pass0 (pa_cons (pe_ix ix_tup (pv 7) pe_int (fun _ _ => rfl)) (pa_cons (pv 2) pa_nil))) ip_add)) (pss_one (ps_expr (pe_bm PySem.F.plainAttrs_list PySem.F.slot_list_extend PySem.F.type_list_extend mt_extend (pv 5) (pa_cons (pe_revL (pe_call G_pentered (hr.mono (by omega)) (by rfl) m_pentered F_pentered.kp b_pentered .nil pass0 (pa_cons (pv 7) (pa_cons (pv 6) (pa_cons (pv 2) pa_nil))))) pa_nil))))))))))))
      (pss_one (ps_ret (pe_tup (pa_cons (pv 3) (pa_cons (pe_callTy call_tuple_of (by rfl) z_tuple boot_tuple (pa_cons (pv 4) pa_nil)) pa_nil)))))))))), ?_⟩
    refine fun N hN => ⟨_, rfl, upd_same, [(.inr "n", .int x)], rfl, by show 1 ≤ 15; decide, ?_⟩
    refine ⟨by show 0 ≤ sizeLine; decide, fun L hL => ?_⟩
    have en : mergeK [] [((.inr "n" : Key), V.int x)] = [(.inr "n", .int x)] := by
      show putK [] (.inr "n" : Key) (V.int x) = _
      rw [putK_new (fun kv h => by cases h)]
      rfl
    rw [en]
    have hLN : L ≠ N := Dk.none_ne (upd_same : upd (upd H N (.dK [])) N (.dK (mergeK [] [((.inr "n" : Key), V.int x)])) N = _) hL
    have hHL : H L = none := by
      rw [upd_ne hLN, upd_ne hLN] at hL
      exact hL
    refine gh (F := fun H1 => Sx [] H H1 ∧ Rn H1 N L (Wd.at x) 0) ⟨?_, ⟨[(.inr "n", .int x)], ?_, by show 1 ≤ 0 + 1; decide, fun z => ?_⟩, ?_⟩ (fun H1 ⟨s1, R1⟩ => ?_)
    · exact ((Sx.n0 hN).own hN).own hHL
    · rw [upd_ne hLN.symm, upd_same]
    · show (valV [((.inr "n" : Key), V.int x)] (.inr z)).getD (.int 0) = .int (if z = "n" then x else 0)
      by_cases h : z = "n"
      · rw [if_pos h, h]
        unfold valV
        rw [List.find?_cons_of_pos (by simp)]
        rfl
      · rw [if_neg h]
        unfold valV
        rw [List.find?_cons_of_neg (by simp only [decide_eq_true_eq]; exact fun e => h (Sum.inr.inj e).symm)]
        rfl
    · rw [upd_same]
      rfl
    refine ⟨_, rfl, v, b, 0, rfl, t.keep s1.tk0, hz, fun H2 l ys s2 hl e2 hy => ⟨l, ys, rfl, SqL.of e2, fun Z hZ => ?_⟩⟩
    have hHZ : H Z = none := (s1.trans s2).free (by simp) hZ
    have nZL : Z ≠ L := Dk.none_ne ((R1.sx s2).hl) hZ
    have nZN : Z ≠ N := by
      obtain ⟨kvs, h, _⟩ := (R1.sx s2).hn
      exact Dk.none_ne h hZ
    refine ⟨fun σ H' => ∃ (w' : Wd) (o6 o7 : Option V), σ = [some v, some (.int x), some (.ref N), some (.int w'.tot), some (.ref L), some (.ref Z), o6, o7] ∧ Sx [] H H' ∧ H' L = some (.lst (w'.pl.map V.int)) ∧ (b.run 0 (Wd.at x)).1 = w', ?_, ?_⟩
    · refine ⟨fun m σ H' => ∃ (w' : Wd) (ws : List (Int × St)) (o6 o7 : Option V), σ = [some v, some (.int x), some (.ref N), some (.int w'.tot), some (.ref L), some (.ref Z), o6, o7] ∧ Sx [] H H' ∧ Rn H' N L w' 0 ∧ Stk H' Z ws ∧ StkOk ns ws ∧ runS ws w' = b.run 0 (Wd.at x) ∧ w'.pl.length + stkWt ws ≤ 1000000 ∧ m = stkWt ws,
        ⟨_, Wd.at x, b.nums 0, _, _, rfl, (s1.trans s2).new hZ, (R1.sx s2).sx (Sx.n0 hZ), ⟨ys, upd_same, hy.new hZ⟩, StkOk.nums ho hz, runS_nums b 0 _, by rw [stkWt_nums]; show 0 + b.wt ≤ 1000000; omega, rfl⟩, ?_⟩
      rintro m σ H3 ⟨w', ws, o6, o7, rfl, s3, R3, hs, so, hrun, hm, rfl⟩
      cases ws with
      | nil =>
        refine ⟨_, rfl, false, .inl ⟨_, SqL.of hs.nil_, rfl⟩, iteF ?_⟩
        exact ⟨w', _, _, rfl, s3, R3.hl, by rw [← hrun]; rfl⟩
      | cons y ws =>
        obtain ⟨p, st⟩ := y
        obtain ⟨acc, c, xv, e1, e2, e3, e4, e5, e6⟩ := hs.pop
        obtain ⟨⟨d, sto⟩, stz⟩ := so _ (List.mem_cons_self)
        have sto : st.ok ns d := sto
        have stz : st.sz < 16777216 := stz
        have so' : StkOk ns ws := fun y hy => so y (List.mem_cons_of_mem _ hy)
        rw [stkWt_cons] at hm
        have stp := st.wt_pos
        have wle := wt_le ws
        have hm : w'.pl.length + (st.wt + stkWt ws) ≤ 1000000 := hm
        refine ⟨_, rfl, true, .inl ⟨_, SqL.of e1, ?_⟩, iteT ⟨fun σ' H4 => ∃ m', m' < stkWt ((p, st) :: ws) ∧ ∃ (w' : Wd) (ws : List (Int × St)) (o6 o7 : Option V), σ' = [some v, some (.int x), some (.ref N), some (.int w'.tot), some (.ref L), some (.ref Z), o6, o7] ∧ Sx [] H H4 ∧ Rn H4 N L w' 0 ∧ Stk H4 Z ws ∧ StkOk ns ws ∧ runS ws w' = b.run 0 (Wd.at x) ∧ w'.pl.length + stkWt ws ≤ 1000000 ∧ m' = stkWt ws, fun _ _ z => z, ?_⟩⟩
        · cases acc with
          | nil => simp at e6
          | cons _ _ => rfl
        refine ⟨_, rfl, .inl ⟨rfl, _, SqL.of e1⟩, Z, _, _, rfl, rfl, e1, e2, ?_⟩
        have k1 : Tk H3 (upd H3 Z (.lst acc.dropLast)) := Tk.lst e1
        refine gh (H1 := upd H3 Z (.lst acc.dropLast)) (F := fun H4 => Sx [] H H4 ∧ Tk H3 H4 ∧ Stk H4 Z ws ∧ Rn H4 N L w' 0) ⟨s3.own hHZ, k1, e5, R3.at_ e1 nZL nZN⟩ (fun H4 ⟨s4, k4, hs4, R4⟩ => ?_)
        refine ⟨c, _, rfl, SqT.of (k4 _ _ e3), rfl, _, _, rfl, gnm ⟨_, _, rfl, gnm ⟨rfl, ?_⟩⟩⟩
        -- its place is told
        refine ⟨_, rfl, .inl ⟨rfl, _, SqL.of R4.hl⟩, _, rfl, L, _, _, rfl, rfl, R4.hl, lt_line (by rw [List.length_map]; omega), ?_⟩
        have R5 := R4.place p
        have ts4 : Tp H4 xv st.d := e4.keep k4
        have hm2 : (w'.pl ++ [p]).length = w'.pl.length + 1 := by rw [List.length_append]; rfl
        refine gh (H1 := upd H4 L (.lst (w'.pl.map V.int ++ [.int p]))) (F := fun H5 => Sx [] H H5 ∧ Tp H5 xv st.d ∧ Stk H5 Z ws ∧ Rn H5 N L ⟨w'.en, w'.tot, w'.pl ++ [p]⟩ 1) ⟨s4.own hHL, ts4.keep (Tk.lst R4.hl), hs4.ls R4.hl nZL, R5⟩ (fun H5 ⟨s5, ts5, hs5, R5⟩ => ?_)
        obtain ⟨ax, xs', rfl, hax⟩ := St.at_ ts5
        refine ⟨_, rfl, ax, _, _, .str st.hd, rfl, rfl, SqT.of hax, at0 _ _, rfl, _, rfl, ite2 (fun e => ?_) (fun e => ?_)⟩
        · cases st with
          | stop =>
            refine ⟨⟨w'.en, w'.tot, w'.pl ++ [p]⟩, _, _, rfl, s5, R5.hl, ?_⟩
            rw [← hrun]
            rfl
          | _ => exact absurd (V.str.inj (of_decide_eq_true e)) (by simp only [St.hd]; decide +kernel)
        · have nstop : st ≠ .stop := fun z => by rw [z] at e; exact e (by decide +kernel)
          by_cases kd : (∃ t y' n', st = .ite t y' n') ∨ ∃ k y', st = .rep k y'
          · have h1 := (St.hd_kd kd).1
            have h2 := (St.hd_kd kd).2
            obtain ⟨vals5, hZ5, _⟩ := id hs5
            refine ⟨_, rfl, ax, _, _, .str st.hd, rfl, rfl, SqT.of hax, at0 _ _, rfl, _, rfl, iteN h1 ⟨_, rfl, ax, _, _, .str st.hd, rfl, rfl, SqT.of hax, at0 _ _, rfl, _, rfl, iteN h2 ?_⟩⟩
            refine ⟨_, rfl, .inl ⟨rfl, _, SqL.of hZ5⟩, _, rfl, _, rfl, _, rfl, .ref ax, st, p, N, w'.en, d, rfl, ts5, sto, stz, by omega, R5.en, kd, fun H6 l ys s6 hl e6 hy => ⟨l, ys, rfl, SqL.of e6, fun l2 hl2 => ?_⟩⟩
            obtain ⟨acc6, g1, g2, g3⟩ := ((hs5.keep s6).keep (Sx.n0 (o := .lst ys.reverse) hl2)).ext (es := st.ent w'.en p) (hy.new hl2)
            have ylen := hy.len
            rw [List.length_map] at ylen
            have ew : stkWt (st.ent w'.en p) + 1 ≤ st.wt := ent_wt
            have el := wt_le (st.ent w'.en p)
            refine ⟨Z, l2, acc6, ys.reverse, rfl, rfl, g1, upd_same, le_line (by rw [g2, List.length_reverse]; omega), ?_⟩
            refine ⟨_, ?_, ⟨w'.en, w'.tot, w'.pl ++ [p]⟩, st.ent w'.en p ++ ws, _, _, rfl, ((s5.trans s6).new hl2).own hHZ, (((R5.sx s6).sx (Sx.n0 hl2)).at_ g1 nZL nZN).less, g3, ?_, ?_, ?_, rfl⟩
            · rw [stkWt_append, stkWt_cons]
              show stkWt (st.ent w'.en p) + stkWt ws < st.wt + stkWt ws
              omega
            · intro y hy
              rcases List.mem_append.1 hy with hy | hy
              · exact StkOk.ent sto stz y hy
              · exact so' y hy
            · rw [← hrun, runS_append, runS_ent kd]
              rfl
            · rw [stkWt_append]
              simp only [hm2]
              omega
          · cases st with
            | stop => exact absurd rfl nstop
            | set z ex =>
              obtain ⟨a', p1, p2, p3, ea, hA, t1, t2, t3⟩ := tp3 ts5
              cases ea
              obtain rfl := tpS t1
              obtain rfl := tpS t2
              obtain ⟨kvs, hNk, _, hv⟩ := R5.hn
              refine ⟨_, rfl, ax, _, _, _, rfl, rfl, SqT.of hA, rfl, rfl, _, rfl, iteP (by decide +kernel) ?_⟩
              have R6 := R5.set hNk z (ex.ev w'.en)
              refine ⟨_, rfl, ax, _, _, p3, rfl, rfl, SqT.of hA, rfl, _, rfl, p3, N, ex, w'.en, rfl, t3, sto.2, R5.en, ?_⟩
              refine ⟨_, rfl, _, rfl, ax, _, _, .str z, rfl, rfl, SqT.of hA, rfl, N, _, rfl, DPut.k (k := .inr z) hNk (lt_line (by have := R6.1; simp only [List.length_append, List.length_cons, List.length_nil] at this; omega)), ?_⟩
              refine ⟨_, ?_, ⟨fun y => if y = z then ex.ev w'.en else w'.en y, w'.tot, w'.pl ++ [p]⟩, ws, _, _, rfl, s5.own hN, R6.2, hs5.dk hNk, so', ?_, ?_, rfl⟩
              · rw [stkWt_cons]
                show stkWt ws < 1 + stkWt ws
                omega
              · rw [← hrun]
                rfl
              · simp only [hm2]
                have : (St.set z ex).wt = 1 := rfl
                omega
            | pay ex =>
              obtain ⟨a', p1, p2, ea, hA, t1, t2⟩ := tp2 ts5
              cases ea
              obtain rfl := tpS t1
              refine ⟨_, rfl, ax, _, _, _, rfl, rfl, SqT.of hA, rfl, rfl, _, rfl, iteN (by decide +kernel) ⟨_, rfl, ax, _, _, _, rfl, rfl, SqT.of hA, rfl, rfl, _, rfl, iteP (by decide +kernel) ?_⟩⟩
              refine ⟨_, rfl, _, rfl, ax, _, _, p2, rfl, rfl, SqT.of hA, rfl, _, rfl, p2, N, ex, w'.en, rfl, t2, sto, R5.en, ?_⟩
              refine ⟨_, _, rfl, rfl, ?_⟩
              refine ⟨_, ?_, ⟨w'.en, w'.tot + ex.ev w'.en, w'.pl ++ [p]⟩, ws, _, _, rfl, s5, (R5.tot _).less, hs5, so', ?_, ?_, rfl⟩
              · rw [stkWt_cons]
                show stkWt ws < 1 + stkWt ws
                omega
              · rw [← hrun]
                rfl
              · simp only [hm2]
                have : (St.pay ex).wt = 1 := rfl
                omega
            | ite ts y n => exact absurd (.inl ⟨_, _, _, rfl⟩) kd
            | rep k y => exact absurd (.inr ⟨_, _, rfl⟩) kd
    · rintro _ H3 ⟨w', o6, o7, rfl, s3, hL3, rfl⟩
      refine ⟨_, rfl, _, rfl, L, _, rfl, .inl ⟨SqL.of hL3, fun l hl => ?_⟩⟩
      refine ⟨by show 2 ≤ sizeLine; decide, fun u hu => ?_⟩
      exact q _ _ ((s3.new hl).new hu) (.tup upd_same (.cons (.int _) (.cons (.tup (by rw [upd_ne (ne_of_none upd_same hu)]; exact upd_same) (TpAll.ints _)) .nil)))
theorem FnOk.up {CX : CXT} {j k : Nat} {f : Addr} {fd : FuncData} {ps : List Str} {sp : Sp} (F : FnOk P w K mg base CX j f fd ps sp) (h : j ≤ k) : FnOk P w K mg base CX k f fd ps sp :=
  ⟨F.len, fun A o s H ar us vs Q E hr => F.run A o s H ar us vs Q E (hr.mono h)⟩
theorem ok_psign {f fR : Addr} {fd fdR : FuncData} (F_psign : Fun K "sign" "sign" sPSign f fd) (F_prun : Fun K "run" "run" sPRun fR fdR) (G_prun : FnOk P w K mg base CX0 10 fR fdR ["program", "number"] spRunA)
    (b_prun : Binds K fdR ["program", "number"] []) (m_prun : mg "run" = some (.ref fR)) (z_int : mg "int" = none) : FnOk P w K mg base CX0 11 f fd ["program", "number"] spSignA := by
  refine F_psign.ok scPSign (fun vs H Q E h => ?_) (fun cdv A outer s H vs Q E hr h => ?_)
  · obtain ⟨_, _, _, _, rfl, _⟩ := h
    rfl
  · obtain ⟨ns, v, b, x, rfl, t, ho, hz, hw, q⟩ := h
    refine ⟨_, (pss_cons (ps_set (i := 2) scPSign.nd rfl (by first | exact Or.inl rfl | exact Or.inr rfl) (pe_ix ix_tup (pe_call G_prun (hr.mono (by omega)) (by rfl) m_prun F_prun.kp b_prun .nil pass0 (pa_cons (pv 0) (pa_cons (pv 1) pa_nil))) pe_int (fun _ _ => rfl)))
      (pss_one (ps_ret (pe_op op_sub (pe_callTy call_int1 (by rfl) z_int boot_int (pa_cons (pe_cmpR op_gt (pv 2) pe_int (nomark _)) pa_nil)) (pe_callTy call_int1 (by rfl) z_int boot_int (pa_cons (pe_cmpR op_lt (pv 2) pe_int (nomark _)) pa_nil)))))), ?_⟩
    refine ⟨_, rfl, _, rfl, ns, v, b, x, rfl, t, ho, hz, hw, fun H1 r s1 tr => ?_⟩
    obtain ⟨a, p1, p2, rfl, ha, t1, t2⟩ := tp2 tr
    obtain rfl := tpI t1
    refine ⟨a, _, _, _, rfl, rfl, SqT.of ha, rfl, ?_⟩
    have q' := q H1 s1
    refine ⟨_, rfl, _, 0, rfl, rfl, .inr ⟨_, rfl, ?_⟩⟩
    refine ⟨_, rfl, _, 0, rfl, rfl, .inr ⟨_, rfl, ?_⟩⟩
    refine ⟨_, _, rfl, rfl, ?_⟩
    unfold sgn at q'
    by_cases h1 : (b.run 0 (Wd.at x)).1.tot < 0
    · rw [if_pos h1] at q'
      rw [show decide ((b.run 0 (Wd.at x)).1.tot > 0) = false from decide_eq_false (by omega), show decide ((b.run 0 (Wd.at x)).1.tot < 0) = true from decide_eq_true h1]
      exact q'
    · rw [if_neg h1] at q'
      by_cases h2 : 0 < (b.run 0 (Wd.at x)).1.tot
      · rw [if_pos h2] at q'
        rw [show decide ((b.run 0 (Wd.at x)).1.tot > 0) = true from decide_eq_true h2, show decide ((b.run 0 (Wd.at x)).1.tot < 0) = false from decide_eq_false h1]
        exact q'
      · rw [if_neg h2] at q'
        rw [show decide ((b.run 0 (Wd.at x)).1.tot > 0) = false from decide_eq_false h2, show decide ((b.run 0 (Wd.at x)).1.tot < 0) = false from decide_eq_false h1]
        exact q'
end
/-! ### what is known to the object -/
def Fz (a : Addr) (o : Obj) : HO := .frz o (.ext fun h => h.get? a = some o)
def cut1 (H : Hp) (a : Addr) : Hp := fun b => if b = a then none else H b
theorem cut1_ne {H : Hp} {a b : Addr} (h : b ≠ a) : cut1 H a b = H b := if_neg h
theorem cut1_at {H : Hp} {a : Addr} : cut1 H a a = none := if_pos rfl
theorem cut1_some {H : Hp} {a b : Addr} {o : HO} (e : cut1 H a b = some o) : b ≠ a ∧ H b = some o := by
  by_cases h : b = a
  · rw [h, cut1_at] at e; cases e
  · rw [cut1_ne h] at e; exact ⟨h, e⟩
theorem cut_upd {H : Hp} {a : Addr} {o : HO} (n : H a = none) : cut1 (upd H a o) a = H := by
  funext b
  by_cases h : b = a
  · rw [h, cut1_at, n]
  · rw [cut1_ne h, upd_ne h]
theorem upd_cut {H : Hp} {a : Addr} {o : HO} (e : H a = some o) : upd (cut1 H a) a o = H := by
  funext b
  by_cases h : b = a
  · rw [h, upd_same, e]
  · rw [upd_ne h, cut1_ne h]
theorem Sx.cut {ex : List Addr} {H H' : Hp} {a : Addr} {o : HO} (s : Sx ex (upd H a o) H') (n : H a = none) : Sx ex H (cut1 H' a) := fun b u hb e => by
  have h := ne_of_none e n
  rw [cut1_ne h]
  exact s b u hb (by rw [upd_ne h]; exact e)
theorem Sx.add {ex : List Addr} {H H' : Hp} {a : Addr} {o : HO} (s : Sx ex (cut1 H a) H') (e : H a = some o) : Sx ex H (upd H' a o) := fun b u hb q => by
  by_cases h : b = a
  · rw [h, upd_same, ← e, ← h]; exact q
  · rw [upd_ne h]; exact s b u hb (by rw [cut1_ne h]; exact q)
theorem Tk.cut {H : Hp} {a : Addr} {o : Obj} {u : HO} (e : H a = some (.frz o u)) : Tk H (cut1 H a) := fun b xs q => by
  rw [cut1_ne (fun z => by rw [z, e] at q; cases q)]
  exact q
section
variable {w : World} {P : Program} {K : PySem.W.Frag} {mg : Str → Option Value} {base : Heap} {A : Around} {outer : List Env} {s s' : Shared} {H H' : Hp} {a : Addr} {o : Obj} {h : Heap}
theorem fz_ok (e : h.get? a = some o) : ObjOk P w H h a (Fz a o) := ⟨e, e, ⟨o, e⟩, fun _ _ p st => st _ p⟩
theorem fz_at (hok : HOk P w H h) (e : H a = some (Fz a o)) : h.get? a = some o := (hok a _ e).1
theorem HOk.cut {ob : Obj} {u : HO} (hok : HOk P w H h) (e : H a = some (.frz ob u)) : HOk P w (cut1 H a) h := fun b v q => by
  obtain ⟨_, q⟩ := cut1_some q
  refine (hok b v q).stay (fun c x _ y => y) (fun c y => ?_) fun c xs y => ?_
  · rw [cut1_ne (fun z => by rw [z, e] at y; cases y)]; exact y
  · rw [cut1_ne (fun z => by rw [z, e] at y; cases y)]; exact y
theorem HOk.add (hok : HOk P w H h) (n : H a = none) (e : h.get? a = some o) : HOk P w (upd H a (Fz a o)) h := fun b v q => by
  by_cases hb : b = a
  · rw [hb, upd_same] at q
    cases q
    rw [hb]
    exact fz_ok e
  · rw [upd_ne hb] at q
    exact (hok b v q).stay (fun c x _ y => y) (fun c y => by rw [upd_ne (ne_of_none y n)]; exact y) fun c xs y => by rw [upd_ne (ne_of_none y n)]; exact y
theorem Env0.cut (e0 : Env0 P w K mg base A outer s H) (e : H a = some (Fz a o)) : Env0 P w K mg base A outer s (cut1 H a) :=
  ⟨e0.frames, e0.mod, fun b u q => ⟨(e0.bs b u q).1, by rw [cut1]; split; rfl; exact (e0.bs b u q).2⟩, e0.bsz, e0.funs, fun b hb => by rw [cut1]; split; rfl; exact e0.frf b hb, HOk.cut e0.hok e, e0.bare⟩
theorem Env0.add (e0 : Env0 P w K mg base A outer s H) (n : H a = none) (e : s.heap.get? a = some o) (nf : a ∉ frs outer) (nb : base.objs.size ≤ a) : Env0 P w K mg base A outer s (upd H a (Fz a o)) :=
  ⟨e0.frames, e0.mod, fun b u q => ⟨(e0.bs b u q).1, by rw [upd_ne (fun z => Nat.lt_irrefl _ (Nat.lt_of_lt_of_le (Heap.lt_size q) (by rw [z]; exact nb)))]; exact (e0.bs b u q).2⟩, e0.bsz, e0.funs, fun b hb => by rw [upd_ne (fun z => nf (by rw [← z]; exact hb))]; exact e0.frf b hb, HOk.add e0.hok n e, e0.bare⟩
/-- the callee knew the object at a, the caller need not -/
theorem CE.cut {Q : VK} {u : Value} (n : H a = none) (e : s.heap.get? a = some o) (nf : a ∉ frs outer) (c : CE outer P w (upd H a (Fz a o)) s (fun v H2 => Q v (cut1 H2 a)) u s') : CE outer P w H s Q u s' := by
  obtain ⟨v, H2, os, bare, un, hok, r, q⟩ := c
  have f2 : H2 a = some (Fz a o) := un.frzs a o _ upd_same
  refine ⟨v, cut1 H2 a, os, bare, ⟨fun b ob y z hb hx => ?_, fun b ob y z hb hx => ?_, fun b ob y z hx => ?_, un.there, fun b xs y => ?_, fun b ob x y => ?_, fun b ps y => ?_⟩, HOk.cut hok f2, r, q⟩
  · by_cases hz : b = a
    · rw [hz] at y ⊢
      rw [e] at y
      cases y
      exact fz_at hok f2
    · exact un.keep b ob y (by rw [upd_ne hz]; exact z) hb hx
  · exact un.slot b ob y (by rw [upd_ne (fun z => nf (by rw [← z]; exact hb))]; exact z) hb hx
  · by_cases hz : b = a
    · rw [hz, cut1_at]
    · rw [cut1_ne hz]; exact un.free b ob y (by rw [upd_ne hz]; exact z) hx
  · have hz := ne_of_none y n; rw [cut1_ne hz]; exact un.tups b xs (by rw [upd_ne hz]; exact y)
  · have hz := ne_of_none y n; rw [cut1_ne hz]; exact un.frzs b ob x (by rw [upd_ne hz]; exact y)
  · have hz := ne_of_none y n
    obtain ⟨more, m⟩ := un.tbls b ps (by rw [upd_ne hz]; exact y)
    exact ⟨more, by rw [cut1_ne hz]; exact m⟩
/-- the caller knows the object at a, the callee need not -/
theorem CE.add {Q : VK} {u : Value} (e0 : Env0 P w K mg base A outer s H) (e : H a = some (Fz a o)) (c : CE outer P w (cut1 H a) s (fun v H2 => Q v (upd H2 a (Fz a o))) u s') : CE outer P w H s Q u s' := by
  obtain ⟨v, H2, os, bare, un, hok, r, q⟩ := c
  have ea := fz_at e0.hok e
  have nf : a ∉ frs outer := fun z => by have := e0.frf a z; rw [e] at this; cases this
  have ka := un.keep a o ea cut1_at nf (by simp)
  have na := un.free a o ea cut1_at (by simp)
  refine ⟨v, upd H2 a (Fz a o), os, bare, ⟨fun b ob y z hb hx => ?_, fun b ob y z hb hx => ?_, fun b ob y z hx => ?_, un.there, fun b xs y => ?_, fun b ob x y => ?_, fun b ps y => ?_⟩, HOk.add hok na ka, r, q⟩
  · exact un.keep b ob y (by rw [cut1]; split; rfl; exact z) hb hx
  · exact un.slot b ob y (by rw [cut1]; split; rfl; exact z) hb hx
  · have hz : b ≠ a := fun k => by rw [k, e] at z; cases z
    rw [upd_ne hz]
    exact un.free b ob y (by rw [cut1_ne hz]; exact z) hx
  · have hz : b ≠ a := fun k => by rw [k, e] at y; cases y
    rw [upd_ne hz]; exact un.tups b xs (by rw [cut1_ne hz]; exact y)
  · by_cases hz : b = a
    · rw [hz, e] at y
      rw [hz, upd_same]
      exact y
    · rw [upd_ne hz]; exact un.frzs b ob x (by rw [cut1_ne hz]; exact y)
  · have hz : b ≠ a := fun k => by rw [k, e] at y; cases y
    obtain ⟨more, m⟩ := un.tbls b ps (by rw [cut1_ne hz]; exact y)
    exact ⟨more, by rw [upd_ne hz]; exact m⟩
theorem CR.cut {Q : VK} {r : Result} (n : H a = none) (e : s.heap.get? a = some o) (nf : a ∉ frs outer) (c : CR CX0 outer P w (upd H a (Fz a o)) s (fun v H2 => Q v (cut1 H2 a)) E0 r s') : CR CX0 outer P w H s Q E0 r s' := by
  cases r with
  | error x => exact c
  | ok f => cases f with
    | ret u => exact CE.cut n e nf c
    | _ => exact c
theorem CR.add {Q : VK} {r : Result} (e0 : Env0 P w K mg base A outer s H) (e : H a = some (Fz a o)) (c : CR CX0 outer P w (cut1 H a) s (fun v H2 => Q v (upd H2 a (Fz a o))) E0 r s') : CR CX0 outer P w H s Q E0 r s' := by
  cases r with
  | error x => exact c
  | ok f => cases f with
    | ret u => exact CE.add e0 e c
    | _ => exact c
end
/-! ### a function that is handed on and called -/
/-- T: how the abstract heap tells the function at f -/
structure HeldL (P : Program) (w : World) (K : PySem.W.Frag) (mg : Str → Option Value) (base : Heap) (k : Nat) (T : Addr → Hp → Prop) (sp : Sp) : Prop where
  st : ∀ f H H', T f H → Sx [] H H' → T f H'
  fn : ∀ (f : Addr) (H : Hp) (h : Heap), T f H → HOk P w H h → PySem.W.FnAt f h
  run : ∀ (A : Around) (outer : List Env) (s : Shared) (H : Hp) (f : Addr) (us : List Value) (vs : List V) (Q : VK), Room k A → Env0 P w K mg base A outer s H → T f H → Vals vs us → sp vs H Q E0 →
    codeAny (model P w) A (.call (.ref f) ⟨us, []⟩) (CR CX0 outer P w H s Q E0) s
def tCallT (i : Nat) (T : Addr → Hp → Prop) (sp : Sp) (t : TA) : TE := fun σ H Q => ∃ f, σ[i]? = some (some (.ref f)) ∧ T f H ∧ t σ H fun vs H1 => T f H1 ∧ sp vs H1 Q E0
theorem pe_callT {X : Cx} {i k : Nat} {T : Addr → Hp → Prop} {sp : Sp} {t : TA} {x : Str} {e : Expr} {es : List Expr} {p pos : Pos} (hh : HeldL X.prog X.w X.K X.mg X.base k T sp) (hr : Room k X.A) (hN : X.N[i]? = some x) (hv : Vis X.env.scope x) (ha : PA X (e :: es) t)
    (hd : (x == ("__debug__" : Str)) = false := by decide) (hcd : (x == ("__classdict__" : Str)) = false := by decide) (he : starEach (e :: es) X.env = (false, eval e X.env) :: starEach es X.env := by rfl) (hpl : (backTo pos (starEach es X.env)).any (·.1) = false := by rfl) :
    PE X (.Call (.Name x p) (e :: es) [] pos) (tCallT i T sp t) := by
  refine ⟨fun pins s σ H Q I ⟨f, hs, hT, ht⟩ => ?_⟩
  refine wpAny_Call_Name_kw (thn ((pe_var (pos := p) hN hv hd hcd).run pins s σ H (fun v H1 => v = .ref f ∧ H1 = H) I ⟨.ref f, hs, rfl, rfl⟩) fun u s1 ⟨v, H1, I1, r1, ev, eH⟩ => ?_)
  subst ev; rw [eH] at I1
  have eqv : (u = Value.ref f) := r1; subst eqv
  refine PySem.W.callWith_F (first := []) (hh.fn f H s1.heap hT I1.hok) (thn (ha.run pos pins s1 σ H _ I1 ht) fun us s2 ⟨vs, H2, I2, r, h1, q⟩ => ⟨hh.fn f H2 s2.heap h1 I2.hok, ?_⟩) he hpl
  show (wpAny _ _ (call (.ref f) us) _ _ _)
  refine wpAny_call (codeAny_mono (hh.run X.A X.stack s2 H2 f us vs Q hr I2.env0 h1 r q) fun rs s' hq => ?_)
  match rs, hq with
  | .ok (.ret u), hq => exact I2.after hq
/-! ### a lambda's body -/
structure LF where
  qual : Str
  params : Arguments
  body : Expr
  scope : Scope
  cl : List (Str × Addr)
  c : Addr
abbrev LF.obj (F : LF) (pm ctv : Value) : Obj := PySem.W.kla_obj "<lambda>" F.qual F.params F.body F.scope F.cl pm F.c ctv
abbrev LF.nf (F : LF) : NdefX.NF := ⟨"<lambda>", F.qual, F.params, [], F.scope, F.cl, F.c⟩
open NdefX in
theorem lam_run {P : Program} {w : World} {K : PySem.W.Frag} {mg : Str → Option Value} {base : Heap} {N ps fr : List Str} {F : LF} {f : Addr} {A : Around} {outer : List Env} {s : Shared} {H : Hp} {us : List Value} {vs : List V} {ws : List (Option V)} {Q : VK} {tb : TE} {k : Nat} {pm ctv : Value}
    (S : NScope N ps fr F.scope) (hb : ∀ (us : List Value), us.length = ps.length → bindArgs (PySem.W.kla_fn "<lambda>" F.qual F.params F.body F.scope F.cl pm (.ref F.c) ctv) ⟨us, []⟩ = pure (ps.zip us))
    (hbody : Room k (A.deeper (envF F.nf f s.heap.objs.size)) → PE (ncx CX0 P w K mg base N F.nf f A outer s H E0).nox F.body tb) (hr : Room (k + 1) A) (e0 : Env0 P w K mg base A outer s H) (hf : s.heap.get? f = some (F.obj pm ctv)) (hc : s.heap.CodeRec (.ref F.c) F.qual)
    (C : CellsAt F.cl fr ws s.heap H) (r : Vals vs us) (hl : vs.length = ps.length) (q : tb (startF N vs ws) H Q) : codeAny (model P w) A (.call (.ref f) ⟨us, []⟩) (CR CX0 outer P w H s Q E0) s := by
  have lim : (s.heap.NoLimit) := e0.mod.nolimit.keeps fun b o e => (e0.bs b o e).1
  refine PySem.W.kla_callFunE hr.depth hf rfl S.co S.gen rfl hc ?_
  rw [hb us (by rw [← r.length]; exact hl)]
  refine (wpAny_pure (wpAny_newFunctionEnv S.nocell (fun ⟨n, _⟩ hy => S.par n (List.of_mem_zip hy).1) (fun h₁ hns hsb => ⟨lim.fresh _ hsb, ?_⟩) S.kind))
  show codeAny _ _ (.expr F.body (envF F.nf f s.heap.objs.size)) _ _
  have kp : (∀ b o, s.heap.get? b = some o → h₁.get? b = some o) := fun b o e => hsb.extBut b o (Nat.ne_of_lt (Heap.lt_size e)) (Heap.get?_push_of_some _ e)
  have I : Inv (ncx CX0 P w K mg base N F.nf f A outer s H E0) [] (startF N vs ws) H { s with heap := h₁, toks := s.toks + (ps.zip us).length } := inv_startN S hr.hd e0 hl r C hns kp
  refine PySem.W.kla_codeExpr (wpAny_mono ((hbody (hr.deeper _)).nox.run [] _ _ H Q I q) (fun v s' hq => ?_) fun e s' hq => hq)
  rcases hq with ⟨w', H', J', rv, q⟩
  exact (⟨w', H', J'.os, J'.bare, J'.base, J'.hok, rv, q⟩)
/-- no capture -/
def Tf0 (F : LF) (f : Addr) (H : Hp) : Prop := F.cl = [] ∧ (∃ pm ctv, H f = some (Fz f (F.obj pm ctv))) ∧ H F.c = some (LamX.CodeO F.c F.qual)
/-- one captured name y, its cell at cc holds v -/
def Tf1 (F : LF) (y : Str) (cc : Addr) (v : V) (f : Addr) (H : Hp) : Prop := F.cl = [(y, cc)] ∧ (∃ pm ctv, H f = some (Fz f (F.obj pm ctv))) ∧ H F.c = some (LamX.CodeO F.c F.qual) ∧ ∃ o u, H cc = some (Fz cc o) ∧ o.data = .cell (some u) ∧ RelV v u
section
variable {w : World} {P : Program} {K : PySem.W.Frag} {mg : Str → Option Value} {base : Heap}
open NdefX in
theorem held0 {F : LF} {N : List Str} {a : Str} {tb : TE} {k : Nat} {sp : Sp} (S : NScope N [a] [] F.scope) (hb : ∀ (pm ctv : Value) (us : List Value), us.length = 1 → bindArgs (PySem.W.kla_fn "<lambda>" F.qual F.params F.body F.scope [] pm (.ref F.c) ctv) ⟨us, []⟩ = pure ([a].zip us))
    (hbody : ∀ (f : Addr) (A : Around) (outer : List Env) (s : Shared) (H : Hp), F.cl = [] → Room k (A.deeper (envF F.nf f s.heap.objs.size)) → PE (ncx CX0 P w K mg base N F.nf f A outer s H E0).nox F.body tb)
    (len : ∀ vs H Q, sp vs H Q E0 → vs.length = 1) (hq : ∀ vs H Q, sp vs H Q E0 → tb (startF N vs []) H Q) : HeldL P w K mg base (k + 1) (Tf0 F) sp := by
  refine ⟨fun f H H' ⟨h0, ⟨pm, ctv, h1⟩, h2⟩ s => ⟨h0, ⟨pm, ctv, s _ _ (by simp) h1⟩, s _ _ (by simp) h2⟩, fun f H h ⟨h0, ⟨pm, ctv, h1⟩, h2⟩ hok => ⟨_, _, _, _, fz_at hok h1⟩, fun A outer s H f us vs Q hr e0 ⟨h0, ⟨pm, ctv, h1⟩, h2⟩ r q => ?_⟩
  refine lam_run (ws := []) S (fun us hl => ?_) (fun hr2 => hbody f A outer s H h0 hr2) hr e0 (fz_at e0.hok h1) (codeO_at e0.hok h2) ?_ r (len _ _ _ q) (hq _ _ _ q)
  · rw [h0]; exact hb pm ctv us hl
  · rw [h0]
    exact ⟨rfl, fun y c z => (by cases z), fun x y c z => (by cases z), fun i y z => (by simp at z)⟩
open NdefX in
theorem held1 {F : LF} {N : List Str} {a y : Str} {cc : Addr} {v : V} {tb : TE} {k : Nat} {sp : Sp} (S : NScope N [a] [y] F.scope) (hb : ∀ (pm ctv : Value) (us : List Value), us.length = 1 → bindArgs (PySem.W.kla_fn "<lambda>" F.qual F.params F.body F.scope [(y, cc)] pm (.ref F.c) ctv) ⟨us, []⟩ = pure ([a].zip us))
    (hbody : ∀ (f : Addr) (A : Around) (outer : List Env) (s : Shared) (H : Hp), F.cl = [(y, cc)] → Room k (A.deeper (envF F.nf f s.heap.objs.size)) → PE (ncx CX0 P w K mg base N F.nf f A outer s H E0).nox F.body tb)
    (len : ∀ vs H Q, sp vs H Q E0 → vs.length = 1) (hq : ∀ vs H Q (o : Obj), H cc = some (Fz cc o) → sp vs H Q E0 → tb (startF N vs [some v]) (cut1 H cc) (fun r H2 => Q r (upd H2 cc (Fz cc o)))) : HeldL P w K mg base (k + 1) (Tf1 F y cc v) sp := by
  refine ⟨fun f H H' ⟨h0, ⟨pm, ctv, h1⟩, h2, o, u, h3, h4⟩ s => ⟨h0, ⟨pm, ctv, s _ _ (by simp) h1⟩, s _ _ (by simp) h2, o, u, s _ _ (by simp) h3, h4⟩, fun f H h ⟨h0, ⟨pm, ctv, h1⟩, h2⟩ hok => ⟨_, _, _, _, fz_at hok h1⟩, fun A outer s H f us vs Q hr e0 ⟨h0, ⟨pm, ctv, h1⟩, h2, o, u, h3, h4, h5⟩ r q => ?_⟩
  have ef := fz_at e0.hok h1
  have ec := fz_at e0.hok h3
  refine codeAny_mono (lam_run (ws := [some v]) (Q := fun r H2 => Q r (upd H2 cc (Fz cc o))) (H := cut1 H cc) S (fun us hl => ?_) (fun hr2 => hbody f A outer s (cut1 H cc) h0 hr2) hr (Env0.cut e0 h3) ef (codeO_at e0.hok h2) ?_ r (len _ _ _ q) (hq _ _ _ o h3 q)) fun rs s' h => CR.add e0 h3 h
  · rw [h0]; exact hb pm ctv us hl
  · rw [h0]
    have look : ∀ {z : Str} {c : Addr}, ([(y, cc)] : List (Str × Addr)).lookup z = some c → z = y ∧ c = cc := fun {z c} h => by
      by_cases e : z = y
      · subst e
        simp [List.lookup] at h
        exact ⟨rfl, h.symm⟩
      · have e2 : (z == y) = false := beq_eq_false_iff_ne.mpr e
        simp [List.lookup, e2] at h
    refine ⟨rfl, fun z c h => ?_, fun x z c ha hb' => (look ha).1.trans (look hb').1.symm, fun i z hz => ?_⟩
    · obtain ⟨_, rfl⟩ := look h
      exact ⟨cut1_at, _, o, ec, h4⟩
    · cases i with
      | zero =>
        obtain rfl : y = z := Option.some.inj hz
        refine ⟨cc, by simp [List.lookup], fun v' hv => ?_⟩
        obtain rfl : v = v' := Option.some.inj (Option.some.inj hv)
        exact ⟨u, h5, o, ec, h4⟩
      | succ i => simp at hz
end
/-! ### a lambda is made -/
/-- tables: place, name of the code objects that they tell -/
def tLambda (T : List (Addr × Str)) (P : Addr) (F : Addr → LF) : TE := fun σ H Q => LamX.Tabs T H ∧ ∀ (f c' : Addr) (pm ctv : Value) (H2 : Hp), Sx [P] H H2 → LamX.Tabs T H2 → H f = none → H2 f = none → H2 c' = some (LamX.CodeO c' (F c').qual) → (∀ b, b ≠ c' → H b = none → H2 b = none) →
  Q (.ref f) (upd H2 f (Fz f ((F c').obj pm ctv)))
section
variable {X : Cx}
open LamX in
theorem pe_lambda {T : List (Addr × Str)} {c P : Addr} {params : Arguments} {body : Expr} {scope : Scope} {pos : Pos} {cl : List (Str × Addr)} (TB : TabB X.base X.mg c P) (hcode : X.env.code = .ref c)
    (hm : (P, X.env.qual ++ "<lambda>") ∈ T) (hu : ∀ p ∈ T, p.1 = P → p.2 = X.env.qual ++ "<lambda>") (hdef : defaultsOf params X.env = ([], [])) (hfree : X.Ok → ∀ y ∈ scope.names, y.2 = .free → ∃ c, X.env.cells.lookup y.1 = some c)
    (hcl : cloFrom X.env.cells scope.names [] = cl) : PE X (.Lambda params body scope pos) (tLambda T P fun c' => ⟨X.env.qual ++ "<lambda>", params, body, scope, cl, c'⟩) := by
  subst hcl
  refine ⟨fun pins s σ H Q I ⟨hT, h⟩ => ?_⟩
  rcases hT _ hm with ⟨ps, hP, ht, ha⟩
  have hP : H P = some (.tbl ps) := hP
  have hfree := hfree I.ok
  have bP : (s.heap.BuiltinsAt X.mg P) := TB.bm.keeps I.bk
  have hP' : (s.heap.get? P = some { cls := .none, data := .fields ps }) := I.hok P _ hP
  refine (PySem.W.kla_eval hdef ?_)
  cases hc : (codeAmong pos ps.toList) with
  | some cv =>
    obtain ⟨c', rfl, hco⟩ := ha pos cv hc
    refine (PySem.W.kla_makeFunctionHit (mg := X.mg) (c := c) (P := P) (ps := ps) (closure_ok hfree) I.ok.glob (I.mod.glob.keeps I.bk) hcode (TB.code.keeps I.bk) hP' ht hc bP fun ctv h' tk hx hsz => ?_)
    exact ⟨.ref _, _, I.laid (t' := tk) (fun b o e => Heap.get?_push_of_some _ (hx b o e)) hsz (fz_ok (Heap.get?_push_size _ rfl)), rfl, h h'.objs.size c' _ ctv H (Sx.refl _) hT (I.hok.fresh hsz) (I.hok.fresh hsz) hco fun _ _ n => n⟩
  | none =>
    refine (PySem.W.kla_makeFunction (mg := X.mg) (c := c) (P := P) (ps := ps) (closure_ok hfree) I.ok.glob (I.mod.glob.keeps I.bk) hcode (TB.code.keeps I.bk) hP' ht hc TB.gP bP fun c' ctv h' tk hx hge hlt hrec htb => ?_)
    rcases hrec with ⟨c2, oc, vs, t, e2, hoc, hd, hv⟩
    cases e2
    have nC : (H c' = none) := I.hok.fresh hge
    have hsz : (s.heap.objs.size ≤ h'.objs.size) := Nat.le_trans hge (Nat.le_of_lt hlt)
    have nPc : P ≠ c' := ne_of_none hP nC
    have I1 := inv_table (q := X.env.qual ++ "<lambda>") (t' := tk) (more := #[rawInt pos.line, rawInt pos.col, .ref c']) I hP hx htb hge ⟨oc, vs, t, hoc, hd, hv⟩
    have kH : ∀ b, b ≠ P → b ≠ c' → upd (upd H P (.tbl (ps ++ #[rawInt pos.line, rawInt pos.col, .ref c']))) c' (CodeO c' (X.env.qual ++ "<lambda>")) b = H b := fun b h1 h2 => by rw [upd_ne h2, upd_ne h1]
    have kC : ∀ b o, H b = some o → (∀ qs, o ≠ .tbl qs) → upd (upd H P (.tbl (ps ++ #[rawInt pos.line, rawInt pos.col, .ref c']))) c' (CodeO c' (X.env.qual ++ "<lambda>")) b = some o := fun b o e n => by
      rw [kH b (fun z => n ps (Option.some.inj (e.symm.trans (by rw [z]; exact hP)))) (ne_of_none e nC)]
      exact e
    have I2 := I1.laid (t' := tk) (h' := h'.push (PySem.W.kla_obj "<lambda>" (X.env.qual ++ "<lambda>") params body scope (cloFrom X.env.cells scope.names []) ((X.mg "__name__").getD .none) c' ctv)) (a := h'.objs.size) (o := Fz h'.objs.size (PySem.W.kla_obj "<lambda>" (X.env.qual ++ "<lambda>") params body scope (cloFrom X.env.cells scope.names []) ((X.mg "__name__").getD .none) c' ctv))
      (fun b o e => Heap.get?_push_of_some _ e) (Nat.le_refl _) (fz_ok (Heap.get?_push_size _ rfl))
    refine ⟨.ref _, _, I2, rfl, h h'.objs.size c' _ ctv _ (fun b o hb e => by rw [kH b (by simpa using hb) (ne_of_none e nC)]; exact e) (fun p hp => ?_) (I.hok.fresh hsz) ?_ upd_same fun b hb n => ?_⟩
    · by_cases hb : p.1 = P
      · rw [hu p hp hb, hb]
        have eL : ((ps ++ #[rawInt pos.line, rawInt pos.col, .ref c']).toList = ps.toList ++ [rawInt pos.line, rawInt pos.col, .ref c']) := by simp
        refine ⟨_, by rw [upd_ne nPc, upd_same], by rw [eL]; exact PySem.TriplesOk_snoc _ _ _ _ ht, fun p' cv hcv => ?_⟩
        rw [eL] at hcv
        obtain z | z := among_app _ ht hcv
        · rcases ha p' cv z with ⟨c0, e1, e2⟩
          exact ⟨c0, e1, kC _ _ e2 codeO_ne⟩
        · exact ⟨c', z, upd_same⟩
      · obtain ⟨qs, a1, a2, a3⟩ := hT p hp
        refine ⟨qs, by rw [kH _ hb (ne_of_none a1 nC)]; exact a1, a2, fun p' cv hcv => ?_⟩
        rcases a3 p' cv hcv with ⟨c0, e1, e2⟩
        exact ⟨c0, e1, kC _ _ e2 codeO_ne⟩
    · rw [kH _ (Nat.ne_of_gt (Nat.lt_of_lt_of_le (Heap.lt_size hP') hsz)) (Nat.ne_of_gt hlt)]
      exact I.hok.fresh hsz
    · rw [kH b (fun z => by rw [z, hP] at n; cases n) hb]
      exact n
/-- a call while a cell of the caller's (the name y in slot j) is told to the callee -/
def tCallC (X : Cx) (y : Str) (j : Nat) (sp : Sp) (t : TA) : TE := fun σ H Q => t σ H fun vs H1 => ∃ v, σ[j]? = some (some v) ∧ ∀ (cc : Addr) (oc : Obj) (u : Value), X.env.cells.lookup y = some cc → H1 cc = none → oc.data = .cell (some u) → RelV v u →
  sp vs (upd H1 cc (Fz cc oc)) (fun r H3 => Q r (cut1 H3 cc)) E0
theorem pe_callC {x y : Str} {p pos : Pos} {e : Expr} {es : List Expr} {t : TA} {k j : Nat} {f : Addr} {fd : FuncData} {ps : List Str} {sp : Sp} (F : FnOk X.prog X.w X.K X.mg X.base CX0 k f fd ps sp) (hr : Room k X.A) (hg : Gl X x) (hm : X.mg x = some (.ref f)) (hk : PySem.W.keepIn X.K (.ref f) = true)
    (hb : Binds X.K fd ps []) (ha : PA X (e :: es) t) (hN : X.N[j]? = some y) (hy : X.env.scope.names.lookup y = some .cell) (hfn : X.fn y = true) (hdb : (x == ("__debug__" : Str)) = false := by decide) (he : starEach (e :: es) X.env = (false, eval e X.env) :: starEach es X.env := by rfl) (hpl : (backTo pos (starEach es X.env)).any (·.1) = false := by rfl) :
    PE X (.Call (.Name x p) (e :: es) [] pos) (tCallC X y j sp t) := by
  refine ⟨fun pins s σ H Q I h => wpAny_Call_Name_kw (ld_glob I hg hm ?_ hdb)⟩
  refine PySem.W.callWith_K (h₀ := X.base) I.ok.mod.kin hk (thn (ha.run pos pins s σ H _ I h) fun us s1 ⟨vs, H1, I1, r, v, hv, q⟩ => ⟨I1.kIn, ?_⟩) he hpl
  obtain ⟨cc, hcc⟩ := I1.ok.has y (.inl hy)
  obtain ⟨m, hn, hl⟩ := I1.loc
  obtain ⟨u, ru, l⟩ := hl j y v hN hv (.inr (.inl hy))
  have ⟨oc, ho, hd⟩ : s1.heap.IsCell cc (some u) := by
    rcases l with ⟨z, _⟩ | ⟨_, c2, hc2, z⟩
    · have z' : (X.env.scope.names.lookup y = some .local) := z
      rw [hy] at z'; cases z'
    · rw [hcc] at hc2; cases hc2; exact z
  have nc : H1 cc = none := I1.freeC y cc hcc
  have above : X.s_0.heap.objs.size ≤ cc := I1.ok.cab y cc hfn hcc
  have nf : cc ∉ frs X.stack := fun hb => by
    rcases List.mem_cons.1 (I1.stkSub cc hb) with z | z
    · obtain ⟨ob, es', ep, ho2, hd2, _⟩ := hn
      rw [z, ho2] at ho
      cases ho
      rw [hd2] at hd; cases hd
    · obtain ⟨_, ob, ho2, _⟩ := I1.ok.funs.mem z
      exact Nat.lt_irrefl _ (Nat.lt_of_lt_of_le (Heap.lt_size ho2) above)
  have q := q cc oc u hcc nc hd ru
  have ll : (us ++ []).length = ps.length := by rw [List.append_nil, ← r.length]; exact F.len _ _ _ _ q
  have z := hb s1 us I1.kIn ll
  rw [List.append_nil] at z
  refine wpAny_call (codeAny_mono (F.run X.A X.stack s1 _ ⟨us, []⟩ us vs _ E0 hr (Env0.add I1.env0 nc ho nf (Nat.le_trans I1.ok.bsz above)) z r q) fun rs s' hq => ?_)
  match rs, CR.cut nc ho nf hq with
  | .ok (.ret u'), hq => exact I1.after hq
end
abbrev sPBareTest : Stmt := topS 25
abbrev nPBareTest : List Str := ["test"]
theorem scPBareTest : FnScope nPBareTest ["test"] (defScope sPBareTest) := ⟨rfl, rfl, rfl, by decide +kernel, rfl, by decide +kernel, by decide +kernel⟩
abbrev sPTestsWith : Stmt := topS 34
abbrev nPTestsWith : List Str := ["statement", "word"]
theorem scPTestsWith : FnScope nPTestsWith ["statement", "word"] (defScope sPTestsWith) := ⟨rfl, rfl, rfl, by decide +kernel, rfl, by decide +kernel, by decide +kernel⟩
abbrev sPSumOver : Stmt := topS 35
abbrev nPSumOver : List Str := ["block", "own", "total", "statement", "inner", "times", "part"]
theorem scPSumOver : FnScope nPSumOver ["block", "own"] (defScope sPSumOver) := ⟨rfl, rfl, rfl, by decide +kernel, rfl, by decide +kernel, by decide +kernel⟩
/-! ### sums over statements -/
def Ts.bare : Ts → Ts
  | .not t => t.bare
  | t => t
def Ts.hd : Ts → Str
  | .rest _ _ _ => "rest"
  | .less _ _ => "less"
  | .not _ => "not"
theorem Ts.at_ {H : Hp} {x : V} {t : Ts} (h : Tp H x t.d) : ∃ a xs, x = .ref a ∧ H a = some (.tup (.str t.hd :: xs)) := by
  have e : ∃ ds, t.d = .tuple (.str t.hd :: ds) := by cases t <;> exact ⟨_, rfl⟩
  obtain ⟨ds, e⟩ := e
  rw [e] at h
  obtain ⟨a, xs, rfl, ha, hx⟩ := h.tuple
  cases hx with
  | cons h hs =>
    obtain rfl := tpS h
    exact ⟨a, _, rfl, ha⟩
def Ts.nots : Ts → Nat
  | .not t => t.nots + 1
  | _ => 0
/-- whether it has a test with this word -/
def St.tw (z : Str) : St → Bool
  | .ite t _ _ => decide (V.str t.bare.hd = V.str z)
  | _ => false
mutual
def St.sumO (own : St → Int) : St → Int
  | .ite t y n => own (.ite t y n) + (y.sumO own + n.sumO own)
  | .rep k y => own (.rep k y) + k * y.sumO own
  | s => own s
def Bk.sumO (own : St → Int) : Bk → Int
  | .nil => 0
  | .cons s b => s.sumO own + b.sumO own
end
def St.times : St → Int
  | .rep k _ => k
  | _ => 1
theorem St.sumO_eq (own : St → Int) (s : St) : s.sumO own = own s + s.times * (s.blks.map fun b => b.sumO own).sum := by
  cases s with
  | ite t y n => simp [St.sumO, St.times, St.blks]
  | rep k y => simp [St.sumO, St.times, St.blks]
  | set z e => simp [St.sumO, St.times, St.blks]
  | pay e => simp [St.sumO, St.times, St.blks]
  | stop => simp [St.sumO, St.times, St.blks]
theorem Bk.sumO_lst (own : St → Int) : ∀ b : Bk, b.sumO own = (b.lst.map fun s => s.sumO own).sum
  | .nil => rfl
  | .cons s b => by rw [Bk.sumO, Bk.lst, List.map_cons, List.sum_cons, Bk.sumO_lst own b]
/-- the factors are small, blocks lie at most so deep -/
def Bk.fac (b : Bk) : Nat → Prop
  | 0 => False
  | d + 1 => b.lst.length < 16777216 ∧ ∀ s ∈ b.lst, -1000000 ≤ s.times ∧ s.times ≤ 1000000 ∧ ∀ y ∈ s.blks, y.fac d
theorem sne {x y : Str} (h : (x == y) = false) : ¬ (decide (V.str x = V.str y) = true) := fun z => by
  have e := V.str.inj (of_decide_eq_true z)
  rw [e] at h
  simp at h
def spBare : Sp := fun vs H Q _ => ∃ (v : V) (t : Ts), vs = [v] ∧ Tp H v t.d ∧ ∀ v', Tp H v' t.bare.d → Q v' H
def spTestsWith : Sp := fun vs H Q _ => ∃ (v : V) (s : St) (z : Str), vs = [v, .str z] ∧ Tp H v s.d ∧ Q (.bl (s.tw z)) H
def spOwn (own : St → Int) : Sp := fun vs H Q _ => ∃ (v : V) (s : St), vs = [v] ∧ Tp H v s.d ∧ ∀ H', Sx [] H H' → Q (.int (own s)) H'
def spSum (T : Addr → Hp → Prop) (own : St → Int) (d : Nat) : Sp := fun vs H Q _ => ∃ (v : V) (b : Bk) (f : Addr), vs = [v, .ref f] ∧ Tp H v (.tuple b.ds) ∧ T f H ∧ b.fac d ∧ ∀ H', Sx [] H H' → Q (.int (b.sumO own)) H'
section
variable {w : World} {P : Program} {K : PySem.W.Frag} {mg : Str → Option Value} {base : Heap}
theorem ok_pbare {f : Addr} {fd : FuncData} {k : Nat} (F_pbare_test : Fun K "bare_test" "bare_test" sPBareTest f fd) : FnOk P w K mg base CX0 (k + 1) f fd ["test"] spBare := by
  refine F_pbare_test.ok scPBareTest (fun vs H Q E h => ?_) (fun cdv A outer s H vs Q E hr h => ?_)
  · obtain ⟨_, _, rfl, _⟩ := h
    rfl
  · obtain ⟨v, t, rfl, tt, q⟩ := h
    refine ⟨_, (C8.pss_cut (ps_while PassesOwn.never (pt_cmpR op_eq (pe_ix ix_tup (pv 0) pe_int (fun _ _ => rfl)) pe_str (nomark _)) (pss_one (ps_set (i := 0) scPBareTest.nd rfl (by first | exact Or.inl rfl | exact Or.inr rfl) (pe_ix ix_tup (pv 0) pe_int (fun _ _ => rfl)))))
      (pss_one (ps_ret (pv 0)))), ?_⟩
    refine ⟨fun σ H' => ∃ v', σ = [some v'] ∧ H' = H ∧ Tp H v' t.bare.d, ?_, ?_⟩
    · refine ⟨fun m σ H' => ∃ (v' : V) (t' : Ts), σ = [some v'] ∧ H' = H ∧ Tp H v' t'.d ∧ t'.bare = t.bare ∧ m = t'.nots, ⟨_, v, t, rfl, rfl, tt, rfl, rfl⟩, ?_⟩
      rintro m σ H' ⟨v', t', rfl, rfl, tt', hb, rfl⟩
      obtain ⟨a, xs, rfl, ha⟩ := Ts.at_ tt'
      refine ⟨_, rfl, a, _, _, .str t'.hd, rfl, rfl, SqT.of ha, at0 _ _, rfl, _, rfl, ?_⟩
      cases t' with
      | not u =>
        obtain ⟨a2, p1, p2, ea, hA, t1, t2⟩ := tp2 tt'
        cases ea
        refine iteP (by simp only [Ts.hd]; decide +kernel) ⟨fun σ H2 => σ = [some p2] ∧ H2 = H', fun σ H2 z => ⟨u.nots, Nat.lt_succ_self _, p2, u, z.1, z.2, t2, hb, rfl⟩, ?_⟩
        exact ⟨_, rfl, a, _, _, p2, rfl, rfl, SqT.of hA, rfl, rfl, rfl⟩
      | rest x b r => exact iteN (sne (show (("rest" : Str) == "not") = false by decide +kernel)) ⟨_, rfl, rfl, by rw [← hb]; exact tt'⟩
      | less x y => exact iteN (sne (show (("less" : Str) == "not") = false by decide +kernel)) ⟨_, rfl, rfl, by rw [← hb]; exact tt'⟩
    · rintro _ H' ⟨v', rfl, rfl, t'⟩
      exact ⟨_, rfl, q v' t'⟩
theorem ok_ptests {f fB : Addr} {fd fdB : FuncData} {k : Nat} (F_ptests_with : Fun K "tests_with" "tests_with" sPTestsWith f fd) (F_pbare_test : Fun K "bare_test" "bare_test" sPBareTest fB fdB) (G_pbare_test : FnOk P w K mg base CX0 1 fB fdB ["test"] spBare)
    (b_pbare_test : Binds K fdB ["test"] []) (m_pbare_test : mg "bare_test" = some (.ref fB)) : FnOk P w K mg base CX0 (k + 2) f fd ["statement", "word"] spTestsWith := by
  refine F_ptests_with.ok scPTestsWith (fun vs H Q E h => ?_) (fun cdv A outer s H vs Q E hr h => ?_)
  · obtain ⟨_, _, _, rfl, _⟩ := h
    rfl
  · obtain ⟨v, s, z, rfl, t, q⟩ := h
    refine ⟨_, (pss_one (ps_ret (pe_and (pe_cmpR op_eq (pe_ix ix_tup (pv 0) pe_int (fun _ _ => rfl)) pe_str (nomark _)) (pe_one (pe_cmpR op_eq (pe_ix ix_tup (pe_call G_pbare_test (hr.mono (by omega)) (by rfl) m_pbare_test F_pbare_test.kp b_pbare_test .nil pass0 (pa_cons (pe_ix ix_tup (pv 0) pe_int (fun _ _ => rfl)) pa_nil)) pe_int (fun _ _ => rfl)) (pv 1) (nomark _)))))), ?_⟩
    obtain ⟨a, xs, rfl, ha⟩ := St.at_ t
    refine ⟨_, rfl, a, _, _, .str s.hd, rfl, rfl, SqT.of ha, at0 _ _, rfl, _, rfl, ?_⟩
    cases s with
    | ite ts y n =>
      obtain ⟨a2, p1, p2, p3, p4, ea, hA, t1, t2, t3, t4⟩ := tp4 t
      cases ea
      refine iteP (by simp only [St.hd]; decide +kernel) ?_
      refine ⟨_, rfl, a, _, _, p2, rfl, rfl, SqT.of hA, rfl, p2, ts, rfl, t2, fun v' t' => ?_⟩
      obtain ⟨a3, xs3, rfl, ha3⟩ := Ts.at_ t'
      exact ⟨a3, _, _, .str ts.bare.hd, rfl, rfl, SqT.of ha3, at0 _ _, _, rfl, rfl, q⟩
    | set z e => exact iteN (sne (show (("set" : Str) == "if") = false by decide +kernel)) q
    | pay e => exact iteN (sne (show (("pay" : Str) == "if") = false by decide +kernel)) q
    | stop => exact iteN (sne (show (("stop" : Str) == "if") = false by decide +kernel)) q
    | rep k y => exact iteN (sne (show (("repeat" : Str) == "if") = false by decide +kernel)) q
theorem ok_psum {f fB : Addr} {fd fdB : FuncData} {T : Addr → Hp → Prop} {own : St → Int} (F_psum_over : Fun K "sum_over" "sum_over" sPSumOver f fd) (F_pblocks_of : Fun K "blocks_of" "blocks_of" sPBlocksOf fB fdB) (G_pblocks_of : FnOk P w K mg base CX0 1 fB fdB ["statement"] spBlocks)
    (b_psum_over : Binds K fd ["block", "own"] []) (b_pblocks_of : Binds K fdB ["statement"] []) (m_psum_over : mg "sum_over" = some (.ref f)) (m_pblocks_of : mg "blocks_of" = some (.ref fB)) (z_sum : mg "sum" = none) (hh_own : HeldL P w K mg base 4 T (spOwn own)) :
    ∀ d : Nat, FnOk P w K mg base CX0 (d + 5) f fd ["block", "own"] (spSum T own d) := by
  intro d
  induction d with
  | zero => exact ⟨fun vs H Q E h => by obtain ⟨_, _, _, rfl, _⟩ := h; rfl, fun _ _ _ _ _ _ _ _ _ _ _ _ _ h => by
      obtain ⟨_, _, _, _, _, _, h, _⟩ := h
      exact h.elim⟩
  | succ d G_psum_over =>
    refine F_psum_over.ok scPSumOver (fun vs H Q E h => ?_) (fun cdv A outer s H vs Q E hr h => ?_)
    · obtain ⟨_, _, _, rfl, _⟩ := h
      rfl
    · obtain ⟨v, b, f0, rfl, t, hT, ⟨hlen, hf⟩, q⟩ := h
      refine ⟨_, (pss_cons (ps_set (i := 2) scPSumOver.nd rfl (by first | exact Or.inl rfl | exact Or.inr rfl) pe_int)
      (C8.pss_cut (ps_for PassesOwn.never rfl (pi_tup (pv 0)) (pg_name (i := 3) scPSumOver.nd rfl (by first | exact Or.inl rfl | exact Or.inr rfl)) (pss_cons (ps_set (i := 4) scPSumOver.nd rfl (by first | exact Or.inl rfl | exact Or.inr rfl) (pe_callB (cr_sum rfl) (by rfl) z_sum boot_sum (pa_cons (pe_lc (own := [("part", 6)]) (g := gName 6) (tt := tYes) rfl scPSumOver.nd (pi_tup (pe_call G_pblocks_of (hr.mono (by omega)) (by rfl) m_pblocks_of F_pblocks_of.kp b_pblocks_of .nil pass0 (pa_cons (pv 3) pa_nil))) (blkOk_by (N := nPSumOver) (sc := defScope sPSumOver) (by decide +kernel)) (fun _ _ _ _ _ => (pg_name (i := 6) scPSumOver.nd rfl (by first | exact Or.inl rfl | exact Or.inr rfl))) (fun _ _ _ _ _ => pts_nil) (fun _ _ _ _ _ => (pe_call G_psum_over (hr.mono (by omega)) (by rfl) m_psum_over F_psum_over.kp b_psum_over .nil pass0 (pa_cons (pv 6) (pa_cons (pv 1) pa_nil))))) pa_nil)))
      (C8.pss_cut (ps_set (i := 5) scPSumOver.nd rfl (by first | exact Or.inl rfl | exact Or.inr rfl) (pe_ifExp (pt_cmpR op_eq (pe_ix ix_tup (pv 3) pe_int (fun _ _ => rfl)) pe_str (nomark _)) (pe_ix ix_tup (pv 3) pe_int (fun _ _ => rfl)) pe_int))
      (pss_one (ps_aug (i := 2) scPSumOver.nd rfl (.inl rfl) (pe_op op_add (pe_callT (i := 1) hh_own (hr.mono (by omega)) rfl (by first | exact .inl rfl | exact .inr (.inl rfl)) (pa_cons (pv 3) pa_nil)) (pe_op op_mul (pv 5) (pv 4))) ip_add)))))
      (pss_one (ps_ret (pv 2))))), ?_⟩
      obtain ⟨a, xs, rfl, ha, hx⟩ := t.tuple
      rw [b.ds_lst] at hx
      obtain ⟨hl, hg⟩ := hx.lst
      refine ⟨fun σ H1 => ∃ o3 o4 o5 o6, σ = [some (.ref a), some (.ref f0), some (.int (b.sumO own)), o3, o4, o5, o6] ∧ Sx [] H H1, ?_, ?_⟩
      · refine ⟨_, rfl, a, rfl, ⟨_, SqT.of ha⟩, for_tup (xs := xs)
          (fun i σ H1 => ∃ o3 o4 o5 o6, σ = [some (.ref a), some (.ref f0), some (.int ((b.lst.take i).map fun s => s.sumO own).sum), o3, o4, o5, o6] ∧ Sx [] H H1)
          ⟨_, _, _, _, rfl, Sx.refl _⟩ (fun i σ H1 _ z => by obtain ⟨_, _, _, _, _, z⟩ := z; exact SqT.of (z _ _ (by simp) ha)) (fun i x σ H1 hi z => ?_) (fun σ H1 z => ?_)⟩
        · obtain ⟨o3, o4, o5, o6, rfl, s1⟩ := z
          obtain ⟨st, hst, tst⟩ := hg i x hi
          have hmem : st ∈ b.lst := List.mem_of_getElem? hst
          obtain ⟨f1, f2, f3⟩ := hf st hmem
          have t1 := tst.keep s1.tk0
          refine gnm ?_
          refine ⟨_, rfl, x, st, rfl, t1, fun H2 v2 s2 t2 => ?_⟩
          obtain ⟨a2, ys, rfl, ha2, hy⟩ := t2.tuple
          rw [st.parts_blks] at hy
          obtain ⟨hl2, hg2⟩ := hy.lst
          have hT1 : T f0 H1 := hh_own.st _ _ _ hT s1
          refine ⟨a2, rfl, ⟨_, SqT.of ha2⟩, fun D hD => lc_tup (xs := ys)
            (fun j H3 => Sx [] H2 H3 ∧ H3 D = some (.lst (((st.blks.map fun b => b.sumO own).take j).map V.int))) ⟨Sx.n0 hD, upd_same⟩ (fun i H3 _ p => SqT.of (p.1 _ _ (by simp) ha2)) (fun j y H3 hj p => ?_) (fun H3 p => ?_)⟩
          · obtain ⟨p3, p4⟩ := p
            obtain ⟨b2, hb2, tb2⟩ := hg2 j y hj
            refine ⟨rfl, ?_⟩
            refine ⟨_, rfl, _, rfl, y, b2, f0, rfl, tb2.keep p3.tk0, hh_own.st _ _ _ hT1 (s2.trans p3), f3 b2 (List.mem_of_getElem? hb2), fun H4 s4 => ?_⟩
            have blk2 : st.blks.length ≤ 2 := by cases st <;> simp [St.blks]
            refine ⟨_, s4 _ _ (by simp) p4, lt_line (by rw [List.length_map, List.length_take, List.length_map]; omega), ?_, ?_⟩
            · exact (p3.trans s4).own hD
            · rw [upd_same, List.take_add_one, List.getElem?_map, hb2]
              simp
          · obtain ⟨p3, p4⟩ := p
            rw [hl2, List.take_of_length_le (by rw [List.length_map]; exact Nat.le_refl _)] at p4
            refine ⟨D, _, rfl, SqL.of p4, ?_⟩
            have s3 : Sx [] H H3 := (s1.trans s2).trans p3
            have t3 := tst.keep s3.tk0
            refine ⟨fun σ H4 => ∃ o6, σ = [some (.ref a), some (.ref f0), some (.int ((b.lst.take i).map fun s => s.sumO own).sum), some x, some (.int (st.blks.map fun b => b.sumO own).sum), some (.int st.times), o6] ∧ H4 = H3, ?_, ?_⟩
            · obtain ⟨ax, xs', rfl, hax⟩ := St.at_ t3
              refine ⟨_, rfl, ax, _, _, .str st.hd, rfl, rfl, SqT.of hax, at0 _ _, rfl, _, rfl, ?_⟩
              cases st with
              | rep k y =>
                obtain ⟨a', p1, p2, p3', ea, hA, q1, q2, q3⟩ := tp3 t3
                cases ea
                obtain rfl := tpI q2
                exact iteP (by simp only [St.hd]; decide +kernel) ⟨_, rfl, ax, _, _, _, rfl, rfl, SqT.of hA, rfl, _, rfl, rfl⟩
              | set z e => exact iteN (sne (show (("set" : Str) == "repeat") = false by decide +kernel)) ⟨_, rfl, rfl⟩
              | pay e => exact iteN (sne (show (("pay" : Str) == "repeat") = false by decide +kernel)) ⟨_, rfl, rfl⟩
              | stop => exact iteN (sne (show (("stop" : Str) == "repeat") = false by decide +kernel)) ⟨_, rfl, rfl⟩
              | ite ts y n => exact iteN (sne (show (("if" : Str) == "repeat") = false by decide +kernel)) ⟨_, rfl, rfl⟩
            · rintro _ _ ⟨o6, rfl, rfl⟩
              refine ⟨_, rfl, f0, rfl, hh_own.st _ _ _ hT s3, _, rfl, hh_own.st _ _ _ hT s3, x, st, rfl, t3, fun H5 s5 => ?_⟩
              refine ⟨_, rfl, _, rfl, _, _, rfl, rfl, .inl ⟨by omega, by omega⟩, ?_⟩
              refine ⟨_, _, rfl, rfl, _, _, rfl, rfl, ?_⟩
              have e : ((b.lst.take (i + 1)).map fun s => s.sumO own).sum = ((b.lst.take i).map fun s => s.sumO own).sum + (own st + st.times * (st.blks.map fun b => b.sumO own).sum) := by
                rw [List.take_add_one, hst, List.map_append, List.sum_append, ← St.sumO_eq]
                simp
              exact ⟨some x, some (.int (st.blks.map fun b => b.sumO own).sum), some (.int st.times), o6, by rw [e]; rfl, s3.trans s5⟩
        · obtain ⟨o3, o4, o5, o6, rfl, s1⟩ := z
          exact ⟨o3, o4, o5, o6, by rw [hl, List.take_length, ← Bk.sumO_lst], s1⟩
      · rintro _ H1 ⟨o3, o4, o5, o6, rfl, s1⟩
        exact ⟨_, rfl, q _ s1⟩
end
abbrev sPWeight : Stmt := topS 32
abbrev nPWeight : List Str := ["program"]
theorem scPWeight : FnScope nPWeight ["program"] (defScope sPWeight) := ⟨rfl, rfl, rfl, by decide +kernel, rfl, by decide +kernel, by decide +kernel⟩
abbrev sPTestedIn : Stmt := topS 33
abbrev nPTestedIn : List Str := ["block", "word"]
theorem scPTestedIn : FnScope nPTestedIn ["block", "word"] (defScope sPTestedIn) := ⟨rfl, rfl, rfl, by decide +kernel, rfl, by decide +kernel, by decide +kernel⟩
/-- the lambda at the end of a call that a def returns -/
def lamOf (st : Stmt) : Arguments × Expr × Scope := match defBody st with
  | [.Return (some (.Call _ [_, .Lambda p b s _] _ _)) _] => (p, b, s)
  | _ => (defArgs st, .Constant .none 0 ⟨0, 0, 0, 0⟩, defScope st)
def lamQ (q : Str) : Str := q ++ ".<locals>." ++ "<lambda>"
def TL (PW PT : Addr) : List (Addr × Str) := [(PW, lamQ "weight"), (PT, lamQ "tested_in")]
theorem tl_w {PW PT : Addr} (h : PW ≠ PT) : ∀ p ∈ TL PW PT, p.1 = PW → p.2 = lamQ "weight" := fun p hp e => by
  rcases List.mem_cons.1 hp with rfl | hp
  · rfl
  · rw [List.mem_singleton.mp hp] at e
    exact absurd e.symm h
theorem tl_t {PW PT : Addr} (h : PW ≠ PT) : ∀ p ∈ TL PW PT, p.1 = PT → p.2 = lamQ "tested_in" := fun p hp e => by
  rcases List.mem_cons.1 hp with rfl | hp
  · exact absurd e h
  · rw [(List.mem_singleton.mp hp)]
theorem lamFree0 (st : Stmt) (h : ((lamOf st).2.2.names.all fun y => !decide (y.2 = .free)) = true) : ∀ y ∈ (lamOf st).2.2.names, y.2 ≠ .free := fun y hy e => by
  have := List.all_eq_true.mp h y hy
  rw [e] at this
  simp at this
/-- a def whose code object is known -/
structure FunC (K : PySem.W.Frag) (x qual : Str) (st : Stmt) (f : Addr) (fd : FuncData) (c : Addr) : Prop where
  ex : ∃ (oc : Value) (od : Option Addr) (kV doc pm : Value) (an : Option Addr) (ct : Value) (osl : Array (Option Value)),
    fd = PySem.W.fnOf x qual (defArgs st) (defBody st) (defScope st) .none kV doc pm an (.ref c) ct ∧ K.lookup f = some ⟨oc, od, .func fd, osl⟩ ∧ PySem.W.codeIn K (.ref c) qual = true
  kp : (PySem.W.keepIn K (.ref f) = true)
theorem FunC.ok {P : Program} {w : World} {K : PySem.W.Frag} {mg : Str → Option Value} {base : Heap} {x qual : Str} {st : Stmt} {f c : Addr} {fd : FuncData} {N ps : List Str} {k : Nat} {sp : Sp} (F : FunC K x qual st f fd c) (S : FnScope N ps (defScope st)) (len : ∀ as H Q E, sp as H Q E → as.length = ps.length)
    (hbody : ∀ (A : Around) (outer : List Env) (s : Shared) (H : Hp) (as : List V) (Q : VK) (E : XK), Room k (A.deeper (envOfC qual (defScope st) s.heap.objs.size f (.ref c))) → sp as H Q E →
      ∃ t, PSs (cxOf CX0 P w K mg base N qual (defScope st) f (.ref c) A outer s H E).nox (defBody st) t ∧ t { nx := fun _ H' => Q .non H', rt := Q } (start N as) H) : FnOk P w K mg base CX0 (k + 1) f fd ps sp := by
  obtain ⟨oc, od, kV, doc, pm, an, ct, osl, rfl, lk, hcd⟩ := F.ex
  refine fn_of lk hcd S len fun A outer s H as Q E hr hsp => ?_
  obtain ⟨t, h, q⟩ := hbody A outer s H as Q E hr hsp
  exact ⟨t, h.nox, q⟩
abbrev FW (c' : Addr) : LF := ⟨lamQ "weight", (lamOf sPWeight).1, (lamOf sPWeight).2.1, (lamOf sPWeight).2.2, [], c'⟩
def spWeight (PW PT : Addr) (d : Nat) : Sp := fun vs H Q _ => ∃ (v : V) (b : Bk), vs = [v] ∧ Tp H v (.tuple b.ds) ∧ b.fac d ∧ LamX.Tabs (TL PW PT) H ∧ ∀ H', Sx [PW] H H' → LamX.Tabs (TL PW PT) H' → Q (.int (b.sumO fun _ => 1)) H'
theorem nsW : NdefX.NScope ["statement"] ["statement"] [] (lamOf sPWeight).2.2 := NdefX.nscope_by (by decide +kernel)
theorem nsT : NdefX.NScope ["statement", "word"] ["statement"] ["word"] (lamOf sPTestedIn).2.2 := NdefX.nscope_by (by decide +kernel)
theorem Tabs.sx {T : List (Addr × Str)} {H H' : Hp} (t : LamX.Tabs T H) (s : Sx [] H H') : LamX.Tabs T H' := t.ext fun b o e => s b o (by simp) e
section
variable {w : World} {P : Program} {K : PySem.W.Frag} {mg : Str → Option Value} {base : Heap}
theorem heldW (c' : Addr) : HeldL P w K mg base 4 (Tf0 (FW c')) (spOwn fun _ => 1) := by
  refine held0 (N := ["statement"]) (a := "statement") (k := 3) nsW (fun pm ctv us hl => ?_) (fun f A outer s H _ _ => (pe_int : PE _ (lamOf sPWeight).2.1 _)) (fun vs H Q h => ?_) (fun vs H Q h => ?_)
  · match us, hl with | [_], _ => rfl
  · obtain ⟨_, _, rfl, _⟩ := h
    rfl
  · obtain ⟨v, s, rfl, t, q⟩ := h
    exact q H (Sx.refl _)
theorem ok_pweight {f fS : Addr} {fd fdS : FuncData} {c PW PT : Addr} {D : Nat} (F_pweight : FunC K "weight" "weight" sPWeight f fd c) (F_psum_over : Fun K "sum_over" "sum_over" sPSumOver fS fdS) (TB : LamX.TabB base mg c PW) (hne : PW ≠ PT)
    (G_sum : ∀ (T : Addr → Hp → Prop) (own : St → Int), HeldL P w K mg base 4 T (spOwn own) → ∀ d : Nat, FnOk P w K mg base CX0 (d + 5) fS fdS ["block", "own"] (spSum T own d))
    (b_psum_over : Binds K fdS ["block", "own"] []) (m_psum_over : mg "sum_over" = some (.ref fS)) : FnOk P w K mg base CX0 (D + 6) f fd ["program"] (spWeight PW PT D) := by
  refine F_pweight.ok scPWeight (fun vs H Q E h => ?_) (fun A outer s H vs Q E hr h => ?_)
  · obtain ⟨_, _, rfl, _⟩ := h
    rfl
  · obtain ⟨v, b, rfl, t, hf, hT, q⟩ := h
    have G_psum_over : FnOk P w K mg base CX0 (D + 5) fS fdS ["block", "own"] (fun vs H Q E => ∃ c', spSum (Tf0 (FW c')) (fun _ => 1) D vs H Q E) := FnOk.ex fun c' => G_sum _ _ (heldW c') D
    refine ⟨_, (pss_one (ps_ret (pe_call G_psum_over (hr.mono (by omega)) (by rfl) m_psum_over F_psum_over.kp b_psum_over .nil pass0 (pa_cons (pv 0) (pa_cons (pe_lambda (T := TL PW PT) (cl := []) TB rfl (List.mem_cons_self ..) (tl_w hne) rfl (fun _ y hy e => absurd e (lamFree0 sPWeight (by decide +kernel) y hy)) rfl) pa_nil))))), ?_⟩
    refine ⟨_, rfl, hT, fun f0 c' pm ctv H2 s2 hT2 n1 n2 hc _ => ?_⟩
    refine ⟨c', v, b, f0, rfl, (t.keep (fun b xs e => s2 b _ ?_ e)).new n2, ⟨rfl, ⟨pm, ctv, upd_same⟩, by rw [upd_ne (ne_of_none hc n2)]; exact hc⟩, hf, fun H3 s3 => q H3 (s2.trans ((Sx.n0 n2).trans s3).nil) (Tabs.sx hT2 ((Sx.n0 n2).trans s3))⟩
    intro hb
    obtain ⟨ps, hP, _⟩ := hT _ (List.mem_cons_self ..)
    rw [List.mem_singleton.mp hb, show H PW = _ from hP] at e
    cases e
abbrev FT (c' cc : Addr) : LF := ⟨lamQ "tested_in", (lamOf sPTestedIn).1, (lamOf sPTestedIn).2.1, (lamOf sPTestedIn).2.2, [("word", cc)], c'⟩
def ownT (z : Str) (s : St) : Int := if s.tw z = true then 1 else 0
def spTested (PW PT : Addr) (d : Nat) : Sp := fun vs H Q _ => ∃ (v : V) (b : Bk) (z : Str), vs = [v, .str z] ∧ Tp H v (.tuple b.ds) ∧ b.fac d ∧ LamX.Tabs (TL PW PT) H ∧ ∀ H', Sx [PT] H H' → LamX.Tabs (TL PW PT) H' → Q (.int (b.sumO (ownT z))) H'
theorem lamFree1 : ∀ y ∈ (lamOf sPTestedIn).2.2.names, y.2 = .free → (defScope sPTestedIn).names.lookup y.1 = some .cell := by decide +kernel
theorem heldT {f : Addr} {fd : FuncData} (F_ptests_with : Fun K "tests_with" "tests_with" sPTestsWith f fd) (G_ptests_with : FnOk P w K mg base CX0 2 f fd ["statement", "word"] spTestsWith) (b_ptests_with : Binds K fd ["statement", "word"] []) (m_ptests_with : mg "tests_with" = some (.ref f)) (z_int : mg "int" = none)
    (c' cc : Addr) (z : Str) : HeldL P w K mg base 4 (Tf1 (FT c' cc) "word" cc (.str z)) (spOwn (ownT z)) := by
  refine held1 (N := ["statement", "word"]) (a := "statement") (k := 3) nsT (fun pm ctv us hl => ?_) (fun f A outer s H _ hr => (pe_callTy call_int1 (by rfl) z_int boot_int (pa_cons (pe_call G_ptests_with (hr.mono (by omega)) (by rfl) m_ptests_with F_ptests_with.kp b_ptests_with .nil pass0 (pa_cons (pv 0) (pa_cons (pv 1) pa_nil))) pa_nil) : PE _ (lamOf sPTestedIn).2.1 _)) (fun vs H Q h => ?_) (fun vs H Q o e h => ?_)
  · match us, hl with | [_], _ => rfl
  · obtain ⟨_, _, rfl, _⟩ := h
    rfl
  · obtain ⟨v, s, rfl, t, q⟩ := h
    refine ⟨_, rfl, _, rfl, v, s, z, rfl, t.keep (Tk.cut e), .inr ⟨_, rfl, ?_⟩⟩
    show Q _ (upd (cut1 H cc) cc (Fz cc o))
    rw [upd_cut e]
    exact q H (Sx.refl _)
theorem ok_ptested {f fS fT : Addr} {fd fdS fdT : FuncData} {c PW PT : Addr} {D : Nat} (F_ptested_in : FunC K "tested_in" "tested_in" sPTestedIn f fd c) (F_psum_over : Fun K "sum_over" "sum_over" sPSumOver fS fdS) (TB : LamX.TabB base mg c PT) (hne : PW ≠ PT)
    (F_ptests_with : Fun K "tests_with" "tests_with" sPTestsWith fT fdT) (G_ptests_with : FnOk P w K mg base CX0 2 fT fdT ["statement", "word"] spTestsWith) (b_ptests_with : Binds K fdT ["statement", "word"] []) (m_ptests_with : mg "tests_with" = some (.ref fT)) (z_int : mg "int" = none)
    (G_sum : ∀ (T : Addr → Hp → Prop) (own : St → Int), HeldL P w K mg base 4 T (spOwn own) → ∀ d : Nat, FnOk P w K mg base CX0 (d + 5) fS fdS ["block", "own"] (spSum T own d))
    (b_psum_over : Binds K fdS ["block", "own"] []) (m_psum_over : mg "sum_over" = some (.ref fS)) : FnOk P w K mg base CX0 (D + 6) f fd ["block", "word"] (spTested PW PT D) := by
  refine F_ptested_in.ok scPTestedIn (fun vs H Q E h => ?_) (fun A outer s H vs Q E hr h => ?_)
  · obtain ⟨_, _, _, rfl, _⟩ := h
    rfl
  · obtain ⟨v, b, z, rfl, t, hf, hT, q⟩ := h
    have G_psum_over : FnOk P w K mg base CX0 (D + 5) fS fdS ["block", "own"] (fun vs H Q E => ∃ i : Addr × Addr, spSum (Tf1 (FT i.1 i.2) "word" i.2 (.str z)) (ownT z) D vs H Q E) := FnOk.ex fun i => G_sum _ _ (heldT F_ptests_with G_ptests_with b_ptests_with m_ptests_with z_int i.1 i.2 z) D
    refine ⟨_, (pss_one (ps_ret (pe_callC (j := 1) G_psum_over (hr.mono (by omega)) (by rfl) m_psum_over F_psum_over.kp b_psum_over (pa_cons (pv 0) (pa_cons (pe_lambda (T := TL PW PT) (cl := [("word", s.heap.objs.size + 1)]) TB rfl (List.mem_cons_of_mem _ (List.mem_cons_self ..)) (tl_t hne) rfl (fun ok y hy e => ok.has _ (.inl (lamFree1 y hy e))) rfl) pa_nil)) rfl rfl rfl))), ?_⟩
    refine ⟨_, rfl, hT, fun f0 c' pm ctv H2 s2 hT2 n1 n2 hc _ => ⟨.str z, rfl, fun cc oc u hcc ncc hoc hu => ?_⟩⟩
    have ecc : s.heap.objs.size + 1 = cc := by
      have e : List.lookup ("word" : Str) ([("word", s.heap.objs.size + 1)] : List (Str × Addr)) = some cc := hcc
      simpa [List.lookup] using e
    subst ecc
    have n3 : H2 (s.heap.objs.size + 1) = none := by
      by_cases e : s.heap.objs.size + 1 = f0
      · rw [e]; exact n2
      · rw [upd_ne e] at ncc; exact ncc
    have nf : f0 ≠ s.heap.objs.size + 1 := fun e => by rw [e, upd_same] at ncc; cases ncc
    have kT : Tk H H2 := fun b xs e => s2 b _ (fun hb => by
      obtain ⟨ps, hP, _⟩ := hT _ (List.mem_cons_of_mem _ (List.mem_cons_self ..))
      rw [List.mem_singleton.mp hb, show H PT = _ from hP] at e
      cases e) e
    have hcf : c' ≠ f0 := ne_of_none hc n2
    have hcc2 : c' ≠ s.heap.objs.size + 1 := ne_of_none hc n3
    refine ⟨(c', s.heap.objs.size + 1), v, b, f0, rfl, ((t.keep kT).new n2).new ncc, ⟨rfl, ⟨pm, ctv, by rw [upd_ne nf]; exact upd_same⟩, by rw [upd_ne hcc2, upd_ne hcf]; exact hc, oc, u, upd_same, hoc, hu⟩, hf, fun H3 s3 => ?_⟩
    have s4 : Sx [] H2 (cut1 H3 (s.heap.objs.size + 1)) := (Sx.n0 n2).trans (s3.cut ncc)
    exact q _ (s2.trans s4.nil) (Tabs.sx hT2 s4)
end
abbrev sPIsBetween : Stmt := topS 19
abbrev nPIsBetween : List Str := ["value", "low", "high"]
theorem scPIsBetween : FnScope nPIsBetween ["value", "low", "high"] (defScope sPIsBetween) := ⟨rfl, rfl, rfl, by decide +kernel, rfl, by decide +kernel, by decide +kernel⟩
abbrev sPIsHeaded : Stmt := topS 20
abbrev nPIsHeaded : List Str := ["value", "word", "size"]
theorem scPIsHeaded : FnScope nPIsHeaded ["value", "word", "size"] (defScope sPIsHeaded) := ⟨rfl, rfl, rfl, by decide +kernel, rfl, by decide +kernel, by decide +kernel⟩
abbrev sPIsName : Stmt := topS 21
abbrev nPIsName : List Str := ["value", "letter"]
theorem scPIsName : FnScope nPIsName ["value"] (defScope sPIsName) := ⟨rfl, rfl, rfl, by decide +kernel, rfl, by decide +kernel, by decide +kernel⟩
abbrev sPIsExpression : Stmt := topS 22
abbrev nPIsExpression : List Str := ["value", "deep"]
theorem scPIsExpression : FnScope nPIsExpression ["value", "deep"] (defScope sPIsExpression) := ⟨rfl, rfl, rfl, by decide +kernel, rfl, by decide +kernel, by decide +kernel⟩
abbrev sPIsTest : Stmt := topS 23
abbrev nPIsTest : List Str := ["value", "nots"]
theorem scPIsTest : FnScope nPIsTest ["value", "nots"] (defScope sPIsTest) := ⟨rfl, rfl, rfl, by decide +kernel, rfl, by decide +kernel, by decide +kernel⟩
abbrev sPIsStatement : Stmt := topS 24
abbrev nPIsStatement : List Str := ["value"]
theorem scPIsStatement : FnScope nPIsStatement ["value"] (defScope sPIsStatement) := ⟨rfl, rfl, rfl, by decide +kernel, rfl, by decide +kernel, by decide +kernel⟩
abbrev sPBoundError : Stmt := topS 29
abbrev nPBoundError : List Str := ["program"]
theorem scPBoundError : FnScope nPBoundError ["program"] (defScope sPBoundError) := ⟨rfl, rfl, rfl, by decide +kernel, rfl, by decide +kernel, by decide +kernel⟩
/-! ### what statements look like, of typed ones -/
def Ex.nm : Ex → Prop
  | .int _ => True
  | .name z => NmOk z
  | .plus x y => x.nm ∧ y.nm
  | .minus x y => x.nm ∧ y.nm
  | .times _ x => x.nm
def Ts.nm : Ts → Prop
  | .rest x _ _ => x.nm
  | .less x y => x.nm ∧ y.nm
  | .not t => t.nm
def St.nm : St → Prop
  | .set z e => NmOk z ∧ e.nm
  | .pay e => e.nm
  | .ite t _ _ => t.nm
  | _ => True
def Ex.okB : Ex → Nat → Bool
  | .int i, n => decide (0 < n) && (decide (-99 ≤ i) && decide (i ≤ 99))
  | .name _, n => decide (0 < n)
  | .plus x y, n => decide (0 < n) && (x.okB (n - 1) && y.okB (n - 1))
  | .minus x y, n => decide (0 < n) && (x.okB (n - 1) && y.okB (n - 1))
  | .times f x, n => decide (0 < n) && ((decide (-9 ≤ f) && decide (f ≤ 9)) && x.okB (n - 1))
def Ts.okB : Ts → Nat → Bool
  | .rest x b r, _ => (decide (2 ≤ b) && decide (b ≤ 6)) && (x.okB 3 && (decide (0 ≤ r) && decide (r ≤ b - 1)))
  | .less x y, _ => x.okB 3 && y.okB 3
  | .not t, n => decide (0 < n) && t.okB (n - 1)
def St.okB : St → Bool
  | .set _ e => e.okB 3
  | .pay e => e.okB 3
  | .stop => true
  | .ite t _ _ => t.okB 2
  | .rep k _ => decide (1 ≤ k) && decide (k ≤ 8)
def HdV (H : Hp) (v : V) (hd : Option (Str × Nat)) : Prop := (∃ i, v = .int i ∧ hd = none) ∨ (∃ z, v = .str z ∧ hd = none) ∨ ∃ a h xs, v = .ref a ∧ H a = some (.tup (.str h :: xs)) ∧ hd = some (h, xs.length + 1)
def hdIs (hd : Option (Str × Nat)) (word : Str) (n : Int) : Bool := match hd with
  | none => false
  | some (h, m) => decide (V.int ((m : Nat) : Int) = V.int n) && decide (V.str h = V.str word)
def Ex.hdv : Ex → Option (Str × Nat)
  | .int _ => none
  | .name _ => none
  | .plus _ _ => some ("plus", 3)
  | .minus _ _ => some ("minus", 3)
  | .times _ _ => some ("times", 3)
def Ts.hdv : Ts → Option (Str × Nat)
  | .rest _ _ _ => some ("rest", 4)
  | .less _ _ => some ("less", 3)
  | .not _ => some ("not", 2)
def St.hdv : St → Option (Str × Nat)
  | .set _ _ => some ("set", 3)
  | .pay _ => some ("pay", 2)
  | .stop => some ("stop", 1)
  | .ite _ _ _ => some ("if", 4)
  | .rep _ _ => some ("repeat", 3)
theorem Ex.hdV {H : Hp} {v : V} {e : Ex} (t : Tp H v e.d) : HdV H v e.hdv := by
  cases e with
  | int i => exact .inl ⟨i, tpI t, rfl⟩
  | name z => exact .inr (.inl ⟨z, tpS t, rfl⟩)
  | plus x y => obtain ⟨a, p, q, r, rfl, ha, t1, _⟩ := tp3 t; obtain rfl := tpS t1; exact .inr (.inr ⟨a, _, _, rfl, ha, rfl⟩)
  | minus x y => obtain ⟨a, p, q, r, rfl, ha, t1, _⟩ := tp3 t; obtain rfl := tpS t1; exact .inr (.inr ⟨a, _, _, rfl, ha, rfl⟩)
  | times f x => obtain ⟨a, p, q, r, rfl, ha, t1, _⟩ := tp3 t; obtain rfl := tpS t1; exact .inr (.inr ⟨a, _, _, rfl, ha, rfl⟩)
theorem Ts.hdV {H : Hp} {v : V} {e : Ts} (t : Tp H v e.d) : HdV H v e.hdv := by
  cases e with
  | rest x b r => obtain ⟨a, p, q, r, s, rfl, ha, t1, _⟩ := tp4 t; obtain rfl := tpS t1; exact .inr (.inr ⟨a, _, _, rfl, ha, rfl⟩)
  | less x y => obtain ⟨a, p, q, r, rfl, ha, t1, _⟩ := tp3 t; obtain rfl := tpS t1; exact .inr (.inr ⟨a, _, _, rfl, ha, rfl⟩)
  | not x => obtain ⟨a, p, q, rfl, ha, t1, _⟩ := tp2 t; obtain rfl := tpS t1; exact .inr (.inr ⟨a, _, _, rfl, ha, rfl⟩)
theorem St.hdV {H : Hp} {v : V} {e : St} (t : Tp H v e.d) : HdV H v e.hdv := by
  cases e with
  | set z x => obtain ⟨a, p, q, r, rfl, ha, t1, _⟩ := tp3 t; obtain rfl := tpS t1; exact .inr (.inr ⟨a, _, _, rfl, ha, rfl⟩)
  | pay x => obtain ⟨a, p, q, rfl, ha, t1, _⟩ := tp2 t; obtain rfl := tpS t1; exact .inr (.inr ⟨a, _, _, rfl, ha, rfl⟩)
  | stop => obtain ⟨a, p, rfl, ha, t1⟩ := tp1 t; obtain rfl := tpS t1; exact .inr (.inr ⟨a, _, _, rfl, ha, rfl⟩)
  | ite x y z => obtain ⟨a, p, q, r, s, rfl, ha, t1, _⟩ := tp4 t; obtain rfl := tpS t1; exact .inr (.inr ⟨a, _, _, rfl, ha, rfl⟩)
  | rep k y => obtain ⟨a, p, q, r, rfl, ha, t1, _⟩ := tp3 t; obtain rfl := tpS t1; exact .inr (.inr ⟨a, _, _, rfl, ha, rfl⟩)
theorem hd_no {hd : Option (Str × Nat)} {w : Str} {n : Int} (h : hdIs hd w n = false) {A B : Prop} (q : B) : if hdIs hd w n = true then A else B := by rw [h]; exact q
theorem hd_yes {hd : Option (Str × Nat)} {w : Str} {n : Int} (h : hdIs hd w n = true) {A B : Prop} (q : A) : if hdIs hd w n = true then A else B := by rw [h]; exact q
theorem lc_str {x : Str} {g : TG} {tt : TT} {te : TE} {vs : List Nat} {σ : L2.St} {H1 : Hp} {D : Addr} {Qd : Hp → Prop} (Pv : Nat → Hp → Prop) (h0 : Pv 0 (upd H1 D (.lst [])))
    (hs : ∀ i c H, x.cps[i]? = some c → Pv i H → g (.str ⟨#[c]⟩) (wipe σ vs) H fun σ2 H2 => wipe σ2 vs = wipe σ vs ∧ tt σ2 H2 fun b H3 => if b = true then te σ2 H3 fun y H4 => ∃ acc, H4 D = some (.lst acc) ∧ acc.length < sizeLine ∧ Pv (i + 1) (upd H4 D (.lst (acc ++ [y]))) else Pv (i + 1) H3) (hd : ∀ H, Pv x.cps.size H → Qd H) :
    ∃ W : Nat → Nat → Hp → Prop, (∃ m, W 0 m (upd H1 D (.lst []))) ∧ ∀ i m H, W i m H → ((Its x).stop i H ∧ Qd H) ∨ ((Its x).go i H ∧ ∃ Nx : Hp → Prop, (∀ H', Nx H' → ∃ m', m' < m ∧ W (i + 1) m' H') ∧ ∀ y H', (Its x).yld i H y H' → g y (wipe σ vs) H' fun σ2 H2 => wipe σ2 vs = wipe σ vs ∧ tt σ2 H2 fun b H3 =>
      if (b = true) then te σ2 H3 fun y H4 => ∃ acc, H4 D = some (.lst acc) ∧ acc.length < sizeLine ∧ Nx (upd H4 D (.lst (acc ++ [y]))) else Nx H3) := by
  refine ⟨fun i m H => m = x.cps.size - i ∧ i ≤ x.cps.size ∧ Pv i H, ⟨x.cps.size, by simp, Nat.zero_le _, h0⟩, ?_⟩
  rintro i m H ⟨rfl, hi, p⟩
  by_cases hlt : i < x.cps.size
  · exact .inr ⟨hlt, Pv (i + 1), fun H' p' => ⟨x.cps.size - (i + 1), by omega, rfl, hlt, p'⟩, fun v H' y => by obtain ⟨rfl, c, hc, rfl⟩ := y; exact hs i c _ hc p⟩
  · obtain rfl : i = x.cps.size := by omega
    exact (.inl ⟨Nat.le_refl _, hd H p⟩)
theorem not_word {z : Str} (h : z ∉ WordsK) : inV (.str z) (WordsK.map V.str) = false := by
  unfold inV
  rw [List.any_eq_false]
  intro y hy
  obtain ⟨x, hx, rfl⟩ := List.mem_map.mp hy
  have : x ≠ z := fun e => h (e ▸ hx)
  simp [eqV, this]
theorem ab_all : ((List.range 128).all fun c => !decide (97 ≤ c ∧ c ≤ 122) || decide (c ∈ (Str.ofString "abcdefghijklmnopqrstuvwxyz").cps.toList)) = true := by decide +kernel
theorem ab09_all : ((List.range 128).all fun c => !decide ((97 ≤ c ∧ c ≤ 122) ∨ (48 ≤ c ∧ c ≤ 57)) || decide (c ∈ (Str.ofString "abcdefghijklmnopqrstuvwxyz" ++ Str.ofString "0123456789").cps.toList)) = true := by decide +kernel
theorem ab_mem (c : Nat) (h : 97 ≤ c ∧ c ≤ 122) : c ∈ (Str.ofString "abcdefghijklmnopqrstuvwxyz").cps.toList := by
  have := List.all_eq_true.mp ab_all c (List.mem_range.mpr (by omega))
  rw [decide_eq_true h] at this
  simpa using this
theorem ab09_mem (c : Nat) (h : (97 ≤ c ∧ c ≤ 122) ∨ (48 ≤ c ∧ c ≤ 57)) : c ∈ (Str.ofString "abcdefghijklmnopqrstuvwxyz" ++ Str.ofString "0123456789").cps.toList := by
  have := List.all_eq_true.mp ab09_all c (List.mem_range.mpr (by omega))
  rw [decide_eq_true h] at this
  exact of_decide_eq_true (by simpa using this)
def spBetween : Sp := fun vs H Q _ => ∃ i lo hi : Int, vs = [.int i, .int lo, .int hi] ∧ Q (.bl (decide (lo ≤ i) && decide (i ≤ hi))) H
def spHeaded : Sp := fun vs H Q _ => ∃ (v : V) (hd : Option (Str × Nat)) (word : Str) (n : Int), vs = [v, .str word, .int n] ∧ HdV H v hd ∧ Q (.bl (hdIs hd word n)) H
def spName : Sp := fun vs H Q _ => ∃ z : Str, vs = [.str z] ∧ NmOk z ∧ ∀ H', Sx [] H H' → Q (.bl true) H'
def spIsExpr (m : Nat) : Sp := fun vs H Q _ => ∃ (v : V) (e : Ex) (n : Nat), vs = [v, .int n] ∧ n < m ∧ Tp H v e.d ∧ e.nm ∧ ∀ H', Sx [] H H' → Q (.bl (e.okB n)) H'
def spIsTest (m : Nat) : Sp := fun vs H Q _ => ∃ (v : V) (e : Ts) (n : Nat), vs = [v, .int n] ∧ n < m ∧ Tp H v e.d ∧ e.nm ∧ ∀ H', Sx [] H H' → Q (.bl (e.okB n)) H'
def spIsSt : Sp := fun vs H Q _ => ∃ (v : V) (s : St), vs = [v] ∧ Tp H v s.d ∧ s.nm ∧ ∀ H', Sx [] H H' → Q (.bl s.okB) H'
section
variable {w : World} {P : Program} {K : PySem.W.Frag} {mg : Str → Option Value} {base : Heap}
end
section
variable {w : World} {P : Program} {K : PySem.W.Frag} {mg : Str → Option Value} {base : Heap}
theorem abs_le99 {i : Int} : decide ((if i < 0 then -i else i) ≤ 99) = (decide (-99 ≤ i) && decide (i ≤ 99)) := by
  rw [← Bool.decide_and, decide_eq_decide]
  split <;> omega
end
section
variable {w : World} {P : Program} {K : PySem.W.Frag} {mg : Str → Option Value} {base : Heap}
end
/-- the first bound that is passed -/
def Bk.bnd (b : Bk) : PyData :=
  if 24 < (b.sz : Int) then .tuple [.none, .str "places"] else if 30 < b.sumO (fun _ => 1) then .tuple [.none, .str "weight"]
  else if 2 < b.sumO (ownT "rest") then .tuple [.none, .str "rests"] else if 2 < b.sumO (ownT "less") then .tuple [.none, .str "comparings"] else .none
def spBound (PW PT : Addr) (d : Nat) : Sp := fun vs H Q _ => ∃ (v : V) (b : Bk), vs = [v] ∧ Tp H v (.tuple b.ds) ∧ b.fac d ∧ b.sz < 16777216 ∧ LamX.Tabs (TL PW PT) H ∧ ∀ H' r, Sx [PW, PT] H H' → LamX.Tabs (TL PW PT) H' → Tp H' r b.bnd → Q r H'
theorem tabs_tk {PW PT : Addr} {H H' : Hp} (hT : LamX.Tabs (TL PW PT) H) (s : Sx [PW, PT] H H') : Tk H H' := fun b xs e => s b _ (fun hb => by
  rcases List.mem_cons.1 hb with rfl | hb
  · obtain ⟨ps, hP, _⟩ := hT _ (List.mem_cons_self ..)
    rw [show H b = _ from hP] at e
    cases e
  · obtain ⟨ps, hP, _⟩ := hT _ (List.mem_cons_of_mem _ (List.mem_cons_self ..))
    rw [List.mem_singleton.mp hb, show H PT = _ from hP] at e
    cases e) e
section
variable {w : World} {P : Program} {K : PySem.W.Frag} {mg : Str → Option Value} {base : Heap}
theorem ok_pbound {f fP fW fT : Addr} {fd fdP fdW fdT : FuncData} {c1 c2 PW PT : Addr} {D : Nat} {t1 t2 t3 t4 : Tok} (F_pbound_error : Fun K "bound_error" "bound_error" sPBoundError f fd) (F_pplaces_in : Fun K "places_in" "places_in" sPPlacesIn fP fdP) (F_pweight : FunC K "weight" "weight" sPWeight fW fdW c1) (F_ptested_in : FunC K "tested_in" "tested_in" sPTestedIn fT fdT c2)
    (G_pplaces_in : FnOk P w K mg base CX0 6 fP fdP ["block"] spPlaces) (G_pweight : FnOk P w K mg base CX0 (D + 6) fW fdW ["program"] (spWeight PW PT D)) (G_ptested_in : FnOk P w K mg base CX0 (D + 6) fT fdT ["block", "word"] (spTested PW PT D))
    (b_pplaces_in : Binds K fdP ["block"] []) (b_pweight : Binds K fdW ["program"] []) (b_ptested_in : Binds K fdT ["block", "word"] []) (m_pplaces_in : mg "places_in" = some (.ref fP)) (m_pweight : mg "weight" = some (.ref fW)) (m_ptested_in : mg "tested_in" = some (.ref fT))
    (m_MAX_PLACES : mg "MAX_PLACES" = some (.int 24 t1)) (m_MAX_WEIGHT : mg "MAX_WEIGHT" = some (.int 30 t2)) (m_MAX_RESTS : mg "MAX_RESTS" = some (.int 2 t3)) (m_MAX_COMPARINGS : mg "MAX_COMPARINGS" = some (.int 2 t4)) : FnOk P w K mg base CX0 (D + 7) f fd ["program"] (spBound PW PT D) := by
  refine F_pbound_error.ok scPBoundError (fun vs H Q E h => ?_) (fun cdv A outer s H vs Q E hr h => ?_)
  · obtain ⟨_, _, rfl, _⟩ := h
    rfl
  · obtain ⟨v, b, rfl, t, hf, hz, hT, q⟩ := h
    refine ⟨_, (pss_cons (ps_if (pt_cmpR op_gt (pe_call G_pplaces_in (hr.mono (by omega)) (by rfl) m_pplaces_in F_pplaces_in.kp b_pplaces_in .nil pass0 (pa_cons (pv 0) pa_nil)) (pe_glob (v := .int 24) (by rfl) m_MAX_PLACES ⟨_, rfl⟩) (nomark _)) (pss_one (ps_ret (pe_tup (pa_cons pe_non (pa_cons pe_str pa_nil))))) pss_nil)
      (pss_cons (ps_if (pt_cmpR op_gt (pe_call G_pweight (hr.mono (by omega)) (by rfl) m_pweight F_pweight.kp b_pweight .nil pass0 (pa_cons (pv 0) pa_nil)) (pe_glob (v := .int 30) (by rfl) m_MAX_WEIGHT ⟨_, rfl⟩) (nomark _)) (pss_one (ps_ret (pe_tup (pa_cons pe_non (pa_cons pe_str pa_nil))))) pss_nil)
      (pss_cons (ps_if (pt_cmpR op_gt (pe_call G_ptested_in (hr.mono (by omega)) (by rfl) m_ptested_in F_ptested_in.kp b_ptested_in .nil pass0 (pa_cons (pv 0) (pa_cons pe_str pa_nil))) (pe_glob (v := .int 2) (by rfl) m_MAX_RESTS ⟨_, rfl⟩) (nomark _)) (pss_one (ps_ret (pe_tup (pa_cons pe_non (pa_cons pe_str pa_nil))))) pss_nil)
      (pss_cons (ps_if (pt_cmpR op_gt (pe_call G_ptested_in (hr.mono (by omega)) (by rfl) m_ptested_in F_ptested_in.kp b_ptested_in .nil pass0 (pa_cons (pv 0) (pa_cons pe_str pa_nil))) (pe_glob (v := .int 2) (by rfl) m_MAX_COMPARINGS ⟨_, rfl⟩) (nomark _)) (pss_one (ps_ret (pe_tup (pa_cons pe_non (pa_cons pe_str pa_nil))))) pss_nil)
      (pss_one (ps_ret pe_non)))))), ?_⟩
    unfold Bk.bnd at q
    have told : ∀ (z : Str) {H1 : Hp} {p : Addr}, H1 p = none → Tp (upd H1 p (.tup [.non, .str z])) (.ref p) (.tuple [.none, .str z]) := fun z H1 p hp => .tup upd_same (.cons .non (.cons (.str z) .nil))
    refine ⟨_, rfl, v, b, rfl, t, hz, fun H1 s1 => ⟨_, 24, rfl, rfl, _, rfl, ite2 (fun e => ?_) (fun e => ?_)⟩⟩
    · rw [if_pos (of_decide_eq_true e)] at q
      exact ⟨by show 2 ≤ sizeLine; decide, fun p hp => q _ _ (s1.new hp).nil (Tabs.sx hT (s1.new hp)) (told _ hp)⟩
    · rw [if_neg (fun z => e (decide_eq_true z))] at q
      refine ⟨_, rfl, v, b, rfl, t.keep s1.tk0, hf, Tabs.sx hT s1, fun H2 s2 hT2 => ⟨_, 30, rfl, rfl, _, rfl, ite2 (fun e => ?_) (fun e => ?_)⟩⟩
      · rw [if_pos (of_decide_eq_true e)] at q
        exact ⟨by show 2 ≤ sizeLine; decide, fun p hp => q _ _ ((s1.nil.trans (s2.mono (by simp))).new hp) (Tabs.sx hT2 (Sx.n0 hp)) (told _ hp)⟩
      · rw [if_neg (fun z => e (decide_eq_true z))] at q
        have s12 : Sx [PW, PT] H H2 := s1.nil.trans (s2.mono (by simp))
        refine ⟨_, rfl, v, b, "rest", rfl, t.keep (tabs_tk hT s12), hf, hT2, fun H3 s3 hT3 => ⟨_, 2, rfl, rfl, _, rfl, ite2 (fun e => ?_) (fun e => ?_)⟩⟩
        · rw [if_pos (of_decide_eq_true e)] at q
          exact ⟨by show 2 ≤ sizeLine; decide, fun p hp => q _ _ ((s12.trans (s3.mono (by simp))).new hp) (Tabs.sx hT3 (Sx.n0 hp)) (told _ hp)⟩
        · rw [if_neg (fun z => e (decide_eq_true z))] at q
          have s13 : Sx [PW, PT] H H3 := s12.trans (s3.mono (by simp))
          refine ⟨_, rfl, v, b, "less", rfl, t.keep (tabs_tk hT s13), hf, hT3, fun H4 s4 hT4 => ⟨_, 2, rfl, rfl, _, rfl, ite2 (fun e => ?_) (fun e => ?_)⟩⟩
          · rw [if_pos (of_decide_eq_true e)] at q
            exact ⟨by show 2 ≤ sizeLine; decide, fun p hp => q _ _ ((s13.trans (s4.mono (by simp))).new hp) (Tabs.sx hT4 (Sx.n0 hp)) (told _ hp)⟩
          · rw [if_neg (fun z => e (decide_eq_true z))] at q
            exact q _ _ (s13.trans (s4.mono (by simp))) hT4 .non
end
/-! ### what a run does not wake stays asleep -/
def isRet : Frame → Bool
  | .ret .. => true
  | .gen .. => false
/-- a generator that no run can wake -/
def Poison (x : GenState) : Prop := ∃ w l c p fs cl, x = .suspended (fun _ => .unsupported w) l c p fs cl
def GoodSt : GenState → Prop
  | .suspended _ _ _ _ fs _ => ∀ F ∈ fs, isRet F = true
  | _ => True
def EndRet : End → Prop
  | .ret _ => True
  | .susp _ _ _ _ _ _ fs => ∀ F ∈ fs, isRet F = true
/-- R is X but where X cannot be woken; there both look alike -/
def RelG (R X : Array GenState) : Prop := R.size = X.size ∧ ∀ (i : Nat) (x : GenState), X[i]? = some x → (R[i]? = some x ∧ GoodSt x) ∨ (Poison x ∧ ∃ r : GenState, R[i]? = some r ∧ r.seen = x.seen ∧ r.bare = x.bare)
def KeptG (R X R' X' : Array GenState) : Prop := ∀ (i : Nat) (x : GenState), X[i]? = some x → (Poison x ∨ x = .running) → X'[i]? = some x ∧ R'[i]? = R[i]?
theorem KeptG.refl {R X : Array GenState} : KeptG R X R X := fun _ _ h _ => ⟨h, rfl⟩
theorem KeptG.trans {R X R1 X1 R2 X2 : Array GenState} (a : KeptG R X R1 X1) (b : KeptG R1 X1 R2 X2) : KeptG R X R2 X2 := fun i x h p => by
  obtain ⟨h1, h2⟩ := a i x h p
  obtain ⟨h3, h4⟩ := b i x h1 p
  exact ⟨h3, h4.trans h2⟩
theorem no_run {M : Model} {Γ : PySem.Ctx} {p : Pos} {t : Sem PySem.Fin} {fs : List Frame} {s s' : Shared} {e : End} (h : Runs M Γ p t fs s e s') : ∀ w, t ≠ .unsupported w := by
  induction h with
  | segRet _ _ ih _ => exact ih
  | segGen _ _ ih _ => exact ih
  | segSuspOut _ _ ih => exact ih
  | segSuspGen _ _ _ _ ih _ => exact ih
  | _ => intro w z; cases z
theorem RelG.get {R X : Array GenState} (r : RelG R X) {i : Nat} {x : GenState} (h : X[i]? = some x) (n : ¬ Poison x) : R[i]? = some x ∧ GoodSt x := by
  rcases r.2 i x h with z | z
  · exact z
  · exact absurd z.1 n
theorem RelG.push {R X : Array GenState} {st : GenState} (r : RelG R X) (g : GoodSt st) : RelG (R.push st) (X.push st) ∧ KeptG R X (R.push st) (X.push st) := by
  obtain ⟨hs, hr⟩ := r
  refine ⟨⟨by rw [Array.size_push, Array.size_push, hs], fun i x h => ?_⟩, fun i x h _ => ?_⟩
  · by_cases hi : i = X.size
    · subst hi
      rw [Array.getElem?_push_size] at h
      cases h
      exact .inl ⟨by rw [← hs]; exact Array.getElem?_push_size .., g⟩
    · have h2 : X[i]? = some x := by rw [Array.getElem?_push, if_neg hi] at h; exact h
      have e : ∀ st, (R.push st)[i]? = R[i]? := fun st => by rw [Array.getElem?_push, if_neg (by rw [hs]; exact hi)]
      rw [e]
      exact hr i x h2
  · have hi : i < X.size := (Array.getElem?_eq_some_iff.mp h).1
    exact ⟨by rw [Array.getElem?_push, if_neg (Nat.ne_of_lt hi)]; exact h, by rw [Array.getElem?_push, if_neg (by rw [hs]; exact Nat.ne_of_lt hi)]⟩
theorem RelG.set {R X : Array GenState} {g : Nat} {st : GenState} (r : RelG R X) (hg : GoodSt st) : RelG (R.setIfInBounds g st) (X.setIfInBounds g st) := by
  obtain ⟨hs, hr⟩ := r
  refine ⟨by rw [Array.size_setIfInBounds, Array.size_setIfInBounds, hs], fun i x h => ?_⟩
  by_cases hi : g = i
  · subst hi
    by_cases hb : g < X.size
    · rw [Array.getElem?_setIfInBounds_self_of_lt hb] at h
      cases h
      exact .inl ⟨Array.getElem?_setIfInBounds_self_of_lt (by rw [hs]; exact hb), hg⟩
    · have := (Array.getElem?_eq_some_iff.mp h).1
      rw [Array.size_setIfInBounds] at this
      exact absurd this hb
  · rw [Array.getElem?_setIfInBounds_ne hi] at h ⊢
    exact hr i x h
/-- what is written at g, which was awake to nothing -/
theorem KeptG.at {R X R1 X1 : Array GenState} {g : Nat} {st : GenState} (k : KeptG R X R1 X1) (n : ∀ x, X[g]? = some x → ¬ (Poison x ∨ x = .running)) : KeptG R X (R1.setIfInBounds g st) (X1.setIfInBounds g st) := fun i x h p => by
  have hi : g ≠ i := fun z => by subst z; exact n x h p
  rw [Array.getElem?_setIfInBounds_ne hi, Array.getElem?_setIfInBounds_ne hi]
  exact k i x h p
theorem split_ret : ∀ {fs : List Frame}, (∀ F ∈ fs, isRet F = true) → splitAtGen fs = none
  | [], _ => rfl
  | .ret .. :: r, h => by
    show (splitAtGen r).map _ = none
    rw [split_ret fun F hF => h F (List.mem_cons_of_mem _ hF)]
    rfl
  | .gen .. :: r, h => by have := h _ List.mem_cons_self; cases this
theorem not_poison_fresh {c : Code} : ¬ Poison (.fresh c) := fun ⟨_, _, _, _, _, _, h⟩ => by cases h
theorem not_poison_running : ¬ Poison .running := fun ⟨_, _, _, _, _, _, h⟩ => by cases h
theorem not_poison_finished : ¬ Poison .finished := fun ⟨_, _, _, _, _, _, h⟩ => by cases h
theorem good_of {e : End} (h : EndRet e) : GoodSt e.genState := by
  cases e with
  | ret r => trivial
  | susp => exact h
theorem wake_free {x y : GenState} (h : some x = some y) (n : ¬ Poison x) (m : x ≠ .running) : ¬ (Poison y ∨ y = .running) := by
  cases h
  exact fun z => z.elim n m
theorem not_poison_run {M : Model} {Γ : PySem.Ctx} {p p₂ : Pos} {k : Resume → Sem PySem.Fin} {r : Resume} {fs fs₂ : List Frame} {s s' : Shared} {e : End} {l : List Value} {c : Code} {cl : Bool} {y : GenState} (h : Runs M Γ p (k r) fs s e s') (hy : y = .suspended k l c p₂ fs₂ cl) : ¬ Poison y := fun ⟨w, _, _, _, _, _, z⟩ => by
  rw [hy] at z
  injection z with z1
  exact no_run h w (by rw [z1])
theorem np_at {M : Model} {Γ : PySem.Ctx} {p p₂ : Pos} {k : Resume → Sem PySem.Fin} {r : Resume} {fs fs₂ : List Frame} {s s' : Shared} {e : End} {l : List Value} {c : Code} {cl : Bool} {G : Array GenState} {g : Nat} (_ : G[g]? = some (.suspended k l c p₂ fs₂ cl)) (h : Runs M Γ p (k r) fs s e s') : ¬ Poison (.suspended k l c p₂ fs₂ cl) := not_poison_run h rfl
theorem swap {M : Model} {Γ : PySem.Ctx} {p : Pos} {t : Sem PySem.Fin} {fs : List Frame} {s s' : Shared} {e : End} (h : Runs M Γ p t fs s e s') :
    (∀ F ∈ fs, isRet F = true) → ∀ R, RelG R s.gens → ∃ R', RelG R' s'.gens ∧ KeptG R s.gens R' s'.gens ∧ Runs M Γ p t fs { s with gens := R } e { s' with gens := R' } ∧ EndRet e := by
  induction h with
  | done => intro _ R r; exact ⟨R, r, .refl, .done, trivial⟩
  | raise => intro _ R r; exact ⟨R, r, .refl, .raise, trivial⟩
  | again q _ ih => intro hf R r; obtain ⟨R', r', k, h', e'⟩ := ih hf R r; exact ⟨R', r', k, .again q h', e'⟩
  | rule _ ih => intro hf R r; obtain ⟨R', r', k, h', e'⟩ := ih hf R r; exact ⟨R', r', k, .rule h', e'⟩
  | «at» _ ih => intro hf R r; obtain ⟨R', r', k, h', e'⟩ := ih hf R r; exact ⟨R', r', k, .at h', e'⟩
  | load ho _ ih => intro hf R r; obtain ⟨R', r', k, h', e'⟩ := ih hf R r; exact ⟨R', r', k, .load ho h', e'⟩
  | update ho _ ih => intro hf R r; obtain ⟨R', r', k, h', e'⟩ := ih hf R r; exact ⟨R', r', k, .update ho h', e'⟩
  | loadIfAlive _ ih => intro hf R r; obtain ⟨R', r', k, h', e'⟩ := ih hf R r; exact ⟨R', r', k, .loadIfAlive h', e'⟩
  | point _ ih => intro hf R r; obtain ⟨R', r', k, h', e'⟩ := ih hf R r; exact ⟨R', r', k, .point h', e'⟩
  | alloc _ ih => intro hf R r; obtain ⟨R', r', k, h', e'⟩ := ih hf R r; exact ⟨R', r', k, .alloc h', e'⟩
  | fresh _ ih => intro hf R r; obtain ⟨R', r', k, h', e'⟩ := ih hf R r; exact ⟨R', r', k, .fresh h', e'⟩
  | ask _ ih => intro hf R r; obtain ⟨R', r', k, h', e'⟩ := ih hf R r; exact ⟨R', r', k, .ask h', e'⟩
  | choose hn _ ih => intro hf R r; obtain ⟨R', r', k, h', e'⟩ := ih hf R r; exact ⟨R', r', k, .choose hn h', e'⟩
  | os _ ih => intro hf R r; obtain ⟨R', r', k, h', e'⟩ := ih hf R r; exact ⟨R', r', k, .os h', e'⟩
  | handled _ ih => intro hf R r; obtain ⟨R', r', k, h', e'⟩ := ih hf R r; exact ⟨R', r', k, .handled h', e'⟩
  | genState hg _ ih =>
    intro hf R r
    obtain ⟨R', r', k, h', e'⟩ := ih hf R r
    rcases r.2 _ _ hg with z | ⟨_, st, z1, z2, _⟩
    · exact ⟨R', r', k, .genState z.1 h', e'⟩
    · refine ⟨R', r', k, .genState z1 ?_, e'⟩
      rw [z2]
      exact h'
  | stack _ ih => intro hf R r; obtain ⟨R', r', k, h', e'⟩ := ih hf R r; exact ⟨R', r', k, .stack h', e'⟩
  | thread _ ih => intro hf R r; obtain ⟨R', r', k, h', e'⟩ := ih hf R r; exact ⟨R', r', k, .thread h', e'⟩
  | newGen _ ih =>
    intro hf R r
    obtain ⟨r1, k1⟩ := r.push (st := .fresh _) trivial
    obtain ⟨R', r', k, h', e'⟩ := ih hf _ r1
    refine ⟨R', r', k1.trans k, .newGen ?_, e'⟩
    rw [r.1]
    exact h'
  | call _ _ ih1 ih2 =>
    intro hf R r
    obtain ⟨R1, r1, k1, h1, _⟩ := ih1 (fun _ z => by cases z) R r
    obtain ⟨R2, r2, k2, h2, e2⟩ := ih2 hf R1 r1
    exact ⟨R2, r2, k1.trans k2, .call h1 h2, e2⟩
  | callSusp _ ih =>
    intro hf R r
    obtain ⟨R1, r1, k1, h1, e1⟩ := ih (fun _ z => by cases z) R r
    refine ⟨R1, r1, k1, .callSusp h1, fun F hF => ?_⟩
    rcases List.mem_append.1 hF with z | z
    · exact e1 F z
    · rw [List.mem_singleton.mp z]; rfl
  | yield => intro _ R r; exact ⟨R, r, .refl, .yield, fun _ z => by cases z⟩
  | resumeFresh hg _ hq _ ih1 ih2 =>
    intro hf R r
    obtain ⟨z1, _⟩ := r.get hg not_poison_fresh
    have nf : ∀ x, _ = some x → ¬ (Poison x ∨ x = .running) := fun x hx => wake_free (hg.symm.trans hx) not_poison_fresh (fun z => by cases z)
    have k1 : KeptG R _ _ _ := (KeptG.refl (R := R)).at (st := .running) nf
    obtain ⟨R1, r2, k2, h1, e1⟩ := ih1 (fun _ z => by cases z) _ (r.set (st := .running) trivial)
    obtain ⟨R2, r3, k3, h2, e2⟩ := ih2 hf _ (r2.set (good_of e1))
    exact ⟨R2, r3, ((k1.trans k2).at nf).trans k3, .resumeFresh z1 h1 hq h2, e2⟩
  | resumeSuspended hg hr hq _ ih1 ih2 =>
    intro hf R r
    have np := np_at hg hr
    rcases r.2 _ _ hg with ⟨z1, z2⟩ | ⟨z1, _⟩
    · have nf : ∀ x, _ = some x → ¬ (Poison x ∨ x = .running) := fun x hx => wake_free (hg.symm.trans hx) np (fun z => by cases z)
      have k1 : KeptG R _ _ _ := (KeptG.refl (R := R)).at (st := .running) nf
      obtain ⟨R1, r2, k2, h1, e1⟩ := ih1 z2 _ (r.set (st := .running) trivial)
      obtain ⟨R2, r3, k3, h2, e2⟩ := ih2 hf _ (r2.set (good_of e1))
      exact ⟨R2, r3, ((k1.trans k2).at nf).trans k3, .resumeSuspended z1 h1 hq h2, e2⟩
    · exact absurd z1 np
  | resumeJustStarted hg hv _ ih => intro hf R r; obtain ⟨R', r', k, h', e'⟩ := ih hf R r; exact ⟨R', r', k, .resumeJustStarted (r.get hg not_poison_fresh).1 hv h', e'⟩
  | resumeThrowFresh hg _ ih =>
    intro hf R r
    have nf : ∀ x, _ = some x → ¬ (Poison x ∨ x = .running) := fun x hx => wake_free (hg.symm.trans hx) not_poison_fresh (fun z => by cases z)
    have k1 : KeptG R _ _ _ := (KeptG.refl (R := R)).at (st := .finished) nf
    obtain ⟨R', r', k, h', e'⟩ := ih hf _ (r.set (st := .finished) trivial)
    exact ⟨R', r', k1.trans k, .resumeThrowFresh (r.get hg not_poison_fresh).1 h', e'⟩
  | resumeRunning hg _ ih => intro hf R r; obtain ⟨R', r', k, h', e'⟩ := ih hf R r; exact ⟨R', r', k, .resumeRunning (r.get hg not_poison_running).1 h', e'⟩
  | resumeFinished hg _ ih => intro hf R r; obtain ⟨R', r', k, h', e'⟩ := ih hf R r; exact ⟨R', r', k, .resumeFinished (r.get hg not_poison_finished).1 h', e'⟩
  | segRet _ _ ih1 ih2 =>
    intro hf R r
    obtain ⟨R1, r1, k1, h1, _⟩ := ih1 (fun _ z => by cases z) R r
    obtain ⟨R2, r2, k2, h2, e2⟩ := ih2 (fun F hF => hf F (List.mem_cons_of_mem _ hF)) R1 r1
    exact ⟨R2, r2, k1.trans k2, .segRet h1 h2, e2⟩
  | segGen _ _ ih1 ih2 => intro hf R r; have := hf _ List.mem_cons_self; cases this
  | segSuspOut hs _ ih =>
    intro hf R r
    obtain ⟨R1, r1, k1, h1, e1⟩ := ih (fun _ z => by cases z) R r
    refine ⟨R1, r1, k1, .segSuspOut hs h1, fun F hF => ?_⟩
    rcases List.mem_append.1 hF with z | z
    · exact e1 F z
    · exact hf F z
  | segSuspGen hs _ _ _ ih1 ih2 => intro hf R r; rw [split_ret hf] at hs; cases hs
theorem swap_returns {M : Model} {Γ : PySem.Ctx} {p : Pos} {s s' : Shared} {r : Result} (h : Returns M Γ p s r s') {R : Array GenState} (rr : RelG R s.gens) :
    ∃ R', RelG R' s'.gens ∧ KeptG R s.gens R' s'.gens ∧ Returns M Γ p { s with gens := R } r { s' with gens := R' } := by
  obtain ⟨R', a, b, c, _⟩ := swap h (fun _ z => by cases z) R rr
  exact ⟨R', a, b, c⟩
theorem swap_wakes {M : Model} {Γ : PySem.Ctx} {p : Pos} {g : Nat} {r : Resume} {s s' : Shared} {res : GenResult} (h : Wakes M Γ p g r s res s') {R : Array GenState} (rr : RelG R s.gens) :
    ∃ R', RelG R' s'.gens ∧ KeptG R s.gens R' s'.gens ∧ Wakes M Γ p g r { s with gens := R } res { s' with gens := R' } := by
  unfold Wakes at h
  cases hg : s.gens[g]? with
  | none => rw [hg] at h; exact h.elim
  | some x =>
    rw [hg] at h
    cases x with
    | fresh c =>
      obtain ⟨z1, _⟩ := rr.get hg not_poison_fresh
      have nf : ∀ x, s.gens[g]? = some x → ¬ (Poison x ∨ x = .running) := fun x hx => wake_free (hg.symm.trans hx) not_poison_fresh (fun z => by cases z)
      have fin : ∀ {e₁ : End} {s₁ : Shared}, Runs M (Γ.wake c p) p (M.den c) [] (s.setGen g .running) e₁ s₁ → e₁.quiet = true → ∃ R', RelG R' (s₁.setGen g e₁.genState).gens ∧ KeptG R s.gens R' (s₁.setGen g e₁.genState).gens ∧
          ∃ e s₂, Runs M (Γ.wake c p) p (M.den c) [] (({ s with gens := R } : Shared).setGen g .running) e s₂ ∧ e.quiet = true ∧ e₁.result = e.result ∧ ({ s₁.setGen g e₁.genState with gens := R' } : Shared) = s₂.setGen g e.genState := fun {e₁ s₁} hr hq => by
        obtain ⟨R1, r2, k2, h1, e1⟩ := swap hr (fun _ z => by cases z) _ (rr.set (st := .running) trivial)
        exact ⟨_, r2.set (good_of e1), (((KeptG.refl (R := R)).at (st := .running) nf).trans k2).at nf, e₁, { s₁ with gens := R1 }, h1, hq, rfl, rfl⟩
      cases r with
      | send v =>
        cases v with
        | none =>
          obtain ⟨e₁, s₁, hr, hq, rfl, rfl⟩ := h
          obtain ⟨R', a, b, e, s₂, c1, c2, c3, c4⟩ := fin hr hq
          refine ⟨R', a, b, ?_⟩
          unfold Wakes
          rw [show ({ s with gens := R } : Shared).gens[g]? = some (.fresh c) from z1]
          exact ⟨e, s₂, c1, c2, c3, c4⟩
        | _ =>
          obtain ⟨rfl, rfl⟩ := h
          refine ⟨R, rr, .refl, ?_⟩
          unfold Wakes
          rw [show ({ s' with gens := R } : Shared).gens[g]? = some (.fresh c) from z1]
          exact ⟨rfl, rfl⟩
      | throw x =>
        obtain ⟨rfl, rfl⟩ := h
        refine ⟨_, rr.set (st := .finished) trivial, (KeptG.refl (R := R)).at (st := .finished) nf, ?_⟩
        unfold Wakes
        rw [show ({ s with gens := R } : Shared).gens[g]? = some (.fresh c) from z1]
        exact ⟨rfl, rfl⟩
    | suspended k₀ l₀ c₀ p₀ fs₀ c9 =>
      obtain ⟨e₁, s₁, hr, hq, rfl, rfl⟩ := h
      have np := np_at hg hr
      have nf : ∀ x, s.gens[g]? = some x → ¬ (Poison x ∨ x = .running) := fun x hx => wake_free (hg.symm.trans hx) np (fun z => by cases z)
      obtain ⟨z1, z2⟩ := rr.get hg np
      obtain ⟨R1, r2, k2, h1, e1⟩ := swap hr z2 _ (rr.set (st := .running) trivial)
      refine ⟨_, r2.set (good_of e1), (((KeptG.refl (R := R)).at (st := .running) nf).trans k2).at nf, ?_⟩
      unfold Wakes
      rw [show ({ s with gens := R } : Shared).gens[g]? = some (.suspended k₀ l₀ c₀ p₀ fs₀ c9) from z1]
      exact ⟨e₁, { s₁ with gens := R1 }, h1, hq, rfl, rfl⟩
    | running =>
      obtain ⟨rfl, rfl⟩ := h
      refine ⟨R, rr, .refl, ?_⟩
      unfold Wakes
      rw [show ({ s' with gens := R } : Shared).gens[g]? = some .running from (rr.get hg not_poison_running).1]
      exact ⟨rfl, rfl⟩
    | finished =>
      obtain ⟨rfl, rfl⟩ := h
      refine ⟨R, rr, .refl, ?_⟩
      unfold Wakes
      rw [show ({ s' with gens := R } : Shared).gens[g]? = some .finished from (rr.get hg not_poison_finished).1]
      exact ⟨rfl, rfl⟩
/-- the same end, told of the awake state -/
def PutG {β : Type} (R X : Array GenState) (Q : β → Pos → Shared → Prop) : β → Pos → Shared → Prop := fun a p s' => ∃ X', RelG s'.gens X' ∧ KeptG R X s'.gens X' ∧ Q a p { s' with gens := X' }
theorem PutG.of {β : Type} {R X : Array GenState} {Q : β → Pos → Shared → Prop} {a : β} {p : Pos} {s : Shared} {R' : Array GenState} (r : RelG R' s.gens) (k : KeptG R X R' s.gens) (h : Q a p s) : PutG R X Q a p { s with gens := R' } := ⟨s.gens, r, k, h⟩
theorem PutG.trans {β : Type} {R X R1 X1 : Array GenState} {Q : β → Pos → Shared → Prop} (k : KeptG R X R1 X1) {a : β} {p : Pos} {s : Shared} (h : PutG R1 X1 Q a p s) : PutG R X Q a p s := by
  obtain ⟨X', r, k', q⟩ := h
  exact ⟨X', r, k.trans k', q⟩
open Sem (wp) in
theorem wp_swap {α : Type} (M : Model) (Γ : PySem.Ctx) (t : Sem α) : ∀ (Q : α → Pos → Shared → Prop) (E : Value → Pos → Shared → Prop) (p : Pos) (s : Shared) (R : Array GenState), RelG R s.gens → wp M Γ t Q E p s →
    wp M Γ t (PutG R s.gens Q) (PutG R s.gens E) p { s with gens := R } := by
  induction t with
  | pure a => intro Q E p s R r h; exact .of r .refl h
  | raise e => intro Q E p s R r h; exact .of r .refl h
  | unsupported _ => intro Q E p s R r h; exact h
  | finish _ => intro Q E p s R r h; exact h
  | rule _ k ih => intro Q E p s R r h; exact ih () Q E p s R r h
  | «at» p' k ih => intro Q E p s R r h; exact ih () Q E p' s R r h
  | load a _ k ih => intro Q E p s R r h; obtain ⟨o, ho, h⟩ := h; exact ⟨o, ho, ih o Q E p s R r h⟩
  | update a _ f k ih => intro Q E p s R r h; exact ⟨h.1, ih () Q E p { s with heap := s.heap.update a f } R r h.2⟩
  | loadIfAlive a k ih => intro Q E p s R r h; exact ih _ Q E p s R r h
  | point _ k ih => intro Q E p s R r h; exact ih () Q E p s R r h
  | register _ _ => intro Q E p s R r h; exact h
  | alloc o k ih => intro Q E p s R r h; exact ih _ Q E p { s with heap := s.heap.push o } R r h
  | fresh k ih => intro Q E p s R r h; exact ih _ Q E p { s with toks := s.toks + 1 } R r h
  | ask k ih => intro Q E p s R r h; exact ih _ Q E p s R r h
  | choose src m k ih => intro Q E p s R r h; exact ⟨h.1, ih _ Q E p { s with drawn := s.drawn.bump src } R r h.2⟩
  | os q _ k ih => intro Q E p s R r h; exact ih _ Q E p { s with os := (Os.step s.os q).1 } R r h
  | call c hd _ _ k ih =>
    intro Q E p s R r h
    obtain ⟨x, s₁, hr, h⟩ := h
    obtain ⟨R1, r1, k1, h1⟩ := swap_returns hr r
    exact ⟨x, { s₁ with gens := R1 }, h1, Sem.wp_mono M Γ (k x) (fun a p' s' z => z.trans k1) (fun a p' s' z => z.trans k1) p _ (ih x Q E p s₁ R1 r1 h)⟩
  | handled own k ih => intro Q E p s R r h; exact ih _ Q E p s R r h
  | genState g k ih =>
    intro Q E p s R r h
    obtain ⟨st, hs, h⟩ := h
    rcases r.2 _ _ hs with z | ⟨_, st', z1, z2, _⟩
    · exact ⟨st, z.1, ih _ Q E p s R r h⟩
    · refine ⟨st', z1, ?_⟩
      rw [z2]
      exact ih _ Q E p s R r h
  | newGen c k ih =>
    intro Q E p s R r h
    obtain ⟨r1, k1⟩ := r.push (st := .fresh c) trivial
    have h2 := ih _ Q E p { s with gens := s.gens.push (.fresh c) } _ r1 h
    show wp M Γ (k R.size) _ _ p _
    rw [r.1]
    exact Sem.wp_mono M Γ _ (fun a p' s' z => z.trans k1) (fun a p' s' z => z.trans k1) p _ h2
  | resume g x _ k ih =>
    intro Q E p s R r h
    obtain ⟨res, s₁, hw, h⟩ := h
    obtain ⟨R1, r1, k1, h1⟩ := swap_wakes hw r
    exact ⟨res, { s₁ with gens := R1 }, h1, Sem.wp_mono M Γ (k res) (fun a p' s' z => z.trans k1) (fun a p' s' z => z.trans k1) p _ (ih res Q E p s₁ R1 r1 h)⟩
  | yield _ _ _ _ => intro Q E p s R r h; exact h
  | stack k ih => intro Q E p s R r h; exact ih _ Q E p s R r h
  | fork _ _ => intro Q E p s R r h; exact h
  | thread k ih => intro Q E p s R r h; exact ih _ Q E p s R r h
  | await _ _ _ _ _ => intro Q E p s R r h; exact h
def cleanF (F : Frame) : Frame := .ret (fun _ => .unsupported "asleep") none false [] F.where_.1 F.where_.2 []
def poison : GenState → GenState
  | .suspended _ l c p fs cl => .suspended (fun _ => .unsupported "asleep") l c p (fs.map cleanF) cl
  | x => x
theorem poison_seen (x : GenState) : x.seen = (poison x).seen := by
  cases x with
  | suspended k l c p fs cl =>
    show (_, some ((c, p) :: fs.map Frame.where_)) = (_, some ((c, p) :: (fs.map cleanF).map Frame.where_))
    rw [List.map_map]
    rfl
  | _ => rfl
theorem poison_bare (x : GenState) : x.bare = (poison x).bare := by cases x <;> rfl
theorem relG_poison (G : Array GenState) : RelG G (G.map poison) := by
  refine ⟨(Array.size_map ..).symm, fun i x h => ?_⟩
  rw [Array.getElem?_map] at h
  obtain ⟨y, hy, rfl⟩ := Option.map_eq_some_iff.mp h
  cases y with
  | suspended k l c p fs cl => exact .inr ⟨⟨_, _, _, _, _, _, rfl⟩, _, hy, poison_seen _, poison_bare _⟩
  | _ => exact .inl ⟨hy, trivial⟩
/-- who sleeps (or runs) still does -/
def Slp (G G' : Array GenState) : Prop := ∀ (i : Nat) (y : GenState), G[i]? = some y → (y.status = .suspended ∨ y.status = .running) → G'[i]? = some y
theorem Slp.refl (G : Array GenState) : Slp G G := fun _ _ h _ => h
theorem Slp.trans {G G1 G2 : Array GenState} (a : Slp G G1) (b : Slp G1 G2) : Slp G G2 := fun i y h n => b i y (a i y h n) n
theorem KeptG.slp {G G' X' : Array GenState} (k : KeptG G (G.map poison) G' X') : Slp G G' := fun i y h n => by
  have hx : (G.map poison)[i]? = some (poison y) := by rw [Array.getElem?_map, h]; rfl
  cases y with
  | suspended k' l c p fs cl => rw [(k i _ hx (.inl ⟨_, _, _, _, _, _, rfl⟩)).2]; exact h
  | running => rw [(k i _ hx (.inr rfl)).2]; exact h
  | fresh c => rcases n with n | n <;> cases n
  | finished => rcases n with n | n <;> cases n
theorem RelG.allBare {R X : Array GenState} (r : RelG R X) (b : AllBare X) : AllBare R := fun y hy => by
  rcases Array.mem_iff_getElem.mp hy with ⟨i, hi, e⟩
  have hX : i < X.size := by rw [← r.1]; exact hi
  have eX : X[i]? = some X[i] := Array.getElem?_eq_getElem hX
  have eR : R[i]? = some y := by rw [Array.getElem?_eq_getElem hi, e]
  have bX := b _ (Array.getElem_mem hX)
  rcases r.2 i _ eX with ⟨z, _⟩ | ⟨_, r', z, _, zb⟩
  · rw [eR] at z
    cases z
    exact bX
  · rw [eR] at z
    cases z
    rw [zb]
    exact bX
theorem allBare_poison {G : Array GenState} (b : AllBare G) : AllBare (G.map poison) := fun y hy => by
  obtain ⟨x, hx, rfl⟩ := Array.mem_map.mp hy
  rw [← poison_bare]
  exact b x hx
/-- what is shown while all that sleeps cannot be woken holds of the true run, and they sleep on -/
theorem wpAny_asleep {α : Type} {M : Model} {A : Around} {t : Sem α} {Q : α → Shared → Prop} {E : Value → Shared → Prop} {s : Shared} (h : wpAny M A t Q E { s with gens := s.gens.map poison }) :
    wpAny M A t (fun a s' => ∃ X', Q a { s' with gens := X' } ∧ RelG s'.gens X' ∧ Slp s.gens s'.gens) (fun e s' => ∃ X', E e { s' with gens := X' } ∧ RelG s'.gens X' ∧ Slp s.gens s'.gens) s := fun Γ p hΓ => by
  have h2 := wp_swap M Γ t _ _ p { s with gens := s.gens.map poison } s.gens (relG_poison s.gens) (h Γ p hΓ)
  exact Sem.wp_mono M Γ t (fun a p' s' z => by obtain ⟨X', r, k, q⟩ := z; exact ⟨X', q, r, k.slp⟩) (fun a p' s' z => by obtain ⟨X', r, k, q⟩ := z; exact ⟨X', q, r, k.slp⟩) p s h2
section
variable {X : Cx} {s : Shared} {pins : List (Addr × Obj)} {σ : L2.St} {H : Hp}
theorem inv_gens (I : Inv X pins σ H s) {G : Array GenState} (b : AllBare G) : Inv X pins σ H { s with gens := G } := ⟨I.ok, I.os, b, I.base, I.loc, I.cell, I.free, I.freeC, I.pin, I.hok, I.len⟩
theorem inv_gens' {G : Array GenState} (I : Inv X pins σ H { s with gens := G }) (b : AllBare s.gens) : Inv X pins σ H s := ⟨I.ok, I.os, b, I.base, I.loc, I.cell, I.free, I.freeC, I.pin, I.hok, I.len⟩
theorem sp_gens {D : Ends} {f : Flow} {G : Array GenState} (h : SP X pins D f { s with gens := G }) (r : RelG s.gens G) : SP X pins D f s := by
  cases f with
  | next => obtain ⟨σ', H', I, q⟩ := h; exact ⟨σ', H', inv_gens' I (r.allBare I.bare), q⟩
  | brk => obtain ⟨σ', H', I, q⟩ := h; exact ⟨σ', H', inv_gens' I (r.allBare I.bare), q⟩
  | cont => obtain ⟨σ', H', I, q⟩ := h; exact ⟨σ', H', inv_gens' I (r.allBare I.bare), q⟩
  | ret u => obtain ⟨v, σ', H', I, rv, q⟩ := h; exact ⟨v, σ', H', inv_gens' I (r.allBare I.bare), rv, q⟩
/-- a body leaves asleep what sleeps -/
theorem body_asleep {sts : List Stmt} {t : TS} {D : Ends} (hb : PSs X sts t) (hx : ∀ e s', ¬ X.xe e s') (I : Inv X pins σ H s) (ht : t D σ H) :
    wpAny (model X.prog X.w) X.A (execs sts X.env) (fun f s' => SP X pins D f s' ∧ Slp s.gens s'.gens) (fun _ _ => False) s := by
  refine wpAny_mono (wpAny_asleep (hb.run pins { s with gens := s.gens.map poison } σ H D (inv_gens I (allBare_poison I.bare)) ht)) (fun f s' ⟨X', q, r, k⟩ => ⟨sp_gens q r, k⟩) fun e s' ⟨X', q, _⟩ => hx e _ q
theorem target_asleep {tg : Expr} {g : TG} {v : V} {u : Value} {Q : L2.St → Hp → Prop} (hg : PG X tg g) (hx : ∀ e s', ¬ X.xe e s') (I : Inv X pins σ H s) (r : RelV v u) (h : g v σ H Q) :
    wpAny (model X.prog X.w) X.A (assign tg X.env u) (fun _ s' => (∃ σ' H', Inv X pins σ' H' s' ∧ Q σ' H') ∧ Slp s.gens s'.gens) (fun _ _ => False) s := by
  refine wpAny_mono (wpAny_asleep (hg.run pins { s with gens := s.gens.map poison } σ H v u Q (inv_gens I (allBare_poison I.bare)) r h)) (fun f s' ⟨X', ⟨σ', H', I', q⟩, r', k⟩ => ⟨⟨σ', H', inv_gens' I' (r'.allBare I'.bare), q⟩, k⟩) fun e s' ⟨X', q, _⟩ => hx e _ q
end
/-! ### a generator that is turned by a loop -/
/-- a heap's first n objects -/
def cut (h : Heap) (n : Nat) : Heap := { h with objs := h.objs.extract 0 n }
theorem cut_objs (xs : Array Obj) (n b : Nat) (hb : b < n) : (xs.extract 0 n)[b]? = xs[b]? := by
  rw [Array.getElem?_extract]
  by_cases h1 : b < xs.size
  · rw [if_pos (by omega), Nat.zero_add]
  · rw [if_neg (by omega)]; rw [Array.getElem?_eq_none (by omega)]
theorem cut_sz (xs : Array Obj) (n : Nat) : (xs.extract 0 n).size = min n xs.size := by simp
theorem cut_get {h : Heap} {n : Nat} {b : Addr} (hb : b < n) : (cut h n).get? b = h.get? b := by
  unfold Heap.get? cut
  show (match (h.objs.extract 0 n)[b]? with | some ⟨_, _, .freed, _⟩ => none | o => o) = _
  rw [cut_objs h.objs n b hb]
  rfl
theorem cut_some {h : Heap} {n : Nat} {b : Addr} {o : Obj} (e : (cut h n).get? b = some o) : b < n ∧ h.get? b = some o := by
  have l := Heap.lt_size e
  rw [show (cut h n).objs.size = min n h.objs.size from cut_sz _ _] at l
  have hb : b < n := Nat.lt_of_lt_of_le l (Nat.min_le_left _ _)
  rw [cut_get hb] at e
  exact ⟨hb, e⟩
theorem cut_size {h : Heap} {n : Nat} (l : n ≤ h.objs.size) : (cut h n).objs.size = n := by
  rw [show (cut h n).objs.size = min n h.objs.size from cut_sz _ _]
  exact Nat.min_eq_left l
theorem funs_cut {h base : Heap} {n : Nat} : ∀ {l : List Env}, h.FunFrames base l → (∀ b ∈ frs l, b < n) → (cut h n).FunFrames base l
  | [], _, _ => trivial
  | env :: r, ⟨hk, ⟨L, o, hf, hn, ho, hd⟩, hr⟩, hl => by
    have e : frs (env :: r) = L :: frs r := by unfold frs; rw [List.filterMap_cons, hf]
    exact ⟨hk, ⟨L, o, hf, hn, by rw [cut_get (hl L (by rw [e]; exact List.mem_cons_self))]; exact ho, hd⟩, funs_cut hr fun b hb => hl b (by rw [e]; exact List.mem_cons_of_mem _ hb)⟩
/-- the generator's context: woken at s, H; its frame at n -/
def ycx (P : Program) (w : World) (K : PySem.W.Frag) (mg : Str → Option Value) (base : Heap) (N : List Str) (qual : Str) (scope : Scope) (f : Addr) (cd : Value) (A : Around) (outer : List Env) (n : Nat) (pn : List (Addr × Obj)) (s : Shared) (H : Hp) : Cx where
  prog := P
  w := w
  K := K
  mg := mg
  base := base
  A := A.deeper (envOfC qual scope n f cd)
  N := N
  s_0 := { s with heap := cut s.heap n }
  H_0 := H
  env := envOfC qual scope n f cd
  outer := outer
  stack := envOfC qual scope n f cd :: outer
  ex := []
  calm := true
  fn := fun _ => true
  pn := pn
  xe := fun _ _ => False
/-- what the generator's locals hold, while it sleeps -/
def GLoc (N : List Str) (env : Env) (σ : L2.St) (lo : Obj) : Prop := ∀ h : Heap, h.get? env.locals = some lo → ∃ m, h.Ns env.locals m ∧ ∀ (i : Nat) (x : Str) (v : V), N[i]? = some x → σ[i]? = some (some v) → Vis env.scope x → ∃ u, RelV v u ∧ Look env h m x u
/-- no cells -/
structure NoCells (scope : Scope) : Prop where
  cl : ∀ n : Nat, cellsFrom n scope.names [] = []
  nm : ∀ y ∈ scope.names, y.2 ≠ .cell ∧ y.2 ≠ .free
section
variable {X : Cx} {pins : List (Addr × Obj)} {σ σg : L2.St} {H H' : Hp} {s s' : Shared} {N : List Str} {qual : Str} {scope : Scope} {f : Addr} {cd : Value} {n : Nat} {pn : List (Addr × Obj)} {lo : Obj} {B : Around}
abbrev gcx (X : Cx) (B : Around) (N : List Str) (qual : Str) (scope : Scope) (f : Addr) (cd : Value) (n : Nat) (pn : List (Addr × Obj)) (s : Shared) (H : Hp) : Cx := ycx X.prog X.w X.K X.mg X.base N qual scope f cd B X.stack n pn s H
/-- the consumer's state as the generator sees it when it is woken -/
theorem inv_wake (hk : scope.kind = .function) (nc : NoCells scope) (hd : B.handled = none) (hfr : B.frames = some X.stack) (hX : X.env.locals < n) (hXs : X.s_0.heap.objs.size ≤ n) (hsz : n ≤ s.heap.objs.size)
    (I : Inv X ((n, lo) :: (pn ++ pins)) σ H s) (hpn : ∀ p ∈ pn, p.1 ≠ n ∧ p.1 ∉ frs X.stack) (gl : GLoc N (envOfC qual scope n f cd) σg lo) (hl : σg.length = N.length) : Inv (gcx X B N qual scope f cd n pn s H) [] σg H s := by
  have ec : ∀ x : Str, (envOfC qual scope n f cd).cells.lookup x = none := fun x => by
    show (cellsFrom (n + 1) scope.names []).lookup x = none
    rw [nc.cl]
    rfl
  obtain ⟨pl, ph, pX, _, _⟩ := I.pin (n, lo) (List.mem_append_right _ List.mem_cons_self)
  have flt : ∀ b ∈ frs X.stack, b < n := fun b hb => by
    rcases List.mem_cons.1 (I.stkSub b hb) with e | hb
    · rw [e]; exact hX
    · rcases I.ok.funs.mem hb with ⟨_, o, ho, _⟩
      exact Nat.lt_of_lt_of_le (Heap.lt_size ho) hXs
  have blt : ∀ b o, X.base.get? b = some o → b < n := fun b o e => Nat.lt_of_lt_of_le (Heap.lt_size e) (Nat.le_trans I.ok.bsz hXs)
  refine ⟨⟨I.ok.mod, hk, rfl, rfl, ?_, fun x y c h => ?_, fun x hx => ?_, fun x c _ h => ?_, fun _ => hd, Around.frames_deeper hfr, .inr ⟨rfl, rfl⟩, fun b z => absurd (show b ∈ ([] : List Addr) from z) (by simp), fun b o e => ?_, ?_, fun b o _ z => absurd (show b ∈ ([] : List Addr) from z) (by simp),
    fun b z => absurd (show b ∈ ([] : List Addr) from z) (by simp), ?_, fun b hb => I.stkFree b hb⟩, rfl, I.bare, ?_, gl s.heap pl, fun x c h => ?_, ph, fun x c h => ?_, fun p hp => ?_, I.hok, hl⟩
  · show (cut s.heap n).objs.size ≤ n
    rw [cut_size hsz]
    exact Nat.le_refl _
  · rw [show (gcx X B N qual scope f cd n pn s H).env.cells.lookup x = none from ec x] at h; cases h
  · have hy : scope.names.lookup x = some .cell ∨ scope.names.lookup x = some .free := hx
    rcases hy with hy | hy
    · exact absurd rfl (nc.nm _ (PySem.mem_of_lookup hy)).1
    · exact absurd rfl (nc.nm _ (PySem.mem_of_lookup hy)).2
  · rw [show (gcx X B N qual scope f cd n pn s H).env.cells.lookup x = none from ec x] at h; cases h
  · obtain ⟨e1, e2⟩ := I.bs b o e
    exact ⟨by show (cut s.heap n).get? b = _; rw [cut_get (blt b o e)]; exact e1, e2⟩
  · show X.base.objs.size ≤ (cut s.heap n).objs.size
    rw [cut_size hsz]
    exact Nat.le_trans I.ok.bsz hXs
  · exact funs_cut I.stack flt
  · exact ⟨fun b o e _ _ _ => (cut_some e).2, fun b o e _ _ _ => ⟨o.slots, (cut_some e).2⟩, fun b o _ h _ => h, fun b o e _ => ⟨o, (cut_some e).2⟩, fun _ _ h => h, fun _ _ _ h => h, fun b ps h => ⟨#[], by have h' : H b = some (.tbl ps) := h; rw [h']; simp⟩⟩
  · rw [show (gcx X B N qual scope f cd n pn s H).env.cells.lookup x = none from ec x] at h; cases h
  · rw [show (gcx X B N qual scope f cd n pn s H).env.cells.lookup x = none from ec x] at h; cases h
  · have hp' : p ∈ pn := (List.mem_append.1 hp).elim (fun z => z) fun z => absurd z (by simp)
    obtain ⟨q1, q2, _, _, q5⟩ := I.pin p (List.mem_append_right _ (List.mem_cons_of_mem _ (List.mem_append_left _ hp')))
    exact ⟨q1, q2, (hpn p hp').1, (hpn p hp').2, q5⟩
/-- a namespace outlives its slots -/
theorem ns_slots {h h' : Heap} {a : Addr} {m : Str → Option Value} (hn : h.Ns a m) (hs : ∀ o, h.get? a = some o → ∃ sl, h'.get? a = some { o with slots := sl }) : h'.Ns a m := by
  rcases hn with ⟨o, es, ep, ho, hd, hk, hm⟩
  obtain ⟨sl, e⟩ := hs o ho
  exact ⟨_, es, ep, e, hd, hk, hm⟩
/-- the generator's state as the consumer sees it when it hands something out -/
theorem inv_back {s1 : Shared} {H1 : Hp} (hX : X.env.locals < n) (hXs : X.s_0.heap.objs.size ≤ n) (hXc : ∀ x c, X.env.cells.lookup x = some c → c < n) (hXp : ∀ p ∈ X.pn ++ pins, p.1 < n) (I : Inv X pins σ H1 s1)
    (J : Inv (gcx X B N qual scope f cd n pn s1 H1) [] σg H s) : Inv X pins σ H s := by
  have U := J.base
  have nx : ∀ b : Addr, b ∉ (gcx X B N qual scope f cd n pn s1 H1).ex := fun b z => absurd (show b ∈ ([] : List Addr) from z) (by simp)
  have any : ∀ b o, b < n → s1.heap.get? b = some o → H1 b = none → ∃ sl, s.heap.get? b = some { o with slots := sl } := fun b o hb e q =>
    U.any (by show (cut s1.heap n).get? b = some o; rw [cut_get hb]; exact e) q (nx b)
  obtain ⟨h2, g2, d2, t2, o2⟩ := s
  have ho : o2 = s1.os := J.os
  subst ho
  refine I.step (ch := (List.range s1.heap.objs.size).filter fun b => decide (n ≤ b)) (fun b hb => ?_) (fun b o h1 h2 h3 e q => ?_) (fun b o h1 h2 h3 e q => ?_) (fun b o h3 e q => ?_) (fun b o h3 e => ?_)
    (fun b xs e => U.tups b xs e) (fun b o u e => U.frzs b o u e) (fun b ps e => U.tbls b ps e) (fun m hm => ns_slots hm fun o e => any _ o hX e I.free) J.hok J.bare
  · have hb' : n ≤ b := by
      have := (List.mem_filter.mp hb).2
      exact of_decide_eq_true this
    exact ⟨.inr (Nat.le_trans hXs hb'), fun e => Nat.lt_irrefl _ (Nat.lt_of_lt_of_le (e ▸ hX) hb'), fun x c hc e => Nat.lt_irrefl _ (Nat.lt_of_lt_of_le (e ▸ hXc x c hc) hb'), fun p hp e => Nat.lt_irrefl _ (Nat.lt_of_lt_of_le (e ▸ hXp p hp) hb')⟩
  all_goals
    have lt : b < n := Nat.lt_of_not_le fun hb' => h3 (List.mem_filter.mpr ⟨List.mem_range.mpr (Heap.lt_size e), decide_eq_true hb'⟩)
    have ec : (cut s1.heap n).get? b = some o := by rw [cut_get lt]; exact e
  · exact U.keep b o ec q (fun hb => (List.mem_cons.1 (I.stkSub b hb)).elim h1 h2) (nx b)
  · exact U.any ec q (nx b)
  · exact U.free b o ec q (nx b)
  · exact U.there b o ec (nx b)
/-- the generator's own objects, for the consumer's pins -/
theorem pins_gen {s1 : Shared} {H1 : Hp} (nc : NoCells scope) (hX : X.env.locals < n) (hXs : X.s_0.heap.objs.size ≤ n) (hpn : ∀ p ∈ pn, n < p.1) (I : Inv X pins σ H s) (J : Inv (gcx X B N qual scope f cd n pn s1 H1) [] σg H s) :
    ∃ lo, Inv X ((n, lo) :: (pn ++ pins)) σ H s ∧ GLoc N (envOfC qual scope n f cd) σg lo := by
  have ec : ∀ x : Str, (envOfC qual scope n f cd).cells.lookup x = none := fun x => by
    show (cellsFrom (n + 1) scope.names []).lookup x = none
    rw [nc.cl]
    rfl
  obtain ⟨m, ⟨o, es, ep, ho, hd, hk, hm⟩, look⟩ := J.loc
  have old : ∀ b ∈ X.fs, b < n := fun b hb => by
    rcases I.ok.funs.mem hb with ⟨_, o, ho, _⟩
    exact Nat.lt_of_lt_of_le (Heap.lt_size ho) hXs
  have ho' : s.heap.get? n = some o := ho
  refine ⟨o, I.pins_of fun p hp => ?_, fun h e => ⟨m, ⟨o, es, ep, e, hd, hk, hm⟩, fun i x v h1 h2 h3 => ?_⟩⟩
  · rcases List.mem_cons.1 hp with rfl | hp
    · exact ⟨ho', J.free, fun e => Nat.lt_irrefl _ (e ▸ hX), fun hb => Nat.lt_irrefl _ (old _ hb), fun v q => by rw [hd] at q; cases q⟩
    · rcases List.mem_append.1 hp with hp | hp
      · obtain ⟨q1, q2, _, _, q5⟩ := J.pin p (List.mem_append_left _ hp)
        exact ⟨q1, q2, fun e => Nat.lt_asymm hX (e ▸ hpn p hp), fun hb => Nat.lt_asymm (old _ hb) (hpn p hp), q5⟩
      · exact I.pin p (List.mem_append_right _ hp)
  · obtain ⟨u, ru, lk⟩ := look i x v h1 h2 h3
    rcases lk with ⟨a, b⟩ | ⟨_, c, a, _⟩
    · exact ⟨u, ru, .inl ⟨a, b⟩⟩
    · rw [show (gcx X B N qual scope f cd n pn s1 H1).env.cells.lookup x = none from ec x] at a
      cases a
end
/-! ### its code -/
theorem execs_append_wrap {env : Env} {K : Flow → Sem PySem.Fin} {J : Value → Sem PySem.Fin} {gd : Bool → Bool} {lv : List Value → List Value} {rest : List Stmt} : ∀ pre : List Stmt,
    (execs (pre ++ rest) env).wrap K J gd lv = (execs pre env).wrap (fun f => match f with | .next => (execs rest env).wrap K J gd lv | f => K f) J gd lv
  | [] => rfl
  | st :: pre => by
    rw [List.cons_append]; rw [execs_cons_wrap, execs_cons_wrap]
    congr 1
    funext f
    cases f with
    | next => exact execs_append_wrap pre
    | brk => rfl
    | cont => rfl
    | ret v => rfl
/-- handed out: the consumer's turn -/
def YF (X : Cx) (pins : List (Addr × Obj)) (n : Nat) (pn : List (Addr × Obj)) (g : TG) (tb : TS) (D : Ends) : Protocol := fun _ _ v s kap =>
  ∃ (x : V) (lo : Obj) (σc : L2.St) (H : Hp) (Nx : L2.St → Hp → Prop), RelV x v ∧ Inv X ((n, lo) :: (pn ++ pins)) σc H s ∧ (g x σc H fun σ2 H2 => tb { D with nx := Nx, ct := Nx, bk := D.nx } σ2 H2) ∧
    ∀ s' σ' H', Inv X ((n, lo) :: (pn ++ pins)) σ' H' s' → Nx σ' H' → kap (.send .none) s' ∧ kap (.send (.bool true)) s'
/-- no more to come -/
def RF (X : Cx) (pins : List (Addr × Obj)) (pn : List (Addr × Obj)) (D : Ends) : GenEnd := fun n s₀ r s₁ => ((r = .ok (.ret .none) ∨ r = .ok .next) ∧ (fun (_ : Nat) (_ s : Shared) => ∃ σc H, Inv X (pn ++ pins) σc H s ∧ D.nx σc H) n s₀ s₁) ∨ ∃ e, r = .error e ∧ (fun (_ : Value) (_ : Shared) => False) e s₁
/-- the generator's place in the consumer's run -/
structure Gn (X : Cx) (pins : List (Addr × Obj)) (scope : Scope) (n : Nat) (pn : List (Addr × Obj)) (B : Around) : Prop where
  hk : scope.kind = .function
  co : (scope.isCoroutine = false)
  hi : ∀ (q : Str) (m : Nat) (f : Addr) (cd : Value), interactive (envOfC q scope m f cd) = false
  nc : NoCells scope
  hd : B.handled = none
  hfr : B.frames = some X.stack
  hX : X.env.locals < n
  hXs : X.s_0.heap.objs.size ≤ n
  hXc : ∀ x c, X.env.cells.lookup x = some c → c < n
  hXp : ∀ p ∈ X.pn ++ pins, p.1 < n
  hpn : ∀ p ∈ pn, n < p.1
/-- what a turn reads -/
def Turn (tt : TT) (tas tbs : TS) (te : TE) (g : TG) (tb : TS) (D : Ends) (Hd : Nat → L2.St → L2.St → Hp → Prop) : Prop := ∀ m σg σc H, Hd m σg σc H → tt σg H fun b H1 => if b = true then
  tas { nx := fun σ1 H2 => te σ1 H2 fun x H3 => ∃ Nx : L2.St → Hp → Prop, (g x σc H3 fun σ2 H4 => tb { D with nx := Nx, ct := Nx, bk := D.nx } σ2 H4) ∧ ∀ σ3 H5, Nx σ3 H5 → tbs { nx := fun σ2 H6 => ∃ m', m' < m ∧ Hd m' σ2 σ3 H6, rt := fun _ _ => False } σ1 H5, rt := fun _ _ => False } σg H1
  else D.nx σc H1
section
variable {X : Cx} {pins : List (Addr × Obj)} {N : List Str} {qual : Str} {scope : Scope} {f : Addr} {cd : Value} {n : Nat} {pn : List (Addr × Obj)} {B : Around}
/-- the generator runs, the consumer waits -/
def GJ (X : Cx) (pins : List (Addr × Obj)) (N : List Str) (qual : Str) (scope : Scope) (f : Addr) (cd : Value) (n : Nat) (pn : List (Addr × Obj)) (B : Around) (σg σc : L2.St) (H : Hp) (s : Shared) : Prop :=
  ∃ s1 H1, Inv X pins σc H1 s1 ∧ Inv (gcx X B N qual scope f cd n pn s1 H1) [] σg H s
theorem GJ.back {σg σc : L2.St} {H : Hp} {s : Shared} (W : Gn X pins scope n pn B) (h : GJ X pins N qual scope f cd n pn B σg σc H s) : ∃ lo, Inv X ((n, lo) :: (pn ++ pins)) σc H s ∧ GLoc N (envOfC qual scope n f cd) σg lo := by
  obtain ⟨s1, H1, I, J⟩ := h
  exact pins_gen W.nc W.hX W.hXs W.hpn (inv_back W.hX W.hXs W.hXc W.hXp I J) J
theorem GJ.wake {σg σc : L2.St} {H : Hp} {s : Shared} {lo : Obj} (W : Gn X pins scope n pn B) (I : Inv X ((n, lo) :: (pn ++ pins)) σc H s) (gl : GLoc N (envOfC qual scope n f cd) σg lo) (hl : σg.length = N.length) : GJ X pins N qual scope f cd n pn B σg σc H s := by
  have pl := (I.pin (n, lo) (List.mem_append_right _ List.mem_cons_self)).1
  have hsz : n ≤ s.heap.objs.size := Nat.le_of_lt (Heap.lt_size pl)
  refine ⟨s, H, I.pins_of fun p hp => I.pin p (List.mem_append_right _ (List.mem_cons_of_mem _ (List.mem_append_right _ hp))), inv_wake W.hk W.nc W.hd W.hfr W.hX W.hXs hsz I (fun p hp => ⟨fun e => Nat.lt_irrefl _ (e ▸ W.hpn p hp), fun hb => ?_⟩) gl hl⟩
  have lt : p.1 < n := by
    rcases List.mem_cons.1 (I.stkSub _ hb) with e | hb
    · rw [e]; exact W.hX
    · rcases I.ok.funs.mem hb with ⟨_, o, ho, _⟩
      exact Nat.lt_of_lt_of_le (Heap.lt_size ho) W.hXs
  exact Nat.lt_asymm lt (W.hpn p hp)
theorem GJ.len {σg σc : L2.St} {H : Hp} {s : Shared} (h : GJ X pins N qual scope f cd n pn B σg σc H s) : σg.length = N.length := by
  obtain ⟨s1, H1, I, J⟩ := h
  exact J.len
end
open GenW
section
variable {X : Cx} {pins : List (Addr × Obj)} {N : List Str} {qual : Str} {scope : Scope} {f : Addr} {cd : Value} {n : Nat} {pn : List (Addr × Obj)} {B : Around}
theorem seg_loop {test ye : Expr} {as bs body : List Stmt} {yp pos p : Pos} {tt : TT} {tas tbs : TS} {te : TE} {g : TG} {tb : TS} {D : Ends} {Hd : Nat → L2.St → L2.St → Hp → Prop} (W : Gn X pins scope n pn B)
    (pt : ∀ s H, PT (gcx X B N qual scope f cd n pn s H) test tt) (pas : ∀ s H, PSs (gcx X B N qual scope f cd n pn s H) as tas) (py : ∀ s H, PE (gcx X B N qual scope f cd n pn s H) ye te) (pbs : ∀ s H, PSs (gcx X B N qual scope f cd n pn s H) bs tbs)
    (turn : Turn tt tas tbs te g tb D Hd) {kk : Result → Sem PySem.Fin}
    (hkk : ∀ (k : Nat) (s₀ s : Shared), (∃ σc H, Inv X (pn ++ pins) σc H s ∧ D.nx σc H) → Seg (model X.prog X.w) B (RF X pins pn D) (YF X pins n pn g tb D) k s₀ (.func body (envOfC qual scope n f cd)) (kk (.ok .next)) [] s) :
    ∀ (m k : Nat), m < k → ∀ (σg σc : L2.St) (H : Hp) (s s₀ : Shared), Hd m σg σc H → GJ X pins N qual scope f cd n pn B σg σc H s →
      Seg (model X.prog X.w) B (RF X pins pn D) (YF X pins n pn g tb D) k s₀ (.whileLoop test (as ++ .Expr (.Yield (some ye) yp) pos :: bs) [] (envOfC qual scope n f cd)) ((model X.prog X.w).den (.whileLoop test (as ++ .Expr (.Yield (some ye) yp) pos :: bs) [] (envOfC qual scope n f cd)))
        [.ret kk none false [] (.func body (envOfC qual scope n f cd)) p []] s := by
  have over : B.over (.whileLoop test (as ++ .Expr (.Yield (some ye) yp) pos :: bs) [] (envOfC qual scope n f cd)) [.ret kk none false [] (.func body (envOfC qual scope n f cd)) p []] = B.deeper (envOfC qual scope n f cd) := (over_loop rfl rfl).trans over_func
  intro m
  induction m using _root_.Nat.strongRecOn with
  | ind m ih =>
    intro k hk σg σc H s s₀ hd J
    obtain ⟨s1, H1, I, J1⟩ := J
    refine seg_whileLoop ?_
    rw [over]
    refine wpAny_mono ((pt s1 H1).run [] s σg H _ J1 (turn m σg σc H hd)) (fun b s' hb => ?_) (fun x s' hx => False.elim hx)
    obtain ⟨H2, J2, q⟩ := hb
    cases b with
    | false =>
      rw [if_neg Bool.false_ne_true] at q ⊢
      refine seg_execs_nil ?_
      obtain ⟨lo, I2, _⟩ := GJ.back W ⟨s1, H1, I, J2⟩
      exact seg_leaf (.ok .next) (hkk k s₀ s' ⟨σc, H2, I2.pins_of fun p hp => I2.pin p (List.mem_append_right _ (List.mem_cons_of_mem _ hp)), q⟩)
    | true =>
      rw [if_pos rfl] at q ⊢
      rw [execs_append_wrap]
      refine seg_wrap ?_
      rw [over]
      refine wpAny_mono ((pas s1 H1).run [] s' σg H2 _ J2 q) (fun fl s2 hs => ?_) (fun x s' hx => False.elim hx)
      cases fl with
      | next =>
        obtain ⟨σ1, H3, J3, q3⟩ := hs
        refine seg_execs_cons ?_
        obtain ⟨k', rfl⟩ : ∃ k', k = k' + 1 := ⟨k - 1, by omega⟩
        refine seg_Expr_Yield rfl rfl rfl ?_ W.co (W.hi _ _ _ _)
        rw [over]
        refine wpAny_mono ((py s1 H1).run [] s2 σ1 H3 _ J3 q3) (fun v s3 hv => ?_) (fun x s' hx => False.elim hx)
        obtain ⟨x, H4, J4, rv, Nx, qc, hN⟩ := hv
        intro kap hkap
        obtain ⟨lo, I4, gl⟩ := GJ.back W ⟨s1, H1, I, J4⟩
        refine ⟨x, lo, σc, H4, Nx, rv, I4, qc, fun s5 σ5 H5 I5 n5 => ?_⟩
        refine (fun z => ⟨hkap .none s5 z, hkap (.bool true) s5 z⟩) ?_
        obtain ⟨s6, H6, I6, J6⟩ := GJ.wake W I5 gl J4.len
        refine seg_wrap ?_
        rw [over]
        refine wpAny_mono ((pbs s6 H6).run [] s5 σ1 H5 _ J6 (hN σ5 H5 n5)) (fun fl s7 hs => ?_) (fun x s' hx => False.elim hx)
        cases fl with
        | next =>
          obtain ⟨σ7, H7, J7, m', hm', hd'⟩ := hs
          exact seg_again rfl (ih m' hm' k' (by omega) σ7 σ5 H7 s7 _ hd' ⟨s6, H6, I6, J7⟩)
        | brk => obtain ⟨_, _, _, z⟩ := hs; exact False.elim z
        | cont => obtain ⟨_, _, _, z⟩ := hs; exact False.elim z
        | ret u => obtain ⟨_, _, _, _, _, z⟩ := hs; exact False.elim z
      | brk => obtain ⟨_, _, _, z⟩ := hs; exact False.elim z
      | cont => obtain ⟨_, _, _, z⟩ := hs; exact False.elim z
      | ret u => obtain ⟨_, _, _, _, _, z⟩ := hs; exact False.elim z
theorem seg_gen {test ye : Expr} {pre as bs : List Stmt} {yp pos wpos : Pos} {tt : TT} {tpre tas tbs : TS} {te : TE} {g : TG} {tb : TS} {D : Ends} {Hd : Nat → L2.St → L2.St → Hp → Prop} (W : Gn X pins scope n pn B)
    (ppre : ∀ s H, PSs (gcx X B N qual scope f cd n pn s H) pre tpre) (pt : ∀ s H, PT (gcx X B N qual scope f cd n pn s H) test tt) (pas : ∀ s H, PSs (gcx X B N qual scope f cd n pn s H) as tas) (py : ∀ s H, PE (gcx X B N qual scope f cd n pn s H) ye te) (pbs : ∀ s H, PSs (gcx X B N qual scope f cd n pn s H) bs tbs)
    (turn : Turn tt tas tbs te g tb D Hd) {M : Nat} {σ0 σc : L2.St} {H : Hp} {s s₀ : Shared} (J : GJ X pins N qual scope f cd n pn B σ0 σc H s) (hp : tpre { nx := fun σg H' => ∃ m, m ≤ M ∧ Hd m σg σc H', rt := fun _ _ => False } σ0 H) :
    Seg (model X.prog X.w) B (RF X pins pn D) (YF X pins n pn g tb D) (M + 1) s₀ (.func (pre ++ [.While test (as ++ .Expr (.Yield (some ye) yp) pos :: bs) [] wpos]) (envOfC qual scope n f cd))
      ((model X.prog X.w).den (.func (pre ++ [.While test (as ++ .Expr (.Yield (some ye) yp) pos :: bs) [] wpos]) (envOfC qual scope n f cd))) [] s := by
  refine seg_func ?_
  rw [execs_append_wrap]
  refine seg_wrap ?_
  rw [over_func]
  obtain ⟨s1, H1, I, J1⟩ := J
  refine wpAny_mono ((ppre s1 H1).run [] s σ0 H _ J1 hp) (fun fl s2 hs => ?_) (fun x s' hx => False.elim hx)
  cases fl with
  | next =>
    obtain ⟨σ1, H2, J2, m, hm, hd⟩ := hs
    refine seg_execs_cons ?_
    refine seg_While fun p => ?_
    exact seg_loop W pt pas py pbs turn (fun k s₀ s h => seg_end (.ok (.ret .none)) (.inl ⟨.inl rfl, h⟩)) m (M + 1) (by omega) σ1 σc H2 s2 s₀ hd ⟨s1, H1, I, J2⟩
  | brk => obtain ⟨_, _, _, z⟩ := hs; exact False.elim z
  | cont => obtain ⟨_, _, _, z⟩ := hs; exact False.elim z
  | ret u => obtain ⟨_, _, _, _, _, z⟩ := hs; exact False.elim z
end
theorem letOwned_gen {P : Program} {w : World} {A : Around} {E : Value → Shared → Prop} {s : Shared} {tg : Expr} {a : Addr} {g : Nat} {v : Value} {Q : Unit → Shared → Prop} (hg : s.heap.IsGen a g) (hQ : Q () s) : wpAny (model P w) A (letOwnedTupleGo tg (.ref a) v) Q E s := by
  obtain ⟨o, nm, qn, ho, hc, hd, _⟩ := hg
  unfold letOwnedTupleGo
  split
  all_goals first
    | exact wpAny_pure hQ
    | (cases v with
       | ref T =>
         refine (wpAny_bind (wpAny_load ho ?_))
         rw [hc, hd]
         dsimp only
         rw [if_neg (by simp)]
         exact wpAny_pure hQ
       | _ => exact wpAny_pure hQ)
open GenW
section
variable {X : Cx} {pins : List (Addr × Obj)} {n : Nat}
theorem gen_loop {tg : Expr} {body : List Stmt} {g : TG} {tb : TS} {D : Ends} {a : Addr} {gi : Nat} {go : Obj} (hXh : X.A.handled = none) (hroom : X.A.depth < recursionLimit) (hx : ∀ e s', ¬ X.xe e s') (hgo : ∀ h : Heap, h.get? a = some go → h.IsGen a gi)
    (hg : PG X tg g) (hb : PSs X body tb) {k : Nat} {s : Shared} {σc : L2.St} {H : Hp} {gs : GenState} (hgs : s.gens[gi]? = some gs) (I : Inv X ([(a, go)] ++ pins) σc H s)
    (goes : gs.Goes (model X.prog X.w) X.A.in1 (RF X pins [(a, go)] D) (YF X pins n [(a, go)] g tb D) k (.send .none) (s.setGen gi .running)) :
    codeAny (model X.prog X.w) X.A (.forLoop tg (.ref a) body [] X.env) (fun r s' => match r with | .ok f => SP X pins D f s' | .error e => False) s := by
  refine codeAny_forLoop_any (fun k s => ∃ gs σc H, s.gens[gi]? = some gs ∧ Inv X ([(a, go)] ++ pins) σc H s ∧ gs.Goes (model X.prog X.w) X.A.in1 (RF X pins [(a, go)] D) (YF X pins n [(a, go)] g tb D) k (.send .none) (s.setGen gi .running)) ?_ k ⟨gs, σc, H, hgs, I, goes⟩
  clear goes I hgs
  rintro k s ⟨gs, σc, H, hgs, I, goes⟩
  have lt : gi < s.gens.size := by
    by_cases z : gi < s.gens.size
    · exact z
    · rw [Array.getElem?_eq_none (by omega)] at hgs; cases hgs
  have pa := (I.pin (a, go) (List.mem_append_right _ List.mem_cons_self)).1
  have sub : ∀ {pins' : List (Addr × Obj)} {σ : L2.St} {H : Hp} {s : Shared}, Inv X pins' σ H s → (∀ p ∈ pins, p ∈ pins') → Inv X pins σ H s := fun I h => I.pins_of fun p hp => I.pin p (List.mem_append_right _ (h p hp))
  refine wpAny_gsz (n := gi + 1) lt (wpAny_mono (next_genG (n := k) (Q := fun r s2 => match r with
      | none => SP X pins D .next s2
      | some v => ∃ s₁ gs', s2 = s₁.setGen gi gs' ∧ gs'.bare = true ∧ YF X pins n [(a, go)] g tb D (k - 1) (s.setGen gi .running) v s₁ (fun r' s'' => match k with
        | 0 => False
        | m + 1 => gs'.Goes (model X.prog X.w) X.A.in1 (RF X pins [(a, go)] D) (YF X pins n [(a, go)] g tb D) m r' s''))
    (E := fun _ _ => False) hXh I.nolimit hroom (hgo _ pa) hgs goes (fun v s₁ gs' hb' hY => ⟨s₁, gs', rfl, hb', hY⟩) (fun s₁ hF h' hk => ?_) (fun e s₁ he => False.elim he)) (fun r s2 hr hsz => ?_) (fun e s' h => False.elim h))
  · obtain ⟨σ', H', I', q⟩ := hF
    refine ⟨σ', H', ?_, q⟩
    have I2 := sub I' (fun p hp => List.mem_cons_of_mem _ hp)
    have I3 := inv_gens I2 (allBare_setGen (g := gi) (x := .finished) I2.bare rfl)
    exact I3.kept hk
  · cases r with
    | none => exact (wpAny_execs_nil hr)
    | some v =>
      obtain ⟨s₁, gs', rfl, hb', x, lo, σ1, H1, Nx, rv, I1, qc, hk⟩ := hr
      have hin : gi < s₁.gens.size := by
        have : (s₁.setGen gi gs').gens.size = s₁.gens.size := setGen_size _ _ _
        omega
      have I2 : Inv X ((n, lo) :: ([(a, go)] ++ pins)) σ1 H1 (s₁.setGen gi gs') := inv_gens I1 (allBare_setGen I1.bare hb')
      have pa2 := (I2.pin (a, go) (List.mem_append_right _ (by simp))).1
      have at2 : (s₁.setGen gi gs').gens[gi]? = some gs' := setGen_at hin
      refine letOwned_gen (hgo _ pa2) ?_
      refine wpAny_mono (target_asleep hg hx I2 rv qc) (fun _ s3 h3 => ?_) (fun e s' h => False.elim h)
      obtain ⟨⟨σ3, H3, I3, q3⟩, k3⟩ := h3
      refine wpAny_mono (body_asleep hb hx I3 q3) (fun fl s4 h4 => ?_) (fun e s' h => False.elim h)
      obtain ⟨h4, k4⟩ := h4
      have again : ∀ {σ4 : L2.St} {H4 : Hp}, Inv X ((n, lo) :: ([(a, go)] ++ pins)) σ4 H4 s4 → Nx σ4 H4 → ∃ m, m < k ∧ ∃ gs σc H, s4.gens[gi]? = some gs ∧ Inv X ([(a, go)] ++ pins) σc H s4 ∧ gs.Goes (model X.prog X.w) X.A.in1 (RF X pins [(a, go)] D) (YF X pins n [(a, go)] g tb D) m (.send .none) (s4.setGen gi .running) := by
        intro σ4 H4 I4 n4
        obtain ⟨g1, g2⟩ := hk (s4.setGen gi .running) σ4 H4 (inv_gens I4 (allBare_setGen I4.bare rfl)) n4
        cases k with
        | zero => exact False.elim g1
        | succ m =>
          refine ⟨m, Nat.lt_succ_self m, gs', σ4, H4, ?_, I4.pins_of fun p hp => I4.pin p (List.mem_append_right _ (List.mem_cons_of_mem _ hp)), g1⟩
          cases gs' with
          | suspended k' l c p fs cl => exact k4 _ _ (k3 _ _ at2 (.inl rfl)) (.inl rfl)
          | fresh c => cases g2.1
          | running => exact False.elim g1
          | finished => exact False.elim g1
      cases fl with
      | next => obtain ⟨σ4, H4, I4, n4⟩ := h4; exact again I4 n4
      | cont => obtain ⟨σ4, H4, I4, n4⟩ := h4; exact again I4 n4
      | brk => obtain ⟨σ4, H4, I4, q4⟩ := h4; exact ⟨σ4, H4, sub I4 (fun p hp => List.mem_cons_of_mem _ (List.mem_cons_of_mem _ hp)), q4⟩
      | ret u => obtain ⟨w, σ4, H4, I4, r4, q4⟩ := h4; exact ⟨w, σ4, H4, sub I4 (fun p hp => List.mem_cons_of_mem _ (List.mem_cons_of_mem _ hp)), r4, q4⟩
end
section
variable {X : Cx} {pins : List (Addr × Obj)}
/-- a call of a generator's def makes a generator that has not begun -/
theorem gen_made {x qual : Str} {st : Stmt} {f : Addr} {fd : FuncData} {N ps : List Str} {k : Nat} {σ : L2.St} {H : Hp} {s : Shared} {us : List Value} {vs : List V} (F : Fun X.K x qual st f fd) (S : GScope N ps (defScope st)) (nc : NoCells (defScope st)) (hr : Room (k + 1) X.A) (I : Inv X pins σ H s)
    (hb : BindsTo s fd ⟨us, []⟩ (ps.zip us)) (r : Vals vs us) (hl : vs.length = ps.length) :
    codeAny (model X.prog X.w) X.A (.call (.ref f) ⟨us, []⟩) (fun rs s' => match rs with
      | .ok (.ret u) => ∃ (a : Addr) (gi : Nat) (go lo : Obj) (cd : Value), u = .ref a ∧ (∀ h : Heap, h.get? a = some go → h.IsGen a gi) ∧ s.heap.objs.size < a ∧ s'.gens[gi]? = some (.fresh (.func (defBody st) (envOfC qual (defScope st) s.heap.objs.size f cd))) ∧
          Inv X ((s.heap.objs.size, lo) :: ([(a, go)] ++ pins)) σ H s' ∧ GLoc N (envOfC qual (defScope st) s.heap.objs.size f cd) (start N vs) lo
      | _ => False) s := by
  obtain ⟨o1, o2, k0, dc0, pm0, an0, cdv, ct0, sl0, rfl, lk, hcd⟩ := F.ex
  have KX : X.K.In s.heap := I.kIn
  have lim : s.heap.NoLimit := I.nolimit
  have hkind : ∀ y ∈ ps.zip us, (defScope st).names.lookup y.1 = some .local ∨ ((defScope st).names.lookup y.1 = some .cell ∧ ((cellsFrom (s.heap.objs.size + 1) (defScope st).names []).lookup y.1).isSome = true) := by
    rintro ⟨m, v⟩ hy
    exact (S.par m (List.of_mem_zip hy).1).imp id fun q => ⟨q, PySem.W.cellsFrom_some _ _ _ (.inl q)⟩
  refine codeAny_call_generator hr.depth (KX _ _ lk) rfl S.co S.gen rfl (PySem.W.codeRec_of KX hcd) (hb _ _ _ _ (wpAny_newFunctionEnv_cells S.kind hkind fun env he s1 x => ?_))
  subst he
  refine ⟨lim.keeps x.toInCall.keep, ?_⟩
  obtain ⟨hh1, tk1, es1, hk1⟩ := x.done
  have same_os : s1.os = s.os := by rw [es1]
  have same_gens : s1.gens = s.gens := by rw [es1]
  have grown : s.heap.objs.size < s1.heap.objs.size := x.toInCall.ns.lt
  have kept1 : ∀ b o, s.heap.get? b = some o → s1.heap.get? b = some o := x.toInCall.keep
  have I1 := inv_startG (E := E0) S hr.hd I.env0 hl r x
  obtain ⟨m, ⟨lo, es, ep, ho, hd, hsk, hm⟩, look⟩ := I1.loc
  have ho' : s1.heap.get? s.heap.objs.size = some lo := ho
  have born : ∀ (go : Obj) (n1 n2 : Value) (tk2 : Nat), go.cls = .type "generator" → go.data = .fields #[.int s1.gens.size 0, n1, n2] → go.slots = #[] → (∀ h : Heap, (h.push go).get? h.objs.size = some go) →
      ∃ (a : Addr) (gi : Nat) (go' lo : Obj) (cd : Value), Value.ref s1.heap.objs.size = .ref a ∧ (∀ h : Heap, h.get? a = some go' → h.IsGen a gi) ∧ s.heap.objs.size < a ∧ (s1.gens.push (.fresh (.func (defBody st) (envOfC qual (defScope st) s.heap.objs.size f cdv))))[gi]? = some (.fresh (.func (defBody st) (envOfC qual (defScope st) s.heap.objs.size f cd))) ∧
        Inv X ((s.heap.objs.size, lo) :: ([(a, go')] ++ pins)) σ H { s1 with gens := s1.gens.push (.fresh (.func (defBody st) (envOfC qual (defScope st) s.heap.objs.size f cdv))), toks := tk2, heap := s1.heap.push go } ∧ GLoc N (envOfC qual (defScope st) s.heap.objs.size f cd) (start N vs) lo := by
    intro go n1 n2 tk2 hgc hgd hgs hgp
    have kp2 : ∀ b o, s.heap.get? b = some o → (s1.heap.push go).get? b = some o := fun b o e => Heap.get?_push_of_some _ (kept1 b o e)
    have I2 : Inv X pins σ H { s1 with gens := s1.gens.push (.fresh (.func (defBody st) (envOfC qual (defScope st) s.heap.objs.size f cdv))), toks := tk2, heap := s1.heap.push go } :=
      I.call' (ch := []) same_os (Un.kept kp2) (I.hok.kept kp2) (AllBare.push (by rw [same_gens]; exact I.bare) rfl) fun b z => by simp at z
    refine ⟨s1.heap.objs.size, s1.gens.size, go, lo, cdv, rfl, fun h e => ⟨go, n1, n2, e, hgc, hgd, hgs⟩, grown, Array.getElem?_push_size .., I2.pins_of fun p hp => ?_, fun h e => ⟨m, ⟨lo, es, ep, e, hd, hsk, hm⟩, fun i y v a1 a2 a3 => ?_⟩⟩
    · rcases List.mem_cons.1 hp with rfl | hp
      · exact ⟨Heap.get?_push_of_some _ ho', I1.free, fun e => Nat.lt_irrefl _ (e ▸ I.lt), I.nofs (Nat.le_refl _), fun v q => by rw [hd] at q; cases q⟩
      · rcases List.mem_append.1 hp with hp | hp
        · rw [(List.mem_singleton.mp hp)]
          exact ⟨hgp _, I1.hok.fresh (Nat.le_refl _), fun e => (by
          have e' : s1.heap.objs.size = X.env.locals := e
          have l := I.lt
          rw [← e'] at l
          exact Nat.lt_asymm grown l), I.nofs (Nat.le_of_lt grown), fun v q => by rw [hgd] at q; cases q⟩
        · exact I2.pin p (List.mem_append_right _ hp)
    · obtain ⟨u, ru, lk⟩ := look i y v a1 a2 a3
      refine ⟨u, ru, lk.imp (fun z => z) fun ⟨z1, c, z2, z3⟩ => ?_⟩
      have z4 : (cellsFrom (s.heap.objs.size + 1) (defScope st).names []).lookup y = some c := z2
      rw [nc.cl] at z4
      cases z4
  exact born _ _ _ _ rfl rfl rfl (fun _ => Heap.get?_push_size _ rfl)
end
/-- how a loop over a generator's def reads: Hd tells both sides' states where the generator looks whether to go on -/
def tForG (N ps : List Str) (t : TA) (tpre : TS) (tt : TT) (tas : TS) (te : TE) (tbs : TS) (g : TG) (tb : TS) : TS := fun D σ H => t σ H fun vs H1 => vs.length = ps.length ∧ ∃ (M : Nat) (Hd : Nat → L2.St → L2.St → Hp → Prop),
  tpre { nx := fun σg H' => ∃ m, m ≤ M ∧ Hd m σg σ H', rt := fun _ _ => False } (start N vs) H1 ∧ Turn tt tas tbs te g tb D Hd
/-- the rules of the generator's rows, wherever it is woken -/
structure GenRows (X : Cx) (N : List Str) (qual : Str) (scope : Scope) (f : Addr) (pre as bs : List Stmt) (test ye : Expr) (tpre : TS) (tt : TT) (tas : TS) (te : TE) (tbs : TS) (n : Nat) (cd : Value) (pn : List (Addr × Obj)) (s : Shared) (H : Hp) : Prop where
  pre : PSs (gcx X X.A.in1 N qual scope f cd n pn s H) pre tpre
  test : PT (gcx X X.A.in1 N qual scope f cd n pn s H) test tt
  as : PSs (gcx X X.A.in1 N qual scope f cd n pn s H) as tas
  ye : PE (gcx X X.A.in1 N qual scope f cd n pn s H) ye te
  bs : PSs (gcx X X.A.in1 N qual scope f cd n pn s H) bs tbs
section
variable {X : Cx}
theorem ps_forGen {x y qual : Str} {st : Stmt} {f : Addr} {fd : FuncData} {N ps : List Str} {k : Nat} {pre as bs body : List Stmt} {test ye e tg : Expr} {es : List Expr} {p cpos pos yp ypos wpos : Pos} {tpre tas tbs tb : TS} {tt : TT} {te : TE} {g : TG} {t : TA}
    (F : Fun X.K x qual st f fd) (S : GScope N ps (defScope st)) (nc : NoCells (defScope st)) (shape : defBody st = pre ++ [.While test (as ++ .Expr (.Yield (some ye) yp) ypos :: bs) [] wpos])
    (rules : ∀ n cd pn s H, Room k (X.A.in1.deeper (envOfC qual (defScope st) n f cd)) → GenRows X N qual (defScope st) f pre as bs test ye tpre tt tas te tbs n cd pn s H)
    (hr : Room (k + 2) X.A) (hx : ∀ e s', ¬ X.xe e s') (hg : Gl X y) (hm : X.mg y = some (.ref f)) (hk : PySem.W.keepIn X.K (.ref f) = true) (hb : Binds X.K fd ps []) (ha : PA X (e :: es) t) (hgt : PG X tg g) (hbody : PSs X body tb)
    (hi : ∀ (q : Str) (m : Nat) (f : Addr) (cd : Value), interactive (envOfC q (defScope st) m f cd) = false := by intro _ _ _ _; rfl) (hdb : (y == ("__debug__" : Str)) = false := by decide) (he : starEach (e :: es) X.env = (false, eval e X.env) :: starEach es X.env := by rfl)
    (hpl : (backTo cpos (starEach es X.env)).any (·.1) = false := by rfl) (hs : ∀ z, foldedSetIterable (.Call (.Name y p) (e :: es) [] cpos) X.env z = pure z := by intro _; rfl) :
    PS X (.For tg (.Call (.Name y p) (e :: es) [] cpos) body [] pos) (tForG N ps t tpre tt tas te tbs g tb) := by
  refine (⟨fun pins s σ H D I h => ?_⟩)
  refine wpAny_For (wpAny_Call_Name_kw (ld_glob I hg hm ?_ hdb)) hs
  refine PySem.W.callWith_K (h₀ := X.base) I.ok.mod.kin hk (thn (ha.run cpos pins s σ H _ I h) fun us s1 ⟨vs, H1, I1, r, hl, M, Hd, hpre, turn⟩ => ⟨I1.kIn, ?_⟩) he hpl
  have ll : us.length = ps.length := r.length.symm.trans hl
  have hb1 : BindsTo s1 fd ⟨us, []⟩ (ps.zip us) := by
    have z := hb s1 us I1.kIn (by rw [List.append_nil]; exact ll)
    rw [List.append_nil] at z
    exact z
  refine wpAny_call (codeAny_mono (gen_made (k := k + 1) F S nc hr I1 hb1 r hl) fun rs s' hq => ?_)
  match rs, hq with
  | .ok (.ret u), ⟨a, gi, go, lo, cd, eu, hgo, lta, hgs, I2, gl⟩ =>
    subst eu
    have pa := (I2.pin (a, go) (List.mem_append_right _ (by simp))).1
    refine wpAny_pyIter_gen (hgo _ pa) ?_
    have W : Gn X pins (defScope st) s1.heap.objs.size [(a, go)] X.A.in1 := ⟨S.kind, S.co, hi, nc, hr.hd, I1.ok.frames, I1.lt, I1.sz, fun z c e => (by obtain ⟨v, o, ho, _⟩ := I1.cell z c e; exact Heap.lt_size ho), fun p hp => Heap.lt_size (I1.pin p hp).1, fun p hp => by rw [List.mem_singleton.mp hp]; exact lta⟩
    have R := rules s1.heap.objs.size cd [(a, go)]
    have rm : Room k (X.A.in1.deeper (envOfC qual (defScope st) s1.heap.objs.size f cd)) := (hr.in1).deeper _
    have I3 : Inv X ((s1.heap.objs.size, lo) :: ([(a, go)] ++ pins)) σ H1 (s'.setGen gi .running) := inv_gens I2 (allBare_setGen I2.bare rfl)
    have hl2 : (start N vs).length = N.length := by
      have z := congrArg List.length S.pre
      rw [List.length_take] at z
      unfold L2.start
      rw [List.length_append]; rw [List.length_map, List.length_replicate]
      omega
    refine codeAny_mono (gen_loop (D := D) (k := M + 1) (n := s1.heap.objs.size) hr.hd (by have := hr.dp; omega) hx hgo hgt hbody hgs (I2.pins_of fun p hp => I2.pin p (List.mem_append_right _ (List.mem_cons_of_mem _ hp))) ⟨rfl, ?_⟩) (fun rs s3 h3 => ?_)
    · rw [shape]
      exact seg_gen W (fun s H => (R s H rm).pre) (fun s H => (R s H rm).test) (fun s H => (R s H rm).as) (fun s H => (R s H rm).ye) (fun s H => (R s H rm).bs) turn (GJ.wake W I3 gl hl2) hpre
    · cases rs with
      | ok fl => exact h3
      | error e => exact False.elim h3
end
abbrev sPProgramError : Stmt := topS 28
abbrev nPProgramError : List Str := ["value", "place", "depth", "statement"]
theorem scPProgramError : FnScope nPProgramError ["value"] (defScope sPProgramError) := ⟨rfl, rfl, rfl, by decide +kernel, rfl, by decide +kernel, by decide +kernel⟩
def gW (s : Stmt) : Stmt := (defBody s).getLastD (.Pass ⟨0, 0, 0, 0⟩)
def gWT (s : Stmt) : Expr := match gW s with
  | .While t _ _ _ => t
  | _ => .Name "" ⟨0, 0, 0, 0⟩
def gWB (s : Stmt) : List Stmt := match gW s with
  | .While _ b _ _ => b
  | _ => []
def gYe (s : Stmt) (n : Nat) : Expr := match (gWB s).getD n (.Pass ⟨0, 0, 0, 0⟩) with
  | .Expr (.Yield (some e) _) _ => e
  | _ => .Name "" ⟨0, 0, 0, 0⟩
theorem ncEach : NoCells (defScope sPEachStatement) := ⟨fun _ => rfl, by decide +kernel⟩
def rePre (K : PySem.W.Frag) : TS := tSeq (tAsg (tLc (iTup K (tRevT K (tVar 0))) (gName 4) tYes (tTup (tCons (tC (.int 0)) (tCons (tVar 4) tNil))) [4]) (gName 1)) (tAsg (tC (.int 0)) (gName 2))
def reTest (K : PySem.W.Frag) : TT := fun σ H Q => tVar 1 σ H fun x H' => ∃ k, TruV K x H' k ∧ Q k H'
def reAs (K : PySem.W.Frag) : TS := tAsg (tBM0 K "list" rPop (tVar 1)) (gTup K 2 (gCons (gName 3) (gCons (gName 4) gNil)))
def reYe : TE := tTup (tCons (tVar 2) (tCons (tVar 3) (tCons (tVar 4) tNil)))
def reBs (K : PySem.W.Frag) : TS := tSeq (tAug 2 (tC (.int 1)) (ipI fun i j => i + j)) (tFor (iTup K (tRevT K (tCall spBlocks [] E0 (tCons (tVar 4) tNil)))) (gName 5) (tFor (iTup K (tRevT K (tVar 5))) (gName 6) (tDrop (tBM K "list" rAppend (tVar 1) (tCons (tTup (tCons (tOp (rI0 fun i j => .int (i + j)) (tVar 3) (tC (.int 1))) (tCons (tVar 6) tNil))) tNil)))))
theorem rowsEach {P : Program} {w : World} {K : PySem.W.Frag} {mg : Str → Option Value} {base : Heap} {f fE fB : Addr} {fdB : FuncData} {N0 : List Str} {q0 : Str} {sc0 : Scope} (F_pblocks_of : Fun K "blocks_of" "blocks_of" sPBlocksOf fB fdB) (G_pblocks_of : FnOk P w K mg base CX0 1 fB fdB ["statement"] spBlocks) (b_pblocks_of : Binds K fdB ["statement"] []) (m_pblocks_of : mg "blocks_of" = some (.ref fB)) (cdv : Value) (A : Around) (outer : List Env) (s0 : Shared) (H0 : Hp) (E : XK) (n : Addr) (cd : Value) (pn : List (Addr × Obj)) (s : Shared) (H : Hp)
    (hr : Room 1 ((cxOf CX0 P w K mg base N0 q0 sc0 f cdv A outer s0 H0 E).nox.A.in1.deeper (envOfC "each_statement" (defScope sPEachStatement) n fE cd))) :
    GenRows (cxOf CX0 P w K mg base N0 q0 sc0 f cdv A outer s0 H0 E).nox nPEachStatement "each_statement" (defScope sPEachStatement) fE ((defBody sPEachStatement).take 2) ((gWB sPEachStatement).take 1) ((gWB sPEachStatement).drop 2) (gWT sPEachStatement) (gYe sPEachStatement 1) (rePre K) (reTest K) (reAs K) reYe (reBs K) n cd pn s H := ⟨(pss_cons (ps_setLc (i := 1) (own := [("statement", 4)]) (g := gName 4) (tt := tYes) rfl scPEachStatement.nd rfl rfl (sw_true rfl rfl rfl (by decide +kernel)) (pi_tup (pe_revT (pv 0))) (blkOk_by (N := nPEachStatement) (sc := defScope sPEachStatement) (by decide +kernel)) (fun _ _ _ _ _ => (pg_name (i := 4) scPEachStatement.nd rfl (by first | exact Or.inl rfl | exact Or.inr rfl))) (fun _ _ _ _ _ => pts_nil) (fun _ _ _ _ _ => (pe_tup (pa_cons pe_int (pa_cons (pv 4) pa_nil)))))
      (pss_one (ps_set (i := 2) scPEachStatement.nd rfl (by first | exact Or.inl rfl | exact Or.inr rfl) pe_int))), (pt_truth (pv 1) (fun _ => rfl)), (pss_one (ps_asg (pe_bm0 PySem.F.plainAttrs_list PySem.F.slot_list_pop PySem.F.type_list_pop mt_pop (pv 1)) (pg_tup rfl (pgs_cons (pg_name (i := 3) scPEachStatement.nd rfl (by first | exact Or.inl rfl | exact Or.inr rfl)) (pgs_cons (pg_name (i := 4) scPEachStatement.nd rfl (by first | exact Or.inl rfl | exact Or.inr rfl)) pgs_nil))))), (pe_tup (pa_cons (pv 2) (pa_cons (pv 3) (pa_cons (pv 4) pa_nil)))), (pss_cons (ps_aug (i := 2) scPEachStatement.nd rfl (.inl rfl) pe_int ip_add)
      (pss_one (ps_for PassesOwn.never rfl (pi_tup (pe_revT (pe_call G_pblocks_of (hr.mono (by omega)) (by rfl) m_pblocks_of F_pblocks_of.kp b_pblocks_of .nil pass0 (pa_cons (pv 4) pa_nil)))) (pg_name (i := 5) scPEachStatement.nd rfl (by first | exact Or.inl rfl | exact Or.inr rfl)) (pss_one (ps_for PassesOwn.never rfl (pi_tup (pe_revT (pv 5))) (pg_name (i := 6) scPEachStatement.nd rfl (by first | exact Or.inl rfl | exact Or.inr rfl)) (pss_one (ps_expr (pe_bm PySem.F.plainAttrs_list PySem.F.slot_list_append PySem.F.type_list_append mt_append (pv 1) (pa_cons (pe_tup (pa_cons (pe_op op_add (pv 3) pe_int) (pa_cons (pv 6) pa_nil))) pa_nil)))))))))⟩
/-- the first fault of the rows, or what the bounds tell -/
def perrL : List Rw → PyData → PyData
  | [], e => e
  | (p, d, s) :: r, e => if 3 < d then .tuple [.int p, .str "nest"] else if s.okB = false then .tuple [.int p, .str "statement"] else perrL r e
def Bk.perr (b : Bk) : PyData := perrL (b.rws 0 0) b.bnd
def spPE (PW PT : Addr) (d : Nat) : Sp := fun vs H Q _ => ∃ (v : V) (b : Bk), vs = [v] ∧ Tp H v (.tuple b.ds) ∧ (∀ r ∈ b.rws 0 0, r.2.2.nm) ∧ b.fac d ∧ b.sz < 16777216 ∧ LamX.Tabs (TL PW PT) H ∧ ∀ H' r, Sx [PW, PT] H H' → LamX.Tabs (TL PW PT) H' → Tp H' r b.perr → Q r H'
section
variable {w : World} {P : Program} {K : PySem.W.Frag} {mg : Str → Option Value} {base : Heap}
end
/-! ### values of any kind -/
mutual
/-- v is the data d; no list and no dict of it lies at an address of N -/
inductive Gd (N : List Addr) (H : Hp) : V → PyData → Prop where
  | non : Gd N H .non .none
  | bl (b : Bool) : Gd N H (.bl b) (.bool b)
  | int (i : Int) : Gd N H (.int i) (.int i)
  | str (x : Str) : Gd N H (.str x) (.str x)
  | tup {a : Addr} {xs : List V} {ds : List PyData} : H a = some (.tup xs) → GdAll N H xs ds → Gd N H (.ref a) (.tuple ds)
  | lst {a : Addr} {xs : List V} {ds : List PyData} : H a = some (.lst xs) → a ∉ N → a ≠ 1 → GdAll N H xs ds → Gd N H (.ref a) (.list ds)
  | dic {a : Addr} (kvs : List (Str × Int)) : H a = some (.dK (kvs.map fun p => (.inr p.1, .int p.2))) → a ∉ N → Gd N H (.ref a) (.dict (kvs.map fun p => (.str p.1, .int p.2)))
inductive GdAll (N : List Addr) (H : Hp) : List V → List PyData → Prop where
  | nil : GdAll N H [] []
  | cons {v : V} {vs : List V} {d : PyData} {ds : List PyData} : Gd N H v d → GdAll N H vs ds → GdAll N H (v :: vs) (d :: ds)
end
/-- tuples stand, lists and dicts outside N stand -/
structure Kp (N : List Addr) (H H' : Hp) : Prop where
  t : Tk H H'
  l : ∀ b xs, b ∉ N → H b = some (.lst xs) → H' b = some (.lst xs)
  d : ∀ b ks, b ∉ N → H b = some (.dK ks) → H' b = some (.dK ks)
theorem Sx.kp0 {N : List Addr} {H H' : Hp} (s : Sx [] H H') : Kp N H H' := ⟨s.tk0, fun b xs _ e => s b _ (by simp) e, fun b ks _ e => s b _ (by simp) e⟩
theorem Sx.kp {N ex : List Addr} {H H' : Hp} (s : Sx ex H H') (h : ∀ b ∈ ex, b ∈ N ∧ ∃ ys, H b = some (.lst ys)) : Kp N H H' :=
  ⟨s.tk fun b hb => (h b hb).2, fun b xs hn e => s b _ (fun z => hn (h b z).1) e, fun b ks hn e => s b _ (fun z => hn (h b z).1) e⟩
theorem Kp.trans {N : List Addr} {H H1 H2 : Hp} (a : Kp N H H1) (b : Kp N H1 H2) : Kp N H H2 := ⟨a.t.trans b.t, fun x xs n e => b.l x xs n (a.l x xs n e), fun x xs n e => b.d x xs n (a.d x xs n e)⟩
theorem Kp.refl (N : List Addr) (H : Hp) : Kp N H H := ⟨Tk.refl H, fun _ _ _ e => e, fun _ _ _ e => e⟩
theorem Kp.mono {N M : List Addr} {H H' : Hp} (a : Kp N H H') (h : ∀ b ∈ N, b ∈ M) : Kp M H H' := ⟨a.t, fun b xs n e => a.l b xs (fun z => n (h b z)) e, fun b xs n e => a.d b xs (fun z => n (h b z)) e⟩
/-- a list of one's own is written anew -/
theorem Kp.own {N : List Addr} {H : Hp} {p : Addr} {ys zs : List V} (e : H p = some (.lst ys)) (n : p ∈ N) : Kp N H (upd H p (.lst zs)) :=
  ⟨Tk.lst e, fun b xs hb h => by rw [upd_ne (fun z => hb (by rw [z]; exact n))]; exact h, fun b xs hb h => by rw [upd_ne (fun z => hb (by rw [z]; exact n))]; exact h⟩
mutual
theorem Gd.keep {N : List Addr} {H H' : Hp} (k : Kp N H H') : ∀ {v : V} {d : PyData}, Gd N H v d → Gd N H' v d
  | _, _, .non => .non
  | _, _, .bl b => .bl b
  | _, _, .int i => .int i
  | _, _, .str x => .str x
  | _, _, .tup h a => .tup (k.t _ _ h) (GdAll.keep k a)
  | _, _, .lst h n m a => .lst (k.l _ _ n h) n m (GdAll.keep k a)
  | _, _, .dic kvs h n => .dic kvs (k.d _ _ n h) n
theorem GdAll.keep {N : List Addr} {H H' : Hp} (k : Kp N H H') : ∀ {vs : List V} {ds : List PyData}, GdAll N H vs ds → GdAll N H' vs ds
  | _, _, .nil => .nil
  | _, _, .cons a b => .cons (Gd.keep k a) (GdAll.keep k b)
end
mutual
theorem Gd.anti {N M : List Addr} {H : Hp} (k : ∀ b ∈ M, b ∈ N) : ∀ {v : V} {d : PyData}, Gd N H v d → Gd M H v d
  | _, _, .non => .non
  | _, _, .bl b => .bl b
  | _, _, .int i => .int i
  | _, _, .str x => .str x
  | _, _, .tup h a => .tup h (GdAll.anti k a)
  | _, _, .lst h n m a => .lst h (fun z => n (k _ z)) m (GdAll.anti k a)
  | _, _, .dic kvs h n => .dic kvs h (fun z => n (k _ z))
theorem GdAll.anti {N M : List Addr} {H : Hp} (k : ∀ b ∈ M, b ∈ N) : ∀ {vs : List V} {ds : List PyData}, GdAll N H vs ds → GdAll M H vs ds
  | _, _, .nil => .nil
  | _, _, .cons a b => .cons (Gd.anti k a) (GdAll.anti k b)
end
mutual
theorem Tp.gd {N : List Addr} {H : Hp} : ∀ {v : V} {d : PyData}, Tp H v d → Gd N H v d
  | _, _, .non => .non
  | _, _, .bl b => .bl b
  | _, _, .int i => .int i
  | _, _, .str x => .str x
  | _, _, .tup h a => .tup h (TpAll.gd a)
theorem TpAll.gd {N : List Addr} {H : Hp} : ∀ {vs : List V} {ds : List PyData}, TpAll H vs ds → GdAll N H vs ds
  | _, _, .nil => .nil
  | _, _, .cons a b => .cons (Tp.gd a) (TpAll.gd b)
end
mutual
/-- no list and no dict in it -/
def plainD : PyData → Bool
  | .list _ => false
  | .dict _ => false
  | .tuple xs => plainL xs
  | _ => true
def plainL : List PyData → Bool
  | [] => true
  | d :: r => plainD d && plainL r
end
mutual
theorem Gd.tp {N : List Addr} {H : Hp} : ∀ {v : V} {d : PyData}, Gd N H v d → plainD d = true → Tp H v d
  | _, _, .non, _ => .non
  | _, _, .bl b, _ => .bl b
  | _, _, .int i, _ => .int i
  | _, _, .str x, _ => .str x
  | _, _, .tup h a, p => .tup h (GdAll.tp a (by simpa only [plainD] using p))
  | _, _, .lst _ _ _ _, p => by simp only [plainD] at p; cases p
  | _, _, .dic _ _ _, p => by simp only [plainD] at p; cases p
theorem GdAll.tp {N : List Addr} {H : Hp} : ∀ {vs : List V} {ds : List PyData}, GdAll N H vs ds → plainL ds = true → TpAll H vs ds
  | _, _, .nil, _ => .nil
  | _, _, .cons a b, p => by
    simp only [plainL, Bool.and_eq_true] at p
    exact .cons (Gd.tp a p.1) (GdAll.tp b p.2)
end
theorem Gd.new {N : List Addr} {H : Hp} {v : V} {d : PyData} {p : Addr} {o : HO} (h : Gd N H v d) (n : H p = none) : Gd N (upd H p o) v d := h.keep (Sx.n0 n).kp0
theorem GdAll.new {N : List Addr} {H : Hp} {vs : List V} {ds : List PyData} {p : Addr} {o : HO} (h : GdAll N H vs ds) (n : H p = none) : GdAll N (upd H p o) vs ds := h.keep (Sx.n0 n).kp0
theorem Gd.tuple {N : List Addr} {H : Hp} {v : V} {ds : List PyData} (h : Gd N H v (.tuple ds)) : ∃ a xs, v = .ref a ∧ H a = some (.tup xs) ∧ GdAll N H xs ds := by
  cases h with
  | tup h a => exact ⟨_, _, rfl, h, a⟩
theorem GdAll.len {N : List Addr} {H : Hp} : ∀ {vs : List V} {ds : List PyData}, GdAll N H vs ds → vs.length = ds.length
  | _, _, .nil => rfl
  | _, _, .cons _ b => by rw [List.length_cons, List.length_cons, GdAll.len b]
theorem GdAll.get {N : List Addr} {H : Hp} : ∀ {vs : List V} {ds : List PyData} {i : Nat} {v : V}, GdAll N H vs ds → vs[i]? = some v → ∃ d, ds[i]? = some d ∧ Gd N H v d
  | _, _, 0, _, .cons a _, e => ⟨_, rfl, by cases e; exact a⟩
  | _, _, i + 1, _, .cons _ b, e => GdAll.get (i := i) b e
theorem GdAll.append {N : List Addr} {H : Hp} : ∀ {vs ws : List V} {ds es : List PyData}, GdAll N H vs ds → GdAll N H ws es → GdAll N H (vs ++ ws) (ds ++ es)
  | _, _, _, _, .nil, h => h
  | _, _, _, _, .cons a b, h => .cons a (GdAll.append b h)
theorem GdAll.take {N : List Addr} {H : Hp} : ∀ (n : Nat) {vs : List V} {ds : List PyData}, GdAll N H vs ds → GdAll N H (vs.take n) (ds.take n)
  | 0, _, _, _ => .nil
  | _ + 1, _, _, .nil => .nil
  | n + 1, _, _, .cons a b => .cons a (GdAll.take n b)
theorem GdAll.drop {N : List Addr} {H : Hp} : ∀ (n : Nat) {vs : List V} {ds : List PyData}, GdAll N H vs ds → GdAll N H (vs.drop n) (ds.drop n)
  | 0, _, _, h => h
  | _ + 1, _, _, .nil => .nil
  | n + 1, _, _, .cons _ b => GdAll.drop n b
theorem GdAll.rev {N : List Addr} {H : Hp} : ∀ {vs : List V} {ds : List PyData}, GdAll N H vs ds → GdAll N H vs.reverse ds.reverse
  | _, _, .nil => .nil
  | _, _, .cons a b => by
    rw [List.reverse_cons]; rw [List.reverse_cons]
    exact (GdAll.rev b).append (.cons a .nil)
/-! ### of which class -/
def tyN : PyData → String
  | .none => "NoneType"
  | .bool _ => "bool"
  | .int _ => "int"
  | .str _ => "str"
  | .list _ => "list"
  | .tuple _ => "tuple"
  | .dict _ => "dict"
theorem Gd.ty {N : List Addr} {K : PySem.W.Frag} {H : Hp} {v : V} {d : PyData} (h : Gd N H v d) : TyX K H v (.type (tyN d)) := by
  cases h with
  | non => exact .base .non
  | bl b => exact .base (.bl b)
  | int i => exact .base (.int i)
  | str x => exact .base (.str x)
  | tup h _ => exact .base (.tup h)
  | lst h _ _ _ => exact .base (.lst h)
  | dic _ h _ => exact .base (.dK h)
def isTup : PyData → Bool
  | .tuple _ => true
  | _ => false
def isStr : PyData → Bool
  | .str _ => true
  | _ => false
def isBol : PyData → Bool
  | .bool _ => true
  | _ => false
def isInb : PyData → Bool
  | .int _ => true
  | .bool _ => true
  | _ => false
def isInt : PyData → Bool
  | .int _ => true
  | _ => false
theorem kb_tuple (d : PyData) : kitB (tyN d) "tuple" = some (isTup d) := by cases d <;> (simp only [tyN, isTup]; decide +kernel)
theorem kb_str (d : PyData) : kitB (tyN d) "str" = some (isStr d) := by cases d <;> (simp only [tyN, isStr]; decide +kernel)
theorem kb_bool (d : PyData) : kitB (tyN d) "bool" = some (isBol d) := by cases d <;> (simp only [tyN, isBol]; decide +kernel)
theorem kb_int (d : PyData) : kitB (tyN d) "int" = some (isInb d) := by cases d <;> (simp only [tyN, isInb]; decide +kernel)
/-! ### a value and a text, by == -/
section
open PySem.SeqAt PySem.AutoSeq1 PySem.MeetsSeq
theorem dic_text {l : Addr} {items : Array DictEntry} {n : Nat} {dd : Option Addr} {sl : Array (Option Value)} (b : Str) (u : Tok) :
    Meets (Builtin.«dict.__eq__» ⟨[.ref l, .str b u], []⟩) (fun _ R s => s.heap.get? l = some { cls := .type "dict", dict := dd, data := .dict items n, slots := sl } ∧ R (.ok (.ret .notImplemented)) s) :=
  .of_wp fun prog w A R s h => by obtain ⟨hp, g, d, tk, os⟩ := s; obtain ⟨hl, h⟩ := h; have f1 := PySem.F.sub_str_dict; wp_walk using wpAny_loadPart' hl; exact ⟨_, rfl, h⟩
theorem text_dic (b : Str) (u : Tok) (l : Addr) (items : Array DictEntry) (n : Nat) (dd : Option Addr) (sl : Array (Option Value)) :
    Meets (Builtin.«str.__eq__» ⟨[.str b u, .ref l], []⟩) (fun _ R s => s.heap.get? l = some { cls := .type "dict", dict := dd, data := .dict items n, slots := sl } ∧ R (.ok (.ret .notImplemented)) s) :=
  .of_wp fun prog w A R s h => by obtain ⟨h1, h2, h3, h4, h5⟩ := s; obtain ⟨hl, h⟩ := h; wp_walk using wpAny_loadPart' hl, wpAny_load hl; exact ⟨_, rfl, h⟩
theorem rc_dic_text {A : Around} {s : Shared} {l : Addr} {o : Obj} {es : Array DictEntry} {ep : Nat} (b : Str) (u : Tok) (ho : s.heap.get? l = some o) (hc : o.ExactDict) (hd : o.data = .dict es ep) (hu : A.units < cLine) : RcAt A s (.ref l) (.str b u) false := fun prog w E Q h => by
  obtain ⟨cls, dd, data, sl⟩ := o
  obtain ⟨hc, _, _⟩ := hc
  simp only at hc hd
  subst hc hd
  exact rc_eq_decline_or (k := false) ⟨_, ho, rfl⟩ (typeIs_str s b u) (by decide) PySem.F.sub_str_dict PySem.F.slot_dict_eq PySem.F.slot_str_eq_refl
    (fun _ hq => call_meets PySem.F.slot_dict_eq ⟨_, ho, rfl⟩ PySem.F.entry_dict_eq (PySem.F.args_dict_eq_2 _ _) (dic_text b u) ⟨ho, hq⟩)
    (fun _ hq => call_meets PySem.F.slot_str_eq_refl (typeIs_str s b u) PySem.F.entry_str_eq (PySem.F.args_str_eq_2 _ _) (text_dic b u l es ep dd sl) ⟨ho, hq⟩)
    (fun _ same => wpAny_of_eq (rfl : isSame (.ref l) (.str b u) = pure false) same) (.inr hu) h
/-- it is that text -/
def isTx (z : Str) : PyData → Bool
  | .str y => decide (V.str y = V.str z)
  | _ => false
def rEqS : R2 := fun x y H Q => ∃ (N : List Addr) (d : PyData) (z : Str), y = .str z ∧ Gd N H x d ∧ Q (.bl (isTx z d)) H
theorem op_eqS {X : Cx} (hu0 : X.A.units + 64 < cLine) : OpR X (compareOp .Eq) rEqS := by
  intro pins s σ H x y v u Q I rx ry asked
  have hu : X.A.units < cLine := by omega
  obtain ⟨N, d, z, rfl, hd, q⟩ := asked
  cases hd with
  | non => exact op_eq pins s σ H _ _ v u Q I rx ry ⟨rfl, by rw [decide_eq_false (by simp)]; exact q⟩
  | bl b => exact op_eq pins s σ H _ _ v u Q I rx ry ⟨rfl, by rw [decide_eq_false (by simp)]; exact q⟩
  | int i => exact op_eq pins s σ H _ _ v u Q I rx ry ⟨rfl, by rw [decide_eq_false (by simp)]; exact q⟩
  | str t => exact op_eq pins s σ H _ _ v u Q I rx ry ⟨rfl, q⟩
  | tup ha _ =>
    cases rx
    obtain ⟨t, rfl⟩ := ry
    obtain ⟨its, _, pl, _⟩ := I.tuple (SqT.of ha)
    exact RcAt.tuple_str z t pl hu _ _ _ _ ⟨.bl _, H, I, rfl, q⟩
  | lst ha _ _ _ =>
    cases rx
    obtain ⟨t, rfl⟩ := ry
    obtain ⟨its, _, pl, _⟩ := I.list (SqL.of ha)
    exact RcAt.list_str z t pl.isList hu _ _ _ _ ⟨.bl _, H, I, rfl, q⟩
  | dic kvs ha _ =>
    cases rx
    obtain ⟨t, rfl⟩ := ry
    obtain ⟨_, _, vs, _, o, es, ep, ho, hc, hd, _⟩ := (show ObjOk X.prog X.w H s.heap _ (.dK _) from I.hok _ _ ha)
    exact rc_dic_text z t ho hc hd hu _ _ _ _ ⟨.bl _, H, I, rfl, q⟩
/-! ### a tuple and the empty one, by == -/
def isNl : PyData → Bool
  | .tuple [] => true
  | _ => false
def rEqE : R2 := fun x y H Q => ∃ (N : List Addr) (ds : List PyData) (b : Addr), y = .ref b ∧ H b = some (.tup []) ∧ Gd N H x (.tuple ds) ∧ Q (.bl (isNl (.tuple ds))) H
theorem op_eqE {X : Cx} (hu0 : X.A.units + 64 < cLine) : OpR X (compareOp .Eq) rEqE := by
  intro pins s σ H x y v u Q I rx ry asked
  have hu : X.A.units < cLine := by omega
  obtain ⟨N, ds, b, rfl, hb, hd, q⟩ := asked
  obtain ⟨a, xs, rfl, ha, hx⟩ := hd.tuple
  cases rx
  cases ry
  obtain ⟨its, rv, pl, _⟩ := I.tuple (SqT.of ha)
  obtain ⟨its2, rv2, pl2, _⟩ := I.tuple (SqT.of hb)
  cases rv2
  refine RcAt.tuples (e := fun _ => false) pl pl2 hu (fun j j1 j2 => absurd j2 (by simp)) _ _ _ _ ⟨.bl _, H, I, ?_, q⟩
  have h1 := rv.length
  have h2 := hx.len
  cases ds with
  | nil =>
    obtain rfl : xs = [] := List.length_eq_zero_iff.mp (by simpa using h2)
    cases rv
    rfl
  | cons d r =>
    obtain ⟨x0, xs0, rfl⟩ : ∃ x0 xs0, xs = x0 :: xs0 := by
      cases xs with
      | nil => simp at h2
      | cons x0 xs0 => exact ⟨_, _, rfl⟩
    cases rv with
    | cons _ _ => rfl
end
/-! ### what the program says of values of any kind -/
def azL : List Nat := (Str.ofString "abcdefghijklmnopqrstuvwxyz").cps.toList
def anL : List Nat := (Str.ofString "abcdefghijklmnopqrstuvwxyz" ++ Str.ofString "0123456789").cps.toList
/-- a name -/
def nmB (z : Str) : Bool := decide (1 ≤ z.length) && (decide (z.length ≤ 8) && (!inV (.str z) (WordsK.map V.str) && (decide (z.cps.toList.headD 0 ∈ azL) && z.cps.toList.all fun c => decide (c ∈ anL))))
def nmD : PyData → Bool
  | .str z => nmB z
  | _ => false
def inB (lo hi i : Int) : Bool := decide (lo ≤ i) && decide (i ≤ hi)
/-- an integer between -/
def btD (lo hi : Int) : PyData → Bool
  | .int i => inB lo hi i
  | _ => false
def exB : Nat → PyData → Bool
  | 0, _ => false
  | n + 1, d => match d with
    | .int i => inB (-99) 99 i
    | .str z => nmB z
    | .tuple [.str h, x, y] => if h = "plus" ∨ h = "minus" then exB n x && exB n y else if h = "times" then btD (-9) 9 x && exB n y else false
    | _ => false
def tsB : Nat → PyData → Bool
  | n, .tuple [.str h, x] => if h = "not" then (match n with
    | 0 => false
    | m + 1 => tsB m x) else false
  | _, .tuple [.str h, x, y] => if h = "less" then exB 3 x && exB 3 y else false
  | _, .tuple [.str h, x, b, r] => if h = "rest" then (match b with
    | .int i => inB 2 6 i && (exB 3 x && btD 0 (i - 1) r)
    | _ => false) else false
  | _, _ => false
def stB : PyData → Bool
  | .tuple [.str h] => decide (h = "stop")
  | .tuple [.str h, x] => if h = "pay" then exB 3 x else false
  | .tuple [.str h, x, y] => if h = "set" then nmD x && exB 3 y else if h = "repeat" then btD 1 8 x && isTup y else false
  | .tuple [.str h, x, y, z] => if h = "if" then tsB 2 x && (isTup y && isTup z) else false
  | _ => false
def hdG : PyData → Option (Str × Nat)
  | .tuple (.str h :: xs) => some (h, xs.length + 1)
  | _ => none
/-- headed by a text, or not -/
theorem hdG_cases (d : PyData) : (∃ h xs, d = .tuple (.str h :: xs) ∧ hdG d = some (h, xs.length + 1)) ∨ (hdG d = none ∧ ∀ h xs, d ≠ .tuple (.str h :: xs)) := by
  match d with
  | .tuple (.str h :: xs) => exact .inl ⟨h, xs, rfl, rfl⟩
  | .none => exact .inr ⟨rfl, fun _ _ z => by cases z⟩
  | .bool _ => exact .inr ⟨rfl, fun _ _ z => by cases z⟩
  | .int _ => exact .inr ⟨rfl, fun _ _ z => by cases z⟩
  | .str _ => exact .inr ⟨rfl, fun _ _ z => by cases z⟩
  | .list _ => exact .inr ⟨rfl, fun _ _ z => by cases z⟩
  | .dict _ => exact .inr ⟨rfl, fun _ _ z => by cases z⟩
  | .tuple [] => exact .inr ⟨rfl, fun _ _ z => by cases z⟩
  | .tuple (.none :: _) => exact .inr ⟨rfl, fun _ _ z => by cases z⟩
  | .tuple (.bool _ :: _) => exact .inr ⟨rfl, fun _ _ z => by cases z⟩
  | .tuple (.int _ :: _) => exact .inr ⟨rfl, fun _ _ z => by cases z⟩
  | .tuple (.list _ :: _) => exact .inr ⟨rfl, fun _ _ z => by cases z⟩
  | .tuple (.dict _ :: _) => exact .inr ⟨rfl, fun _ _ z => by cases z⟩
  | .tuple (.tuple _ :: _) => exact .inr ⟨rfl, fun _ _ z => by cases z⟩
theorem hdG_none {d : PyData} (h : hdG d = none) (w : Str) (n : Int) : hdIs (hdG d) w n = false := by rw [h]; rfl
/-- headed so -/
theorem hdIs_inv {d : PyData} {w : Str} {n : Nat} (h : hdIs (hdG d) w n = true) : ∃ xs, d = .tuple (.str w :: xs) ∧ xs.length + 1 = n := by
  rcases hdG_cases d with ⟨z, xs, rfl, e⟩ | ⟨e, _⟩
  · rw [e] at h
    have h : (decide (V.int ((xs.length + 1 : Nat) : Int) = V.int n) && decide (V.str z = V.str w)) = true := h
    rw [Bool.and_eq_true] at h
    have h1 := V.int.inj (of_decide_eq_true h.1)
    obtain rfl := V.str.inj (of_decide_eq_true h.2)
    exact ⟨xs, rfl, by omega⟩
  · rw [e] at h; cases h
theorem hdIs_mk (w : Str) (xs : List PyData) : hdIs (hdG (.tuple (.str w :: xs))) w ((xs.length + 1 : Nat) : Int) = true := by
  show (decide (V.int ((xs.length + 1 : Nat) : Int) = V.int ((xs.length + 1 : Nat) : Int)) && decide (V.str w = V.str w)) = true
  simp
theorem l1 {α : Type} {xs : List α} (h : xs.length + 1 = 2) : ∃ x, xs = [x] := by
  match xs, h with
  | [x], _ => exact ⟨x, rfl⟩
theorem l2 {α : Type} {xs : List α} (h : xs.length + 1 = 3) : ∃ x y, xs = [x, y] := by
  match xs, h with
  | [x, y], _ => exact ⟨x, y, rfl⟩
theorem l3 {α : Type} {xs : List α} (h : xs.length + 1 = 4) : ∃ x y z, xs = [x, y, z] := by
  match xs, h with
  | [x, y, z], _ => exact (⟨x, y, z, rfl⟩)
theorem gd1 {N : List Addr} {H : Hp} {v : V} {a : PyData} (h : Gd N H v (.tuple [a])) : ∃ (p : Addr) (x : V), v = .ref p ∧ H p = some (.tup [x]) ∧ Gd N H x a := by
  obtain ⟨p, xs, rfl, hp, hx⟩ := h.tuple
  cases hx with
  | cons h1 hx => cases hx; exact ⟨p, _, rfl, hp, h1⟩
theorem gd2 {N : List Addr} {H : Hp} {v : V} {a b : PyData} (h : Gd N H v (.tuple [a, b])) : ∃ (p : Addr) (x y : V), v = .ref p ∧ H p = some (.tup [x, y]) ∧ Gd N H x a ∧ Gd N H y b := by
  obtain ⟨p, xs, rfl, hp, hx⟩ := h.tuple
  cases hx with
  | cons h1 hx => cases hx with
    | cons h2 hx => cases hx; exact ⟨p, _, _, rfl, hp, h1, h2⟩
theorem gd3 {N : List Addr} {H : Hp} {v : V} {a b c : PyData} (h : Gd N H v (.tuple [a, b, c])) : ∃ (p : Addr) (x y z : V), v = .ref p ∧ H p = some (.tup [x, y, z]) ∧ Gd N H x a ∧ Gd N H y b ∧ Gd N H z c := by
  obtain ⟨p, xs, rfl, hp, hx⟩ := h.tuple
  cases hx with
  | cons h1 hx => cases hx with
    | cons h2 hx => cases hx with
      | cons h3 hx => cases hx; exact ⟨p, _, _, _, rfl, hp, h1, h2, h3⟩
theorem gd4 {N : List Addr} {H : Hp} {v : V} {a b c d : PyData} (h : Gd N H v (.tuple [a, b, c, d])) : ∃ (p : Addr) (x y z u : V), v = .ref p ∧ H p = some (.tup [x, y, z, u]) ∧ Gd N H x a ∧ Gd N H y b ∧ Gd N H z c ∧ Gd N H u d := by
  obtain ⟨p, xs, rfl, hp, hx⟩ := h.tuple
  cases hx with
  | cons h1 hx => cases hx with
    | cons h2 hx => cases hx with
      | cons h3 hx => cases hx with
        | cons h4 hx => cases hx; exact ⟨p, _, _, _, _, rfl, hp, h1, h2, h3, h4⟩
/-- sizes of parts -/
theorem wt_mem {x : PyData} : ∀ {xs : List PyData}, x ∈ xs → PyData.weight x + 1 ≤ PyData.weightAll xs
  | [], h => by cases h
  | y :: xs, h => by
    simp only [PyData.weightAll]
    rcases List.mem_cons.1 h with rfl | h
    · omega
    · have := wt_mem h; omega
theorem wt_tup {x : PyData} {xs : List PyData} {n : Nat} (h : (PyData.tuple xs).weight ≤ n) (hx : x ∈ xs) : x.weight ≤ n := by
  have := wt_mem hx
  simp only [PyData.weight] at h
  omega
theorem wt_len : ∀ (xs : List PyData), xs.length ≤ PyData.weightAll xs
  | [] => by simp
  | y :: xs => by simp only [PyData.weightAll, List.length_cons]; have := wt_len xs; omega
abbrev WB : Nat := 1000000
def spIsIntG : Sp := fun vs H Q _ => ∃ (N : List Addr) (v : V) (d : PyData), vs = [v] ∧ Gd N H v d ∧ Q (.bl (isInt d)) H
def spBetG : Sp := fun vs H Q _ => ∃ (N : List Addr) (v : V) (d : PyData) (lo hi : Int), vs = [v, .int lo, .int hi] ∧ Gd N H v d ∧ Q (.bl (btD lo hi d)) H
def spHeadG : Sp := fun vs H Q _ => ∃ (N : List Addr) (v : V) (d : PyData) (word : Str) (n : Nat), vs = [v, .str word, .int n] ∧ 1 ≤ n ∧ Gd N H v d ∧ Q (.bl (hdIs (hdG d) word n)) H
def spNameG : Sp := fun vs H Q _ => ∃ (N : List Addr) (v : V) (d : PyData), vs = [v] ∧ Gd N H v d ∧ d.weight ≤ WB ∧ ∀ H', Sx [] H H' → Q (.bl (nmD d)) H'
def spExprG (m : Nat) : Sp := fun vs H Q _ => ∃ (N : List Addr) (v : V) (d : PyData) (n : Nat), vs = [v, .int n] ∧ n < m ∧ Gd N H v d ∧ d.weight ≤ WB ∧ ∀ H', Sx [] H H' → Q (.bl (exB n d)) H'
def spTestG (m : Nat) : Sp := fun vs H Q _ => ∃ (N : List Addr) (v : V) (d : PyData) (n : Nat), vs = [v, .int n] ∧ n < m ∧ Gd N H v d ∧ d.weight ≤ WB ∧ ∀ H', Sx [] H H' → Q (.bl (tsB n d)) H'
def spStG : Sp := fun vs H Q _ => ∃ (N : List Addr) (v : V) (d : PyData), vs = [v] ∧ Gd N H v d ∧ d.weight ≤ WB ∧ ∀ H', Sx [] H H' → Q (.bl (stB d)) H'
section
variable {w : World} {P : Program} {K : PySem.W.Frag} {mg : Str → Option Value} {base : Heap}
theorem ok_gint {f : Addr} {fd : FuncData} {k : Nat} (F_pis_integer : Fun K "is_integer" "is_integer" sPIsInteger f fd) (z_isinstance : mg "isinstance" = none) (z_int : mg "int" = none) (z_bool : mg "bool" = none) : FnOk P w K mg base CX0 (k + 1) f fd ["value"] spIsIntG := by
  refine F_pis_integer.ok scPIsInteger (fun vs H Q E h => ?_) (fun cdv A outer s H vs Q E hr h => ?_)
  · obtain ⟨_, _, _, rfl, _⟩ := h
    rfl
  · obtain ⟨N, v, d, rfl, hd, q⟩ := h
    refine ⟨_, (pss_one (ps_ret (pe_and (pe_callB call_isi (by rfl) z_isinstance (by decide +kernel) (pa_cons (pv 0) (pa_cons (pe_bltn (v := .ty "int") (by rfl) z_int (by decide +kernel) rfl) pa_nil))) (pe_one (pe_not (pe_callB call_isi (by rfl) z_isinstance (by decide +kernel) (pa_cons (pv 0) (pa_cons (pe_bltn (v := .ty "bool") (by rfl) z_bool (by decide +kernel) rfl) pa_nil)))))))), ?_⟩
    refine ⟨_, rfl, _, _, _, _, _, rfl, .ty _, hd.ty, kit_ty (kb_int d), _, rfl, ?_⟩
    cases d with
    | int i => exact iteT ⟨_, rfl, _, _, _, _, _, rfl, .ty _, hd.ty, kit_ty (kb_bool _), _, rfl, q⟩
    | bool b => exact iteT ⟨_, rfl, _, _, _, _, _, rfl, .ty _, hd.ty, kit_ty (kb_bool _), _, rfl, q⟩
    | _ => exact iteF q
theorem ok_gbetween {f fI : Addr} {fd fdI : FuncData} {k : Nat} (F_pis_between : Fun K "is_between" "is_between" sPIsBetween f fd) (F_pis_integer : Fun K "is_integer" "is_integer" sPIsInteger fI fdI) (G_pis_integer : FnOk P w K mg base CX0 1 fI fdI ["value"] spIsIntG)
    (b_pis_integer : Binds K fdI ["value"] []) (m_pis_integer : mg "is_integer" = some (.ref fI)) : FnOk P w K mg base CX0 (k + 2) f fd ["value", "low", "high"] spBetG := by
  refine F_pis_between.ok scPIsBetween (fun vs H Q E h => ?_) (fun cdv A outer s H vs Q E hr h => ?_)
  · obtain ⟨_, _, _, _, _, rfl, _⟩ := h
    rfl
  · obtain ⟨N, v, d, lo, hi, rfl, hd, q⟩ := h
    refine ⟨_, (pss_one (ps_ret (pe_and (pe_call G_pis_integer (hr.mono (by omega)) (by rfl) m_pis_integer F_pis_integer.kp b_pis_integer .nil pass0 (pa_cons (pv 0) pa_nil)) (pe_one (pe_chain op_le op_le (pv 1) (pv 0) (pv 2)))))), ?_⟩
    refine ⟨_, rfl, N, v, d, rfl, hd, _, rfl, ?_⟩
    cases hd with
    | int i =>
      refine iteT ⟨_, rfl, _, rfl, _, _, rfl, rfl, _, rfl, ?_⟩
      have q : Q (.bl (decide (lo ≤ i) && decide (i ≤ hi))) H := q
      by_cases h : lo ≤ i
      · rw [decide_eq_true h] at q ⊢
        exact iteT ⟨_, rfl, _, _, rfl, rfl, q⟩
      · rw [decide_eq_false h] at q ⊢
        exact iteF q
    | _ => exact iteF q
theorem ok_gheaded {f : Addr} {fd : FuncData} {k : Nat} (F_pis_headed : Fun K "is_headed" "is_headed" sPIsHeaded f fd) (z_isinstance : mg "isinstance" = none) (z_tuple : mg "tuple" = none) (z_len : mg "len" = none) : FnOk P w K mg base CX0 (k + 1) f fd ["value", "word", "size"] spHeadG := by
  refine F_pis_headed.ok scPIsHeaded (fun vs H Q E h => ?_) (fun cdv A outer s H vs Q E hr h => ?_)
  · obtain ⟨_, _, _, _, _, rfl, _⟩ := h
    rfl
  · obtain ⟨N, v, d, word, n, rfl, hn, hd, q⟩ := h
    refine ⟨_, (pss_one (ps_ret (pe_and (pe_callB call_isi (by rfl) z_isinstance (by decide +kernel) (pa_cons (pv 0) (pa_cons (pe_bltn (v := .ty "tuple") (by rfl) z_tuple (by decide +kernel) rfl) pa_nil))) (pe_and (pe_cmpR op_eq (pe_callB call_len_seq (by rfl) z_len boot_len (pa_cons (pv 0) pa_nil)) (pv 2) (nomark _)) (pe_one (pe_cmpR (op_eqS hr.units) (pe_ix ix_tup (pv 0) pe_int (fun _ _ => rfl)) (pv 1) (nomark _))))))), ?_⟩
    refine ⟨_, rfl, _, _, _, _, _, rfl, .ty _, hd.ty, kit_ty (kb_tuple d), _, rfl, ?_⟩
    cases d with
    | tuple ds =>
      obtain ⟨a, xs, rfl, ha, hx⟩ := hd.tuple
      refine iteT ⟨_, rfl, a, _, rfl, .inr (SqT.of ha), _, rfl, rfl, _, rfl, ?_⟩
      have hl := hx.len
      by_cases e : V.int ((xs.length : Nat) : Int) = V.int n
      · rw [decide_eq_true e]
        have e2 := V.int.inj e
        cases hx with
        | nil => simp at e2; omega
        | @cons x xs d ds h1 hx =>
          refine iteT ⟨_, rfl, a, _, _, x, rfl, rfl, SqT.of ha, at0 _ _, _, rfl, N, d, word, rfl, h1, ?_⟩
          have hl2 : xs.length = ds.length := hx.len
          have q2 : hdIs (hdG (.tuple (d :: ds))) word n = isTx word d := by
            cases d with
            | str z =>
              show (decide (V.int ((ds.length + 1 : Nat) : Int) = V.int n) && decide (V.str z = V.str word)) = _
              rw [← hl2, decide_eq_true (show V.int ((xs.length + 1 : Nat) : Int) = V.int n from e)]
              rfl
            | _ => rfl
          rw [q2] at q
          exact q
      · rw [decide_eq_false e]
        refine iteF ?_
        have q2 : hdIs (hdG (.tuple ds)) word n = false := by
          cases z : hdIs (hdG (.tuple ds)) word n with
          | false => rfl
          | true =>
            obtain ⟨ys, e1, e2⟩ := hdIs_inv z
            cases e1
            exact absurd (congrArg V.int (show ((xs.length : Nat) : Int) = n by rw [hl, List.length_cons]; omega)) e
        rw [q2] at q
        exact q
    | _ => exact iteF q
theorem ok_gname {f : Addr} {fd : FuncData} {k : Nat} {a_WORDS : Addr} {tN : Tok} {tL tD : Tok} (F_pis_name : Fun K "is_name" "is_name" sPIsName f fd) (m_MAX_NAME : mg "MAX_NAME" = some (.int 8 tN)) (m_WORDS : mg "WORDS" = some (.ref a_WORDS)) (h_WORDS : ∀ H : Hp, SqT K H a_WORDS (WordsK.map V.str))
    (m_LETTERS : mg "LETTERS" = some (.str "abcdefghijklmnopqrstuvwxyz" tL)) (m_DIGITS : mg "DIGITS" = some (.str "0123456789" tD)) (z_isinstance : mg "isinstance" = none) (z_str : mg "str" = none) (z_len : mg "len" = none) (z_all : mg "all" = none) : FnOk P w K mg base CX0 (k + 1) f fd ["value"] spNameG := by
  refine F_pis_name.ok scPIsName (fun vs H Q E h => ?_) (fun cdv A outer s H vs Q E hr h => ?_)
  · obtain ⟨_, _, _, rfl, _⟩ := h
    rfl
  · obtain ⟨N, v, d, rfl, hd, hw, q⟩ := h
    refine ⟨_, (pss_cons (ps_if (PW.pt (pw_or (pt_not (pt_val (pe_callB call_isi (by rfl) z_isinstance (by decide +kernel) (pa_cons (pv 0) (pa_cons (pe_bltn (v := .ty "str") (by rfl) z_str (by decide +kernel) rfl) pa_nil))))) (pw_or1 (pt_not (pt_chain op_le op_le pe_int (pe_callB call_len_str (by rfl) z_len boot_len (pa_cons (pv 0) pa_nil)) (pe_glob (v := .int 8) (by rfl) m_MAX_NAME ⟨_, rfl⟩)))))) (pss_one (ps_ret pe_bl)) pss_nil)
      (pss_cons (ps_if (PW.pt (pw_or (pt_cmpR op_in_seq (pv 0) (pe_glob (v := .ref a_WORDS) (by rfl) m_WORDS rfl) (by with_unfolding_all rfl)) (pw_or1 (pt_cmpR op_notIn_sign (pe_ix ix_str (pv 0) pe_int (fun _ _ => rfl)) (pe_glob (v := .str "abcdefghijklmnopqrstuvwxyz") (by rfl) m_LETTERS ⟨_, rfl⟩) (by with_unfolding_all rfl))))) (pss_one (ps_ret pe_bl)) pss_nil)
      (pss_one (ps_ret (pe_callB (cr_all rfl) (by rfl) z_all boot_all (pa_cons (pe_lc (own := [("letter", 1)]) (g := gName 1) (tt := tYes) rfl scPIsName.nd (pi_str (pv 0)) (blkOk_by (N := nPIsName) (sc := defScope sPIsName) (by decide +kernel)) (fun _ _ _ _ _ => (pg_name (i := 1) scPIsName.nd rfl (by first | exact Or.inl rfl | exact Or.inr rfl))) (fun _ _ _ _ _ => pts_nil) (fun _ _ _ _ _ => (pe_cmpR op_in_sign (pv 1) (pe_op op_add_str (pe_glob (v := .str "abcdefghijklmnopqrstuvwxyz") (by rfl) m_LETTERS ⟨_, rfl⟩) (pe_glob (v := .str "0123456789") (by rfl) m_DIGITS ⟨_, rfl⟩)) (by with_unfolding_all rfl)))) pa_nil)))))), ?_⟩
    refine ⟨_, rfl, _, _, _, _, _, rfl, .ty _, hd.ty, kit_ty (kb_str d), _, rfl, ?_⟩
    cases hd with
    | str z =>
      refine iteF ?_
      have zl : z.length ≤ sizeLine := by
        simp only [PyData.weight] at hw
        have : z.length ≤ 1000000 := hw
        show z.length ≤ 16777216; omega
      have q : ∀ H', Sx [] H H' → Q (.bl (nmB z)) H' := q
      unfold nmB at q
      refine ⟨_, rfl, z, rfl, zl, _, _, rfl, rfl, _, rfl, ?_⟩
      by_cases z1 : (1 : Int) ≤ (z.length : Int)
      case neg =>
        rw [decide_eq_false z1]
        rw [decide_eq_false (by omega : ¬ 1 ≤ z.length), Bool.false_and] at q
        exact iteN (by simp) ⟨_, rfl, iteT (q H (Sx.refl _))⟩
      rw [decide_eq_true z1]
      rw [decide_eq_true (by omega : 1 ≤ z.length), Bool.true_and] at q
      refine iteP rfl ⟨_, _, rfl, rfl, _, rfl, ?_⟩
      by_cases z8 : (z.length : Int) ≤ 8
      case neg =>
        rw [decide_eq_false z8]
        rw [decide_eq_false (by omega : ¬ z.length ≤ 8), Bool.false_and] at q
        exact iteT (q H (Sx.refl _))
      rw [decide_eq_true z8]
      rw [decide_eq_true (by omega : z.length ≤ 8), Bool.true_and] at q
      refine iteF ?_
      refine ⟨_, rfl, a_WORDS, _, rfl, .inr (h_WORDS _), rfl, by decide +kernel, _, rfl, ?_⟩
      cases hk : inV (.str z) (WordsK.map V.str) with
      | true =>
        rw [hk, Bool.not_true, Bool.false_and] at q
        exact iteT (iteT (q H (Sx.refl _)))
      | false =>
      rw [hk, Bool.not_false, Bool.true_and] at q
      refine iteF ?_
      obtain ⟨c, r, hcr⟩ : ∃ c r, z.cps.toList = c :: r := by
        cases e : z.cps.toList with
        | nil =>
          have : z.length = z.cps.toList.length := by simp [Str.length]
          rw [e] at this
          simp at this
          omega
        | cons c r => exact ⟨c, r, rfl⟩
      have hc : z.cps.toList[0]? = some c := by rw [hcr]; rfl
      refine ⟨_, rfl, z, 0, c, rfl, rfl, zl, atI_nat (j := 0) hc, c, _, rfl, rfl, _, rfl, ?_⟩
      have hd0 : z.cps.toList.headD 0 = c := by rw [hcr]; rfl
      rw [hd0] at q
      by_cases ha : c ∈ azL
      case neg =>
        rw [decide_eq_false ha, Bool.false_and] at q
        rw [decide_eq_false (show ¬ c ∈ (Str.ofString "abcdefghijklmnopqrstuvwxyz").cps.toList from ha)]
        exact iteT (q H (Sx.refl _))
      rw [decide_eq_true ha, Bool.true_and] at q
      rw [decide_eq_true (show c ∈ (Str.ofString "abcdefghijklmnopqrstuvwxyz").cps.toList from ha)]
      refine iteF ?_
      refine ⟨_, rfl, z, rfl, fun D hD => lc_str (fun i H1 => Sx [] H H1 ∧ H1 D = some (.lst ((z.cps.toList.take i).map fun c => V.bl (decide (c ∈ anL))))) ⟨Sx.n0 hD, upd_same⟩ (fun i c H1 hi p => ?_) (fun H1 p => ?_)⟩
      · refine ⟨rfl, ?_⟩
        have hi' : z.cps.toList[i]? = some c := by rw [Array.getElem?_toList]; exact hi
        have hlen : i < z.length := (Array.getElem?_eq_some_iff.mp hi).1
        refine ⟨_, rfl, _, _, rfl, rfl, by decide +kernel, c, _, rfl, rfl, ?_⟩
        refine ⟨_, p.2, lt_line (by rw [List.length_map, List.length_take]; omega), p.1.own hD, ?_⟩
        rw [upd_same, List.take_add_one, hi', List.map_append]
        rfl
      · refine ⟨D, (z.cps.toList.map fun c => decide (c ∈ anL)), rfl, SqL.of (by rw [p.2, show z.cps.size = z.cps.toList.length by simp, List.take_length, List.map_map]; rfl), ?_⟩
        have e : (z.cps.toList.map fun c => decide (c ∈ anL)).all id = z.cps.toList.all fun c => decide (c ∈ anL) := by rw [List.all_map]; rfl
        rw [e]
        exact q _ p.1
    | _ => exact iteT (q H (Sx.refl _))
end
abbrev sWhole : Stmt := topS 59
abbrev nWhole : List Str := ["_law_value_here", "_law_least", "_law_most"]
theorem scWhole : FnScope nWhole ["_law_value_here", "_law_least", "_law_most"] (defScope sWhole) := ⟨rfl, rfl, rfl, by decide +kernel, rfl, by decide +kernel, by decide +kernel⟩
abbrev sIsName : Stmt := topS 60
abbrev nIsName : List Str := ["_law_value_here", "_law_kept", "_law_letter"]
theorem scIsName : FnScope nIsName ["_law_value_here"] (defScope sIsName) := ⟨rfl, rfl, rfl, by decide +kernel, rfl, by decide +kernel, by decide +kernel⟩
abbrev sIsExpression : Stmt := topS 61
abbrev nIsExpression : List Str := ["_law_value_here", "_law_deep"]
theorem scIsExpression : FnScope nIsExpression ["_law_value_here", "_law_deep"] (defScope sIsExpression) := ⟨rfl, rfl, rfl, by decide +kernel, rfl, by decide +kernel, by decide +kernel⟩
abbrev sIsRest : Stmt := topS 62
abbrev nIsRest : List Str := ["_law_value_here"]
theorem scIsRest : FnScope nIsRest ["_law_value_here"] (defScope sIsRest) := ⟨rfl, rfl, rfl, by decide +kernel, rfl, by decide +kernel, by decide +kernel⟩
abbrev sIsTest : Stmt := topS 63
abbrev nIsTest : List Str := ["_law_value_here", "_law_nots"]
theorem scIsTest : FnScope nIsTest ["_law_value_here", "_law_nots"] (defScope sIsTest) := ⟨rfl, rfl, rfl, by decide +kernel, rfl, by decide +kernel, by decide +kernel⟩
abbrev sIsStatement : Stmt := topS 64
abbrev nIsStatement : List Str := ["_law_value_here", "_law_part"]
theorem scIsStatement : FnScope nIsStatement ["_law_value_here"] (defScope sIsStatement) := ⟨rfl, rfl, rfl, by decide +kernel, rfl, by decide +kernel, by decide +kernel⟩
/-! ### a list and the empty one, by == and != -/
theorem call_isiK {X : Cx} {K : PySem.W.Frag} (h : X.K = K) : CallR X (.builtin "isinstance") (rIsi K) := h ▸ call_isi
def rEqL0 : R2 := fun x y H Q => ∃ (a b : Addr) (xs : List V), x = .ref a ∧ y = .ref b ∧ H a = some (.lst xs) ∧ H b = some (.lst []) ∧ Q (.bl xs.isEmpty) H
def rNeL0 : R2 := fun x y H Q => ∃ (a b : Addr) (xs : List V), x = .ref a ∧ y = .ref b ∧ H a = some (.lst xs) ∧ H b = some (.lst []) ∧ Q (.bl !xs.isEmpty) H
section
open PySem.SeqAt
theorem op_eqL0 {X : Cx} (hu0 : X.A.units + 64 < cLine) : OpR X (compareOp .Eq) rEqL0 := by
  intro pins s σ H x y v u Q I rx ry asked
  have hu : X.A.units < cLine := by omega
  obtain ⟨a, b, xs, rfl, rfl, ha, hb, q⟩ := asked
  cases rx
  cases ry
  obtain ⟨its, rv, pl, _⟩ := I.list (SqL.of ha)
  obtain ⟨its2, rv2, pl2, _⟩ := I.list (SqL.of hb)
  cases rv2
  cases rv with
  | nil => exact RcAt.lists (e := fun _ => false) pl.isList pl2.isList rfl hu (fun j j1 j2 => absurd j2 (by simp)) _ _ _ _ ⟨.bl _, H, I, rfl, q⟩
  | cons _ _ => exact RcAt.lists_lengths pl.isList pl2.isList (by simp) hu _ _ _ _ ⟨.bl _, H, I, rfl, q⟩
theorem op_neL0 {X : Cx} (hu0 : X.A.units + 64 < cLine) : OpR X (compareOp .NotEq) rNeL0 := by
  intro pins s σ H x y v u Q I rx ry asked
  have hu : X.A.units < cLine := by omega
  obtain ⟨a, b, xs, rfl, rfl, ha, hb, q⟩ := asked
  cases rx
  cases ry
  obtain ⟨its, rv, pl, _⟩ := I.list (SqL.of ha)
  obtain ⟨its2, rv2, pl2, _⟩ := I.list (SqL.of hb)
  cases rv2
  cases rv with
  | nil => exact RcNeAt.lists (e := fun _ => false) pl.isList pl2.isList rfl hu (fun j j1 j2 => absurd j2 (by simp)) _ _ _ _ ⟨.bl _, H, I, rfl, q⟩
  | cons _ _ => exact RcNeAt.lists_lengths pl.isList pl2.isList (by simp) hu _ _ _ _ ⟨.bl _, H, I, rfl, q⟩
end
/-! ### the law reads values of any kind -/
def spWholeG : Sp := fun vs H Q _ => ∃ (N : List Addr) (v : V) (d : PyData) (lo hi : Int), vs = [v, .int lo, .int hi] ∧ Gd N H v d ∧ Q (.bl (btD lo hi d)) H
theorem an_eq : (Str.ofString "abcdefghijklmnopqrstuvwxyz0123456789").cps.toList = anL := by decide +kernel
theorem an_az : ∀ c ∈ anL, c ∉ (Str.ofString "0123456789").cps.toList → c ∈ azL := by decide +kernel
theorem dg_az : ∀ c ∈ (Str.ofString "0123456789").cps.toList, c ∉ azL := by decide +kernel
section
variable {w : World} {P : Program} {K : PySem.W.Frag} {mg : Str → Option Value} {base : Heap}
theorem ok_gwhole {f : Addr} {fd : FuncData} {k : Nat} (F_whole : Fun K "_law_whole" "_law_whole" sWhole f fd) (z_isinstance : mg "isinstance" = none) (z_int : mg "int" = none) (z_bool : mg "bool" = none) : FnOk P w K mg base CX0 (k + 1) f fd ["_law_value_here", "_law_least", "_law_most"] spWholeG := by
  refine F_whole.ok scWhole (fun vs H Q E h => ?_) (fun cdv A outer s H vs Q E hr h => ?_)
  · obtain ⟨_, _, _, _, _, rfl, _⟩ := h
    rfl
  · obtain ⟨N, v, d, lo, hi, rfl, hd, q⟩ := h
    refine ⟨_, (pss_one (ps_ret (pe_and (pe_callB call_isi (by rfl) z_isinstance (by decide +kernel) (pa_cons (pv 0) (pa_cons (pe_bltn (v := .ty "int") (by rfl) z_int (by decide +kernel) rfl) pa_nil))) (pe_and (pe_not (pe_callB call_isi (by rfl) z_isinstance (by decide +kernel) (pa_cons (pv 0) (pa_cons (pe_bltn (v := .ty "bool") (by rfl) z_bool (by decide +kernel) rfl) pa_nil)))) (pe_one (pe_chain op_le op_le (pv 1) (pv 0) (pv 2))))))), ?_⟩
    refine ⟨_, rfl, _, _, _, _, _, rfl, .ty _, hd.ty, kit_ty (kb_int d), _, rfl, ?_⟩
    cases hd with
    | int i =>
      refine iteT ⟨_, rfl, _, _, _, _, _, rfl, .ty _, .base (.int i), kit_ty (r := false) (by decide +kernel), _, rfl, _, rfl, iteT ?_⟩
      refine (⟨_, rfl, _, rfl, _, _, rfl, rfl, _, rfl, ?_⟩)
      have q : Q (.bl (decide (lo ≤ i) && decide (i ≤ hi))) H := q
      by_cases h : lo ≤ i
      · rw [decide_eq_true h] at q ⊢
        exact iteT ⟨_, rfl, _, _, rfl, rfl, q⟩
      · rw [decide_eq_false h] at q ⊢
        exact iteF q
    | bl b => exact iteT ⟨_, rfl, _, _, _, _, _, rfl, .ty _, .base (.bl b), kit_ty (r := true) (by decide +kernel), _, rfl, _, rfl, iteF q⟩
    | _ => exact iteF q
theorem ok_glname {f : Addr} {fd : FuncData} {k : Nat} (F_is_name : Fun K "_law_is_name" "_law_is_name" sIsName f fd) (z_isinstance : mg "isinstance" = none) (z_str : mg "str" = none) (z_len : mg "len" = none) : FnOk P w K mg base CX0 (k + 1) f fd ["_law_value_here"] spNameG := by
  refine F_is_name.ok scIsName (fun vs H Q E h => ?_) (fun cdv A outer s H vs Q E hr h => ?_)
  · obtain ⟨_, _, _, rfl, _⟩ := h
    rfl
  · obtain ⟨N, v, d, rfl, hd, hw, q⟩ := h
    refine ⟨_, (pss_cons (ps_if (PW.pt (pw_or (pt_not (pt_val (pe_callB call_isi (by rfl) z_isinstance (by decide +kernel) (pa_cons (pv 0) (pa_cons (pe_bltn (v := .ty "str") (by rfl) z_str (by decide +kernel) rfl) pa_nil))))) (pw_or (pt_not (pt_chain op_le op_le pe_int (pe_callB call_len_str (by rfl) z_len boot_len (pa_cons (pv 0) pa_nil)) pe_int)) (pw_or1 (pt_cmpR op_in_sign (pe_ix ix_str (pv 0) pe_int (fun _ _ => rfl)) pe_str (by with_unfolding_all rfl)))))) (pss_one (ps_ret pe_bl)) pss_nil)
      (pss_cons (ps_if (pt_cmpR (op_neL0 hr.units) (pe_lc (own := [("_law_letter", 2)]) (g := gName 2) (tt := _) rfl scIsName.nd (pi_str (pv 0)) (blkOk_by (N := nIsName) (sc := defScope sIsName) (by decide +kernel)) (fun _ _ _ _ _ => (pg_name (i := 2) scIsName.nd rfl (by first | exact Or.inl rfl | exact Or.inr rfl))) (fun _ _ _ _ _ => pts_one (pt_cmpR op_notIn_sign (pv 2) pe_str (by with_unfolding_all rfl))) (fun _ _ _ _ _ => (pv 2))) (pe_lst pa_nil) (nomark _)) (pss_one (ps_ret pe_bl)) pss_nil)
      (pss_cons (ps_set (i := 1) scIsName.nd rfl (by first | exact Or.inl rfl | exact Or.inr rfl) (pe_lst (pa_cons pe_str (pa_cons pe_str (pa_cons pe_str (pa_cons pe_str (pa_cons pe_str (pa_cons pe_str (pa_cons pe_str (pa_cons pe_str (pa_cons pe_str (pa_cons pe_str (pa_cons pe_str (pa_cons pe_str pa_nil))))))))))))))
      (pss_one (ps_ret (pe_cmpR op_notIn_seq (pv 0) (pv 1) (by with_unfolding_all rfl))))))), ?_⟩
    refine ⟨_, rfl, _, _, _, _, _, rfl, .ty _, hd.ty, kit_ty (kb_str d), _, rfl, ?_⟩
    cases hd with
    | str z =>
      refine iteF ?_
      have zl : z.length ≤ sizeLine := by
        simp only [PyData.weight] at hw
        have : z.length ≤ 1000000 := hw
        show z.length ≤ 16777216; omega
      have q : ∀ H', Sx [] H H' → Q (.bl (nmB z)) H' := q
      unfold nmB at q
      refine ⟨_, rfl, z, rfl, zl, _, _, rfl, rfl, _, rfl, ?_⟩
      by_cases z1 : (1 : Int) ≤ (z.length : Int)
      case neg =>
        rw [decide_eq_false z1]
        rw [decide_eq_false (by omega : ¬ 1 ≤ z.length), Bool.false_and] at q
        exact iteN (by simp) ⟨_, rfl, iteT (q H (Sx.refl _))⟩
      rw [decide_eq_true z1]
      rw [decide_eq_true (by omega : 1 ≤ z.length), Bool.true_and] at q
      refine iteP rfl ⟨_, _, rfl, rfl, _, rfl, ?_⟩
      by_cases z8 : (z.length : Int) ≤ 8
      case neg =>
        rw [decide_eq_false z8]
        rw [decide_eq_false (by omega : ¬ z.length ≤ 8), Bool.false_and] at q
        exact iteT (q H (Sx.refl _))
      rw [decide_eq_true z8]
      rw [decide_eq_true (by omega : z.length ≤ 8), Bool.true_and] at q
      refine iteF ?_
      obtain ⟨c, r, hcr⟩ : ∃ c r, z.cps.toList = c :: r := by
        cases e : z.cps.toList with
        | nil =>
          have : z.length = z.cps.toList.length := by simp [Str.length]
          rw [e] at this
          simp at this
          omega
        | cons c r => exact ⟨c, r, rfl⟩
      have hc : z.cps.toList[0]? = some c := by rw [hcr]; rfl
      refine ⟨_, rfl, z, 0, c, rfl, rfl, zl, atI_nat (j := 0) hc, c, _, rfl, rfl, _, rfl, ?_⟩
      have hd0 : z.cps.toList.headD 0 = c := by rw [hcr]; rfl
      rw [hd0] at q
      by_cases hdg : c ∈ (Str.ofString "0123456789").cps.toList
      case pos =>
        rw [decide_eq_true hdg]
        rw [decide_eq_false (dg_az c hdg), Bool.false_and, Bool.and_false] at q
        exact iteT (q H (Sx.refl _))
      rw [decide_eq_false hdg]
      refine iteF ?_
      have q2 : ∀ H', Sx [] H H' → Q (.bl ((z.cps.toList.all fun c => decide (c ∈ anL)) && !inV (.str z) (WordsK.map V.str))) H' := fun H' s' => by
        have := q H' s'
        cases ha : z.cps.toList.all fun c => decide (c ∈ anL) with
        | false =>
          rw [ha, Bool.and_false, Bool.and_false] at this
          exact this
        | true =>
          rw [ha, Bool.and_true] at this
          have e : decide (c ∈ azL) = true := decide_eq_true (an_az c (of_decide_eq_true (List.all_eq_true.mp ha c (by rw [hcr]; exact List.mem_cons_self ..))) hdg)
          rw [e, Bool.and_true] at this
          rw [Bool.true_and]
          exact this
      refine ⟨_, rfl, z, rfl, fun D hD => lc_str (fun i H1 => Sx [] H H1 ∧ ∃ vs : List V, H1 D = some (.lst vs) ∧ vs.length ≤ i ∧ vs.isEmpty = (z.cps.toList.take i).all fun c => decide (c ∈ anL)) ⟨Sx.n0 hD, [], upd_same, Nat.le_refl _, rfl⟩ (fun i c H1 hi p => ?_) (fun H1 p => ?_)⟩
      · refine ⟨rfl, ?_⟩
        obtain ⟨p1, vs, p2, p3, p4⟩ := p
        have hi' : z.cps.toList[i]? = some c := by rw [Array.getElem?_toList]; exact hi
        have hlen : i < z.length := (Array.getElem?_eq_some_iff.mp hi).1
        have p4' : (z.cps.toList.take (i + 1)).all (fun c => decide (c ∈ anL)) = (vs.isEmpty && decide (c ∈ anL)) := by
          rw [List.take_add_one, hi', List.all_append, ← p4]
          simp
        refine ⟨_, rfl, c, _, rfl, rfl, _, rfl, ?_⟩
        rw [an_eq]
        by_cases ha : c ∈ anL
        · rw [decide_eq_true ha] at p4' ⊢
          exact iteF ⟨p1, vs, p2, by omega, by rw [p4', Bool.and_true]⟩
        · rw [decide_eq_false ha] at p4' ⊢
          refine iteT ⟨_, rfl, vs, p2, lt_line (by omega), p1.own hD, _, upd_same, by rw [List.length_append]; simp; omega, ?_⟩
          rw [p4', Bool.and_false]
          cases vs <;> rfl
      · obtain ⟨p1, vs, p2, p3, p4⟩ := p
        rw [show z.cps.size = z.cps.toList.length by simp, List.take_length] at p4
        rw [← p4] at q2
        refine ⟨by show 0 ≤ sizeLine; decide, fun l hl => ⟨D, l, vs, rfl, rfl, Sx.n0 hl _ _ (by simp) p2, upd_same, _, rfl, ?_⟩⟩
        have s2 := p1.new (o := .lst []) hl
        cases he : vs.isEmpty with
        | false =>
          rw [he, Bool.false_and] at q2
          exact iteT (q2 _ s2)
        | true =>
          rw [he, Bool.true_and] at q2
          refine iteF ⟨by show 12 ≤ sizeLine; decide, fun L hL => ?_⟩
          exact ⟨_, rfl, _, rfl, L, WordsK.map V.str, rfl, .inl (SqL.of upd_same), rfl, by decide +kernel, q2 _ (s2.new hL)⟩
    | _ => exact iteT (q H (Sx.refl _))
end
/-! ### expressions, tests and statements of any values -/
theorem exB_tri (n : Nat) (h : Str) (x y : PyData) : exB (n + 1) (.tuple [.str h, x, y]) = if h = "plus" ∨ h = "minus" then exB n x && exB n y else if h = "times" then btD (-9) 9 x && exB n y else false := rfl
theorem exB_non {d : PyData} (n : Nat) (h : isTup d = false) : exB (n + 1) d = (nmD d || btD (-99) 99 d) := by
  cases d with
  | tuple _ => cases h
  | str z => show nmB z = (nmB z || false); rw [Bool.or_false]
  | _ => rfl
theorem exB_len {ds : List PyData} (n : Nat) (h : ds.length ≠ 3) : exB n (.tuple ds) = false := by
  cases n with
  | zero => rfl
  | succ n =>
    match ds, h with
    | [], _ => rfl
    | [_], _ => simp only [exB]
    | [_, _], _ => simp only [exB]
    | [_, _, _], h => exact absurd rfl h
    | _ :: _ :: _ :: _ :: _, _ => simp only [exB]
theorem exB_hd {d x y : PyData} (n : Nat) (h : isStr d = false) : exB n (.tuple [d, x, y]) = false := by
  cases n with
  | zero => rfl
  | succ n =>
    cases d with
    | str _ => cases h
    | _ => rfl
theorem isTup_t {d : PyData} (h : isTup d = true) : ∃ ds, d = .tuple ds := by
  cases d with
  | tuple ds => exact ⟨ds, rfl⟩
  | _ => cases h
theorem isStr_t {d : PyData} (h : isStr d = true) : ∃ z, d = .str z := by
  cases d with
  | str z => exact ⟨z, rfl⟩
  | _ => cases h
theorem len3 {α : Type} {xs : List α} (h : xs.length = 3) : ∃ x y z, xs = [x, y, z] := by
  match xs, h with
  | [x, y, z], _ => exact (⟨x, y, z, rfl⟩)
theorem pm_in (z : Str) : inV (.str z) [V.str "plus", V.str "minus"] = decide (z = "plus" ∨ z = "minus") := by
  unfold inV
  by_cases h1 : z = "plus"
  · subst h1; rfl
  · by_cases h2 : z = "minus"
    · subst h2; rfl
    · rw [decide_eq_false (by simp [h1, h2])]
      have a : ("plus" : Str) ≠ z := fun e => h1 e.symm
      have b : ("minus" : Str) ≠ z := fun e => h2 e.symm
      simp [eqV, a, b]
/-- a test of a rest, by its parts -/
def rsB (x b r : PyData) : Bool := exB 3 x && (btD 2 6 b && (match b with
  | .int i => btD 0 (i - 1) r
  | _ => false))
def spRestG : Sp := fun vs H Q _ => ∃ (N : List Addr) (v : V) (d0 x b r : PyData), vs = [v] ∧ Gd N H v (.tuple [d0, x, b, r]) ∧ (PyData.tuple [d0, x, b, r]).weight ≤ WB ∧ ∀ H', Sx [] H H' → Q (.bl (rsB x b r)) H'
section
variable {w : World} {P : Program} {K : PySem.W.Frag} {mg : Str → Option Value} {base : Heap}
theorem ok_glexpr {f fN fW : Addr} {fd fdN fdW : FuncData} (F_is_expression : Fun K "_law_is_expression" "_law_is_expression" sIsExpression f fd) (F_is_name : Fun K "_law_is_name" "_law_is_name" sIsName fN fdN) (F_whole : Fun K "_law_whole" "_law_whole" sWhole fW fdW)
    (G_is_name : FnOk P w K mg base CX0 1 fN fdN ["_law_value_here"] spNameG) (G_whole : FnOk P w K mg base CX0 1 fW fdW ["_law_value_here", "_law_least", "_law_most"] spWholeG)
    (b_is_expression : Binds K fd ["_law_value_here", "_law_deep"] []) (b_is_name : Binds K fdN ["_law_value_here"] []) (b_whole : Binds K fdW ["_law_value_here", "_law_least", "_law_most"] [])
    (m_is_expression : mg "_law_is_expression" = some (.ref f)) (m_is_name : mg "_law_is_name" = some (.ref fN)) (m_whole : mg "_law_whole" = some (.ref fW)) (z_isinstance : mg "isinstance" = none) (z_tuple : mg "tuple" = none) (z_str : mg "str" = none) (z_len : mg "len" = none) : ∀ m : Nat, FnOk P w K mg base CX0 (m + 2) f fd ["_law_value_here", "_law_deep"] (spExprG m) := by
  intro m
  induction m with
  | zero => exact ⟨fun vs H Q E h => by obtain ⟨_, _, _, _, rfl, _⟩ := h; rfl, fun _ _ _ _ _ _ _ _ _ _ _ _ _ h => by
      obtain ⟨_, _, _, _, _, h, _⟩ := h
      omega⟩
  | succ m G_is_expression =>
  refine F_is_expression.ok scIsExpression (fun vs H Q E h => ?_) (fun cdv A outer s H vs Q E hr h => ?_)
  · obtain ⟨_, _, _, _, rfl, _⟩ := h
    rfl
  · obtain ⟨N, v, d, n, rfl, hn, hd, hw, q⟩ := h
    refine ⟨_, (pss_cons (ps_if (pt_not (pt_val (pe_callB call_isi (by rfl) z_isinstance (by decide +kernel) (pa_cons (pv 0) (pa_cons (pe_bltn (v := .ty "tuple") (by rfl) z_tuple (by decide +kernel) rfl) pa_nil))))) (pss_one (ps_ret (pe_and (pe_cmpR op_gt (pv 1) pe_int (nomark _)) (pe_one (pe_or (pe_call G_is_name (hr.mono (by omega)) (by rfl) m_is_name F_is_name.kp b_is_name .nil pass0 (pa_cons (pv 0) pa_nil)) (pe_one (pe_call G_whole (hr.mono (by omega)) (by rfl) m_whole F_whole.kp b_whole .nil pass0 (pa_cons (pv 0) (pa_cons (pe_un un_neg pe_int) (pa_cons pe_int pa_nil)))))))))) pss_nil)
      (pss_cons (ps_if (PW.pt (pw_or (pt_cmpR op_eq (pv 1) pe_int (nomark _)) (pw_or (pt_cmpR op_ne (pe_callB call_len_seq (by rfl) z_len boot_len (pa_cons (pv 0) pa_nil)) pe_int (nomark _)) (pw_or1 (pt_not (pt_val (pe_callB call_isi (by rfl) z_isinstance (by decide +kernel) (pa_cons (pe_ix ix_tup (pv 0) pe_int (fun _ _ => rfl)) (pa_cons (pe_bltn (v := .ty "str") (by rfl) z_str (by decide +kernel) rfl) pa_nil))))))))) (pss_one (ps_ret pe_bl)) pss_nil)
      (pss_cons (ps_if (pt_cmpR op_eq (pe_ix ix_tup (pv 0) pe_int (fun _ _ => rfl)) pe_str (nomark _)) (pss_one (ps_ret (pe_and (pe_call G_whole (hr.mono (by omega)) (by rfl) m_whole F_whole.kp b_whole .nil pass0 (pa_cons (pe_ix ix_tup (pv 0) pe_int (fun _ _ => rfl)) (pa_cons (pe_un un_neg pe_int) (pa_cons pe_int pa_nil)))) (pe_one (pe_call G_is_expression (hr.mono (by omega)) (by rfl) m_is_expression F_is_expression.kp b_is_expression .nil pass0 (pa_cons (pe_ix ix_tup (pv 0) pe_int (fun _ _ => rfl)) (pa_cons (pe_op op_sub (pv 1) pe_int) pa_nil))))))) pss_nil)
      (pss_cons (ps_if (pt_cmpR op_notIn_seq (pe_ix ix_tup (pv 0) pe_int (fun _ _ => rfl)) (pe_lst (pa_cons pe_str (pa_cons pe_str pa_nil))) (by with_unfolding_all rfl)) (pss_one (ps_ret pe_bl)) pss_nil)
      (pss_one (ps_ret (pe_and (pe_call G_is_expression (hr.mono (by omega)) (by rfl) m_is_expression F_is_expression.kp b_is_expression .nil pass0 (pa_cons (pe_ix ix_tup (pv 0) pe_int (fun _ _ => rfl)) (pa_cons (pe_op op_sub (pv 1) pe_int) pa_nil))) (pe_one (pe_call G_is_expression (hr.mono (by omega)) (by rfl) m_is_expression F_is_expression.kp b_is_expression .nil pass0 (pa_cons (pe_ix ix_tup (pv 0) pe_int (fun _ _ => rfl)) (pa_cons (pe_op op_sub (pv 1) pe_int) pa_nil))))))))))), ?_⟩
    refine ⟨_, rfl, _, _, _, _, _, rfl, .ty _, hd.ty, kit_ty (kb_tuple d), _, rfl, ?_⟩
    cases htp : isTup d with
    | false =>
      refine iteT ⟨_, rfl, _, _, rfl, rfl, _, rfl, ?_⟩
      cases n with
      | zero => exact iteN (by decide) (q H (Sx.refl _))
      | succ n =>
        rw [exB_non n htp] at q
        refine iteP (decide_eq_true (by omega)) ⟨_, rfl, N, v, d, rfl, hd, hw, fun H1 s1 => ⟨_, rfl, ?_⟩⟩
        cases hb : nmD d with
        | true =>
          rw [hb, Bool.true_or] at q
          exact iteT (q H1 s1)
        | false =>
          rw [hb, Bool.false_or] at q
          exact iteF ⟨_, rfl, 99, rfl, N, v, d, -99, 99, rfl, hd.keep s1.kp0, q H1 s1⟩
    | true =>
      obtain ⟨ds, rfl⟩ := isTup_t htp
      obtain ⟨a, xs, rfl, ha, hx⟩ := hd.tuple
      have hl := hx.len
      refine iteF ⟨_, rfl, rfl, _, rfl, ?_⟩
      cases n with
      | zero => exact iteP (decide_eq_true rfl) (q H (Sx.refl _))
      | succ n =>
      refine iteN (fun z => by have := V.int.inj (of_decide_eq_true z); omega) ⟨_, rfl, a, _, rfl, .inr (SqT.of ha), rfl, _, rfl, ?_⟩
      by_cases h3 : ds.length = 3
      case neg =>
        rw [exB_len _ h3] at q
        rw [decide_eq_false (fun z => h3 (by have := V.int.inj z; omega))]
        exact iteT (q H (Sx.refl _))
      rw [decide_eq_true (show V.int ((xs.length : Nat) : Int) = V.int 3 by rw [hl, h3]; rfl)]
      refine iteF ?_
      obtain ⟨d0, d1, d2, rfl⟩ := len3 h3
      obtain ⟨_, x0, x1, x2, e, ha', g0, g1, g2⟩ := gd3 hd
      cases e
      obtain rfl : xs = [x0, x1, x2] := by rw [ha] at ha'; cases ha'; rfl
      refine ⟨_, rfl, a, _, _, x0, rfl, rfl, SqT.of ha, rfl, _, _, _, _, _, rfl, .ty _, g0.ty, kit_ty (kb_str d0), _, rfl, ?_⟩
      cases hs : isStr d0 with
      | false =>
        rw [exB_hd _ hs] at q
        exact iteT (q H (Sx.refl _))
      | true =>
      obtain ⟨z, rfl⟩ := isStr_t hs
      cases g0
      refine iteF ⟨_, rfl, a, _, _, _, rfl, rfl, SqT.of ha, rfl, rfl, _, rfl, ?_⟩
      rw [exB_tri] at q
      have w1 : d1.weight ≤ WB := wt_tup hw (by simp)
      have w2 : d2.weight ≤ WB := wt_tup hw (by simp)
      have e1 : ((n + 1 : Nat) : Int) - 1 = (n : Int) := by omega
      by_cases ht : z = "times"
      case pos =>
        subst ht
        rw [if_neg (by decide +kernel), if_pos rfl] at q
        refine iteP (by decide +kernel) ⟨_, rfl, a, _, _, x1, rfl, rfl, SqT.of ha, rfl, 9, rfl, N, x1, d1, -9, 9, rfl, g1, _, rfl, ?_⟩
        cases hb : btD (-9) 9 d1 with
        | false =>
          rw [hb, Bool.false_and] at q
          exact iteF (q H (Sx.refl _))
        | true =>
          rw [hb, Bool.true_and] at q
          exact iteT ⟨_, rfl, a, _, _, x2, rfl, rfl, SqT.of ha, rfl, _, rfl, _, 1, rfl, rfl, N, x2, d2, n, by show [x2, V.int (((n + 1 : Nat) : Int) - 1)] = [x2, V.int (n : Int)]; rw [e1], by omega, g2, w2, fun H2 s2 => q H2 s2⟩
      refine iteN (sne (by simpa using ht)) ?_
      refine ⟨_, rfl, a, _, _, _, rfl, rfl, SqT.of ha, rfl, by show 2 ≤ sizeLine; decide, fun L hL => ?_⟩
      refine ⟨L, [V.str "plus", V.str "minus"], rfl, .inl (SqL.of upd_same), rfl, by decide +kernel, _, rfl, ?_⟩
      rw [pm_in]
      by_cases hp : z = "plus" ∨ z = "minus"
      case neg =>
        rw [if_neg hp, if_neg ht] at q
        rw [decide_eq_false hp]
        exact iteT (q _ (Sx.n0 hL))
      rw [if_pos hp] at q
      rw [decide_eq_true hp]
      have ha2 := Sx.n0 (o := .lst [V.str "plus", V.str "minus"]) hL _ _ (by simp) ha
      refine iteF ⟨_, rfl, a, _, _, x1, rfl, rfl, SqT.of ha2, rfl, _, rfl, _, 1, rfl, rfl, N, x1, d1, n, by show [x1, V.int (((n + 1 : Nat) : Int) - 1)] = [x1, V.int (n : Int)]; rw [e1], by omega, g1.new hL, w1, fun H2 s2 => ⟨_, rfl, ?_⟩⟩
      have s12 := (Sx.n0 (o := .lst [V.str "plus", V.str "minus"]) hL).trans s2
      cases hb : exB n d1 with
      | false =>
        rw [hb, Bool.false_and] at q
        exact iteF (q H2 s12)
      | true =>
        rw [hb, Bool.true_and] at q
        exact iteT ⟨_, rfl, a, _, _, x2, rfl, rfl, SqT.of (s2 _ _ (by simp) ha2), rfl, _, rfl, _, 1, rfl, rfl, N, x2, d2, n, by show [x2, V.int (((n + 1 : Nat) : Int) - 1)] = [x2, V.int (n : Int)]; rw [e1], by omega, g2.keep s12.kp0, w2, fun H3 s3 => q H3 (s12.trans s3)⟩
theorem ok_glrest {f fE fW : Addr} {fd fdE fdW : FuncData} {k : Nat} (hk : 6 ≤ k) (F_is_rest : Fun K "_law_is_rest" "_law_is_rest" sIsRest f fd) (F_is_expression : Fun K "_law_is_expression" "_law_is_expression" sIsExpression fE fdE) (F_whole : Fun K "_law_whole" "_law_whole" sWhole fW fdW)
    (G_is_expression : FnOk P w K mg base CX0 6 fE fdE ["_law_value_here", "_law_deep"] (spExprG 4)) (G_whole : FnOk P w K mg base CX0 1 fW fdW ["_law_value_here", "_law_least", "_law_most"] spWholeG) (b_is_expression : Binds K fdE ["_law_value_here", "_law_deep"] []) (b_whole : Binds K fdW ["_law_value_here", "_law_least", "_law_most"] [])
    (m_is_expression : mg "_law_is_expression" = some (.ref fE)) (m_whole : mg "_law_whole" = some (.ref fW)) : FnOk P w K mg base CX0 (k + 1) f fd ["_law_value_here"] spRestG := by
  refine F_is_rest.ok scIsRest (fun vs H Q E h => ?_) (fun cdv A outer s H vs Q E hr h => ?_)
  · obtain ⟨_, _, _, _, _, _, rfl, _⟩ := h
    rfl
  · obtain ⟨N, v, d0, x, b, r, rfl, hd, hw, q⟩ := h
    refine ⟨_, (pss_cons (ps_if (PW.pt (pw_or (pt_not (pt_val (pe_call G_is_expression (hr.mono (by omega)) (by rfl) m_is_expression F_is_expression.kp b_is_expression .nil pass0 (pa_cons (pe_ix ix_tup (pv 0) pe_int (fun _ _ => rfl)) (pa_cons pe_int pa_nil))))) (pw_or1 (pt_not (pt_val (pe_call G_whole (hr.mono (by omega)) (by rfl) m_whole F_whole.kp b_whole .nil pass0 (pa_cons (pe_ix ix_tup (pv 0) pe_int (fun _ _ => rfl)) (pa_cons pe_int (pa_cons pe_int pa_nil))))))))) (pss_one (ps_ret pe_bl)) pss_nil)
      (pss_one (ps_ret (pe_call G_whole (hr.mono (by omega)) (by rfl) m_whole F_whole.kp b_whole .nil pass0 (pa_cons (pe_ix ix_tup (pv 0) pe_int (fun _ _ => rfl)) (pa_cons pe_int (pa_cons (pe_op op_sub (pe_ix ix_tup (pv 0) pe_int (fun _ _ => rfl)) pe_int) pa_nil))))))), ?_⟩
    obtain ⟨a, v0, vx, vb, vr, rfl, ha, g0, gx, gb, gr⟩ := gd4 hd
    have wx : x.weight ≤ WB := wt_tup hw (by simp)
    refine ⟨_, rfl, a, _, _, vx, rfl, rfl, SqT.of ha, rfl, N, vx, x, 3, rfl, by decide, gx, wx, fun H1 s1 => ⟨_, rfl, ?_⟩⟩
    unfold rsB at q
    cases hx : exB 3 x with
    | false =>
      rw [hx, Bool.false_and] at q
      exact iteT (q H1 s1)
    | true =>
    rw [hx, Bool.true_and] at q
    have ha1 := s1 _ _ (by simp) ha
    refine iteF ⟨_, rfl, a, _, _, vb, rfl, rfl, SqT.of ha1, rfl, N, vb, b, 2, 6, rfl, gb.keep s1.kp0, _, rfl, ?_⟩
    cases hb : btD 2 6 b with
    | false =>
      rw [hb, Bool.false_and] at q
      exact iteT (q H1 s1)
    | true =>
    rw [hb, Bool.true_and] at q
    obtain ⟨i, rfl⟩ : ∃ i, b = .int i := by
      cases b with
      | int i => exact ⟨i, rfl⟩
      | _ => cases hb
    cases gb
    exact iteF ⟨_, rfl, a, _, _, vr, rfl, rfl, SqT.of ha1, rfl, _, rfl, a, _, _, _, rfl, rfl, SqT.of ha1, rfl, _, _, rfl, rfl, N, vr, r, 0, i - 1, rfl, gr.keep s1.kp0, q H1 s1⟩
end
def lenT3 (h : Str) : Int := if h = "less" then 3 else if h = "rest" then 4 else if h = "not" then 2 else 0
def lenT5 (h : Str) : Int := if h = "set" then 3 else if h = "pay" then 2 else if h = "stop" then 1 else if h = "if" then 4 else if h = "repeat" then 3 else 0
theorem key_ne {a h : Str} (n : ¬ h = a) : ¬ ((.inr a : Key) = .inr h) := fun z => n (Sum.inr.inj z).symm
theorem get_T3 (h : Str) : (valV (mergeK [] [((.inr "less" : Key), V.int 3), (.inr "rest", .int 4), (.inr "not", .int 2)]) (.inr h)).getD (.int 0) = V.int (lenT3 h) := by
  have e : mergeK [] [((.inr "less" : Key), V.int 3), (.inr "rest", .int 4), (.inr "not", .int 2)] = [((.inr "less" : Key), V.int 3), (.inr "rest", .int 4), (.inr "not", .int 2)] := rfl
  rw [e]
  unfold lenT3
  by_cases h1 : h = "less"
  · rw [valV_pos (by rw [h1]), if_pos h1]; rfl
  rw [valV_neg (key_ne h1), if_neg h1]
  by_cases h2 : h = "rest"
  · rw [valV_pos (by rw [h2]), if_pos h2]; rfl
  rw [valV_neg (key_ne h2), if_neg h2]
  by_cases h3 : h = "not"
  · rw [valV_pos (by rw [h3]), if_pos h3]; rfl
  rw [valV_neg (key_ne h3), if_neg h3]
  rfl
theorem get_T5 (h : Str) : (valV (mergeK [] [((.inr "set" : Key), V.int 3), (.inr "pay", .int 2), (.inr "stop", .int 1), (.inr "if", .int 4), (.inr "repeat", .int 3)]) (.inr h)).getD (.int 0) = V.int (lenT5 h) := by
  have e : mergeK [] [((.inr "set" : Key), V.int 3), (.inr "pay", .int 2), (.inr "stop", .int 1), (.inr "if", .int 4), (.inr "repeat", .int 3)] = [((.inr "set" : Key), V.int 3), (.inr "pay", .int 2), (.inr "stop", .int 1), (.inr "if", .int 4), (.inr "repeat", .int 3)] := rfl
  rw [e]
  unfold lenT5
  by_cases h1 : h = "set"
  · rw [valV_pos (by rw [h1]), if_pos h1]; rfl
  rw [valV_neg (key_ne h1), if_neg h1]
  by_cases h2 : h = "pay"
  · rw [valV_pos (by rw [h2]), if_pos h2]; rfl
  rw [valV_neg (key_ne h2), if_neg h2]
  by_cases h3 : h = "stop"
  · rw [valV_pos (by rw [h3]), if_pos h3]; rfl
  rw [valV_neg (key_ne h3), if_neg h3]
  by_cases h4 : h = "if"
  · rw [valV_pos (by rw [h4]), if_pos h4]; rfl
  rw [valV_neg (key_ne h4), if_neg h4]
  by_cases h5 : h = "repeat"
  · rw [valV_pos (by rw [h5]), if_pos h5]; rfl
  rw [valV_neg (key_ne h5), if_neg h5]
  rfl
theorem tsB_non {d : PyData} (n : Nat) (h : isTup d = false) : tsB n d = false := by
  cases d with
  | tuple _ => cases h
  | _ => cases n <;> simp only [tsB]
theorem tsB_nil (n : Nat) : tsB n (.tuple []) = false := by cases n <;> simp only [tsB]
theorem tsB_hd {d : PyData} {ds : List PyData} (n : Nat) (h : isStr d = false) : tsB n (.tuple (d :: ds)) = false := by
  cases d with
  | str _ => cases h
  | _ => cases n <;> simp only [tsB]
theorem tsB2 (n : Nat) (h : Str) (x : PyData) : tsB n (.tuple [.str h, x]) = if h = "not" then (match n with
    | 0 => false
    | m + 1 => tsB m x) else false := by cases n <;> simp only [tsB]
theorem tsB3 (n : Nat) (h : Str) (x y : PyData) : tsB n (.tuple [.str h, x, y]) = if h = "less" then exB 3 x && exB 3 y else false := by cases n <;> simp only [tsB]
theorem tsB4 (n : Nat) (h : Str) (x b r : PyData) : tsB n (.tuple [.str h, x, b, r]) = if h = "rest" then rsB x b r else false := by
  have e : ∀ i : Int, (inB 2 6 i && (exB 3 x && btD 0 (i - 1) r)) = rsB x (.int i) r := fun i => by
    show _ = (exB 3 x && (inB 2 6 i && btD 0 (i - 1) r))
    rw [Bool.and_left_comm]
  cases b with
  | int i => rw [← e]; cases n <;> simp only [tsB]
  | _ =>
    unfold rsB
    simp only [btD, Bool.false_and, Bool.and_false]
    cases n <;> simp only [tsB]
theorem tsB_len {h : Str} {ds : List PyData} (n : Nat) (z : ((ds.length + 1 : Nat) : Int) ≠ lenT3 h) : tsB n (.tuple (.str h :: ds)) = false := by
  match ds, z with
  | [], _ => cases n <;> simp only [tsB]
  | [x], z =>
    rw [tsB2]
    by_cases e : h = "not"
    · subst e; exact absurd rfl z
    · rw [if_neg e]
  | [x, y], z =>
    rw [tsB3]
    by_cases e : h = "less"
    · subst e; exact absurd rfl z
    · rw [if_neg e]
  | [x, y, r], z =>
    rw [tsB4]
    by_cases e : h = "rest"
    · subst e; exact absurd rfl z
    · rw [if_neg e]
  | _ :: _ :: _ :: _ :: _, _ => cases n <;> simp only [tsB]
section
variable {w : World} {P : Program} {K : PySem.W.Frag} {mg : Str → Option Value} {base : Heap}
theorem ok_gltest {f fE fR : Addr} {fd fdE fdR : FuncData} (F_is_test : Fun K "_law_is_test" "_law_is_test" sIsTest f fd) (F_is_expression : Fun K "_law_is_expression" "_law_is_expression" sIsExpression fE fdE) (F_is_rest : Fun K "_law_is_rest" "_law_is_rest" sIsRest fR fdR)
    (G_is_expression : FnOk P w K mg base CX0 6 fE fdE ["_law_value_here", "_law_deep"] (spExprG 4)) (G_is_rest : FnOk P w K mg base CX0 7 fR fdR ["_law_value_here"] spRestG) (b_is_test : Binds K fd ["_law_value_here", "_law_nots"] []) (b_is_expression : Binds K fdE ["_law_value_here", "_law_deep"] []) (b_is_rest : Binds K fdR ["_law_value_here"] [])
    (m_is_test : mg "_law_is_test" = some (.ref f)) (m_is_expression : mg "_law_is_expression" = some (.ref fE)) (m_is_rest : mg "_law_is_rest" = some (.ref fR)) (z_isinstance : mg "isinstance" = none) (z_tuple : mg "tuple" = none) (z_str : mg "str" = none) (z_len : mg "len" = none) :
    ∀ m : Nat, FnOk P w K mg base CX0 (m + 8) f fd ["_law_value_here", "_law_nots"] (spTestG m) := by
  intro m
  induction m with
  | zero => exact ⟨fun vs H Q E h => by obtain ⟨_, _, _, _, rfl, _⟩ := h; rfl, fun _ _ _ _ _ _ _ _ _ _ _ _ _ h => by
      obtain ⟨_, _, _, _, _, h, _⟩ := h
      omega⟩
  | succ m G_is_test =>
  refine F_is_test.ok scIsTest (fun vs H Q E h => ?_) (fun cdv A outer s H vs Q E hr h => ?_)
  · obtain ⟨_, _, _, _, rfl, _⟩ := h
    rfl
  · obtain ⟨N, v, d, n, rfl, hn, hd, hw, q⟩ := h
    refine ⟨_, (pss_cons (ps_if (PW.pt (pw_or (pt_not (pt_val (pe_callB call_isi (by rfl) z_isinstance (by decide +kernel) (pa_cons (pv 0) (pa_cons (pe_bltn (v := .ty "tuple") (by rfl) z_tuple (by decide +kernel) rfl) pa_nil))))) (pw_or (pt_cmpR (op_eqE hr.units) (pv 0) (pe_tup pa_nil) (nomark _)) (pw_or1 (pt_not (pt_val (pe_callB call_isi (by rfl) z_isinstance (by decide +kernel) (pa_cons (pe_ix ix_tup (pv 0) pe_int (fun _ _ => rfl)) (pa_cons (pe_bltn (v := .ty "str") (by rfl) z_str (by decide +kernel) rfl) pa_nil))))))))) (pss_one (ps_ret pe_bl)) pss_nil)
      (pss_cons (ps_if (pt_cmpR op_ne (pe_callB call_len_seq (by rfl) z_len boot_len (pa_cons (pv 0) pa_nil)) (pe_dget2 (hu_of hr) (pe_disp (pps_cons pe_str pe_int (pps_cons pe_str pe_int (pps_cons pe_str pe_int pps_nil))) (by rfl) (by rfl) (fun z => by cases z) (by decide)) (pe_ix ix_tup (pv 0) pe_int (fun _ _ => rfl)) pe_int ⟨rfl, rfl, rfl, rfl⟩) (nomark _)) (pss_one (ps_ret pe_bl)) pss_nil)
      (pss_cons (ps_if (pt_cmpR op_eq (pe_ix ix_tup (pv 0) pe_int (fun _ _ => rfl)) pe_str (nomark _)) (pss_one (ps_ret (pe_and (pe_cmpR op_gt (pv 1) pe_int (nomark _)) (pe_one (pe_call G_is_test (hr.mono (by omega)) (by rfl) m_is_test F_is_test.kp b_is_test .nil pass0 (pa_cons (pe_ix ix_tup (pv 0) pe_int (fun _ _ => rfl)) (pa_cons (pe_op op_sub (pv 1) pe_int) pa_nil))))))) pss_nil)
      (pss_cons (ps_if (pt_cmpR op_eq (pe_ix ix_tup (pv 0) pe_int (fun _ _ => rfl)) pe_str (nomark _)) (pss_one (ps_ret (pe_call G_is_rest (hr.mono (by omega)) (by rfl) m_is_rest F_is_rest.kp b_is_rest .nil pass0 (pa_cons (pv 0) pa_nil)))) pss_nil)
      (pss_one (ps_ret (pe_and (pe_call G_is_expression (hr.mono (by omega)) (by rfl) m_is_expression F_is_expression.kp b_is_expression .nil pass0 (pa_cons (pe_ix ix_tup (pv 0) pe_int (fun _ _ => rfl)) (pa_cons pe_int pa_nil))) (pe_one (pe_call G_is_expression (hr.mono (by omega)) (by rfl) m_is_expression F_is_expression.kp b_is_expression .nil pass0 (pa_cons (pe_ix ix_tup (pv 0) pe_int (fun _ _ => rfl)) (pa_cons pe_int pa_nil))))))))))), ?_⟩
    refine ⟨_, rfl, _, _, _, _, _, rfl, .ty _, hd.ty, kit_ty (kb_tuple d), _, rfl, ?_⟩
    cases htp : isTup d with
    | false =>
      rw [tsB_non n htp] at q
      exact iteT (q H (Sx.refl _))
    | true =>
    obtain ⟨ds, rfl⟩ := isTup_t htp
    obtain ⟨a, xs, rfl, ha, hx⟩ := hd.tuple
    have hl := hx.len
    refine iteF ⟨_, rfl, by show 0 ≤ sizeLine; decide, fun u hu => ⟨N, ds, u, rfl, upd_same, hd.new hu, _, rfl, ?_⟩⟩
    have su : Sx [] H (upd H u (.tup [])) := Sx.n0 hu
    have ha2 := su _ _ (by simp) ha
    cases hx with
    | nil =>
      rw [tsB_nil] at q
      exact iteT (q _ su)
    | @cons x0 xs d0 ds g0 hx =>
    refine iteF ⟨_, rfl, a, _, _, x0, rfl, rfl, SqT.of ha2, at0 _ _, _, _, _, _, _, rfl, .ty _, (g0.new hu).ty, kit_ty (kb_str d0), _, rfl, ?_⟩
    cases hs : isStr d0 with
    | false =>
      rw [tsB_hd n hs] at q
      exact iteT (q _ su)
    | true =>
    obtain ⟨z, rfl⟩ := isStr_t hs
    cases g0
    refine iteF ⟨_, rfl, a, _, rfl, .inr (SqT.of ha2), fun p hp => ?_⟩
    have ha3 := Sx.n0 (o := .dK []) hp _ _ (by simp) ha2
    have pa : a ≠ p := ne_of_none ha2 hp
    have ha4 : ∀ o, (upd (upd (upd H u (.tup [])) p (.dK [])) p o) a = some (.tup (.str z :: xs)) := fun o => by rw [upd_ne pa]; exact ha3
    refine ⟨upd_same, [(.inr "less", .int 3), (.inr "rest", .int 4), (.inr "not", .int 2)], rfl, by decide, p, rfl, .inl ⟨_, .inl upd_same⟩, ?_⟩
    refine ⟨_, rfl, a, _, _, .str z, rfl, rfl, SqT.of (ha4 _), at0 _ _, ?_⟩
    refine ⟨_, .inl ⟨_, .inr z, .inl upd_same, rfl, rfl⟩, ?_⟩
    rw [get_T3]
    refine ⟨rfl, _, rfl, ?_⟩
    have s2 : Sx [] H (upd (upd (upd H u (.tup [])) p (.dK [])) p (.dK (mergeK [] [((.inr "less" : Key), V.int 3), (.inr "rest", .int 4), (.inr "not", .int 2)]))) := (su.new hp).own (su.free (by simp) hp)
    have ha5 := s2 _ _ (by simp) ha
    generalize upd (upd (upd H u (.tup [])) p (.dK [])) p (.dK (mergeK [] [((.inr "less" : Key), V.int 3), (.inr "rest", .int 4), (.inr "not", .int 2)])) = H5 at s2 ha5 ⊢
    have hl2 : xs.length = ds.length := hx.len
    by_cases hL : ((ds.length + 1 : Nat) : Int) = lenT3 z
    case neg =>
      rw [tsB_len n hL] at q
      rw [decide_eq_false (fun e => hL (by have := V.int.inj e; rw [List.length_cons, hl2] at this; exact this))]
      exact iteT (q _ s2)
    rw [decide_eq_true (show V.int (((V.str z :: xs).length : Nat) : Int) = V.int (lenT3 z) by rw [List.length_cons, hl2, hL])]
    refine iteF ⟨_, rfl, a, _, _, .str z, rfl, rfl, SqT.of ha5, at0 _ _, rfl, _, rfl, ?_⟩
    have hd5 := hd.keep (s2.kp0 (N := N))
    by_cases h1 : z = "not"
    · subst h1
      obtain ⟨x, rfl⟩ := l1 (xs := ds) (by have : lenT3 "not" = 2 := rfl; rw [this] at hL; omega)
      obtain ⟨_, y0, y1, e, hA, g1, g2⟩ := gd2 hd5
      cases e
      rw [tsB2, if_pos rfl] at q
      have wx : x.weight ≤ WB := wt_tup hw (by simp)
      refine iteP (by decide +kernel) ⟨_, rfl, _, _, rfl, rfl, _, rfl, ?_⟩
      cases n with
      | zero => exact iteN (by decide) (q _ s2)
      | succ n =>
        have e1 : ((n + 1 : Nat) : Int) - 1 = (n : Int) := by omega
        exact iteP (decide_eq_true (by omega)) ⟨_, rfl, a, _, _, y1, rfl, rfl, SqT.of hA, rfl, _, rfl, _, 1, rfl, rfl, N, y1, x, n, by show [y1, V.int (((n + 1 : Nat) : Int) - 1)] = [y1, V.int (n : Int)]; rw [e1], by omega, g2, wx, fun H6 s6 => q H6 (s2.trans s6)⟩
    refine iteN (sne (by simpa using h1)) ⟨_, rfl, a, _, _, .str z, rfl, rfl, SqT.of ha5, at0 _ _, rfl, _, rfl, ?_⟩
    by_cases h2 : z = "rest"
    · subst h2
      obtain ⟨x, b, r, rfl⟩ := l3 (xs := ds) (by have : lenT3 "rest" = 4 := rfl; rw [this] at hL; omega)
      rw [tsB4, if_pos rfl] at q
      exact iteP (by decide +kernel) ⟨_, rfl, N, .ref a, _, x, b, r, rfl, hd5, hw, fun H6 s6 => q H6 (s2.trans s6)⟩
    refine iteN (sne (by simpa using h2)) ?_
    by_cases h3 : z = "less"
    case neg =>
      have : lenT3 z = 0 := by unfold lenT3; rw [if_neg h3, if_neg h2, if_neg h1]
      rw [this] at hL
      omega
    subst h3
    obtain ⟨x, y, rfl⟩ := l2 (xs := ds) (by have : lenT3 "less" = 3 := rfl; rw [this] at hL; omega)
    rw [tsB3, if_pos rfl] at q
    obtain ⟨_, y0, y1, y2, e, hA, g1, g2, g3⟩ := gd3 hd5
    cases e
    have wx : x.weight ≤ WB := wt_tup hw (by simp)
    have wy : y.weight ≤ WB := wt_tup hw (by simp)
    refine ⟨_, rfl, a, _, _, y1, rfl, rfl, SqT.of hA, rfl, N, y1, x, 3, rfl, by decide, g2, wx, fun H6 s6 => ⟨_, rfl, ?_⟩⟩
    have s26 := s2.trans s6
    cases hb : exB 3 x with
    | false =>
      rw [hb, Bool.false_and] at q
      exact iteF (q H6 s26)
    | true =>
      rw [hb, Bool.true_and] at q
      exact iteT ⟨_, rfl, a, _, _, y2, rfl, rfl, SqT.of (s6 _ _ (by simp) hA), rfl, N, y2, y, 3, rfl, by decide, g3.keep s6.kp0, wy, fun H7 s7 => q H7 (s26.trans s7)⟩
end
/-- the parts of what is headed so -/
def ptsG (h : Str) (ds : List PyData) : List PyData := if h = "if" ∨ h = "repeat" then ds.drop 1 else []
def spPartsG : Sp := fun vs H Q _ => ∃ (N : List Addr) (v : V) (h : Str) (ds : List PyData), vs = [v] ∧ Gd N H v (.tuple (.str h :: ds)) ∧ ∀ H' v', Sx [] H H' → Gd N H' v' (.tuple (ptsG h ds)) → Q v' H'
theorem ir_in (z : Str) : inV (.str z) [V.str "if", V.str "repeat"] = decide (z = "if" ∨ z = "repeat") := by
  unfold inV
  by_cases h1 : z = "if"
  · subst h1; rfl
  · by_cases h2 : z = "repeat"
    · subst h2; rfl
    · rw [decide_eq_false (by simp [h1, h2])]
      have a : ("if" : Str) ≠ z := fun e => h1 e.symm
      have b : ("repeat" : Str) ≠ z := fun e => h2 e.symm
      simp [eqV, a, b]
theorem cut2 (x : V) (xs : List V) : cutV (x :: xs) (some 2) none = xs.drop 1 := by
  show ((x :: xs).drop (min 2 (xs.length + 1))).take (xs.length + 1 - min 2 (xs.length + 1)) = _
  cases xs with
  | nil => rfl
  | cons y ys =>
    rw [show min 2 ((y :: ys).length + 1) = 2 by simp only [List.length_cons]; omega]
    show ys.take (ys.length + 1 + 1 - 2) = ys
    rw [show ys.length + 1 + 1 - 2 = ys.length by omega, List.take_length]
theorem stB_non {d : PyData} (h : isTup d = false) : stB d = false := by
  cases d with
  | tuple _ => cases h
  | _ => simp only [stB]
theorem stB_nil : stB (.tuple []) = false := by simp only [stB]
theorem stB_hd {d : PyData} {ds : List PyData} (h : isStr d = false) : stB (.tuple (d :: ds)) = false := by
  cases d with
  | str _ => cases h
  | _ => simp only [stB]
theorem stB1 (h : Str) : stB (.tuple [.str h]) = decide (h = "stop") := by simp only [stB]
theorem stB2 (h : Str) (x : PyData) : stB (.tuple [.str h, x]) = if h = "pay" then exB 3 x else false := by simp only [stB]
theorem stB3 (h : Str) (x y : PyData) : stB (.tuple [.str h, x, y]) = if h = "set" then nmD x && exB 3 y else if h = "repeat" then btD 1 8 x && isTup y else false := by simp only [stB]
theorem stB4 (h : Str) (x y z : PyData) : stB (.tuple [.str h, x, y, z]) = if h = "if" then tsB 2 x && (isTup y && isTup z) else false := by simp only [stB]
theorem stB_len {h : Str} {ds : List PyData} (z : ((ds.length + 1 : Nat) : Int) ≠ lenT5 h) : stB (.tuple (.str h :: ds)) = false := by
  match ds, z with
  | [], z =>
    rw [stB1]
    by_cases e : h = "stop"
    · subst e; exact absurd rfl z
    · exact decide_eq_false e
  | [x], z =>
    rw [stB2]
    by_cases e : h = "pay"
    · subst e; exact absurd rfl z
    · rw [if_neg e]
  | [x, y], z =>
    rw [stB3]
    by_cases e : h = "set"
    · subst e; exact absurd rfl z
    · rw [if_neg e]
      by_cases e : h = "repeat"
      · subst e; exact absurd rfl z
      · rw [if_neg e]
  | [x, y, r], z =>
    rw [stB4]
    by_cases e : h = "if"
    · subst e; exact absurd rfl z
    · rw [if_neg e]
  | _ :: _ :: _ :: _ :: _, _ => simp only [stB]
section
variable {w : World} {P : Program} {K : PySem.W.Frag} {mg : Str → Option Value} {base : Heap}
theorem ok_gparts {f : Addr} {fd : FuncData} {k : Nat} (F_parts : Fun K "_law_parts" "_law_parts" sParts f fd) : FnOk P w K mg base CX0 (k + 1) f fd ["_law_row_here"] spPartsG := by
  refine F_parts.ok scParts (fun vs H Q E h => ?_) (fun cdv A outer s H vs Q E hr h => ?_)
  · obtain ⟨_, _, _, _, rfl, _⟩ := h
    rfl
  · obtain ⟨N, v, z, ds, rfl, hd, q⟩ := h
    refine ⟨_, (pss_one (ps_ret (pe_ifExp (pt_cmpR op_in_seq (pe_ix ix_tup (pv 0) pe_int (fun _ _ => rfl)) (pe_tup (pa_cons pe_str (pa_cons pe_str pa_nil))) (by with_unfolding_all rfl)) (pe_slice sl_tup (pv 0) (po_some pe_int) po_none) (pe_tup pa_nil)))), ?_⟩
    obtain ⟨a, xs, rfl, ha, hx⟩ := hd.tuple
    cases hx with
    | @cons x0 xs d0 ds g0 hx =>
    cases g0
    refine ⟨_, rfl, a, _, _, _, rfl, rfl, SqT.of ha, at0 _ _, by show 2 ≤ sizeLine; decide, fun p hp => ⟨p, [V.str "if", V.str "repeat"], rfl, .inr (SqT.of upd_same), rfl, by decide +kernel, _, rfl, ?_⟩⟩
    have sp : Sx [] H (upd H p (.tup [.str "if", .str "repeat"])) := Sx.n0 hp
    rw [ir_in]
    unfold ptsG at q
    by_cases h : z = "if" ∨ z = "repeat"
    · rw [if_pos h] at q
      rw [decide_eq_true h]
      refine iteT ⟨_, rfl, 2, rfl, a, _, rfl, SqT.of (sp _ _ (by simp) ha), fun e => ?_, fun p' hp' => ?_⟩
      · have e1 : min 2 (xs.length + 1) = 0 := e.1
        omega
      refine q _ _ (sp.new hp') (.tup upd_same ?_)
      rw [cut2]
      exact ((hx.drop 1).keep sp.kp0).new hp'
    · rw [if_neg h] at q
      rw [decide_eq_false h]
      exact iteF ⟨by show 0 ≤ sizeLine; decide, fun p' hp' => q _ _ (sp.new hp') (.tup upd_same .nil)⟩
theorem ok_glstat {f fE fN fT fW fP : Addr} {fd fdE fdN fdT fdW fdP : FuncData} (F_is_statement : Fun K "_law_is_statement" "_law_is_statement" sIsStatement f fd) (F_is_expression : Fun K "_law_is_expression" "_law_is_expression" sIsExpression fE fdE) (F_is_name : Fun K "_law_is_name" "_law_is_name" sIsName fN fdN) (F_is_test : Fun K "_law_is_test" "_law_is_test" sIsTest fT fdT) (F_whole : Fun K "_law_whole" "_law_whole" sWhole fW fdW) (F_parts : Fun K "_law_parts" "_law_parts" sParts fP fdP)
    (G_is_expression : FnOk P w K mg base CX0 6 fE fdE ["_law_value_here", "_law_deep"] (spExprG 4)) (G_is_name : FnOk P w K mg base CX0 1 fN fdN ["_law_value_here"] spNameG) (G_is_test : FnOk P w K mg base CX0 11 fT fdT ["_law_value_here", "_law_nots"] (spTestG 3)) (G_whole : FnOk P w K mg base CX0 1 fW fdW ["_law_value_here", "_law_least", "_law_most"] spWholeG) (G_parts : FnOk P w K mg base CX0 1 fP fdP ["_law_row_here"] spPartsG)
    (b_is_expression : Binds K fdE ["_law_value_here", "_law_deep"] []) (b_is_name : Binds K fdN ["_law_value_here"] []) (b_is_test : Binds K fdT ["_law_value_here", "_law_nots"] []) (b_whole : Binds K fdW ["_law_value_here", "_law_least", "_law_most"] []) (b_parts : Binds K fdP ["_law_row_here"] [])
    (m_is_expression : mg "_law_is_expression" = some (.ref fE)) (m_is_name : mg "_law_is_name" = some (.ref fN)) (m_is_test : mg "_law_is_test" = some (.ref fT)) (m_whole : mg "_law_whole" = some (.ref fW)) (m_parts : mg "_law_parts" = some (.ref fP)) (z_isinstance : mg "isinstance" = none) (z_tuple : mg "tuple" = none) (z_str : mg "str" = none) (z_len : mg "len" = none) :
    FnOk P w K mg base CX0 12 f fd ["_law_value_here"] spStG := by
  refine F_is_statement.ok scIsStatement (fun vs H Q E h => ?_) (fun cdv A outer s H vs Q E hr h => ?_)
  · obtain ⟨_, _, _, rfl, _⟩ := h
    rfl
  · obtain ⟨N, v, d, rfl, hd, hw, q⟩ := h
    refine ⟨_, (pss_cons (ps_if (PW.pt (pw_or (pt_not (pt_val (pe_callB call_isi (by rfl) z_isinstance (by decide +kernel) (pa_cons (pv 0) (pa_cons (pe_bltn (v := .ty "tuple") (by rfl) z_tuple (by decide +kernel) rfl) pa_nil))))) (pw_or (pt_cmpR (op_eqE hr.units) (pv 0) (pe_tup pa_nil) (nomark _)) (pw_or1 (pt_not (pt_val (pe_callB call_isi (by rfl) z_isinstance (by decide +kernel) (pa_cons (pe_ix ix_tup (pv 0) pe_int (fun _ _ => rfl)) (pa_cons (pe_bltn (v := .ty "str") (by rfl) z_str (by decide +kernel) rfl) pa_nil))))))))) (pss_one (ps_ret pe_bl)) pss_nil)
      (pss_cons (ps_if (pt_cmpR op_ne (pe_callB call_len_seq (by rfl) z_len boot_len (pa_cons (pv 0) pa_nil)) (pe_dget2 (hu_of hr) (pe_disp (pps_cons pe_str pe_int (pps_cons pe_str pe_int (pps_cons pe_str pe_int (pps_cons pe_str pe_int (pps_cons pe_str pe_int pps_nil))))) (by rfl) (by rfl) (fun z => by cases z) (by decide)) (pe_ix ix_tup (pv 0) pe_int (fun _ _ => rfl)) pe_int ⟨rfl, rfl, rfl, rfl⟩) (nomark _)) (pss_one (ps_ret pe_bl)) pss_nil)
      (pss_cons (ps_if (pt_cmpR op_eq (pe_ix ix_tup (pv 0) pe_int (fun _ _ => rfl)) pe_str (nomark _)) (pss_one (ps_ret (pe_and (pe_call G_is_name (hr.mono (by omega)) (by rfl) m_is_name F_is_name.kp b_is_name .nil pass0 (pa_cons (pe_ix ix_tup (pv 0) pe_int (fun _ _ => rfl)) pa_nil)) (pe_one (pe_call G_is_expression (hr.mono (by omega)) (by rfl) m_is_expression F_is_expression.kp b_is_expression .nil pass0 (pa_cons (pe_ix ix_tup (pv 0) pe_int (fun _ _ => rfl)) (pa_cons pe_int pa_nil))))))) pss_nil)
      (pss_cons (ps_if (pt_cmpR op_eq (pe_ix ix_tup (pv 0) pe_int (fun _ _ => rfl)) pe_str (nomark _)) (pss_one (ps_ret (pe_call G_is_expression (hr.mono (by omega)) (by rfl) m_is_expression F_is_expression.kp b_is_expression .nil pass0 (pa_cons (pe_ix ix_tup (pv 0) pe_int (fun _ _ => rfl)) (pa_cons pe_int pa_nil))))) pss_nil)
      (pss_cons (ps_if (PW.pt (pw_and (pt_cmpR op_eq (pe_ix ix_tup (pv 0) pe_int (fun _ _ => rfl)) pe_str (nomark _)) (pw_and1 (pt_not (pt_val (pe_call G_is_test (hr.mono (by omega)) (by rfl) m_is_test F_is_test.kp b_is_test .nil pass0 (pa_cons (pe_ix ix_tup (pv 0) pe_int (fun _ _ => rfl)) (pa_cons pe_int pa_nil)))))))) (pss_one (ps_ret pe_bl)) pss_nil)
      (pss_cons (ps_if (PW.pt (pw_and (pt_cmpR op_eq (pe_ix ix_tup (pv 0) pe_int (fun _ _ => rfl)) pe_str (nomark _)) (pw_and1 (pt_not (pt_val (pe_call G_whole (hr.mono (by omega)) (by rfl) m_whole F_whole.kp b_whole .nil pass0 (pa_cons (pe_ix ix_tup (pv 0) pe_int (fun _ _ => rfl)) (pa_cons pe_int (pa_cons pe_int pa_nil))))))))) (pss_one (ps_ret pe_bl)) pss_nil)
      (pss_one (ps_ret (pe_cmpR (op_eqL0 hr.units) (pe_lc (own := [("_law_part", 1)]) (g := gName 1) (tt := _) rfl scIsStatement.nd (pi_tup (pe_call G_parts (hr.mono (by omega)) (by rfl) m_parts F_parts.kp b_parts .nil pass0 (pa_cons (pv 0) pa_nil))) (blkOk_by (N := nIsStatement) (sc := defScope sIsStatement) (by decide +kernel)) (fun _ _ _ _ _ => (pg_name (i := 1) scIsStatement.nd rfl (by first | exact Or.inl rfl | exact Or.inr rfl))) (fun _ _ _ _ _ => pts_one (pt_not (pt_val (pe_callB (call_isiK (K := K) rfl) (by rfl) z_isinstance (by decide +kernel) (pa_cons (pv 1) (pa_cons (pe_bltn (v := .ty "tuple") (by rfl) z_tuple (by decide +kernel) rfl) pa_nil)))))) (fun _ _ _ _ _ => (pv 1))) (pe_lst pa_nil) (nomark _)))))))))), ?_⟩
    refine ⟨_, rfl, _, _, _, _, _, rfl, .ty _, hd.ty, kit_ty (kb_tuple d), _, rfl, ?_⟩
    cases htp : isTup d with
    | false =>
      rw [stB_non htp] at q
      exact iteT (q H (Sx.refl _))
    | true =>
    obtain ⟨ds, rfl⟩ := isTup_t htp
    obtain ⟨a, xs, rfl, ha, hx⟩ := hd.tuple
    have hl := hx.len
    refine iteF ⟨_, rfl, by show 0 ≤ sizeLine; decide, fun u hu => ⟨N, ds, u, rfl, upd_same, hd.new hu, _, rfl, ?_⟩⟩
    have su : Sx [] H (upd H u (.tup [])) := Sx.n0 hu
    have ha2 := su _ _ (by simp) ha
    cases hx with
    | nil =>
      rw [stB_nil] at q
      exact iteT (q _ su)
    | @cons x0 xs d0 ds g0 hx =>
    refine iteF ⟨_, rfl, a, _, _, x0, rfl, rfl, SqT.of ha2, at0 _ _, _, _, _, _, _, rfl, .ty _, (g0.new hu).ty, kit_ty (kb_str d0), _, rfl, ?_⟩
    cases hs : isStr d0 with
    | false =>
      rw [stB_hd hs] at q
      exact iteT (q _ su)
    | true =>
    obtain ⟨z, rfl⟩ := isStr_t hs
    cases g0
    refine iteF ⟨_, rfl, a, _, rfl, .inr (SqT.of ha2), fun p hp => ?_⟩
    have ha3 := Sx.n0 (o := .dK []) hp _ _ (by simp) ha2
    have pa : a ≠ p := ne_of_none ha2 hp
    have ha4 : ∀ o, (upd (upd (upd H u (.tup [])) p (.dK [])) p o) a = some (.tup (.str z :: xs)) := fun o => by rw [upd_ne pa]; exact ha3
    refine ⟨upd_same, [(.inr "set", .int 3), (.inr "pay", .int 2), (.inr "stop", .int 1), (.inr "if", .int 4), (.inr "repeat", .int 3)], rfl, by decide, p, rfl, .inl ⟨_, .inl upd_same⟩, ?_⟩
    refine ⟨_, rfl, a, _, _, .str z, rfl, rfl, SqT.of (ha4 _), at0 _ _, ?_⟩
    refine ⟨_, .inl ⟨_, .inr z, .inl upd_same, rfl, rfl⟩, ?_⟩
    rw [get_T5]
    refine ⟨rfl, _, rfl, ?_⟩
    have s2 : Sx [] H (upd (upd (upd H u (.tup [])) p (.dK [])) p (.dK (mergeK [] [((.inr "set" : Key), V.int 3), (.inr "pay", .int 2), (.inr "stop", .int 1), (.inr "if", .int 4), (.inr "repeat", .int 3)]))) := (su.new hp).own (su.free (by simp) hp)
    have ha5 := s2 _ _ (by simp) ha
    generalize upd (upd (upd H u (.tup [])) p (.dK [])) p (.dK (mergeK [] [((.inr "set" : Key), V.int 3), (.inr "pay", .int 2), (.inr "stop", .int 1), (.inr "if", .int 4), (.inr "repeat", .int 3)])) = H5 at s2 ha5 ⊢
    have hl2 : xs.length = ds.length := hx.len
    by_cases hL : ((ds.length + 1 : Nat) : Int) = lenT5 z
    case neg =>
      rw [stB_len hL] at q
      rw [decide_eq_false (fun e => hL (by have := V.int.inj e; rw [List.length_cons, hl2] at this; exact this))]
      exact iteT (q _ s2)
    rw [decide_eq_true (show V.int (((V.str z :: xs).length : Nat) : Int) = V.int (lenT5 z) by rw [List.length_cons, hl2, hL])]
    refine iteF ⟨_, rfl, a, _, _, .str z, rfl, rfl, SqT.of ha5, at0 _ _, rfl, _, rfl, ?_⟩
    have hd5 := hd.keep (s2.kp0 (N := N))
    by_cases h1 : z = "set"
    · subst h1
      obtain ⟨x, y, rfl⟩ := l2 (xs := ds) (by have : lenT5 "set" = 3 := rfl; rw [this] at hL; omega)
      obtain ⟨_, y0, y1, y2, e, hA, g1, g2, g3⟩ := gd3 hd5
      cases e
      rw [stB3, if_pos rfl] at q
      have wx : x.weight ≤ WB := wt_tup hw (by simp)
      have wy : y.weight ≤ WB := wt_tup hw (by simp)
      refine iteP (by decide +kernel) ⟨_, rfl, a, _, _, y1, rfl, rfl, SqT.of hA, rfl, N, y1, x, rfl, g2, wx, fun H6 s6 => ⟨_, rfl, ?_⟩⟩
      cases hb : nmD x with
      | false =>
        rw [hb, Bool.false_and] at q
        exact iteF (q H6 (s2.trans s6))
      | true =>
        rw [hb, Bool.true_and] at q
        exact iteT ⟨_, rfl, a, _, _, y2, rfl, rfl, SqT.of (s6 _ _ (by simp) hA), rfl, N, y2, y, 3, rfl, by decide, g3.keep s6.kp0, wy, fun H7 s7 => q H7 ((s2.trans s6).trans s7)⟩
    refine iteN (sne (by simpa using h1)) ⟨_, rfl, a, _, _, .str z, rfl, rfl, SqT.of ha5, at0 _ _, rfl, _, rfl, ?_⟩
    by_cases h2 : z = "pay"
    · subst h2
      obtain ⟨x, rfl⟩ := l1 (xs := ds) (by have : lenT5 "pay" = 2 := rfl; rw [this] at hL; omega)
      obtain ⟨_, y0, y1, e, hA, g1, g2⟩ := gd2 hd5
      cases e
      rw [stB2, if_pos rfl] at q
      have wx : x.weight ≤ WB := wt_tup hw (by simp)
      exact iteP (by decide +kernel) ⟨_, rfl, a, _, _, y1, rfl, rfl, SqT.of hA, rfl, N, y1, x, 3, rfl, by decide, g2, wx, fun H6 s6 => q H6 (s2.trans s6)⟩
    refine iteN (sne (by simpa using h2)) ⟨_, rfl, a, _, _, .str z, rfl, rfl, SqT.of ha5, at0 _ _, rfl, _, rfl, ?_⟩
    have wl : (ptsG z ds).length ≤ 1000000 := by
      have h1 := wt_len (PyData.str z :: ds)
      simp only [PyData.weight] at hw
      have h2 : (ptsG z ds).length ≤ ds.length := by
        unfold ptsG
        split
        · rw [List.length_drop]; omega
        · exact Nat.zero_le _
      rw [List.length_cons] at h1
      have : PyData.weightAll (PyData.str z :: ds) ≤ 1000000 := hw
      omega
    by_cases h3 : z = "if"
    · subst h3
      obtain ⟨x, y, r, rfl⟩ := l3 (xs := ds) (by have : lenT5 "if" = 4 := rfl; rw [this] at hL; omega)
      obtain ⟨_, y0, y1, y2, y3, e, hA, g1, g2, g3, g4⟩ := gd4 hd5
      cases e
      rw [stB4, if_pos rfl] at q
      have wx : x.weight ≤ WB := wt_tup hw (by simp)
      refine iteP (by decide +kernel) ⟨_, rfl, a, _, _, y1, rfl, rfl, SqT.of hA, rfl, N, y1, x, 2, rfl, by decide, g2, wx, fun H6 s56 => ⟨_, rfl, ?_⟩⟩
      have s6 := s2.trans s56
      cases hb : tsB 2 x with
      | false =>
        rw [hb, Bool.false_and] at q
        exact iteT (q H6 s6)
      | true =>
      rw [hb, Bool.true_and] at q
      have q : ∀ H', Sx [] H H' → Q (.bl ((ptsG "if" [x, y, r]).all isTup)) H' := fun H' s' => by
        have e : (ptsG "if" [x, y, r]).all isTup = (isTup y && isTup r) := by
          show ([y, r] : List PyData).all isTup = _
          simp
        rw [e]
        exact q H' s'
      have hd6 := hd5.keep (s56.kp0 (N := N))
      refine iteF ⟨_, rfl, a, _, _, .str "if", rfl, rfl, SqT.of (s56 _ _ (by simp) ha5), at0 _ _, rfl, _, rfl, iteN (sne (show (("if" : Str) == "repeat") = false by decide +kernel)) (iteF ?_)⟩
      generalize hz : ("if" : Str) = z at *
      generalize [x, y, r] = ds at *
      refine ⟨_, rfl, N, .ref a, z, ds, rfl, hd6, fun H7 v7 s7 t7 => ?_⟩
      obtain ⟨a7, ys, rfl, ha7, hy⟩ := t7.tuple
      have yl := hy.len
      refine ⟨a7, rfl, ⟨_, SqT.of ha7⟩, fun D hD => lc_tup (xs := ys) (fun j H8 => Sx [] H7 H8 ∧ ∃ vs : List V, H8 D = some (.lst vs) ∧ vs.length ≤ j ∧ vs.isEmpty = ((ptsG z ds).take j).all isTup) ⟨Sx.n0 hD, [], upd_same, Nat.le_refl _, rfl⟩ (fun i H8 _ p => SqT.of (p.1 _ _ (by simp) ha7)) (fun j y H8 hj p => ?_) (fun H8 p => ?_)⟩
      · obtain ⟨p1, vs, p2, p3, p4⟩ := p
        obtain ⟨d2, hd2, g2⟩ := hy.get hj
        have g2 := g2.keep (p1.kp0 (N := N))
        have jl := (List.getElem?_eq_some_iff.mp hj).1
        refine ⟨rfl, ?_⟩
        refine ⟨_, rfl, _, _, _, _, _, rfl, .ty _, g2.ty, kit_ty (kb_tuple d2), _, rfl, ?_⟩
        have p4' : ((ptsG z ds).take (j + 1)).all isTup = (vs.isEmpty && isTup d2) := by
          rw [List.take_add_one, hd2, List.all_append, ← p4]
          simp
        cases hb : isTup d2 with
        | true => exact iteF ⟨p1, vs, p2, by omega, by rw [p4', hb, Bool.and_true]⟩
        | false =>
          refine iteT ⟨_, rfl, vs, p2, lt_line (by omega), p1.own hD, _, upd_same, by rw [List.length_append]; simp; omega, ?_⟩
          rw [p4', hb, Bool.and_false]
          cases vs <;> rfl
      · obtain ⟨p1, vs, p2, p3, p4⟩ := p
        rw [yl, List.take_length] at p4
        refine ⟨by show 0 ≤ sizeLine; decide, fun l hl => ⟨D, l, vs, rfl, rfl, Sx.n0 hl _ _ (by simp) p2, upd_same, ?_⟩⟩
        rw [p4]
        exact q _ ((s6.trans s7).trans (p1.new hl))
    refine iteN (sne (by simpa using h3)) (iteF ⟨_, rfl, a, _, _, .str z, rfl, rfl, SqT.of ha5, at0 _ _, rfl, _, rfl, ?_⟩)
    have s6 := s2
    have hd6 := hd5
    by_cases h4 : z = "repeat"
    · subst h4
      obtain ⟨x, y, rfl⟩ := l2 (xs := ds) (by have : lenT5 "repeat" = 3 := rfl; rw [this] at hL; omega)
      obtain ⟨_, y0, y1, y2, e, hA, g1, g2, g3⟩ := gd3 hd5
      cases e
      rw [stB3, if_neg (by decide +kernel), if_pos rfl] at q
      refine iteP (by decide +kernel) ⟨_, rfl, a, _, _, y1, rfl, rfl, SqT.of hA, rfl, N, y1, x, 1, 8, rfl, g2, _, rfl, ?_⟩
      cases hb : btD 1 8 x with
      | false =>
        rw [hb, Bool.false_and] at q
        exact iteT (q _ s6)
      | true =>
      rw [hb, Bool.true_and] at q
      have q : ∀ H', Sx [] H H' → Q (.bl ((ptsG "repeat" [x, y]).all isTup)) H' := fun H' s' => by
        have e : (ptsG "repeat" [x, y]).all isTup = isTup y := by
          show ([y] : List PyData).all isTup = _
          simp
        rw [e]
        exact q H' s'
      refine iteF ?_
      generalize hz : ("repeat" : Str) = z at *
      generalize [x, y] = ds at *
      refine ⟨_, rfl, N, .ref a, z, ds, rfl, hd6, fun H7 v7 s7 t7 => ?_⟩
      obtain ⟨a7, ys, rfl, ha7, hy⟩ := t7.tuple
      have yl := hy.len
      refine ⟨a7, rfl, ⟨_, SqT.of ha7⟩, fun D hD => lc_tup (xs := ys) (fun j H8 => Sx [] H7 H8 ∧ ∃ vs : List V, H8 D = some (.lst vs) ∧ vs.length ≤ j ∧ vs.isEmpty = ((ptsG z ds).take j).all isTup) ⟨Sx.n0 hD, [], upd_same, Nat.le_refl _, rfl⟩ (fun i H8 _ p => SqT.of (p.1 _ _ (by simp) ha7)) (fun j y H8 hj p => ?_) (fun H8 p => ?_)⟩
      · obtain ⟨p1, vs, p2, p3, p4⟩ := p
        obtain ⟨d2, hd2, g2⟩ := hy.get hj
        have g2 := g2.keep (p1.kp0 (N := N))
        have jl := (List.getElem?_eq_some_iff.mp hj).1
        refine ⟨rfl, ?_⟩
        refine ⟨_, rfl, _, _, _, _, _, rfl, .ty _, g2.ty, kit_ty (kb_tuple d2), _, rfl, ?_⟩
        have p4' : ((ptsG z ds).take (j + 1)).all isTup = (vs.isEmpty && isTup d2) := by
          rw [List.take_add_one, hd2, List.all_append, ← p4]
          simp
        cases hb : isTup d2 with
        | true => exact iteF ⟨p1, vs, p2, by omega, by rw [p4', hb, Bool.and_true]⟩
        | false =>
          refine iteT ⟨_, rfl, vs, p2, lt_line (by omega), p1.own hD, _, upd_same, by rw [List.length_append]; simp; omega, ?_⟩
          rw [p4', hb, Bool.and_false]
          cases vs <;> rfl
      · obtain ⟨p1, vs, p2, p3, p4⟩ := p
        rw [yl, List.take_length] at p4
        refine ⟨by show 0 ≤ sizeLine; decide, fun l hl => ⟨D, l, vs, rfl, rfl, Sx.n0 hl _ _ (by simp) p2, upd_same, ?_⟩⟩
        rw [p4]
        exact q _ ((s6.trans s7).trans (p1.new hl))
    refine iteN (sne (by simpa using h4)) (iteF ?_)
    by_cases h5 : z = "stop"
    case neg =>
      have : lenT5 z = 0 := by unfold lenT5; rw [if_neg h1, if_neg h2, if_neg h5, if_neg h3, if_neg h4]
      rw [this] at hL
      omega
    subst h5
    obtain rfl : ds = [] := by
      have : lenT5 "stop" = 1 := rfl
      rw [this] at hL
      exact (List.length_eq_zero_iff.mp (by omega))
    rw [stB1, decide_eq_true rfl] at q
    have q : ∀ H', Sx [] H H' → Q (.bl ((ptsG "stop" []).all isTup)) H' := q
    generalize hz : ("stop" : Str) = z at *
    generalize ([] : List PyData) = ds at q wl hd6
    refine ⟨_, rfl, N, .ref a, z, ds, rfl, hd6, fun H7 v7 s7 t7 => ?_⟩
    obtain ⟨a7, ys, rfl, ha7, hy⟩ := t7.tuple
    have yl := hy.len
    refine ⟨a7, rfl, ⟨_, SqT.of ha7⟩, fun D hD => lc_tup (xs := ys) (fun j H8 => Sx [] H7 H8 ∧ ∃ vs : List V, H8 D = some (.lst vs) ∧ vs.length ≤ j ∧ vs.isEmpty = ((ptsG z ds).take j).all isTup) ⟨Sx.n0 hD, [], upd_same, Nat.le_refl _, rfl⟩ (fun i H8 _ p => SqT.of (p.1 _ _ (by simp) ha7)) (fun j y H8 hj p => ?_) (fun H8 p => ?_)⟩
    · obtain ⟨p1, vs, p2, p3, p4⟩ := p
      obtain ⟨d2, hd2, g2⟩ := hy.get hj
      have g2 := g2.keep (p1.kp0 (N := N))
      have jl := (List.getElem?_eq_some_iff.mp hj).1
      refine ⟨rfl, ?_⟩
      refine ⟨_, rfl, _, _, _, _, _, rfl, .ty _, g2.ty, kit_ty (kb_tuple d2), _, rfl, ?_⟩
      have p4' : ((ptsG z ds).take (j + 1)).all isTup = (vs.isEmpty && isTup d2) := by
        rw [List.take_add_one, hd2, List.all_append, ← p4]
        simp
      cases hb : isTup d2 with
      | true => exact iteF ⟨p1, vs, p2, by omega, by rw [p4', hb, Bool.and_true]⟩
      | false =>
        refine iteT ⟨_, rfl, vs, p2, lt_line (by omega), p1.own hD, _, upd_same, by rw [List.length_append]; simp; omega, ?_⟩
        rw [p4', hb, Bool.and_false]
        cases vs <;> rfl
    · obtain ⟨p1, vs, p2, p3, p4⟩ := p
      rw [yl, List.take_length] at p4
      refine ⟨by show 0 ≤ sizeLine; decide, fun l hl => ⟨D, l, vs, rfl, rfl, Sx.n0 hl _ _ (by simp) p2, upd_same, ?_⟩⟩
      rw [p4]
      exact q _ ((s6.trans s7).trans (p1.new hl))
end
/-! ### of typed values -/
theorem nmB_ok {z : Str} (h : NmOk z) : nmB z = true := by
  have hc : ∃ c, z.cps.toList[0]? = some c ∧ z.cps.toList.headD 0 = c := by
    have := h.lo
    cases e : z.cps.toList with
    | nil =>
      have : z.length = z.cps.toList.length := by simp [Str.length]
      rw [e] at this
      simp at this
      omega
    | cons c r => exact ⟨c, rfl, rfl⟩
  obtain ⟨c, h0, h1⟩ := hc
  unfold nmB
  rw [decide_eq_true h.lo, decide_eq_true h.hi, not_word h.kw, h1]
  have a1 : c ∈ azL := ab_mem c ⟨h.hd c h0, by
    have := h.sgn c (List.mem_of_getElem? h0)
    have := h.hd c h0
    omega⟩
  rw [decide_eq_true a1]
  show (z.cps.toList.all fun c => decide (c ∈ anL)) = true
  rw [List.all_eq_true]
  intro x hx
  exact decide_eq_true (ab09_mem x (h.sgn x hx))
theorem exB_typed : ∀ {e : Ex} (n : Nat), e.nm → exB n e.d = e.okB n
  | .int i, 0, _ => rfl
  | .name z, 0, _ => rfl
  | .plus x y, 0, _ => rfl
  | .minus x y, 0, _ => rfl
  | .times f x, 0, _ => rfl
  | .int i, n + 1, _ => by
    show inB (-99) 99 i = (decide (0 < n + 1) && _)
    rw [decide_eq_true (by omega : 0 < n + 1)]; rfl
  | .name z, n + 1, h => by
    show nmB z = decide (0 < n + 1)
    rw [nmB_ok h, decide_eq_true (by omega : 0 < n + 1)]
  | .plus x y, n + 1, h => by
    have e : exB (n + 1) (Ex.plus x y).d = (exB n x.d && exB n y.d) := by
      show exB (n + 1) (.tuple [.str "plus", x.d, y.d]) = _
      rw [exB_tri, if_pos (.inl rfl)]
    rw [e, exB_typed n h.1, exB_typed n h.2]
    show _ = (decide (0 < n + 1) && _)
    rw [decide_eq_true (by omega : 0 < n + 1)]; rfl
  | .minus x y, n + 1, h => by
    have e : exB (n + 1) (Ex.minus x y).d = (exB n x.d && exB n y.d) := by
      show exB (n + 1) (.tuple [.str "minus", x.d, y.d]) = _
      rw [exB_tri, if_pos (.inr rfl)]
    rw [e, exB_typed n h.1, exB_typed n h.2]
    show _ = (decide (0 < n + 1) && _)
    rw [decide_eq_true (by omega : 0 < n + 1)]; rfl
  | .times f x, n + 1, h => by
    have e : exB (n + 1) (Ex.times f x).d = (btD (-9) 9 (.int f) && exB n x.d) := by
      show exB (n + 1) (.tuple [.str "times", .int f, x.d]) = _
      rw [exB_tri, if_neg (by decide +kernel), if_pos rfl]
    rw [e, exB_typed (e := x) n h]
    show _ = (decide (0 < n + 1) && _)
    rw [decide_eq_true (by omega : 0 < n + 1)]; rfl
theorem tsB_typed : ∀ {t : Ts} (n : Nat), t.nm → tsB n t.d = t.okB n
  | .rest x b r, n, h => by
    show tsB n (.tuple [.str "rest", x.d, .int b, .int r]) = _
    rw [tsB4, if_pos rfl]
    unfold rsB
    rw [exB_typed (e := x) 3 h]
    show _ = ((decide (2 ≤ b) && decide (b ≤ 6)) && (x.okB 3 && (decide (0 ≤ r) && decide (r ≤ b - 1))))
    rw [Bool.and_left_comm]
    rfl
  | .less x y, n, h => by
    show tsB n (.tuple [.str "less", x.d, y.d]) = _
    rw [tsB3, if_pos rfl, exB_typed 3 h.1, exB_typed 3 h.2]
    rfl
  | .not t, n, h => by
    show tsB n (.tuple [.str "not", t.d]) = _
    rw [tsB2, if_pos rfl]
    cases n with
    | zero => rfl
    | succ n =>
      show tsB n t.d = (decide (0 < n + 1) && t.okB n)
      rw [tsB_typed (t := t) n h, decide_eq_true (by omega : 0 < n + 1), Bool.true_and]
theorem stB_typed {s : St} (h : s.nm) : stB s.d = s.okB := by
  cases s with
  | set z e =>
    show stB (.tuple [.str "set", .str z, e.d]) = _
    rw [stB3, if_pos rfl, exB_typed 3 h.2]
    show (nmB z && e.okB 3) = e.okB 3
    rw [nmB_ok h.1, Bool.true_and]
  | pay e =>
    show stB (.tuple [.str "pay", e.d]) = _
    rw [stB2, if_pos rfl, exB_typed (e := e) 3 h]
    rfl
  | stop =>
    show stB (.tuple [.str "stop"]) = _
    rw [stB1]; rfl
  | ite t y n =>
    show stB (.tuple [.str "if", t.d, .tuple y.ds, .tuple n.ds]) = _
    rw [stB4, if_pos rfl, tsB_typed (t := t) 2 h]
    show (t.okB 2 && (true && true)) = t.okB 2
    simp
  | rep k y =>
    show stB (.tuple [.str "repeat", .int k, .tuple y.ds]) = _
    rw [stB3, if_neg (by decide +kernel), if_pos rfl]
    show (btD 1 8 (.int k) && true) = _
    rw [Bool.and_true]; rfl
/-! ### what the program says of expressions, tests and statements of any values -/
theorem hd_ne {z w : Str} {ds : List PyData} {n : Int} (h : hdIs (hdG (.tuple (.str z :: ds))) w n = false) (hl : ((ds.length + 1 : Nat) : Int) = n) : z ≠ w := fun e => by
  subst e hl
  rw [hdIs_mk] at h
  cases h
theorem exB_rest {d : PyData} (n : Nat) (h0 : isInt d = false) (h1 : hdIs (hdG d) "plus" 3 = false) (h2 : hdIs (hdG d) "minus" 3 = false) (h3 : hdIs (hdG d) "times" 3 = false) : exB (n + 1) d = nmD d := by
  cases d with
  | int i => cases h0
  | tuple ds =>
    show exB (n + 1) (.tuple ds) = false
    by_cases hl : ds.length = 3
    · obtain ⟨d0, x, y, rfl⟩ := len3 hl
      cases hs : isStr d0 with
      | false => exact exB_hd _ hs
      | true =>
        obtain ⟨z, rfl⟩ := isStr_t hs
        rw [exB_tri, if_neg (fun e => e.elim (hd_ne h1 rfl) (hd_ne h2 rfl)), if_neg (hd_ne h3 rfl)]
    · exact exB_len _ hl
  | _ => rfl
theorem tsB_rest {d : PyData} (n : Nat) (h1 : hdIs (hdG d) "not" 2 = false) (h2 : hdIs (hdG d) "less" 3 = false) (h3 : hdIs (hdG d) "rest" 4 = false) : tsB n d = false := by
  cases htp : isTup d with
  | false => exact tsB_non n htp
  | true =>
    obtain ⟨ds, rfl⟩ := isTup_t htp
    cases ds with
    | nil => exact tsB_nil n
    | cons d0 ds =>
      cases hs : isStr d0 with
      | false => exact tsB_hd n hs
      | true =>
        obtain ⟨z, rfl⟩ := isStr_t hs
        refine tsB_len n (fun hl => ?_)
        unfold lenT3 at hl
        by_cases e2 : z = "less"
        · rw [if_pos e2] at hl; exact hd_ne h2 hl e2
        rw [if_neg e2] at hl
        by_cases e3 : z = "rest"
        · rw [if_pos e3] at hl; exact hd_ne h3 hl e3
        rw [if_neg e3] at hl
        by_cases e1 : z = "not"
        · rw [if_pos e1] at hl; exact hd_ne h1 hl e1
        rw [if_neg e1] at hl
        omega
theorem stB_rest {d : PyData} (h1 : hdIs (hdG d) "set" 3 = false) (h2 : hdIs (hdG d) "pay" 2 = false) (h3 : hdIs (hdG d) "if" 4 = false) (h4 : hdIs (hdG d) "repeat" 3 = false) : stB d = hdIs (hdG d) "stop" 1 := by
  cases h5 : hdIs (hdG d) "stop" 1 with
  | true =>
    obtain ⟨xs, rfl, hl⟩ := hdIs_inv (n := 1) h5
    obtain rfl : xs = [] := List.length_eq_zero_iff.mp (by omega)
    rw [stB1]; rfl
  | false =>
  cases htp : isTup d with
  | false => exact stB_non htp
  | true =>
    obtain ⟨ds, rfl⟩ := isTup_t htp
    cases ds with
    | nil => exact stB_nil
    | cons d0 ds =>
      cases hs : isStr d0 with
      | false => exact stB_hd hs
      | true =>
        obtain ⟨z, rfl⟩ := isStr_t hs
        refine stB_len (fun hl => ?_)
        unfold lenT5 at hl
        by_cases e1 : z = "set"
        · rw [if_pos e1] at hl; exact hd_ne h1 hl e1
        rw [if_neg e1] at hl
        by_cases e2 : z = "pay"
        · rw [if_pos e2] at hl; exact hd_ne h2 hl e2
        rw [if_neg e2] at hl
        by_cases e5 : z = "stop"
        · rw [if_pos e5] at hl; exact hd_ne h5 hl e5
        rw [if_neg e5] at hl
        by_cases e3 : z = "if"
        · rw [if_pos e3] at hl; exact hd_ne h3 hl e3
        rw [if_neg e3] at hl
        by_cases e4 : z = "repeat"
        · rw [if_pos e4] at hl; exact hd_ne h4 hl e4
        rw [if_neg e4] at hl
        omega
section
variable {w : World} {P : Program} {K : PySem.W.Frag} {mg : Str → Option Value} {base : Heap}
theorem abs_inB {i : Int} : decide ((if i < 0 then -i else i) ≤ 99) = inB (-99) 99 i := by
  unfold inB
  rw [← Bool.decide_and, decide_eq_decide]
  split <;> omega
theorem ok_gexpr {f fI fB fH fN : Addr} {fd fdI fdB fdH fdN : FuncData} {d1 : List V} {t1 t2 : Tok} (F_pis_expression : FunD K "is_expression" "is_expression" (defArgs sPIsExpression) (defBody sPIsExpression) (defScope sPIsExpression) d1 [] f fd) (F_pis_integer : Fun K "is_integer" "is_integer" sPIsInteger fI fdI)
    (F_pis_between : Fun K "is_between" "is_between" sPIsBetween fB fdB) (F_pis_headed : Fun K "is_headed" "is_headed" sPIsHeaded fH fdH) (F_pis_name : Fun K "is_name" "is_name" sPIsName fN fdN)
    (G_pis_integer : FnOk P w K mg base CX0 1 fI fdI ["value"] spIsIntG) (G_pis_between : FnOk P w K mg base CX0 2 fB fdB ["value", "low", "high"] spBetG) (G_pis_headed : FnOk P w K mg base CX0 1 fH fdH ["value", "word", "size"] spHeadG) (G_pis_name : FnOk P w K mg base CX0 1 fN fdN ["value"] spNameG)
    (b_pis_expression : Binds K fd ["value", "deep"] []) (b_pis_integer : Binds K fdI ["value"] []) (b_pis_between : Binds K fdB ["value", "low", "high"] []) (b_pis_headed : Binds K fdH ["value", "word", "size"] []) (b_pis_name : Binds K fdN ["value"] [])
    (m_pis_expression : mg "is_expression" = some (.ref f)) (m_pis_integer : mg "is_integer" = some (.ref fI)) (m_pis_between : mg "is_between" = some (.ref fB)) (m_pis_headed : mg "is_headed" = some (.ref fH)) (m_pis_name : mg "is_name" = some (.ref fN))
    (m_MAX_CONSTANT : mg "MAX_CONSTANT" = some (.int 99 t1)) (m_MAX_FACTOR : mg "MAX_FACTOR" = some (.int 9 t2)) (z_abs : mg "abs" = none) :
    ∀ m : Nat, FnOk P w K mg base CX0 (m + 3) f fd ["value", "deep"] (spExprG m) := by
  intro m
  induction m with
  | zero => exact ⟨fun vs H Q E h => by obtain ⟨_, _, _, _, rfl, _⟩ := h; rfl, fun _ _ _ _ _ _ _ _ _ _ _ _ _ h => by
      obtain ⟨_, _, _, _, _, h, _⟩ := h
      omega⟩
  | succ m G_pis_expression =>
  refine F_pis_expression.ok scPIsExpression (fun vs H Q E h => ?_) (fun cdv A outer s H vs Q E hr h => ?_)
  · obtain ⟨_, _, _, _, rfl, _⟩ := h
    rfl
  · obtain ⟨N, v, d, n, rfl, hn, hd, hw, q⟩ := h
    refine ⟨_, PSs.nox (pss_cons (ps_if (pt_cmpR op_eq (pv 1) pe_int (nomark _)) (pss_one (ps_ret pe_bl)) pss_nil)
      (pss_cons (ps_if (pt_val (pe_call G_pis_integer (hr.mono (by omega)) (by rfl) m_pis_integer F_pis_integer.kp b_pis_integer .nil pass0 (pa_cons (pv 0) pa_nil))) (pss_one (ps_ret (pe_cmpR op_le (pe_callB call_abs (by rfl) z_abs boot_abs (pa_cons (pv 0) pa_nil)) (pe_glob (v := .int 99) (by rfl) m_MAX_CONSTANT ⟨_, rfl⟩) (nomark _)))) pss_nil)
      (pss_cons (ps_if (PW.pt (pw_or (pt_val (pe_call G_pis_headed (hr.mono (by omega)) (by rfl) m_pis_headed F_pis_headed.kp b_pis_headed .nil pass0 (pa_cons (pv 0) (pa_cons pe_str (pa_cons pe_int pa_nil))))) (pw_or1 (pt_val (pe_call G_pis_headed (hr.mono (by omega)) (by rfl) m_pis_headed F_pis_headed.kp b_pis_headed .nil pass0 (pa_cons (pv 0) (pa_cons pe_str (pa_cons pe_int pa_nil)))))))) (pss_one (ps_ret (pe_and (pe_call G_pis_expression (hr.mono (by omega)) (by rfl) m_pis_expression F_pis_expression.kp b_pis_expression .nil pass0 (pa_cons (pe_ix ix_tup (pv 0) pe_int (fun _ _ => rfl)) (pa_cons (pe_op op_sub (pv 1) pe_int) pa_nil))) (pe_one (pe_call G_pis_expression (hr.mono (by omega)) (by rfl) m_pis_expression F_pis_expression.kp b_pis_expression .nil pass0 (pa_cons (pe_ix ix_tup (pv 0) pe_int (fun _ _ => rfl)) (pa_cons (pe_op op_sub (pv 1) pe_int) pa_nil))))))) pss_nil)
      (pss_cons (ps_if (pt_val (pe_call G_pis_headed (hr.mono (by omega)) (by rfl) m_pis_headed F_pis_headed.kp b_pis_headed .nil pass0 (pa_cons (pv 0) (pa_cons pe_str (pa_cons pe_int pa_nil))))) (pss_one (ps_ret (pe_and (pe_call G_pis_between (hr.mono (by omega)) (by rfl) m_pis_between F_pis_between.kp b_pis_between .nil pass0 (pa_cons (pe_ix ix_tup (pv 0) pe_int (fun _ _ => rfl)) (pa_cons (pe_un un_neg (pe_glob (v := .int 9) (by rfl) m_MAX_FACTOR ⟨_, rfl⟩)) (pa_cons (pe_glob (v := .int 9) (by rfl) m_MAX_FACTOR ⟨_, rfl⟩) pa_nil)))) (pe_one (pe_call G_pis_expression (hr.mono (by omega)) (by rfl) m_pis_expression F_pis_expression.kp b_pis_expression .nil pass0 (pa_cons (pe_ix ix_tup (pv 0) pe_int (fun _ _ => rfl)) (pa_cons (pe_op op_sub (pv 1) pe_int) pa_nil))))))) pss_nil)
      (pss_one (ps_ret (pe_call G_pis_name (hr.mono (by omega)) (by rfl) m_pis_name F_pis_name.kp b_pis_name .nil pass0 (pa_cons (pv 0) pa_nil)))))))), ?_⟩
    refine (⟨_, rfl, rfl, _, rfl, ?_⟩)
    cases n with
    | zero => exact iteP (decide_eq_true rfl) (q H (Sx.refl _))
    | succ n =>
    refine iteN (fun z => by have := V.int.inj (of_decide_eq_true z); omega) ?_
    have e1 : ((n + 1 : Nat) : Int) - 1 = (n : Int) := by omega
    refine ⟨_, rfl, N, v, d, rfl, hd, _, rfl, ?_⟩
    cases hI : isInt d with
    | true =>
      obtain ⟨i, rfl⟩ : ∃ i, d = .int i := by
        cases d with
        | int i => exact ⟨i, rfl⟩
        | _ => cases hI
      cases hd
      refine iteT ⟨_, rfl, i, rfl, _, _, rfl, rfl, ?_⟩
      show Q (.bl (decide ((if i < 0 then -i else i) ≤ 99))) H
      rw [abs_inB]
      exact q H (Sx.refl _)
    | false =>
    refine iteF ⟨_, rfl, N, v, d, "plus", 3, rfl, by decide, hd, _, rfl, ?_⟩
    have two : ∀ {z : Str} {x y : PyData}, d = .tuple [.str z, x, y] → (z = "plus" ∨ z = "minus") → ∀ H', Sx [] H H' → Q (.bl (exB n x && exB n y)) H' := fun {z x y} e hz H' s' => by
      have := q H' s'
      rw [e, exB_tri, if_pos hz] at this
      exact this
    cases h1 : hdIs (hdG d) "plus" ((3 : Nat) : Int) with
    | true =>
      obtain ⟨ds, rfl, hl⟩ := hdIs_inv h1
      obtain ⟨x, y, rfl⟩ := l2 hl
      have q1 := two rfl (.inl rfl)
      obtain ⟨a, v0, vx, vy, rfl, ha, _, gx, gy⟩ := gd3 hd
      have wx : x.weight ≤ WB := wt_tup hw (by simp)
      have wy : y.weight ≤ WB := wt_tup hw (by simp)
      refine iteT ⟨_, rfl, a, _, _, vx, rfl, rfl, SqT.of ha, rfl, _, rfl, _, 1, rfl, rfl, N, vx, x, n, by show [vx, V.int (((n + 1 : Nat) : Int) - 1)] = [vx, V.int (n : Int)]; rw [e1], by omega, gx, wx, fun H1 s1 => ⟨_, rfl, ?_⟩⟩
      cases hb : exB n x with
      | false =>
        rw [hb, Bool.false_and] at q1
        exact iteF (q1 H1 s1)
      | true =>
        rw [hb, Bool.true_and] at q1
        exact iteT ⟨_, rfl, a, _, _, vy, rfl, rfl, SqT.of (s1 _ _ (by simp) ha), rfl, _, rfl, _, 1, rfl, rfl, N, vy, y, n, by show [vy, V.int (((n + 1 : Nat) : Int) - 1)] = [vy, V.int (n : Int)]; rw [e1], by omega, gy.keep s1.kp0, wy, fun H2 s2 => q1 H2 (s1.trans s2)⟩
    | false =>
    refine iteF ⟨_, rfl, N, v, d, "minus", 3, rfl, by decide, hd, _, rfl, ?_⟩
    cases h2 : hdIs (hdG d) "minus" ((3 : Nat) : Int) with
    | true =>
      obtain ⟨ds, rfl, hl⟩ := hdIs_inv h2
      obtain ⟨x, y, rfl⟩ := l2 hl
      have q1 := two rfl (.inr rfl)
      obtain ⟨a, v0, vx, vy, rfl, ha, _, gx, gy⟩ := gd3 hd
      have wx : x.weight ≤ WB := wt_tup hw (by simp)
      have wy : y.weight ≤ WB := wt_tup hw (by simp)
      refine iteT ⟨_, rfl, a, _, _, vx, rfl, rfl, SqT.of ha, rfl, _, rfl, _, 1, rfl, rfl, N, vx, x, n, by show [vx, V.int (((n + 1 : Nat) : Int) - 1)] = [vx, V.int (n : Int)]; rw [e1], by omega, gx, wx, fun H1 s1 => ⟨_, rfl, ?_⟩⟩
      cases hb : exB n x with
      | false =>
        rw [hb, Bool.false_and] at q1
        exact iteF (q1 H1 s1)
      | true =>
        rw [hb, Bool.true_and] at q1
        exact iteT ⟨_, rfl, a, _, _, vy, rfl, rfl, SqT.of (s1 _ _ (by simp) ha), rfl, _, rfl, _, 1, rfl, rfl, N, vy, y, n, by show [vy, V.int (((n + 1 : Nat) : Int) - 1)] = [vy, V.int (n : Int)]; rw [e1], by omega, gy.keep s1.kp0, wy, fun H2 s2 => q1 H2 (s1.trans s2)⟩
    | false =>
    refine iteF ⟨_, rfl, N, v, d, "times", 3, rfl, by decide, hd, _, rfl, ?_⟩
    cases h3 : hdIs (hdG d) "times" ((3 : Nat) : Int) with
    | true =>
      obtain ⟨ds, rfl, hl⟩ := hdIs_inv h3
      obtain ⟨x, y, rfl⟩ := l2 hl
      have q1 : ∀ H', Sx [] H H' → Q (.bl (btD (-9) 9 x && exB n y)) H' := fun H' s' => by
        have := q H' s'
        rw [exB_tri, if_neg (by decide +kernel), if_pos rfl] at this
        exact this
      obtain ⟨a, v0, vx, vy, rfl, ha, _, gx, gy⟩ := gd3 hd
      have wy : y.weight ≤ WB := wt_tup hw (by simp)
      refine iteT ⟨_, rfl, a, _, _, vx, rfl, rfl, SqT.of ha, rfl, 9, rfl, N, vx, x, -9, 9, rfl, gx, _, rfl, ?_⟩
      cases hb : btD (-9) 9 x with
      | false =>
        rw [hb, Bool.false_and] at q1
        exact iteF (q1 H (Sx.refl _))
      | true =>
        rw [hb, Bool.true_and] at q1
        exact iteT ⟨_, rfl, a, _, _, vy, rfl, rfl, SqT.of ha, rfl, _, rfl, _, 1, rfl, rfl, N, vy, y, n, by show [vy, V.int (((n + 1 : Nat) : Int) - 1)] = [vy, V.int (n : Int)]; rw [e1], by omega, gy, wy, fun H2 s2 => q1 H2 s2⟩
    | false =>
    rw [exB_rest n hI h1 h2 h3] at q
    exact iteF ⟨_, rfl, N, v, d, rfl, hd, hw, q⟩
theorem ok_gtest {f fE fB fH : Addr} {fd fdE fdB fdH : FuncData} {d1 d2 : List V} {dv : Value} {t1 t2 : Tok} (F_pis_test : FunD K "is_test" "is_test" (defArgs sPIsTest) (defBody sPIsTest) (defScope sPIsTest) d1 [] f fd) (F_pis_expression : FunD K "is_expression" "is_expression" (defArgs sPIsExpression) (defBody sPIsExpression) (defScope sPIsExpression) d2 [] fE fdE)
    (F_pis_between : Fun K "is_between" "is_between" sPIsBetween fB fdB) (F_pis_headed : Fun K "is_headed" "is_headed" sPIsHeaded fH fdH)
    (G_pis_expression : FnOk P w K mg base CX0 7 fE fdE ["value", "deep"] (spExprG 4)) (G_pis_between : FnOk P w K mg base CX0 2 fB fdB ["value", "low", "high"] spBetG) (G_pis_headed : FnOk P w K mg base CX0 1 fH fdH ["value", "word", "size"] spHeadG)
    (b_pis_test : Binds K fd ["value", "nots"] []) (b_pis_expression1 : Binds K fdE ["value", "deep"] [dv]) (v_pis_expression : RelV (.int 3) dv) (b_pis_between : Binds K fdB ["value", "low", "high"] []) (b_pis_headed : Binds K fdH ["value", "word", "size"] [])
    (m_pis_test : mg "is_test" = some (.ref f)) (m_pis_expression : mg "is_expression" = some (.ref fE)) (m_pis_between : mg "is_between" = some (.ref fB)) (m_pis_headed : mg "is_headed" = some (.ref fH))
    (m_MIN_BY : mg "MIN_BY" = some (.int 2 t1)) (m_MAX_BY : mg "MAX_BY" = some (.int 6 t2)) :
    ∀ m : Nat, FnOk P w K mg base CX0 (m + 7) f fd ["value", "nots"] (spTestG m) := by
  intro m
  induction m with
  | zero => exact ⟨fun vs H Q E h => by obtain ⟨_, _, _, _, rfl, _⟩ := h; rfl, fun _ _ _ _ _ _ _ _ _ _ _ _ _ h => by
      obtain ⟨_, _, _, _, _, h, _⟩ := h
      omega⟩
  | succ m G_pis_test =>
  refine F_pis_test.ok scPIsTest (fun vs H Q E h => ?_) (fun cdv A outer s H vs Q E hr h => ?_)
  · obtain ⟨_, _, _, _, rfl, _⟩ := h
    rfl
  · obtain ⟨N, v, d, n, rfl, hn, hd, hw, q⟩ := h
    refine ⟨_, PSs.nox (pss_cons (ps_if (pt_val (pe_call G_pis_headed (hr.mono (by omega)) (by rfl) m_pis_headed F_pis_headed.kp b_pis_headed .nil pass0 (pa_cons (pv 0) (pa_cons pe_str (pa_cons pe_int pa_nil))))) (pss_one (ps_ret (pe_and (pe_cmpR op_gt (pv 1) pe_int (nomark _)) (pe_one (pe_call G_pis_test (hr.mono (by omega)) (by rfl) m_pis_test F_pis_test.kp b_pis_test .nil pass0 (pa_cons (pe_ix ix_tup (pv 0) pe_int (fun _ _ => rfl)) (pa_cons (pe_op op_sub (pv 1) pe_int) pa_nil))))))) pss_nil)
      (pss_cons (ps_if (pt_val (pe_call G_pis_headed (hr.mono (by omega)) (by rfl) m_pis_headed F_pis_headed.kp b_pis_headed .nil pass0 (pa_cons (pv 0) (pa_cons pe_str (pa_cons pe_int pa_nil))))) (pss_one (ps_ret (pe_and (pe_call G_pis_expression (hr.mono (by omega)) (by rfl) m_pis_expression F_pis_expression.kp b_pis_expression1 (.cons v_pis_expression .nil) pass0 (pa_cons (pe_ix ix_tup (pv 0) pe_int (fun _ _ => rfl)) pa_nil)) (pe_one (pe_call G_pis_expression (hr.mono (by omega)) (by rfl) m_pis_expression F_pis_expression.kp b_pis_expression1 (.cons v_pis_expression .nil) pass0 (pa_cons (pe_ix ix_tup (pv 0) pe_int (fun _ _ => rfl)) pa_nil)))))) pss_nil)
      (pss_cons (ps_if (PW.pt (pw_and (pt_val (pe_call G_pis_headed (hr.mono (by omega)) (by rfl) m_pis_headed F_pis_headed.kp b_pis_headed .nil pass0 (pa_cons (pv 0) (pa_cons pe_str (pa_cons pe_int pa_nil))))) (pw_and1 (pt_val (pe_call G_pis_between (hr.mono (by omega)) (by rfl) m_pis_between F_pis_between.kp b_pis_between .nil pass0 (pa_cons (pe_ix ix_tup (pv 0) pe_int (fun _ _ => rfl)) (pa_cons (pe_glob (v := .int 2) (by rfl) m_MIN_BY ⟨_, rfl⟩) (pa_cons (pe_glob (v := .int 6) (by rfl) m_MAX_BY ⟨_, rfl⟩) pa_nil)))))))) (pss_one (ps_ret (pe_and (pe_call G_pis_expression (hr.mono (by omega)) (by rfl) m_pis_expression F_pis_expression.kp b_pis_expression1 (.cons v_pis_expression .nil) pass0 (pa_cons (pe_ix ix_tup (pv 0) pe_int (fun _ _ => rfl)) pa_nil)) (pe_one (pe_call G_pis_between (hr.mono (by omega)) (by rfl) m_pis_between F_pis_between.kp b_pis_between .nil pass0 (pa_cons (pe_ix ix_tup (pv 0) pe_int (fun _ _ => rfl)) (pa_cons pe_int (pa_cons (pe_op op_sub (pe_ix ix_tup (pv 0) pe_int (fun _ _ => rfl)) pe_int) pa_nil)))))))) pss_nil)
      (pss_one (ps_ret pe_bl) )))), ?_⟩
    refine ⟨_, rfl, N, v, d, "not", 2, rfl, by decide, hd, _, rfl, ?_⟩
    cases h1 : hdIs (hdG d) "not" ((2 : Nat) : Int) with
    | true =>
      obtain ⟨ds, rfl, hl⟩ := hdIs_inv h1
      obtain ⟨x, rfl⟩ := l1 hl
      rw [tsB2, if_pos rfl] at q
      obtain ⟨a, v0, vx, rfl, ha, _, gx⟩ := gd2 hd
      have wx : x.weight ≤ WB := wt_tup hw (by simp)
      refine iteT ⟨_, rfl, _, _, rfl, rfl, _, rfl, ?_⟩
      cases n with
      | zero => exact iteN (by decide) (q H (Sx.refl _))
      | succ n =>
        have e1 : ((n + 1 : Nat) : Int) - 1 = (n : Int) := by omega
        exact iteP (decide_eq_true (by omega)) ⟨_, rfl, a, _, _, vx, rfl, rfl, SqT.of ha, rfl, _, rfl, _, 1, rfl, rfl, N, vx, x, n, by show [vx, V.int (((n + 1 : Nat) : Int) - 1)] = [vx, V.int (n : Int)]; rw [e1], by omega, gx, wx, fun H' s' => q H' s'⟩
    | false =>
    refine iteF ⟨_, rfl, N, v, d, "less", 3, rfl, by decide, hd, _, rfl, ?_⟩
    cases h2 : hdIs (hdG d) "less" ((3 : Nat) : Int) with
    | true =>
      obtain ⟨ds, rfl, hl⟩ := hdIs_inv h2
      obtain ⟨x, y, rfl⟩ := l2 hl
      rw [tsB3, if_pos rfl] at q
      obtain ⟨a, v0, vx, vy, rfl, ha, _, gx, gy⟩ := gd3 hd
      have wx : x.weight ≤ WB := wt_tup hw (by simp)
      have wy : y.weight ≤ WB := wt_tup hw (by simp)
      refine iteT ⟨_, rfl, a, _, _, vx, rfl, rfl, SqT.of ha, rfl, N, vx, x, 3, rfl, by decide, gx, wx, fun H1 s1 => ⟨_, rfl, ?_⟩⟩
      cases hb : exB 3 x with
      | false =>
        rw [hb, Bool.false_and] at q
        exact iteF (q H1 s1)
      | true =>
        rw [hb, Bool.true_and] at q
        exact iteT ⟨_, rfl, a, _, _, vy, rfl, rfl, SqT.of (s1 _ _ (by simp) ha), rfl, N, vy, y, 3, rfl, by decide, gy.keep s1.kp0, wy, fun H2 s2 => q H2 (s1.trans s2)⟩
    | false =>
    refine iteF ⟨_, rfl, N, v, d, "rest", 4, rfl, by decide, hd, _, rfl, ?_⟩
    cases h3 : hdIs (hdG d) "rest" ((4 : Nat) : Int) with
    | true =>
      obtain ⟨ds, rfl, hl⟩ := hdIs_inv h3
      obtain ⟨x, b, r, rfl⟩ := l3 hl
      rw [tsB4, if_pos rfl] at q
      unfold rsB at q
      obtain ⟨a, v0, vx, vb, vr, rfl, ha, _, gx, gb, gr⟩ := gd4 hd
      have wx : x.weight ≤ WB := wt_tup hw (by simp)
      refine iteT ⟨_, rfl, a, _, _, vb, rfl, rfl, SqT.of ha, rfl, N, vb, b, 2, 6, rfl, gb, _, rfl, ?_⟩
      cases hb : btD 2 6 b with
      | false =>
        rw [hb, Bool.false_and, Bool.and_false] at q
        exact iteF (q H (Sx.refl _))
      | true =>
        obtain ⟨i, rfl⟩ : ∃ i, b = .int i := by
          cases b with
          | int i => exact ⟨i, rfl⟩
          | _ => cases hb
        rw [hb, Bool.true_and] at q
        cases gb
        refine iteT ⟨_, rfl, a, _, _, vx, rfl, rfl, SqT.of ha, rfl, N, vx, x, 3, rfl, by decide, gx, wx, fun H1 s1 => ⟨_, rfl, ?_⟩⟩
        cases hx : exB 3 x with
        | false =>
          rw [hx, Bool.false_and] at q
          exact iteF (q H1 s1)
        | true =>
          rw [hx, Bool.true_and] at q
          have ha1 := s1 _ _ (by simp) ha
          exact iteT ⟨_, rfl, a, _, _, vr, rfl, rfl, SqT.of ha1, rfl, _, rfl, a, _, _, _, rfl, rfl, SqT.of ha1, rfl, _, 1, rfl, rfl, N, vr, r, 0, i - 1, rfl, gr.keep s1.kp0, q H1 s1⟩
    | false =>
    rw [tsB_rest n h1 h2 h3] at q
    exact iteF (q H (Sx.refl _))
theorem ok_gstatement {f fE fB fH fN fT : Addr} {fd fdE fdB fdH fdN fdT : FuncData} {d1 d2 : List V} {dv dv2 : Value} {t1 : Tok} (F_pis_statement : Fun K "is_statement" "is_statement" sPIsStatement f fd) (F_pis_test : FunD K "is_test" "is_test" (defArgs sPIsTest) (defBody sPIsTest) (defScope sPIsTest) d1 [] fT fdT) (F_pis_expression : FunD K "is_expression" "is_expression" (defArgs sPIsExpression) (defBody sPIsExpression) (defScope sPIsExpression) d2 [] fE fdE)
    (F_pis_between : Fun K "is_between" "is_between" sPIsBetween fB fdB) (F_pis_headed : Fun K "is_headed" "is_headed" sPIsHeaded fH fdH) (F_pis_name : Fun K "is_name" "is_name" sPIsName fN fdN)
    (G_pis_test : FnOk P w K mg base CX0 10 fT fdT ["value", "nots"] (spTestG 3)) (G_pis_expression : FnOk P w K mg base CX0 7 fE fdE ["value", "deep"] (spExprG 4)) (G_pis_between : FnOk P w K mg base CX0 2 fB fdB ["value", "low", "high"] spBetG) (G_pis_headed : FnOk P w K mg base CX0 1 fH fdH ["value", "word", "size"] spHeadG) (G_pis_name : FnOk P w K mg base CX0 1 fN fdN ["value"] spNameG)
    (b_pis_test1 : Binds K fdT ["value", "nots"] [dv2]) (v_pis_test : RelV (.int 2) dv2) (b_pis_expression1 : Binds K fdE ["value", "deep"] [dv]) (v_pis_expression : RelV (.int 3) dv) (b_pis_between : Binds K fdB ["value", "low", "high"] []) (b_pis_headed : Binds K fdH ["value", "word", "size"] []) (b_pis_name : Binds K fdN ["value"] [])
    (m_pis_test : mg "is_test" = some (.ref fT)) (m_pis_expression : mg "is_expression" = some (.ref fE)) (m_pis_between : mg "is_between" = some (.ref fB)) (m_pis_headed : mg "is_headed" = some (.ref fH)) (m_pis_name : mg "is_name" = some (.ref fN))
    (m_MAX_TIMES : mg "MAX_TIMES" = some (.int 8 t1)) (z_isinstance : mg "isinstance" = none) (z_tuple : mg "tuple" = none) : FnOk P w K mg base CX0 11 f fd ["value"] spStG := by
  refine F_pis_statement.ok scPIsStatement (fun vs H Q E h => ?_) (fun cdv A outer s H vs Q E hr h => ?_)
  · obtain ⟨_, _, _, rfl, _⟩ := h
    rfl
  · obtain ⟨N, v, d, rfl, hd, hw, q⟩ := h
    refine ⟨_, (pss_cons (ps_if (pt_val (pe_call G_pis_headed (hr.mono (by omega)) (by rfl) m_pis_headed F_pis_headed.kp b_pis_headed .nil pass0 (pa_cons (pv 0) (pa_cons pe_str (pa_cons pe_int pa_nil))))) (pss_one (ps_ret (pe_and (pe_call G_pis_name (hr.mono (by omega)) (by rfl) m_pis_name F_pis_name.kp b_pis_name .nil pass0 (pa_cons (pe_ix ix_tup (pv 0) pe_int (fun _ _ => rfl)) pa_nil)) (pe_one (pe_call G_pis_expression (hr.mono (by omega)) (by rfl) m_pis_expression F_pis_expression.kp b_pis_expression1 (.cons v_pis_expression .nil) pass0 (pa_cons (pe_ix ix_tup (pv 0) pe_int (fun _ _ => rfl)) pa_nil)))))) pss_nil)
      (pss_cons (ps_if (pt_val (pe_call G_pis_headed (hr.mono (by omega)) (by rfl) m_pis_headed F_pis_headed.kp b_pis_headed .nil pass0 (pa_cons (pv 0) (pa_cons pe_str (pa_cons pe_int pa_nil))))) (pss_one (ps_ret (pe_call G_pis_expression (hr.mono (by omega)) (by rfl) m_pis_expression F_pis_expression.kp b_pis_expression1 (.cons v_pis_expression .nil) pass0 (pa_cons (pe_ix ix_tup (pv 0) pe_int (fun _ _ => rfl)) pa_nil)))) pss_nil)
      (pss_cons (ps_if (pt_val (pe_call G_pis_headed (hr.mono (by omega)) (by rfl) m_pis_headed F_pis_headed.kp b_pis_headed .nil pass0 (pa_cons (pv 0) (pa_cons pe_str (pa_cons pe_int pa_nil))))) (pss_one (ps_ret (pe_and (pe_call G_pis_test (hr.mono (by omega)) (by rfl) m_pis_test F_pis_test.kp b_pis_test1 (.cons v_pis_test .nil) pass0 (pa_cons (pe_ix ix_tup (pv 0) pe_int (fun _ _ => rfl)) pa_nil)) (pe_and (pe_callB call_isi (by rfl) z_isinstance (by decide +kernel) (pa_cons (pe_ix ix_tup (pv 0) pe_int (fun _ _ => rfl)) (pa_cons (pe_bltn (v := .ty "tuple") (by rfl) z_tuple (by decide +kernel) rfl) pa_nil))) (pe_one (pe_callB call_isi (by rfl) z_isinstance (by decide +kernel) (pa_cons (pe_ix ix_tup (pv 0) pe_int (fun _ _ => rfl)) (pa_cons (pe_bltn (v := .ty "tuple") (by rfl) z_tuple (by decide +kernel) rfl) pa_nil)))))))) pss_nil)
      (pss_cons (ps_if (pt_val (pe_call G_pis_headed (hr.mono (by omega)) (by rfl) m_pis_headed F_pis_headed.kp b_pis_headed .nil pass0 (pa_cons (pv 0) (pa_cons pe_str (pa_cons pe_int pa_nil))))) (pss_one (ps_ret (pe_and (pe_call G_pis_between (hr.mono (by omega)) (by rfl) m_pis_between F_pis_between.kp b_pis_between .nil pass0 (pa_cons (pe_ix ix_tup (pv 0) pe_int (fun _ _ => rfl)) (pa_cons pe_int (pa_cons (pe_glob (v := .int 8) (by rfl) m_MAX_TIMES ⟨_, rfl⟩) pa_nil)))) (pe_one (pe_callB call_isi (by rfl) z_isinstance (by decide +kernel) (pa_cons (pe_ix ix_tup (pv 0) pe_int (fun _ _ => rfl)) (pa_cons (pe_bltn (v := .ty "tuple") (by rfl) z_tuple (by decide +kernel) rfl) pa_nil))))))) pss_nil)
      (pss_one (ps_ret (pe_call G_pis_headed (hr.mono (by omega)) (by rfl) m_pis_headed F_pis_headed.kp b_pis_headed .nil pass0 (pa_cons (pv 0) (pa_cons pe_str (pa_cons pe_int pa_nil)))))))))), ?_⟩
    refine ⟨_, rfl, N, v, d, "set", 3, rfl, by decide, hd, _, rfl, ?_⟩
    cases h1 : hdIs (hdG d) "set" ((3 : Nat) : Int) with
    | true =>
      obtain ⟨ds, rfl, hl⟩ := hdIs_inv h1
      obtain ⟨x, y, rfl⟩ := l2 hl
      rw [stB3, if_pos rfl] at q
      obtain ⟨a, v0, vx, vy, rfl, ha, _, gx, gy⟩ := gd3 hd
      have wx : x.weight ≤ WB := wt_tup hw (by simp)
      have wy : y.weight ≤ WB := wt_tup hw (by simp)
      refine iteT ⟨_, rfl, a, _, _, vx, rfl, rfl, SqT.of ha, rfl, N, vx, x, rfl, gx, wx, fun H1 s1 => ⟨_, rfl, ?_⟩⟩
      cases hb : nmD x with
      | false =>
        rw [hb, Bool.false_and] at q
        exact iteF (q H1 s1)
      | true =>
        rw [hb, Bool.true_and] at q
        exact iteT ⟨_, rfl, a, _, _, vy, rfl, rfl, SqT.of (s1 _ _ (by simp) ha), rfl, N, vy, y, 3, rfl, by decide, gy.keep s1.kp0, wy, fun H2 s2 => q H2 (s1.trans s2)⟩
    | false =>
    refine iteF ⟨_, rfl, N, v, d, "pay", 2, rfl, by decide, hd, _, rfl, ?_⟩
    cases h2 : hdIs (hdG d) "pay" ((2 : Nat) : Int) with
    | true =>
      obtain ⟨ds, rfl, hl⟩ := hdIs_inv h2
      obtain ⟨x, rfl⟩ := l1 hl
      rw [stB2, if_pos rfl] at q
      obtain ⟨a, v0, vx, rfl, ha, _, gx⟩ := gd2 hd
      have wx : x.weight ≤ WB := wt_tup hw (by simp)
      exact iteT ⟨_, rfl, a, _, _, vx, rfl, rfl, SqT.of ha, rfl, N, vx, x, 3, rfl, by decide, gx, wx, fun H1 s1 => q H1 s1⟩
    | false =>
    refine iteF ⟨_, rfl, N, v, d, "if", 4, rfl, by decide, hd, _, rfl, ?_⟩
    cases h3 : hdIs (hdG d) "if" ((4 : Nat) : Int) with
    | true =>
      obtain ⟨ds, rfl, hl⟩ := hdIs_inv h3
      obtain ⟨x, y, z, rfl⟩ := l3 hl
      rw [stB4, if_pos rfl] at q
      obtain ⟨a, v0, vx, vy, vz, rfl, ha, _, gx, gy, gz⟩ := gd4 hd
      have wx : x.weight ≤ WB := wt_tup hw (by simp)
      refine iteT ⟨_, rfl, a, _, _, vx, rfl, rfl, SqT.of ha, rfl, N, vx, x, 2, rfl, by decide, gx, wx, fun H1 s1 => ⟨_, rfl, ?_⟩⟩
      cases hb : tsB 2 x with
      | false =>
        rw [hb, Bool.false_and] at q
        exact iteF (q H1 s1)
      | true =>
        rw [hb, Bool.true_and] at q
        have ha1 := s1 _ _ (by simp) ha
        refine iteT ⟨_, rfl, a, _, _, vy, rfl, rfl, SqT.of ha1, rfl, _, _, _, _, _, rfl, .ty _, (gy.keep (s1.kp0 (N := N))).ty, kit_ty (kb_tuple y), _, rfl, ?_⟩
        cases hy : isTup y with
        | false =>
          rw [hy, Bool.false_and] at q
          exact iteF (q H1 s1)
        | true =>
          rw [hy, Bool.true_and] at q
          exact iteT ⟨_, rfl, a, _, _, vz, rfl, rfl, SqT.of ha1, rfl, _, _, _, _, _, rfl, .ty _, (gz.keep (s1.kp0 (N := N))).ty, kit_ty (kb_tuple z), q H1 s1⟩
    | false =>
    refine iteF ⟨_, rfl, N, v, d, "repeat", 3, rfl, by decide, hd, _, rfl, ?_⟩
    cases h4 : hdIs (hdG d) "repeat" ((3 : Nat) : Int) with
    | true =>
      obtain ⟨ds, rfl, hl⟩ := hdIs_inv h4
      obtain ⟨x, y, rfl⟩ := l2 hl
      rw [stB3, if_neg (by decide +kernel), if_pos rfl] at q
      obtain ⟨a, v0, vx, vy, rfl, ha, _, gx, gy⟩ := gd3 hd
      refine iteT ⟨_, rfl, a, _, _, vx, rfl, rfl, SqT.of ha, rfl, N, vx, x, 1, 8, rfl, gx, _, rfl, ?_⟩
      cases hb : btD 1 8 x with
      | false =>
        rw [hb, Bool.false_and] at q
        exact iteF (q H (Sx.refl _))
      | true =>
        rw [hb, Bool.true_and] at q
        exact iteT ⟨_, rfl, a, _, _, vy, rfl, rfl, SqT.of ha, rfl, _, _, _, _, _, rfl, .ty _, gy.ty, kit_ty (kb_tuple y), q H (Sx.refl _)⟩
    | false =>
    rw [stB_rest h1 h2 h3 h4] at q
    exact iteF ⟨_, rfl, N, v, d, "stop", 1, rfl, by decide, hd, q H (Sx.refl _)⟩
end
abbrev sCounts : Stmt := topS 65
abbrev nCounts : List Str := ["_law_block_here", "_law_found", "_law_row_here", "_law_test_here", "_law_own", "_law_part", "_law_inner", "_law_times", "_law_k"]
theorem scCounts : FnScope nCounts ["_law_block_here"] (defScope sCounts) := ⟨rfl, rfl, rfl, by decide +kernel, rfl, by decide +kernel, by decide +kernel⟩
/-! ### the law's counts -/
theorem ix_listK {X : Cx} {K : PySem.W.Frag} (h : X.K = K) : IxR X (rIxL K) := h ▸ ix_list
def cntV (b : Bk) : List V := [.int b.sz, .int (b.sumO fun _ => 1), .int (b.sumO (ownT "rest")), .int (b.sumO (ownT "less"))]
/-- the same of statements one behind the other -/
def cL (l : List St) : List V := [.int (l.map fun s => (s.sz : Int)).sum, .int (l.map fun s => s.sumO fun _ => 1).sum, .int (l.map fun s => s.sumO (ownT "rest")).sum, .int (l.map fun s => s.sumO (ownT "less")).sum]
theorem cL_lst (b : Bk) : cL b.lst = cntV b := by
  unfold cL cntV
  rw [← Bk.sumO_lst, ← Bk.sumO_lst, ← Bk.sumO_lst]
  have h : ∀ l : List St, (l.map fun s => (s.sz : Int)).sum = ((l.map St.sz).sum : Nat) := fun l => by
    induction l with
    | nil => rfl
    | cons x l ih => rw [List.map_cons, List.sum_cons, ih, List.map_cons, List.sum_cons, Int.natCast_add]
  rw [h, ← Bk.sz_lst]
/-- of one statement, with so many of its blocks -/
def oL (s : St) (j : Nat) : List V := [.int (1 + ((s.blks.take j).map fun b => (b.sz : Int)).sum), .int (1 + s.times * ((s.blks.take j).map fun b => b.sumO fun _ => 1).sum), .int (ownT "rest" s + s.times * ((s.blks.take j).map fun b => b.sumO (ownT "rest")).sum), .int (ownT "less" s + s.times * ((s.blks.take j).map fun b => b.sumO (ownT "less")).sum)]
theorem sum_up {α : Type} {l : List α} {f : α → Int} {i : Nat} {a : α} (h : l[i]? = some a) : ((l.take (i + 1)).map f).sum = ((l.take i).map f).sum + f a := by
  rw [List.take_add_one, h, List.map_append, List.sum_append]
  simp
theorem oL_end (st : St) : oL st st.blks.length = [.int st.sz, .int (st.sumO fun _ => 1), .int (st.sumO (ownT "rest")), .int (st.sumO (ownT "less"))] := by
  have h : ∀ l : List Bk, (l.map fun s => (s.sz : Int)).sum = ((l.map Bk.sz).sum : Nat) := fun l => by
    induction l with
    | nil => rfl
    | cons x l ih => rw [List.map_cons, List.sum_cons, ih, List.map_cons, List.sum_cons, Int.natCast_add]
  have hs : (st.sz : Int) = 1 + ((st.blks.map Bk.sz).sum : Nat) := by rw [st.sz_blks]; omega
  have e1 : st.sumO (fun _ => 1) = 1 + st.times * (st.blks.map fun b => b.sumO fun _ => 1).sum := St.sumO_eq _ st
  unfold oL
  rw [List.take_length, h, ← hs, ← e1, ← St.sumO_eq, ← St.sumO_eq]
theorem cL_up {l : List St} {i : Nat} {st : St} (h : l[i]? = some st) : cL (l.take (i + 1)) = [.int (((l.take i).map fun s => (s.sz : Int)).sum + st.sz), .int (((l.take i).map fun s => s.sumO fun _ => 1).sum + st.sumO fun _ => 1), .int (((l.take i).map fun s => s.sumO (ownT "rest")).sum + st.sumO (ownT "rest")), .int (((l.take i).map fun s => s.sumO (ownT "less")).sum + st.sumO (ownT "less"))] := by
  unfold cL
  rw [sum_up h, sum_up h, sum_up h, sum_up h]
/-- the word of its test, without "not" -/
def St.tstw : St → Str
  | .ite t _ _ => t.bare.hd
  | _ => "none"
theorem tw_tstw (st : St) {z : Str} (h : ("none" == z) = false) : st.tw z = decide (V.str st.tstw = V.str z) := by
  cases st with
  | ite t y n => rfl
  | _ => exact (decide_eq_false (fun e => sne h (decide_eq_true e))).symm
theorem oL0 (st : St) : [V.int 1, .int 1, .int (if decide (V.str st.tstw = V.str "rest") = true then 1 else 0), .int (if decide (V.str st.tstw = V.str "less") = true then 1 else 0)] = oL st 0 := by
  unfold oL ownT
  rw [tw_tstw st (z := "rest") (by decide +kernel), tw_tstw st (z := "less") (by decide +kernel)]
  simp
theorem oL_up {st : St} {j : Nat} {y : Bk} (h : st.blks[j]? = some y) : oL st (j + 1) =
    .int (1 + ((st.blks.take j).map fun b => (b.sz : Int)).sum + y.sz) :: [.int (1 + st.times * ((st.blks.take j).map fun b => b.sumO fun _ => 1).sum + st.times * y.sumO fun _ => 1), .int (ownT "rest" st + st.times * ((st.blks.take j).map fun b => b.sumO (ownT "rest")).sum + st.times * y.sumO (ownT "rest")), .int (ownT "less" st + st.times * ((st.blks.take j).map fun b => b.sumO (ownT "less")).sum + st.times * y.sumO (ownT "less"))] := by
  unfold oL
  rw [sum_up h, sum_up h, sum_up h, sum_up h, Int.mul_add, Int.mul_add, Int.mul_add, Int.add_assoc, Int.add_assoc, Int.add_assoc, Int.add_assoc]
def spCounts (d : Nat) : Sp := fun vs H Q _ => ∃ (v : V) (b : Bk), vs = [v] ∧ Tp H v (.tuple b.ds) ∧ b.fac d ∧ ∀ H' l, Sx [] H H' → H l = none → H' l = some (.lst (cntV b)) → Q (.ref l) H'
section
variable {w : World} {P : Program} {K : PySem.W.Frag} {mg : Str → Option Value} {base : Heap}
theorem ok_lcounts {f fP : Addr} {fd fdP : FuncData} (F_counts : Fun K "_law_counts" "_law_counts" sCounts f fd) (F_parts : Fun K "_law_parts" "_law_parts" sParts fP fdP) (G_parts : FnOk P w K mg base CX0 1 fP fdP ["_law_row_here"] spParts) (b_counts : Binds K fd ["_law_block_here"] []) (b_parts : Binds K fdP ["_law_row_here"] [])
    (m_counts : mg "_law_counts" = some (.ref f)) (m_parts : mg "_law_parts" = some (.ref fP)) (z_int : mg "int" = none) (z_range : mg "range" = none) :
    ∀ d : Nat, FnOk P w K mg base CX0 (d + 1) f fd ["_law_block_here"] (spCounts d) := by
  intro d
  induction d with
  | zero => exact ⟨fun vs H Q E h => by obtain ⟨_, _, rfl, _⟩ := h; rfl, fun _ _ _ _ _ _ _ _ _ _ _ _ _ h => by
      obtain ⟨_, _, _, _, h, _⟩ := h
      exact h.elim⟩
  | succ d G_counts =>
    refine F_counts.ok scCounts (fun vs H Q E h => ?_) (fun cdv A outer s H vs Q E hr h => ?_)
    · obtain ⟨_, _, rfl, _⟩ := h
      rfl
    · obtain ⟨v, b, rfl, t, ⟨hlen, hf⟩, q⟩ := h
      refine ⟨_, (pss_cons (ps_set (i := 1) scCounts.nd rfl (by first | exact Or.inl rfl | exact Or.inr rfl) (pe_lst (pa_cons pe_int (pa_cons pe_int (pa_cons pe_int (pa_cons pe_int pa_nil))))))
      (C8.pss_cut (ps_for PassesOwn.never rfl (pi_tup (pv 0)) (pg_name (i := 2) scCounts.nd rfl (by first | exact Or.inl rfl | exact Or.inr rfl)) (C8.pss_cut (ps_set (i := 3) scCounts.nd rfl (by first | exact Or.inl rfl | exact Or.inr rfl) (pe_ifExp (pt_cmpR op_eq (pe_ix ix_tup (pv 2) pe_int (fun _ _ => rfl)) pe_str (nomark _)) (pe_ix ix_tup (pv 2) pe_int (fun _ _ => rfl)) (pe_tup (pa_cons pe_str pa_nil))))
      (C8.pss_cut (ps_while PassesOwn.never (pt_cmpR op_eq (pe_ix ix_tup (pv 3) pe_int (fun _ _ => rfl)) pe_str (nomark _)) (pss_one (ps_set (i := 3) scCounts.nd rfl (by first | exact Or.inl rfl | exact Or.inr rfl) (pe_ix ix_tup (pv 3) pe_int (fun _ _ => rfl)))))
      (pss_cons (ps_set (i := 4) scCounts.nd rfl (by first | exact Or.inl rfl | exact Or.inr rfl) (pe_lst (pa_cons pe_int (pa_cons pe_int (pa_cons (pe_callTy call_int1 (by rfl) z_int boot_int (pa_cons (pe_cmpR op_eq (pe_ix ix_tup (pv 3) pe_int (fun _ _ => rfl)) pe_str (nomark _)) pa_nil)) (pa_cons (pe_callTy call_int1 (by rfl) z_int boot_int (pa_cons (pe_cmpR op_eq (pe_ix ix_tup (pv 3) pe_int (fun _ _ => rfl)) pe_str (nomark _)) pa_nil)) pa_nil))))))
      (C8.pss_cut (ps_for PassesOwn.never rfl (pi_tup (pe_call G_parts (hr.mono (by omega)) (by rfl) m_parts F_parts.kp b_parts .nil pass0 (pa_cons (pv 2) pa_nil))) (pg_name (i := 5) scCounts.nd rfl (by first | exact Or.inl rfl | exact Or.inr rfl)) (pss_cons (ps_asg (pe_tup (pa_cons (pe_call G_counts (hr.mono (by omega)) (by rfl) m_counts F_counts.kp b_counts .nil pass0 (pa_cons (pv 5) pa_nil)) (pa_cons (pe_ifExp (pt_cmpR op_eq (pe_ix ix_tup (pv 2) pe_int (fun _ _ => rfl)) pe_str (nomark _)) (pe_ix ix_tup (pv 2) pe_int (fun _ _ => rfl)) pe_int) pa_nil))) (pg_tup rfl (pgs_cons (pg_name (i := 6) scCounts.nd rfl (by first | exact Or.inl rfl | exact Or.inr rfl)) (pgs_cons (pg_name (i := 7) scCounts.nd rfl (by first | exact Or.inl rfl | exact Or.inr rfl)) pgs_nil))))
      (pss_one (ps_set (i := 4) scCounts.nd rfl (by first | exact Or.inl rfl | exact Or.inr rfl) (pe_op op_cat (pe_lst (pa_cons (pe_op op_add (pe_ix ix_list (pv 4) pe_int (fun _ _ => rfl)) (pe_ix ix_list (pv 6) pe_int (fun _ _ => rfl))) pa_nil)) (pe_lc (own := [("_law_k", 8)]) (g := gName 8) (tt := tYes) rfl scCounts.nd (pi_range2 (by rfl) z_range (pa_cons pe_int (pa_cons pe_int pa_nil))) (blkOk_by (N := nCounts) (sc := defScope sCounts) (by decide +kernel)) (fun _ _ _ _ _ => (pg_name (i := 8) scCounts.nd rfl (by first | exact Or.inl rfl | exact Or.inr rfl))) (fun _ _ _ _ _ => pts_nil) (fun _ _ _ _ _ => (pe_op op_add (pe_ix (ix_listK (K := K) rfl) (pv 4) (pv 8) (fun _ _ => rfl)) (pe_op op_mul (pv 7) (pe_ix (ix_listK (K := K) rfl) (pv 6) (pv 8) (fun _ _ => rfl)))))))))))
      (pss_one (ps_set (i := 1) scCounts.nd rfl (by first | exact Or.inl rfl | exact Or.inr rfl) (pe_lc (own := [("_law_k", 8)]) (g := gName 8) (tt := tYes) rfl scCounts.nd (pi_range1 (by rfl) z_range (pa_cons pe_int pa_nil)) (blkOk_by (N := nCounts) (sc := defScope sCounts) (by decide +kernel)) (fun _ _ _ _ _ => (pg_name (i := 8) scCounts.nd rfl (by first | exact Or.inl rfl | exact Or.inr rfl))) (fun _ _ _ _ _ => pts_nil) (fun _ _ _ _ _ => (pe_op op_add (pe_ix (ix_listK (K := K) rfl) (pv 1) (pv 8) (fun _ _ => rfl)) (pe_ix (ix_listK (K := K) rfl) (pv 4) (pv 8) (fun _ _ => rfl))))))))))))
      (pss_one (ps_ret (pv 1))))), ?_⟩
      obtain ⟨a, xs, rfl, ha, hx⟩ := t.tuple
      rw [b.ds_lst] at hx
      obtain ⟨hl, hg⟩ := hx.lst
      refine ⟨by show 4 ≤ sizeLine; decide, fun F hF => ?_⟩
      refine ⟨fun σ H1 => ∃ (F2 : Addr) (o2 o3 o4 o5 o6 o7 o8 : Option V), σ = [some (.ref a), some (.ref F2), o2, o3, o4, o5, o6, o7, o8] ∧ Sx [] H H1 ∧ H F2 = none ∧ H1 F2 = some (.lst (cL b.lst)), ?_, ?_⟩
      · refine ⟨_, rfl, a, rfl, ⟨_, SqT.of (by rw [upd_ne (ne_of_none ha hF)]; exact ha)⟩, for_tup (xs := xs)
          (fun i σ H1 => ∃ (F2 : Addr) (o2 o3 o4 o5 o6 o7 o8 : Option V), σ = [some (.ref a), some (.ref F2), o2, o3, o4, o5, o6, o7, o8] ∧ Sx [] H H1 ∧ H F2 = none ∧ H1 F2 = some (.lst (cL (b.lst.take i))))
          ⟨F, _, _, _, _, _, _, _, rfl, Sx.n0 hF, hF, upd_same⟩ (fun i σ H1 _ z => by obtain ⟨_, _, _, _, _, _, _, _, _, z, _⟩ := z; exact SqT.of (z _ _ (by simp) ha)) (fun i0 x σ H1 hi z => ?_) (fun σ H1 z => ?_)⟩
        · obtain ⟨F2, o2, o3, o4, o5, o6, o7, o8, rfl, s1, hF2, eF2⟩ := z
          obtain ⟨st, hst, tst⟩ := hg i0 x hi
          obtain ⟨f1, f2, f3⟩ := hf st (List.mem_of_getElem? hst)
          have t1 := tst.keep s1.tk0
          refine gnm ?_
          obtain ⟨ax, xs', rfl, hax⟩ := St.at_ t1
          -- the test
          refine ⟨fun σ H2 => ∃ (w3 : Str) (v3 : V), σ = [some (.ref a), some (.ref F2), some (.ref ax), some v3, o4, o5, o6, o7, o8] ∧ Sx [] H1 H2 ∧ ((∃ t : Ts, Tp H2 v3 t.d ∧ t.bare.hd = st.tstw) ∨ ∃ a3, v3 = .ref a3 ∧ H2 a3 = some (.tup [.str "none"]) ∧ st.tstw = "none"), ?_, ?_⟩
          · refine ⟨_, rfl, ax, _, _, .str st.hd, rfl, rfl, SqT.of hax, at0 _ _, rfl, _, rfl, ?_⟩
            cases st with
            | ite ts y n =>
              obtain ⟨_, p1, p2, p3, p4, ea, hA, q1, q2, _⟩ := tp4 t1
              cases ea
              exact iteP (by simp only [St.hd]; decide +kernel) ⟨_, rfl, ax, _, _, p2, rfl, rfl, SqT.of hA, rfl, "", p2, rfl, Sx.refl _, .inl ⟨ts, q2, rfl⟩⟩
            | set z e => exact iteN (sne (show (("set" : Str) == "if") = false by decide +kernel)) ⟨by show 1 ≤ sizeLine; decide, fun p hp => ⟨"", _, rfl, Sx.n0 hp, .inr ⟨p, rfl, upd_same, rfl⟩⟩⟩
            | pay e => exact iteN (sne (show (("pay" : Str) == "if") = false by decide +kernel)) ⟨by show 1 ≤ sizeLine; decide, fun p hp => ⟨"", _, rfl, Sx.n0 hp, .inr ⟨p, rfl, upd_same, rfl⟩⟩⟩
            | stop => exact iteN (sne (show (("stop" : Str) == "if") = false by decide +kernel)) ⟨by show 1 ≤ sizeLine; decide, fun p hp => ⟨"", _, rfl, Sx.n0 hp, .inr ⟨p, rfl, upd_same, rfl⟩⟩⟩
            | rep k y => exact iteN (sne (show (("repeat" : Str) == "if") = false by decide +kernel)) ⟨by show 1 ≤ sizeLine; decide, fun p hp => ⟨"", _, rfl, Sx.n0 hp, .inr ⟨p, rfl, upd_same, rfl⟩⟩⟩
          · rintro _ H2 ⟨_, v3, rfl, s2, hv3⟩
            refine ⟨fun σ H' => ∃ (a4 : Addr) (ys : List V), σ = [some (.ref a), some (.ref F2), some (.ref ax), some (.ref a4), o4, o5, o6, o7, o8] ∧ H' = H2 ∧ H2 a4 = some (.tup (.str st.tstw :: ys)), ?_, ?_⟩
            · refine ⟨fun m σ H' => ∃ v4 : V, σ = [some (.ref a), some (.ref F2), some (.ref ax), some v4, o4, o5, o6, o7, o8] ∧ H' = H2 ∧ ((∃ t : Ts, Tp H2 v4 t.d ∧ t.bare.hd = st.tstw ∧ m = t.nots) ∨ ∃ a3, v4 = .ref a3 ∧ H2 a3 = some (.tup [.str "none"]) ∧ st.tstw = "none" ∧ m = 0), ?_, ?_⟩
              · rcases hv3 with ⟨t, u1, u2⟩ | ⟨a3, u1, u2, u3⟩
                · exact ⟨_, v3, rfl, rfl, .inl ⟨t, u1, u2, rfl⟩⟩
                · exact ⟨0, v3, rfl, rfl, .inr ⟨a3, u1, u2, u3, rfl⟩⟩
              · rintro m σ H' ⟨v4, rfl, rfl, hv⟩
                rcases hv with ⟨t, u1, u2, rfl⟩ | ⟨a3, rfl, u2, u3, rfl⟩
                · obtain ⟨a4, ys, rfl, ha4⟩ := Ts.at_ u1
                  refine ⟨_, rfl, a4, _, _, .str t.hd, rfl, rfl, SqT.of ha4, at0 _ _, rfl, _, rfl, ?_⟩
                  cases t with
                  | not u =>
                    obtain ⟨_, p1, p2, ea, hA, r1, r2⟩ := tp2 u1
                    cases ea
                    refine iteP (by simp only [Ts.hd]; decide +kernel) ⟨fun σ H3 => σ = [some (.ref a), some (.ref F2), some (.ref ax), some p2, o4, o5, o6, o7, o8] ∧ H3 = H', fun σ H3 z => ⟨u.nots, Nat.lt_succ_self _, p2, z.1, z.2, .inl ⟨u, r2, u2, rfl⟩⟩, ?_⟩
                    exact ⟨_, rfl, a4, _, _, p2, rfl, rfl, SqT.of hA, rfl, rfl, rfl⟩
                  | rest x b r => exact iteN (sne (show (("rest" : Str) == "not") = false by decide +kernel)) ⟨a4, ys, rfl, rfl, by rw [← u2]; exact ha4⟩
                  | less x y => exact iteN (sne (show (("less" : Str) == "not") = false by decide +kernel)) ⟨a4, ys, rfl, rfl, by rw [← u2]; exact ha4⟩
                · refine ⟨_, rfl, a3, _, _, .str "none", rfl, rfl, SqT.of u2, rfl, rfl, _, rfl, iteN (sne (show (("none" : Str) == "not") = false by decide +kernel)) ?_⟩
                  exact ⟨a3, [], rfl, rfl, by rw [u3]; exact u2⟩
            · rintro _ H3 ⟨a4, ys, rfl, e3, ha4⟩
              subst e3
              refine ⟨_, rfl, a4, _, _, .str st.tstw, rfl, rfl, SqT.of ha4, at0 _ _, rfl, .inr ⟨_, rfl, ?_⟩⟩
              refine ⟨_, rfl, a4, _, _, .str st.tstw, rfl, rfl, SqT.of ha4, at0 _ _, rfl, .inr ⟨_, rfl, ?_⟩⟩
              refine ⟨by show 4 ≤ sizeLine; decide, fun O hO => ?_⟩
              have t3 := t1.keep s2.tk0
              refine ⟨fun σ H5 => ∃ (O2 : Addr) (o5 o6 o7 o8 : Option V), σ = [some (.ref a), some (.ref F2), some (.ref ax), some (.ref a4), some (.ref O2), o5, o6, o7, o8] ∧ Sx [] H3 H5 ∧ H3 O2 = none ∧ H5 O2 = some (.lst (oL st st.blks.length)), ?_, ?_⟩
              · refine ⟨_, rfl, .ref ax, st, rfl, t3.new hO, fun H4 v4 s4 t4 => ?_⟩
                obtain ⟨ap, zs, rfl, hap, hz⟩ := t4.tuple
                rw [St.parts_blks] at hz
                obtain ⟨hlz, hgz⟩ := hz.lst
                have s34 : Sx [] H3 H4 := (Sx.n0 hO).trans s4
                refine ⟨ap, rfl, ⟨_, SqT.of hap⟩, for_tup (xs := zs) (fun j σ H5 => ∃ (O2 : Addr) (o5 o6 o7 o8 : Option V), σ = [some (.ref a), some (.ref F2), some (.ref ax), some (.ref a4), some (.ref O2), o5, o6, o7, o8] ∧ Sx [] H4 H5 ∧ H3 O2 = none ∧ H5 O2 = some (.lst (oL st j)))
                  ⟨O, _, _, _, _, rfl, Sx.refl _, hO, by rw [← oL0]; exact s4 _ _ (by simp) upd_same⟩ (fun j σ H5 _ z => by obtain ⟨_, _, _, _, _, _, z, _⟩ := z; exact SqT.of (z _ _ (by simp) hap)) (fun j y σ H5 hj z => ?_) (fun σ H5 z => ?_)⟩
                · obtain ⟨O2, o5, o6, o7, o8, rfl, s5, hO2, eO2⟩ := z
                  obtain ⟨b2, hb2, tb2⟩ := hgz j y hj
                  refine gnm ?_
                  refine ⟨_, rfl, y, b2, rfl, tb2.keep s5.tk0, f3 b2 (List.mem_of_getElem? hb2), fun H6 l6 s6 n6 e6 => ?_⟩
                  have s36 : Sx [] H3 H6 := (s34.trans s5).trans s6
                  have t6 := t3.keep s36.tk0
                  have hax6 := s36 _ _ (by simp) (s2 _ _ (by simp) hax)
                  have eO6 := s6 _ _ (by simp) eO2
                  have hf1 : -(2 ^ 64) < st.times ∧ st.times < 2 ^ 64 := ⟨by omega, by omega⟩
                  have e6 : H6 l6 = some (.lst [.int b2.sz, .int (b2.sumO fun _ => 1), .int (b2.sumO (ownT "rest")), .int (b2.sumO (ownT "less"))]) := e6
                  refine ⟨_, rfl, ax, _, _, .str st.hd, rfl, rfl, SqT.of hax6, at0 _ _, rfl, _, rfl, ?_⟩
                  obtain ⟨R, eR⟩ : ∃ R, R = (oL st (j + 1)).tail := ⟨_, rfl⟩
                  have eU := oL_up hb2
                  refine ite2 (fun e => ?_) (fun e => ?_)
                  · obtain ⟨kk, yy, rfl⟩ : ∃ kk yy, st = .rep kk yy := by
                      cases st with
                      | rep kk yy => exact ⟨_, _, rfl⟩
                      | _ => exact absurd (V.str.inj (of_decide_eq_true e)) (by simp only [St.hd]; decide +kernel)
                    obtain ⟨_, p1, p2, p3, ea, hA, q1, q2, q3⟩ := tp3 t6
                    cases ea
                    obtain rfl := tpI q2
                    refine ⟨_, rfl, ax, _, _, .int kk, rfl, rfl, SqT.of hA, rfl, ?_⟩
                    clear e hA q1 q2 q3
                    refine ⟨by show 2 ≤ sizeLine; decide, fun p hp => ⟨p, _, rfl, SqT.of upd_same, rfl, _, _, rfl, gnm ⟨_, _, rfl, gnm ⟨rfl, ?_⟩⟩⟩⟩
                    refine gh (H1 := upd H6 p _) (F := fun H7 => Sx [] H6 H7) (Sx.n0 hp) (fun H7 s67 => ?_)
                    have eO7 := s67 _ _ (by simp) eO6
                    have eL7 := s67 _ _ (by simp) e6
                    refine ⟨_, rfl, O2, _, _, _, rfl, rfl, SqL.of eO7, rfl, _, rfl, l6, _, _, _, rfl, rfl, SqL.of eL7, rfl, _, _, rfl, rfl, by show 1 ≤ sizeLine; decide, fun A hA => ?_⟩
                    refine gh (H1 := upd H7 A _) (F := fun H8 => Sx [] H7 H8 ∧ H8 A = some (.lst [_])) ⟨Sx.n0 hA, upd_same⟩ (fun H8 ⟨s78, eA8⟩ => ?_)
                    have eO8 := s78 _ _ (by simp) eO7
                    have eL8 := s78 _ _ (by simp) eL7
                    rw [eU] at eR
                    refine ⟨1, 4, rfl, ⟨by decide, by decide, by decide, by decide⟩, fun D hD => lc_range (lo := 1) (n := ((4 : Int) - 1).toNat) (fun i H' => Sx [] H8 H' ∧ H' D = some (.lst (R.take i))) ⟨Sx.n0 hD, upd_same⟩ (fun i H' hi p => ?_) (fun H' p => ?_)⟩
                    · refine ⟨rfl, ?_⟩
                      have g1 := p.1 _ _ (by simp) eO8
                      have g2 := p.1 _ _ (by simp) eL8
                      have p2 := p.2
                      subst eR
                      match i, hi with
                      | 0, _ => exact ⟨_, rfl, _, rfl, O2, _, _, _, rfl, rfl, SqL.of g1, rfl, _, rfl, _, rfl, _, rfl, l6, _, _, _, rfl, rfl, SqL.of g2, rfl, _, _, rfl, rfl, .inl hf1, _, _, rfl, rfl, _, p2, (by show (0 : Nat) < sizeLine; decide), p.1.own hD, by rw [upd_same]; rfl⟩
                      | 1, _ => exact ⟨_, rfl, _, rfl, O2, _, _, _, rfl, rfl, SqL.of g1, rfl, _, rfl, _, rfl, _, rfl, l6, _, _, _, rfl, rfl, SqL.of g2, rfl, _, _, rfl, rfl, .inl hf1, _, _, rfl, rfl, _, p2, (by show (1 : Nat) < sizeLine; decide), p.1.own hD, by rw [upd_same]; rfl⟩
                      | 2, _ => exact ⟨_, rfl, _, rfl, O2, _, _, _, rfl, rfl, SqL.of g1, rfl, _, rfl, _, rfl, _, rfl, l6, _, _, _, rfl, rfl, SqL.of g2, rfl, _, _, rfl, rfl, .inl hf1, _, _, rfl, rfl, _, p2, (by show (2 : Nat) < sizeLine; decide), p.1.own hD, by rw [upd_same]; rfl⟩
                    · have eA9 := p.1 _ _ (by simp) eA8
                      have eD9 := p.2
                      subst eR
                      refine ⟨A, D, _, _, rfl, rfl, eA9, eD9, by show 4 ≤ sizeLine; decide, fun v hv => ?_⟩
                      exact ⟨v, _, _, _, _, rfl, (s5.trans s6).trans (((s67.trans s78).trans p.1).new hv), (s36.trans ((s67.trans s78).trans p.1)).free (by simp) hv, by rw [upd_same, eU]; rfl⟩
                  · obtain ⟨t9, y9, n9, rfl⟩ : ∃ t y n, st = .ite t y n := by
                      cases st with
                      | ite t y n => exact ⟨_, _, _, rfl⟩
                      | rep kk yy => exact absurd (show decide (V.str (St.rep kk yy).hd = V.str "repeat") = true by simp only [St.hd]; decide +kernel) e
                      | _ => simp [St.blks] at hb2
                    clear e
                    refine ⟨by show 2 ≤ sizeLine; decide, fun p hp => ⟨p, _, rfl, SqT.of upd_same, rfl, _, _, rfl, gnm ⟨_, _, rfl, gnm ⟨rfl, ?_⟩⟩⟩⟩
                    refine gh (H1 := upd H6 p _) (F := fun H7 => Sx [] H6 H7) (Sx.n0 hp) (fun H7 s67 => ?_)
                    have eO7 := s67 _ _ (by simp) eO6
                    have eL7 := s67 _ _ (by simp) e6
                    refine ⟨_, rfl, O2, _, _, _, rfl, rfl, SqL.of eO7, rfl, _, rfl, l6, _, _, _, rfl, rfl, SqL.of eL7, rfl, _, _, rfl, rfl, by show 1 ≤ sizeLine; decide, fun A hA => ?_⟩
                    refine gh (H1 := upd H7 A _) (F := fun H8 => Sx [] H7 H8 ∧ H8 A = some (.lst [_])) ⟨Sx.n0 hA, upd_same⟩ (fun H8 ⟨s78, eA8⟩ => ?_)
                    have eO8 := s78 _ _ (by simp) eO7
                    have eL8 := s78 _ _ (by simp) eL7
                    rw [eU] at eR
                    refine ⟨1, 4, rfl, ⟨by decide, by decide, by decide, by decide⟩, fun D hD => lc_range (lo := 1) (n := ((4 : Int) - 1).toNat) (fun i H' => Sx [] H8 H' ∧ H' D = some (.lst (R.take i))) ⟨Sx.n0 hD, upd_same⟩ (fun i H' hi p => ?_) (fun H' p => ?_)⟩
                    · refine ⟨rfl, ?_⟩
                      have g1 := p.1 _ _ (by simp) eO8
                      have g2 := p.1 _ _ (by simp) eL8
                      have p2 := p.2
                      subst eR
                      match i, hi with
                      | 0, _ => exact ⟨_, rfl, _, rfl, O2, _, _, _, rfl, rfl, SqL.of g1, rfl, _, rfl, _, rfl, _, rfl, l6, _, _, _, rfl, rfl, SqL.of g2, rfl, _, _, rfl, rfl, .inl hf1, _, _, rfl, rfl, _, p2, (by show (0 : Nat) < sizeLine; decide), p.1.own hD, by rw [upd_same]; rfl⟩
                      | 1, _ => exact ⟨_, rfl, _, rfl, O2, _, _, _, rfl, rfl, SqL.of g1, rfl, _, rfl, _, rfl, _, rfl, l6, _, _, _, rfl, rfl, SqL.of g2, rfl, _, _, rfl, rfl, .inl hf1, _, _, rfl, rfl, _, p2, (by show (1 : Nat) < sizeLine; decide), p.1.own hD, by rw [upd_same]; rfl⟩
                      | 2, _ => exact ⟨_, rfl, _, rfl, O2, _, _, _, rfl, rfl, SqL.of g1, rfl, _, rfl, _, rfl, _, rfl, l6, _, _, _, rfl, rfl, SqL.of g2, rfl, _, _, rfl, rfl, .inl hf1, _, _, rfl, rfl, _, p2, (by show (2 : Nat) < sizeLine; decide), p.1.own hD, by rw [upd_same]; rfl⟩
                    · have eA9 := p.1 _ _ (by simp) eA8
                      have eD9 := p.2
                      subst eR
                      refine ⟨A, D, _, _, rfl, rfl, eA9, eD9, by show 4 ≤ sizeLine; decide, fun v hv => ?_⟩
                      exact ⟨v, _, _, _, _, rfl, (s5.trans s6).trans (((s67.trans s78).trans p.1).new hv), (s36.trans ((s67.trans s78).trans p.1)).free (by simp) hv, by rw [upd_same, eU]; rfl⟩
                · obtain ⟨O2, o5, o6, o7, o8, rfl, s5, hO2, eO2⟩ := z
                  rw [hlz] at eO2
                  exact ⟨O2, _, _, _, _, rfl, s34.trans s5, hO2, eO2⟩
              · rintro _ H5 ⟨O2, o5, o6, o7, o8, rfl, s5, hO2, eO2⟩
                have eF5 := s5 _ _ (by simp) (s2 _ _ (by simp) eF2)
                rw [oL_end] at eO2
                have hO5 : H5 O2 = some (.lst [.int st.sz, .int (st.sumO fun _ => 1), .int (st.sumO (ownT "rest")), .int (st.sumO (ownT "less"))]) := eO2
                refine ⟨4, rfl, by decide, by decide, fun D hD => lc_range (lo := 0) (n := (4 : Int).toNat) (fun i H' => Sx [] H5 H' ∧ H' D = some (.lst ((cL (b.lst.take (i0 + 1))).take i))) ⟨Sx.n0 hD, upd_same⟩ (fun i H' hi p => ?_) (fun H' p => ?_)⟩
                · refine ⟨rfl, ?_⟩
                  have g1 : H' F2 = some (.lst (cL (b.lst.take i0))) := p.1 _ _ (by simp) eF5
                  have g2 := p.1 _ _ (by simp) hO5
                  have p2 := p.2
                  rw [cL_up hst] at p2
                  match i, hi with
                  | 0, _ => exact ⟨_, rfl, _, rfl, F2, _, _, _, rfl, rfl, SqL.of g1, rfl, _, rfl, _, rfl, O2, _, _, _, rfl, rfl, SqL.of g2, rfl, _, _, rfl, rfl, _, p2, (by show (0 : Nat) < sizeLine; decide), p.1.own hD, by rw [upd_same, cL_up hst]; rfl⟩
                  | 1, _ => exact ⟨_, rfl, _, rfl, F2, _, _, _, rfl, rfl, SqL.of g1, rfl, _, rfl, _, rfl, O2, _, _, _, rfl, rfl, SqL.of g2, rfl, _, _, rfl, rfl, _, p2, (by show (1 : Nat) < sizeLine; decide), p.1.own hD, by rw [upd_same, cL_up hst]; rfl⟩
                  | 2, _ => exact ⟨_, rfl, _, rfl, F2, _, _, _, rfl, rfl, SqL.of g1, rfl, _, rfl, _, rfl, O2, _, _, _, rfl, rfl, SqL.of g2, rfl, _, _, rfl, rfl, _, p2, (by show (2 : Nat) < sizeLine; decide), p.1.own hD, by rw [upd_same, cL_up hst]; rfl⟩
                  | 3, _ => exact ⟨_, rfl, _, rfl, F2, _, _, _, rfl, rfl, SqL.of g1, rfl, _, rfl, _, rfl, O2, _, _, _, rfl, rfl, SqL.of g2, rfl, _, _, rfl, rfl, _, p2, (by show (3 : Nat) < sizeLine; decide), p.1.own hD, by rw [upd_same, cL_up hst]; rfl⟩
                · have s15 : Sx [] H H5 := (s1.trans s2).trans s5
                  have nD : H D = none := by
                    cases e : H D with
                    | none => rfl
                    | some o => have := s15 _ _ (by simp) e; rw [hD] at this; cases this
                  exact ⟨D, _, _, _, _, _, _, _, rfl, s15.trans p.1, nD, p.2⟩
        · obtain ⟨F2, o2, o3, o4, o5, o6, o7, o8, rfl, s1, hF2, eF2⟩ := z
          rw [hl, List.take_length] at eF2
          exact ⟨F2, _, _, _, _, _, _, _, rfl, s1, hF2, eF2⟩
      · rintro _ H1 ⟨F2, o2, o3, o4, o5, o6, o7, o8, rfl, s1, hF2, eF2⟩
        rw [cL_lst] at eF2
        exact ⟨_, rfl, q H1 F2 s1 hF2 eF2⟩
end
abbrev sError : Stmt := topS 66
abbrev nError : List Str := ["_law_value_here", "_law_waiting", "_law_place", "_law_depth", "_law_row_here", "_law_inner", "_law_part", "_law_found", "_law_k", "_law_word", "_law_item"]
theorem scError : FnScope nError ["_law_value_here"] (defScope sError) := ⟨rfl, rfl, rfl, by decide +kernel, rfl, by decide +kernel, by decide +kernel⟩
/-! ### the law's own walk of the places -/
theorem TpAll.reverse {H : Hp} : ∀ {vs : List V} {ds : List PyData}, TpAll H vs ds → TpAll H vs.reverse ds.reverse
  | _, _, .nil => .nil
  | _, _, .cons a b => by
    rw [List.reverse_cons]; rw [List.reverse_cons]
    exact (TpAll.reverse b).append (.cons a .nil)
theorem TpAll.dpL {K : PySem.W.Frag} {H : Hp} {l : Addr} {vs : List V} {ds : List PyData} (h : H l = some (.lst vs)) (t : TpAll H vs ds) : Dp K H (.ref l) (.list ds) := .lst (SqL.of h) t.dp
theorem eqvL_nil {ds : List PyData} (h : ds ≠ []) : PyData.eqv (.list ds) (.list []) = false := by
  cases ds with
  | nil => exact absurd rfl h
  | cons _ _ => rfl
theorem Sh.lst' {n : Nat} {es : List PyData} (h : ShA n es) : Sh (n + 1) (.list es) := ⟨by simp only [PyData.canLay0, h.1], by simp only [PyData.depth]; have := h.2; omega⟩
theorem ShA.of_mem {n : Nat} : ∀ {es : List PyData}, (∀ e ∈ es, Sh n e) → ShA n es
  | [], _ => .nil
  | e :: es, h => .cons (h e (List.mem_cons_self ..)) (ShA.of_mem fun x hx => h x (List.mem_cons_of_mem _ hx))
theorem stk_mem : ∀ {ws : List (Int × St)} {k : Int} {x : Int × St}, x ∈ ws → ∃ p, (p, x.1, x.2) ∈ stkRws ws k
  | (d, s) :: ws, k, x, h => by
    rcases List.mem_cons.1 h with rfl | h
    · refine ⟨k, List.mem_append_left _ ?_⟩
      rw [s.rws_kids]
      exact List.mem_cons_self ..
    · obtain ⟨p, hp⟩ := stk_mem (ws := ws) (k := k + s.sz) h
      exact ⟨p, List.mem_append_right _ hp⟩
def okRow (r : Rw) : Prop := (r.2.2.nm ∧ r.2.2.d.weight ≤ WB) ∧ Sh 50 r.2.2.d
def spLErr (d : Nat) : Sp := fun vs H Q _ => ∃ (v : V) (b : Bk), vs = [v] ∧ Tp H v (.tuple b.ds) ∧ (∀ r ∈ b.rws 0 0, okRow r) ∧ b.fac d ∧ b.sz < 16777216 ∧ ∀ H' r, Sx [] H H' → Tp H' r b.perr → Q r H'
theorem cnt_at {b : Bk} {F : Addr} {H : Hp} (h : H F = some (.lst (cntV b))) : H F = some (.lst [.int b.sz, .int (b.sumO fun _ => 1), .int (b.sumO (ownT "rest")), .int (b.sumO (ownT "less"))]) := h
def bndW : List Str := ["places", "weight", "rests", "comparings"]
def bndN (b : Bk) : Nat → Int
  | 0 => b.sz
  | 1 => b.sumO fun _ => 1
  | 2 => b.sumO (ownT "rest")
  | _ => b.sumO (ownT "less")
def bndM : Nat → Int
  | 0 => 24
  | 1 => 30
  | _ => 2
theorem bnd_hit {b : Bk} {i : Nat} (hi : i < 4) (hp : ∀ j < i, ¬ bndM j < bndN b j) (h : bndM i < bndN b i) {z : Str} (hz : bndW[i]? = some z) : b.bnd = .tuple [.none, .str z] := by
  match i, hi with
  | 0, _ => cases hz; exact if_pos h
  | 1, _ =>
    cases hz
    have h0 : ¬ 24 < (b.sz : Int) := hp 0 (by decide)
    unfold Bk.bnd
    rw [if_neg h0]
    exact if_pos h
  | 2, _ =>
    cases hz
    have h0 : ¬ 24 < (b.sz : Int) := hp 0 (by decide)
    have h1 : ¬ 30 < b.sumO (fun _ => 1) := hp 1 (by decide)
    unfold Bk.bnd
    rw [if_neg h0, if_neg h1]
    exact if_pos h
  | 3, _ =>
    cases hz
    have h0 : ¬ 24 < (b.sz : Int) := hp 0 (by decide)
    have h1 : ¬ 30 < b.sumO (fun _ => 1) := hp 1 (by decide)
    have h2 : ¬ 2 < b.sumO (ownT "rest") := hp 2 (by decide)
    unfold Bk.bnd
    rw [if_neg h0, if_neg h1, if_neg h2]
    exact if_pos h
theorem bnd_none {b : Bk} (hp : ∀ j < 4, ¬ bndM j < bndN b j) : b.bnd = .none := by
  have h0 : ¬ 24 < (b.sz : Int) := hp 0 (by decide)
  have h1 : ¬ 30 < b.sumO (fun _ => 1) := hp 1 (by decide)
  have h2 : ¬ 2 < b.sumO (ownT "rest") := hp 2 (by decide)
  have h3 := hp 3 (by decide)
  unfold Bk.bnd
  rw [if_neg h0, if_neg h1, if_neg h2]
  exact if_neg h3
section
variable {w : World} {P : Program} {K : PySem.W.Frag} {mg : Str → Option Value} {base : Heap}
end
/-! ### the walk of the places, over values of any kind -/
/-- the blocks of a right statement -/
def blD : PyData → List (List PyData)
  | .tuple [.str h, _, .tuple y, .tuple z] => if h = "if" then [y, z] else []
  | .tuple [.str h, _, .tuple y] => if h = "repeat" then [y] else []
  | _ => []
def atD (d : Int) (b : List PyData) : List (Int × PyData) := b.map fun s => (d, s)
def kidD (bs : List (List PyData)) (d : Int) : List (Int × PyData) := (bs.map (atD d)).flatten
def wS (ws : List (Int × PyData)) : Nat := (ws.map fun x => x.2.weight + 1).sum
theorem wS_cons (x : Int × PyData) (ws : List (Int × PyData)) : wS (x :: ws) = x.2.weight + 1 + wS ws := rfl
theorem wS_append (l m : List (Int × PyData)) : wS (l ++ m) = wS l + wS m := by unfold wS; rw [List.map_append, List.sum_append]
theorem wS_at (d : Int) : ∀ b : List PyData, wS (atD d b) = PyData.weightAll b
  | [] => by simp only [PyData.weightAll]; rfl
  | x :: b => by
    show wS ((d, x) :: atD d b) = _
    rw [wS_cons, wS_at d b, PyData.weightAll]
theorem wS_len : ∀ ws : List (Int × PyData), ws.length ≤ wS ws
  | [] => Nat.le_refl _
  | x :: ws => by rw [wS_cons, List.length_cons]; have := wS_len ws; omega
theorem tw (ds : List PyData) : (PyData.tuple ds).weight = PyData.weightAll ds := by simp only [PyData.weight]
theorem wA_cons (x : PyData) (ds : List PyData) : PyData.weightAll (x :: ds) = x.weight + 1 + PyData.weightAll ds := by simp only [PyData.weightAll]
theorem wA_nil : PyData.weightAll [] = 0 := by simp only [PyData.weightAll]
theorem blD4 (h : Str) (t : PyData) (y z : List PyData) : blD (.tuple [.str h, t, .tuple y, .tuple z]) = if h = "if" then [y, z] else [] := by simp only [blD]
theorem blD3 (h : Str) (t : PyData) (y : List PyData) : blD (.tuple [.str h, t, .tuple y]) = if h = "repeat" then [y] else [] := by simp only [blD]
theorem blD1 (h : Str) : blD (.tuple [.str h]) = [] := by simp only [blD]
theorem blD2 (h : Str) (x : PyData) : blD (.tuple [.str h, x]) = [] := by simp only [blD]
theorem isTup_of {d : PyData} (h : isTup d = true) : ∃ ds, d = .tuple ds := by
  cases d with
  | tuple ds => exact ⟨ds, rfl⟩
  | _ => cases h
/-- what a right statement is -/
theorem stB_inv {d : PyData} (h : stB d = true) : d = .tuple [.str "stop"] ∨ (∃ x, d = .tuple [.str "pay", x] ∧ exB 3 x = true) ∨ (∃ x y, d = .tuple [.str "set", x, y] ∧ nmD x = true ∧ exB 3 y = true)
    ∨ (∃ k y, d = .tuple [.str "repeat", .int k, .tuple y] ∧ 1 ≤ k ∧ k ≤ 8) ∨ ∃ t y z, d = .tuple [.str "if", t, .tuple y, .tuple z] ∧ tsB 2 t = true := by
  cases htp : isTup d with
  | false => rw [stB_non htp] at h; cases h
  | true =>
  obtain ⟨ds, rfl⟩ := isTup_of htp
  match ds, h with
  | [], h => rw [stB_nil] at h; cases h
  | d0 :: ds, h =>
  cases hs : isStr d0 with
  | false => rw [stB_hd hs] at h; cases h
  | true =>
  obtain ⟨z, rfl⟩ := isStr_t hs
  match ds, h with
  | [], g =>
    rw [stB1] at g
    obtain rfl := of_decide_eq_true g
    exact .inl rfl
  | [x], g =>
    rw [stB2] at g
    by_cases e : z = "pay"
    · rw [if_pos e] at g; subst e; exact .inr (.inl ⟨x, rfl, g⟩)
    · rw [if_neg e] at g; cases g
  | [x, y], g =>
    rw [stB3] at g
    by_cases e : z = "set"
    · rw [if_pos e, Bool.and_eq_true] at g; subst e; exact .inr (.inr (.inl ⟨x, y, rfl, g⟩))
    · rw [if_neg e] at g
      by_cases e : z = "repeat"
      · rw [if_pos e, Bool.and_eq_true] at g
        subst e
        obtain ⟨y, rfl⟩ := isTup_of g.2
        cases x with
        | int k =>
          have h1 : inB 1 8 k = true := g.1
          unfold inB at h1
          simp only [decide_eq_true_eq, Bool.and_eq_true] at h1
          exact .inr (.inr (.inr (.inl ⟨k, y, rfl, h1⟩)))
        | _ => cases g.1
      · rw [if_neg e] at g; cases g
  | [x, y, r], g =>
    rw [stB4] at g
    by_cases e : z = "if"
    · rw [if_pos e, Bool.and_eq_true, Bool.and_eq_true] at g
      subst e
      obtain ⟨y, rfl⟩ := isTup_of g.2.1
      obtain ⟨r, rfl⟩ := isTup_of g.2.2
      exact .inr (.inr (.inr (.inr ⟨x, y, r, rfl, g.1⟩)))
    · rw [if_neg e] at g; cases g
  | _ :: _ :: _ :: _ :: _, g => simp only [stB] at g; cases g
theorem wB_blD {d : PyData} (h : stB d = true) : ((blD d).map PyData.weightAll).sum + 1 ≤ d.weight := by
  rcases stB_inv h with rfl | ⟨x, rfl, _⟩ | ⟨x, y, rfl, _⟩ | ⟨k, y, rfl, _⟩ | ⟨t, y, z, rfl, _⟩
  · rw [blD1, tw, wA_cons]; show 0 + 1 ≤ _; omega
  · rw [blD2, tw, wA_cons]; show 0 + 1 ≤ _; omega
  · have e : blD (.tuple [.str "set", x, y]) = [] := by
      cases y <;> simp only [blD]
      rw [(if_neg (by decide +kernel))]
    rw [e, tw, wA_cons]; show 0 + 1 ≤ _; omega
  · rw [blD3, if_pos rfl, tw, wA_cons, wA_cons, wA_cons, tw, wA_nil]
    simp only [List.sum_nil, List.sum_cons, List.map_nil, List.map_cons]
    omega
  · rw [blD4, if_pos rfl, tw, wA_cons, wA_cons, wA_cons, wA_cons, tw, tw, wA_nil]
    simp only [List.sum_nil, List.sum_cons, List.map_nil, List.map_cons]
    omega
theorem wS_kid (d : Int) : ∀ bs : List (List PyData), wS (kidD bs d) = (bs.map PyData.weightAll).sum
  | [] => rfl
  | b :: bs => by
    show wS (atD d b ++ kidD bs d) = _
    rw [wS_append, wS_at, wS_kid d bs]; rfl
/-- the first fault of what waits, or e -/
def perrW (e : PyData) : Nat → List (Int × PyData) → Int → PyData
  | _, [], _ => e
  | 0, _ :: _, _ => e
  | n + 1, (d, x) :: ws, p => if 3 < d then .tuple [.int p, .str "nest"] else if stB x = false then .tuple [.int p, .str "statement"] else perrW e n (kidD (blD x) (d + 1) ++ ws) (p + 1)
theorem perrW_fuel (e : PyData) : ∀ (n m : Nat) (ws : List (Int × PyData)) (p : Int), wS ws ≤ n → wS ws ≤ m → perrW e n ws p = perrW e m ws p
  | n, m, [], p, _, _ => by cases n <;> cases m <;> rfl
  | 0, _, x :: ws, _, h, _ => by rw [wS_cons] at h; omega
  | _ + 1, 0, x :: ws, _, _, h => by rw [wS_cons] at h; omega
  | n + 1, m + 1, (d, x) :: ws, p, h, h' => by
    rw [wS_cons] at h h'
    show (if 3 < d then _ else if stB x = false then _ else _) = if 3 < d then _ else if stB x = false then _ else _
    by_cases h3 : 3 < d
    · rw [if_pos h3, if_pos h3]
    · rw [if_neg h3, if_neg h3]
      cases hb : stB x with
      | false => rfl
      | true =>
        have hw := wB_blD hb
        have h1 : wS (kidD (blD x) (d + 1) ++ ws) ≤ x.weight + wS ws := by rw [wS_append, wS_kid]; omega
        have h2 : x.weight + 1 + wS ws ≤ n + 1 := h
        have h2' : x.weight + 1 + wS ws ≤ m + 1 := h'
        rw [if_neg (by simp)]; rw [if_neg (by simp)]
        exact perrW_fuel e n m _ _ (by omega) (by omega)
def perrS (e : PyData) (ws : List (Int × PyData)) (p : Int) : PyData := perrW e (wS ws) ws p
theorem perrS_nil (e : PyData) (p : Int) : perrS e [] p = e := rfl
theorem perrS_cons (e : PyData) (d : Int) (x : PyData) (ws : List (Int × PyData)) (p : Int) : perrS e ((d, x) :: ws) p = if 3 < d then .tuple [.int p, .str "nest"] else if stB x = false then .tuple [.int p, .str "statement"] else perrS e (kidD (blD x) (d + 1) ++ ws) (p + 1) := by
  have e1 : perrS e ((d, x) :: ws) p = perrW e (x.weight + wS ws + 1) ((d, x) :: ws) p := by unfold perrS; rw [wS_cons]; exact perrW_fuel _ _ _ _ _ (by rw [wS_cons]; exact Nat.le_refl _) (by rw [wS_cons]; show x.weight + 1 + wS ws ≤ _; omega)
  rw [e1]
  show (if 3 < d then _ else if stB x = false then _ else perrW e (x.weight + wS ws) _ _) = _
  by_cases h3 : 3 < d
  · rw [if_pos h3, if_pos h3]
  · rw [if_neg h3, if_neg h3]
    cases hb : stB x with
    | false => rfl
    | true =>
      have hw := wB_blD hb
      rw [if_neg (by simp)]; rw [if_neg (by simp)]
      exact perrW_fuel e _ _ _ _ (by rw [wS_append, wS_kid]; omega) (Nat.le_refl _)
/-! ### what is right all through is a typed block -/
theorem exB_ex : ∀ (n : Nat) {d : PyData}, exB n d = true → ∃ e : Ex, e.d = d
  | 0, d, h => by simp only [exB] at h; cases h
  | n + 1, d, h => by
    cases d with
    | int i => exact ⟨.int i, rfl⟩
    | str z => exact ⟨.name z, rfl⟩
    | tuple ds =>
      by_cases hl : ds.length = 3
      · obtain ⟨d0, x, y, rfl⟩ := len3 hl
        cases hs : isStr d0 with
        | false => rw [exB_hd _ hs] at h; cases h
        | true =>
          obtain ⟨z, rfl⟩ := isStr_t hs
          rw [exB_tri] at h
          by_cases h1 : z = "plus" ∨ z = "minus"
          · rw [if_pos h1, Bool.and_eq_true] at h
            obtain ⟨a, ha⟩ := exB_ex n h.1
            obtain ⟨b, hb⟩ := exB_ex n h.2
            rcases h1 with rfl | rfl
            · exact ⟨.plus a b, by rw [Ex.d, ha, hb]⟩
            · exact ⟨.minus a b, by rw [Ex.d, ha, hb]⟩
          · rw [if_neg h1] at h
            by_cases h2 : z = "times"
            · rw [if_pos h2, Bool.and_eq_true] at h
              subst h2
              obtain ⟨b, hb⟩ := exB_ex n h.2
              cases x with
              | int f => exact ⟨.times f b, by rw [Ex.d, hb]⟩
              | _ => cases h.1
            · rw [if_neg h2] at h; cases h
      · rw [exB_len _ hl] at h; cases h
    | _ => cases h
theorem lenT3_r (z : Str) : lenT3 z = 0 ∨ (2 ≤ lenT3 z ∧ lenT3 z ≤ 4) := by
  unfold lenT3
  by_cases h1 : z = "less"
  · rw [if_pos h1]; omega
  · rw [if_neg h1]
    by_cases h2 : z = "rest"
    · rw [if_pos h2]; omega
    · rw [if_neg h2]
      by_cases h3 : z = "not"
      · rw [if_pos h3]; omega
      · rw [if_neg h3]; omega
theorem tsB_step (n : Nat) (ih : ∀ x m, n = m + 1 → tsB m x = true → ∃ t : Ts, t.d = x) {d : PyData} (h : tsB n d = true) : ∃ t : Ts, t.d = d := by
  cases htp : isTup d with
  | false => rw [tsB_non n htp] at h; cases h
  | true =>
  obtain ⟨ds, rfl⟩ := isTup_of htp
  match ds, h with
  | [], h => rw [tsB_nil] at h; cases h
  | d0 :: ds, h =>
  cases hs : isStr d0 with
  | false => rw [tsB_hd n hs] at h; cases h
  | true =>
  obtain ⟨z, rfl⟩ := isStr_t hs
  match ds, h with
  | [], g =>
    rw [tsB_len n (fun hl => by have := lenT3_r z; simp only [List.length_nil] at hl; omega)] at g
    cases g
  | [x], g =>
    rw [tsB2] at g
    by_cases e : z = "not"
    · rw [if_pos e] at g
      subst e
      obtain ⟨m, rfl⟩ : ∃ m, n = m + 1 := by
        cases n with
        | zero => cases g
        | succ m => exact ⟨m, rfl⟩
      obtain ⟨t, ht⟩ := ih x m rfl g
      exact ⟨.not t, by rw [Ts.d, ht]⟩
    · rw [if_neg e] at g; cases g
  | [x, y], g =>
    rw [tsB3] at g
    by_cases e : z = "less"
    · rw [if_pos e, Bool.and_eq_true] at g
      subst e
      obtain ⟨a, ha⟩ := exB_ex 3 g.1
      obtain ⟨b, hb⟩ := exB_ex 3 g.2
      exact ⟨.less a b, by rw [Ts.d, ha, hb]⟩
    · rw [if_neg e] at g; cases g
  | [x, b, r], g =>
    rw [tsB4] at g
    by_cases e : z = "rest"
    · rw [if_pos e] at g
      subst e
      unfold rsB at g
      rw [Bool.and_eq_true, Bool.and_eq_true] at g
      cases b with
      | int i =>
        obtain ⟨a, ha⟩ := exB_ex 3 g.1
        cases r with
        | int j => exact ⟨.rest a i j, by rw [Ts.d, ha]⟩
        | _ => cases g.2.2
      | _ => cases g.2.1
    · rw [if_neg e] at g; cases g
  | _ :: _ :: _ :: _ :: ds, g =>
    rw [tsB_len n (fun hl => by have := lenT3_r z; simp only [List.length_cons] at hl; omega)] at g
    cases g
theorem tsB_ts : ∀ (n : Nat) {d : PyData}, tsB n d = true → ∃ t : Ts, t.d = d
  | 0, _, h => tsB_step 0 (fun _ _ h _ => by omega) h
  | n + 1, _, h => tsB_step (n + 1) (fun _ m e h => tsB_ts n (by rw [show n = m by omega]; exact h)) h
/-- right all through, at most so deep -/
def rtD : Nat → PyData → Prop
  | 0, x => stB x = true ∧ ∀ b ∈ blD x, b = []
  | n + 1, x => stB x = true ∧ ∀ b ∈ blD x, ∀ s ∈ b, rtD n s
theorem rtD_st : ∀ {n : Nat} {x : PyData}, rtD n x → stB x = true
  | 0, _, h => h.1
  | _ + 1, _, h => h.1
def rtB (n : Nat) (b : List PyData) : Prop := ∀ s ∈ b, rtD n s
theorem mem_wA {s : PyData} : ∀ {b : List PyData}, s ∈ b → s.weight ≤ PyData.weightAll b
  | [], h => by cases h
  | x :: b, h => by
    rw [wA_cons]
    rcases List.mem_cons.1 h with rfl | h
    · omega
    · have := mem_wA h; omega
theorem wA_len (b : List PyData) : b.length ≤ PyData.weightAll b := by
  have := wS_len (atD 0 b)
  rw [wS_at] at this
  unfold atD at this
  rwa [List.length_map] at this
theorem Bk.of_list : ∀ {ds : List PyData} {P : St → Prop}, (∀ s ∈ ds, ∃ t : St, t.d = s ∧ P t) → ∃ b : Bk, b.ds = ds ∧ ∀ s ∈ b.lst, P s
  | [], _, _ => ⟨.nil, rfl, fun _ h => by cases h⟩
  | x :: ds, P, h => by
    obtain ⟨t, ht, pt⟩ := h x (List.mem_cons_self ..)
    obtain ⟨b, hb, pb⟩ := Bk.of_list (ds := ds) (P := P) fun s hs => h s (List.mem_cons_of_mem _ hs)
    refine ⟨.cons t b, by rw [Bk.ds, ht, hb], fun s hs => ?_⟩
    rcases List.mem_cons.1 hs with rfl | hs
    · exact pt
    · exact pb s hs
theorem Bk.ds_len (b : Bk) : b.lst.length = b.ds.length := by rw [b.ds_lst, List.length_map]
def okT (n : Nat) (t : St) : Prop := -1000000 ≤ t.times ∧ t.times ≤ 1000000 ∧ ∀ y ∈ t.blks, y.fac n
theorem rt_step {n : Nat} {x : PyData} (hx : stB x = true) (hb : ∀ b ∈ blD x, ∃ y : Bk, y.ds = b ∧ y.fac n) : ∃ t : St, t.d = x ∧ okT n t := by
  rcases stB_inv hx with rfl | ⟨e, rfl, he⟩ | ⟨z, e, rfl, hz, he⟩ | ⟨k, y, rfl, h1, h2⟩ | ⟨t, y, z, rfl, ht⟩
  · exact ⟨.stop, rfl, by show (-1000000 : Int) ≤ 1; decide, by show (1 : Int) ≤ 1000000; decide, fun y hy => by cases hy⟩
  · obtain ⟨e', rfl⟩ := exB_ex 3 he
    exact ⟨.pay e', rfl, by show (-1000000 : Int) ≤ 1; decide, by show (1 : Int) ≤ 1000000; decide, fun y hy => by cases hy⟩
  · obtain ⟨e', rfl⟩ := exB_ex 3 he
    cases z with
    | str z => exact ⟨.set z e', rfl, by show (-1000000 : Int) ≤ 1; decide, by show (1 : Int) ≤ 1000000; decide, fun y hy => by cases hy⟩
    | _ => cases hz
  · rw [blD3, if_pos rfl] at hb
    obtain ⟨y', rfl, hy⟩ := hb y (by simp)
    exact ⟨.rep k y', rfl, by show -1000000 ≤ k; omega, by show k ≤ 1000000; omega, fun u hu => by rw [List.mem_singleton.mp hu]; exact hy⟩
  · rw [blD4, if_pos rfl] at hb
    obtain ⟨y', rfl, hy⟩ := hb y (by simp)
    obtain ⟨z', rfl, hz⟩ := hb z (by simp)
    obtain ⟨t', rfl⟩ := tsB_ts 2 ht
    refine ⟨.ite t' y' z', rfl, by show (-1000000 : Int) ≤ 1; decide, by show (1 : Int) ≤ 1000000; decide, fun u hu => ?_⟩
    rcases List.mem_cons.1 hu with rfl | hu
    · exact hy
    · rw [List.mem_singleton.mp hu]; exact hz
theorem fac_nil (n : Nat) : Bk.fac .nil (n + 1) := ⟨by decide, fun s hs => by cases hs⟩
theorem blD_wt {x : PyData} (hx : stB x = true) {b : List PyData} (hb : b ∈ blD x) : PyData.weightAll b ≤ x.weight := by
  have h1 := wB_blD hx
  have h2 : ∀ {l : List (List PyData)}, b ∈ l → PyData.weightAll b ≤ (l.map PyData.weightAll).sum := by
    intro l
    induction l with
    | nil => intro h; cases h
    | cons y l ih =>
      intro h
      rw [List.map_cons]; rw [List.sum_cons]
      rcases List.mem_cons.1 h with rfl | h
      · omega
      · have := ih h; omega
  have := h2 hb
  omega
theorem rtD_st' : ∀ (n : Nat) {x : PyData}, rtD n x → x.weight ≤ WB → ∃ t : St, t.d = x ∧ okT (n + 1) t
  | 0, x, h, _ => rt_step h.1 fun b hb => ⟨.nil, (h.2 b hb).symm, fac_nil _⟩
  | n + 1, x, h, hw => rt_step h.1 fun b hb => by
    have hwb := blD_wt h.1 hb
    obtain ⟨y, hy, py⟩ := Bk.of_list (ds := b) (P := okT (n + 1)) fun s hs => rtD_st' n (h.2 b hb s hs) (by have := mem_wA hs; omega)
    refine ⟨y, hy, ?_, py⟩
    rw [y.ds_len, hy]
    have := wA_len b
    have : WB = 1000000 := rfl
    omega
theorem rtB_bk {n : Nat} {ds : List PyData} (h : rtB n ds) (hw : PyData.weightAll ds ≤ WB) : ∃ b : Bk, b.ds = ds ∧ b.fac (n + 2) := by
  obtain ⟨y, hy, py⟩ := Bk.of_list (ds := ds) (P := okT (n + 1)) fun s hs => rtD_st' n (h s hs) (by have := mem_wA hs; omega)
  refine ⟨y, hy, ?_, py⟩
  rw [y.ds_len, hy]
  have := wA_len ds
  have : WB = 1000000 := rfl
  omega
mutual
theorem St.sz_w : ∀ s : St, s.sz ≤ s.d.weight
  | .set z e => by show 1 ≤ (PyData.tuple [.str "set", .str z, e.d]).weight; rw [tw, wA_cons]; omega
  | .pay e => by show 1 ≤ (PyData.tuple [.str "pay", e.d]).weight; rw [tw, wA_cons]; omega
  | .stop => by show 1 ≤ (PyData.tuple [.str "stop"]).weight; rw [tw, wA_cons]; omega
  | .ite t y n => by
    show 1 + y.sz + n.sz ≤ (PyData.tuple [.str "if", t.d, .tuple y.ds, .tuple n.ds]).weight
    rw [tw, wA_cons, wA_cons, wA_cons, wA_cons, tw, tw]
    have := Bk.sz_w y
    have := Bk.sz_w n
    omega
  | .rep k y => by
    show 1 + y.sz ≤ (PyData.tuple [.str "repeat", .int k, .tuple y.ds]).weight
    rw [tw, wA_cons, wA_cons, wA_cons, tw]
    have := Bk.sz_w y
    omega
theorem Bk.sz_w : ∀ b : Bk, b.sz ≤ PyData.weightAll b.ds
  | .nil => Nat.zero_le _
  | .cons s b => by
    show s.sz + b.sz ≤ PyData.weightAll (s.d :: b.ds)
    rw [wA_cons]
    have := St.sz_w s
    have := Bk.sz_w b
    omega
end
/-! ### the data tell the block -/
theorem sD {a b : Str} {xs ys : List PyData} (h : PyData.tuple (.str a :: xs) = .tuple (.str b :: ys)) : a = b ∧ xs = ys := by
  have h2 := List.cons.inj (PyData.tuple.inj h)
  exact ⟨PyData.str.inj h2.1, h2.2⟩
theorem sD1 {a b : PyData} (h : [a] = [b]) : a = b := (List.cons.inj h).1
theorem sD2 {a b c d : PyData} (h : [a, b] = [c, d]) : a = c ∧ b = d := ⟨(List.cons.inj h).1, sD1 (List.cons.inj h).2⟩
theorem sD3 {a b c d e f : PyData} (h : [a, b, c] = [d, e, f]) : a = d ∧ b = e ∧ c = f := ⟨(List.cons.inj h).1, sD2 (List.cons.inj h).2⟩
theorem Ex.d_inj : ∀ (x y : Ex), x.d = y.d → x = y
  | .int i, .int j, h => by cases h; rfl
  | .name i, .name j, h => by cases h; rfl
  | .plus a b, .plus c d, h => by have := sD2 (sD h).2; rw [Ex.d_inj a c this.1, Ex.d_inj b d this.2]
  | .minus a b, .minus c d, h => by have := sD2 (sD h).2; rw [Ex.d_inj a c this.1, Ex.d_inj b d this.2]
  | .times f b, .times g d, h => by have := sD2 (sD h).2; rw [PyData.int.inj this.1, Ex.d_inj b d this.2]
  | .int _, .name _, h => by cases h
  | .int _, .plus _ _, h => by cases h
  | .int _, .minus _ _, h => by cases h
  | .int _, .times _ _, h => by cases h
  | .name _, .int _, h => by cases h
  | .name _, .plus _ _, h => by cases h
  | .name _, .minus _ _, h => by cases h
  | .name _, .times _ _, h => by cases h
  | .plus _ _, .int _, h => by cases h
  | .plus _ _, .name _, h => by cases h
  | .minus _ _, .int _, h => by cases h
  | .minus _ _, .name _, h => by cases h
  | .times _ _, .int _, h => by cases h
  | .times _ _, .name _, h => by cases h
  | .plus _ _, .minus _ _, h => absurd (sD h).1 (by decide +kernel)
  | .plus _ _, .times _ _, h => absurd (sD h).1 (by decide +kernel)
  | .minus _ _, .plus _ _, h => absurd (sD h).1 (by decide +kernel)
  | .minus _ _, .times _ _, h => absurd (sD h).1 (by decide +kernel)
  | .times _ _, .plus _ _, h => absurd (sD h).1 (by decide +kernel)
  | .times _ _, .minus _ _, h => absurd (sD h).1 (by decide +kernel)
theorem Ts.d_inj : ∀ (x y : Ts), x.d = y.d → x = y
  | .rest a b r, .rest c d s, h => by have := sD3 (sD h).2; rw [Ex.d_inj a c this.1, PyData.int.inj this.2.1, PyData.int.inj this.2.2]
  | .less a b, .less c d, h => by have := sD2 (sD h).2; rw [Ex.d_inj a c this.1, Ex.d_inj b d this.2]
  | .not a, .not b, h => by rw [Ts.d_inj a b (sD1 (sD h).2)]
  | .rest _ _ _, .less _ _, h => absurd (sD h).1 (by decide +kernel)
  | .rest _ _ _, .not _, h => absurd (sD h).1 (by decide +kernel)
  | .less _ _, .rest _ _ _, h => absurd (sD h).1 (by decide +kernel)
  | .less _ _, .not _, h => absurd (sD h).1 (by decide +kernel)
  | .not _, .rest _ _ _, h => absurd (sD h).1 (by decide +kernel)
  | .not _, .less _ _, h => absurd (sD h).1 (by decide +kernel)
mutual
theorem St.d_inj : ∀ (x y : St), x.d = y.d → x = y
  | .set z e, .set z' e', h => by have := sD2 (sD h).2; rw [PyData.str.inj this.1, Ex.d_inj _ _ this.2]
  | .pay e, .pay e', h => by rw [Ex.d_inj _ _ (sD1 (sD h).2)]
  | .stop, .stop, _ => rfl
  | .ite t y n, .ite t' y' n', h => by have := sD3 (sD h).2; rw [Ts.d_inj _ _ this.1, Bk.ds_inj y y' (PyData.tuple.inj this.2.1), Bk.ds_inj n n' (PyData.tuple.inj this.2.2)]
  | .rep k y, .rep k' y', h => by have := sD2 (sD h).2; rw [PyData.int.inj this.1, Bk.ds_inj y y' (PyData.tuple.inj this.2)]
  | .set _ _, .pay _, h => absurd (sD h).1 (by decide +kernel)
  | .set _ _, .stop, h => absurd (sD h).1 (by decide +kernel)
  | .set _ _, .ite _ _ _, h => absurd (sD h).1 (by decide +kernel)
  | .set _ _, .rep _ _, h => absurd (sD h).1 (by decide +kernel)
  | .pay _, .set _ _, h => absurd (sD h).1 (by decide +kernel)
  | .pay _, .stop, h => absurd (sD h).1 (by decide +kernel)
  | .pay _, .ite _ _ _, h => absurd (sD h).1 (by decide +kernel)
  | .pay _, .rep _ _, h => absurd (sD h).1 (by decide +kernel)
  | .stop, .set _ _, h => absurd (sD h).1 (by decide +kernel)
  | .stop, .pay _, h => absurd (sD h).1 (by decide +kernel)
  | .stop, .ite _ _ _, h => absurd (sD h).1 (by decide +kernel)
  | .stop, .rep _ _, h => absurd (sD h).1 (by decide +kernel)
  | .ite _ _ _, .set _ _, h => absurd (sD h).1 (by decide +kernel)
  | .ite _ _ _, .pay _, h => absurd (sD h).1 (by decide +kernel)
  | .ite _ _ _, .stop, h => absurd (sD h).1 (by decide +kernel)
  | .ite _ _ _, .rep _ _, h => absurd (sD h).1 (by decide +kernel)
  | .rep _ _, .set _ _, h => absurd (sD h).1 (by decide +kernel)
  | .rep _ _, .pay _, h => absurd (sD h).1 (by decide +kernel)
  | .rep _ _, .stop, h => absurd (sD h).1 (by decide +kernel)
  | .rep _ _, .ite _ _ _, h => absurd (sD h).1 (by decide +kernel)
theorem Bk.ds_inj : ∀ (x y : Bk), x.ds = y.ds → x = y
  | .nil, .nil, _ => rfl
  | .cons s b, .cons s' b', h => by
    have h := List.cons.inj (show s.d :: b.ds = s'.d :: b'.ds from h)
    rw [St.d_inj s s' h.1, Bk.ds_inj b b' h.2]
  | .nil, .cons _ _, h => by cases h
  | .cons _ _, .nil, h => by cases h
end
open Classical in
/-- what the bounds tell of a block -/
noncomputable def bndD (ds : List PyData) : PyData := if h : ∃ b : Bk, b.ds = ds then (Classical.choose h).bnd else .none
theorem bndD_ds (b : Bk) : bndD b.ds = b.bnd := by
  have h : ∃ c : Bk, c.ds = b.ds := ⟨b, rfl⟩
  unfold bndD
  rw [dif_pos h, Bk.ds_inj _ _ (Classical.choose_spec h)]
/-- what program_error tells of any value -/
noncomputable def perrD : PyData → PyData
  | .tuple ds => perrS (bndD ds) (atD 0 ds) 0
  | _ => .tuple [.none, .str "program"]
/-- all that waits is right, if all that is left is -/
def Gw (ws : List (Int × PyData)) : Prop := ∀ x ∈ ws, 0 ≤ x.1 ∧ x.1 ≤ 3 ∧ rtD (3 - x.1).toNat x.2
theorem Gw.step {d : Int} {x : PyData} {ws : List (Int × PyData)} (h0 : 0 ≤ d) (h3 : ¬ 3 < d) (hx : stB x = true) (h : Gw (kidD (blD x) (d + 1) ++ ws)) : Gw ((d, x) :: ws) := fun y hy => by
  rcases List.mem_cons.1 hy with rfl | hy
  · refine ⟨h0, by omega, ?_⟩
    have hk : ∀ b ∈ blD x, ∀ s ∈ b, d + 1 ≤ 3 ∧ rtD (3 - (d + 1)).toNat s := fun b hb s hs => by
      have hm : ((d + 1, s) : Int × PyData) ∈ kidD (blD x) (d + 1) ++ ws := List.mem_append_left _ (List.mem_flatten.mpr ⟨atD (d + 1) b, List.mem_map.mpr ⟨b, hb, rfl⟩, List.mem_map.mpr ⟨s, hs, rfl⟩⟩)
      have := h _ hm
      exact ⟨this.2.1, this.2.2⟩
    show rtD (3 - d).toNat x
    by_cases e : d = 3
    · subst e
      refine ⟨hx, fun b hb => ?_⟩
      cases b with
      | nil => rfl
      | cons s b => have := (hk _ hb s (List.mem_cons_self ..)).1; omega
    · rw [show (3 - d).toNat = (3 - (d + 1)).toNat + 1 by omega]
      exact ⟨hx, fun b hb s hs => (hk b hb s hs).2⟩
  · exact h y (List.mem_append_right _ hy)
theorem Gw.nil : Gw [] := fun _ h => by cases h
theorem Gw.bk {ds : List PyData} (h : Gw (atD 0 ds)) (hw : PyData.weightAll ds ≤ WB) : ∃ b : Bk, b.ds = ds ∧ b.fac 5 :=
  rtB_bk (n := 3) (fun s hs => (h (0, s) (List.mem_map.mpr ⟨s, hs, rfl⟩)).2.2) hw
/-- what waits, at a list of one's own -/
def prG (x : Int × PyData) : PyData := .tuple [.int x.1, x.2]
def StkG (N : List Addr) (H : Hp) (L : Addr) (ws : List (Int × PyData)) : Prop := ∃ vals : List V, H L = some (.lst vals.reverse) ∧ GdAll N H vals (ws.map prG)
theorem gdPair {N : List Addr} {H : Hp} {a : Addr} {i : Int} {x : V} {d : PyData} (h : H a = some (.tup [.int i, x])) (t : Gd N H x d) : Gd N H (.ref a) (prG (i, d)) := .tup h (.cons (.int i) (.cons t .nil))
theorem StkG.keep {N : List Addr} {H H' : Hp} {L : Addr} {ws : List (Int × PyData)} (h : StkG N H L ws) (s : Sx [] H H') : StkG N H' L ws := by
  obtain ⟨vals, h1, h2⟩ := h
  exact ⟨vals, s _ _ (by simp) h1, h2.keep s.kp0⟩
theorem StkG.push {N : List Addr} {H : Hp} {L : Addr} {ws : List (Int × PyData)} {x : V} {y : Int × PyData} (hL : L ∈ N) (h : StkG N H L ws) (t : Gd N H x (prG y)) : ∃ acc, H L = some (.lst acc) ∧ acc.length = ws.length ∧ StkG N (upd H L (.lst (acc ++ [x]))) L (y :: ws) := by
  obtain ⟨vals, h1, h2⟩ := h
  have e := h2.len
  rw [List.length_map] at e
  refine ⟨_, h1, by rw [List.length_reverse, e], x :: vals, by rw [upd_same, List.reverse_cons], ?_⟩
  exact .cons (t.keep (Kp.own h1 hL)) (h2.keep (Kp.own h1 hL))
theorem StkG.pop {N : List Addr} {H : Hp} {L : Addr} {ws : List (Int × PyData)} {y : Int × PyData} (hL : L ∈ N) (h : StkG N H L (y :: ws)) : ∃ (acc : List V) (a : Addr) (x : V), H L = some (.lst acc) ∧ acc[acc.length - 1]? = some (.ref a) ∧ H a = some (.tup [.int y.1, x]) ∧ Gd N H x y.2 ∧ StkG N (upd H L (.lst acc.dropLast)) L ws ∧ acc.length = ws.length + 1 := by
  obtain ⟨vals, h1, h2⟩ := h
  cases h2 with
  | cons h3 h4 =>
    rename_i v vs
    obtain ⟨a, xs, rfl, ha, hx⟩ := h3.tuple
    cases hx with | cons h5 hx => cases hx with | cons h6 hx => cases hx with | nil =>
    cases h5
    have e := h4.len
    rw [List.length_map] at e
    refine ⟨_, a, _, h1, ?_, ha, h6, ⟨vs, by rw [upd_same, List.reverse_cons, List.dropLast_concat], h4.keep (Kp.own h1 hL)⟩, by rw [List.length_reverse, List.length_cons, e]⟩
    rw [List.reverse_cons, List.length_append]
    simp
theorem StkG.nil_ {N : List Addr} {H : Hp} {L : Addr} (h : StkG N H L []) : H L = some (.lst []) := by
  obtain ⟨vals, h1, h2⟩ := h
  cases h2
  exact h1
mutual
/-- what is free is none of its lists -/
theorem Gd.fresh {N : List Addr} {H : Hp} {p : Addr} (n : H p = none) : ∀ {v : V} {d : PyData}, Gd N H v d → Gd (p :: N) H v d
  | _, _, .non => .non
  | _, _, .bl b => .bl b
  | _, _, .int i => .int i
  | _, _, .str x => .str x
  | _, _, .tup h a => .tup h (GdAll.fresh n a)
  | _, _, .lst h m o a => .lst h (fun z => (List.mem_cons.1 z).elim (fun e => by rw [e, n] at h; cases h) m) o (GdAll.fresh n a)
  | _, _, .dic kvs h m => .dic kvs h (fun z => (List.mem_cons.1 z).elim (fun e => by rw [e, n] at h; cases h) m)
theorem GdAll.fresh {N : List Addr} {H : Hp} {p : Addr} (n : H p = none) : ∀ {vs : List V} {ds : List PyData}, GdAll N H vs ds → GdAll (p :: N) H vs ds
  | _, _, .nil => .nil
  | _, _, .cons a b => .cons (Gd.fresh n a) (GdAll.fresh n b)
end
/-! ### program_error of any value -/
def spBlocksG : Sp := fun vs H Q _ => ∃ (N : List Addr) (v : V) (d : PyData), vs = [v] ∧ Gd N H v d ∧ stB d = true ∧ ∀ H' v', Sx [] H H' → Gd N H' v' (.tuple ((blD d).map PyData.tuple)) → Q v' H'
def reBsG (K : PySem.W.Frag) : TS := tSeq (tAug 2 (tC (.int 1)) (ipI fun i j => i + j)) (tFor (iTup K (tRevT K (tCall spBlocksG [] E0 (tCons (tVar 4) tNil)))) (gName 5) (tFor (iTup K (tRevT K (tVar 5))) (gName 6) (tDrop (tBM K "list" rAppend (tVar 1) (tCons (tTup (tCons (tOp (rI0 fun i j => .int (i + j)) (tVar 3) (tC (.int 1))) (tCons (tVar 6) tNil))) tNil)))))
theorem rowsEachG {P : Program} {w : World} {K : PySem.W.Frag} {mg : Str → Option Value} {base : Heap} {f fE fB : Addr} {fdB : FuncData} {N0 : List Str} {q0 : Str} {sc0 : Scope} (F_pblocks_of : Fun K "blocks_of" "blocks_of" sPBlocksOf fB fdB) (G_pblocks_of : FnOk P w K mg base CX0 1 fB fdB ["statement"] spBlocksG) (b_pblocks_of : Binds K fdB ["statement"] []) (m_pblocks_of : mg "blocks_of" = some (.ref fB)) (cdv : Value) (A : Around) (outer : List Env) (s0 : Shared) (H0 : Hp) (E : XK) (n : Addr) (cd : Value) (pn : List (Addr × Obj)) (s : Shared) (H : Hp)
    (hr : Room 1 ((cxOf CX0 P w K mg base N0 q0 sc0 f cdv A outer s0 H0 E).nox.A.in1.deeper (envOfC "each_statement" (defScope sPEachStatement) n fE cd))) :
    GenRows (cxOf CX0 P w K mg base N0 q0 sc0 f cdv A outer s0 H0 E).nox nPEachStatement "each_statement" (defScope sPEachStatement) fE ((defBody sPEachStatement).take 2) ((gWB sPEachStatement).take 1) ((gWB sPEachStatement).drop 2) (gWT sPEachStatement) (gYe sPEachStatement 1) (rePre K) (reTest K) (reAs K) reYe (reBsG K) n cd pn s H := ⟨(pss_cons (ps_setLc (i := 1) (own := [("statement", 4)]) (g := gName 4) (tt := tYes) rfl scPEachStatement.nd rfl rfl (sw_true rfl rfl rfl (by decide +kernel)) (pi_tup (pe_revT (pv 0))) (blkOk_by (N := nPEachStatement) (sc := defScope sPEachStatement) (by decide +kernel)) (fun _ _ _ _ _ => (pg_name (i := 4) scPEachStatement.nd rfl (by first | exact Or.inl rfl | exact Or.inr rfl))) (fun _ _ _ _ _ => pts_nil) (fun _ _ _ _ _ => (pe_tup (pa_cons pe_int (pa_cons (pv 4) pa_nil)))))
      (pss_one (ps_set (i := 2) scPEachStatement.nd rfl (by first | exact Or.inl rfl | exact Or.inr rfl) pe_int))), (pt_truth (pv 1) (fun _ => rfl)), (pss_one (ps_asg (pe_bm0 PySem.F.plainAttrs_list PySem.F.slot_list_pop PySem.F.type_list_pop mt_pop (pv 1)) (pg_tup rfl (pgs_cons (pg_name (i := 3) scPEachStatement.nd rfl (by first | exact Or.inl rfl | exact Or.inr rfl)) (pgs_cons (pg_name (i := 4) scPEachStatement.nd rfl (by first | exact Or.inl rfl | exact Or.inr rfl)) pgs_nil))))), (pe_tup (pa_cons (pv 2) (pa_cons (pv 3) (pa_cons (pv 4) pa_nil)))), (pss_cons (ps_aug (i := 2) scPEachStatement.nd rfl (.inl rfl) pe_int ip_add)
      (pss_one (ps_for PassesOwn.never rfl (pi_tup (pe_revT (pe_call G_pblocks_of (hr.mono (by omega)) (by rfl) m_pblocks_of F_pblocks_of.kp b_pblocks_of .nil pass0 (pa_cons (pv 4) pa_nil)))) (pg_name (i := 5) scPEachStatement.nd rfl (by first | exact Or.inl rfl | exact Or.inr rfl)) (pss_one (ps_for PassesOwn.never rfl (pi_tup (pe_revT (pv 5))) (pg_name (i := 6) scPEachStatement.nd rfl (by first | exact Or.inl rfl | exact Or.inr rfl)) (pss_one (ps_expr (pe_bm PySem.F.plainAttrs_list PySem.F.slot_list_append PySem.F.type_list_append mt_append (pv 1) (pa_cons (pe_tup (pa_cons (pe_op op_add (pv 3) pe_int) (pa_cons (pv 6) pa_nil))) pa_nil)))))))))⟩
theorem kid_len (d : Int) (l : List (List PyData)) : (kidD l d).length ≤ (l.map PyData.weightAll).sum := by
  have := wS_len (kidD l d)
  rwa [wS_kid] at this
theorem kid_cons (b : List PyData) (l : List (List PyData)) (d : Int) : kidD (b :: l) d = atD d b ++ kidD l d := rfl
theorem sum_dropN (l : List Nat) (n : Nat) : (l.drop n).sum ≤ l.sum := by
  have e := congrArg List.sum (List.take_append_drop n l)
  rw [List.sum_append] at e
  omega
theorem Ex.plain : ∀ e : Ex, plainD e.d = true
  | .int _ => by simp only [Ex.d, plainD]
  | .name _ => by simp only [Ex.d, plainD]
  | .plus x y => by simp only [Ex.d, plainD, plainL, Ex.plain x, Ex.plain y, Bool.and_self]
  | .minus x y => by simp only [Ex.d, plainD, plainL, Ex.plain x, Ex.plain y, Bool.and_self]
  | .times f x => by simp only [Ex.d, plainD, plainL, Ex.plain x, Bool.and_self]
theorem Ts.plain : ∀ e : Ts, plainD e.d = true
  | .rest x _ _ => by simp only [Ts.d, plainD, plainL, x.plain, Bool.and_self]
  | .less x y => by simp only [Ts.d, plainD, plainL, x.plain, y.plain, Bool.and_self]
  | .not t => by simp only [Ts.d, plainD, plainL, Ts.plain t, Bool.and_self]
mutual
theorem St.plain : ∀ s : St, plainD s.d = true
  | .set _ e => by simp only [St.d, plainD, plainL, e.plain, Bool.and_self]
  | .pay e => by simp only [St.d, plainD, plainL, e.plain, Bool.and_self]
  | .stop => by simp only [St.d, plainD, plainL, Bool.and_self]
  | .ite t y n => by simp only [St.d, plainD, plainL, t.plain, Bk.plain y, Bk.plain n, Bool.and_self]
  | .rep _ y => by simp only [St.d, plainD, plainL, Bk.plain y, Bool.and_self]
theorem Bk.plain : ∀ b : Bk, plainL b.ds = true
  | .nil => by simp only [Bk.ds, plainL]
  | .cons s b => by simp only [Bk.ds, plainL, St.plain s, Bk.plain b, Bool.and_self]
end
def spPEG (PW PT : Addr) : Sp := fun vs H Q _ => ∃ (N : List Addr) (v : V) (d : PyData), vs = [v] ∧ Gd N H v d ∧ d.weight ≤ WB ∧ LamX.Tabs (TL PW PT) H ∧ ∀ H' r, Sx [PW, PT] H H' → LamX.Tabs (TL PW PT) H' → Tp H' r (perrD d) → Q r H'
section
variable {w : World} {P : Program} {K : PySem.W.Frag} {mg : Str → Option Value} {base : Heap}
theorem ok_gblocks {f : Addr} {fd : FuncData} {k : Nat} (F_pblocks_of : Fun K "blocks_of" "blocks_of" sPBlocksOf f fd) : FnOk P w K mg base CX0 (k + 1) f fd ["statement"] spBlocksG := by
  refine F_pblocks_of.ok scPBlocksOf (fun vs H Q E h => ?_) (fun cdv A outer s H vs Q E hr h => ?_)
  · obtain ⟨_, _, _, rfl, _⟩ := h
    rfl
  · obtain ⟨N, v, d, rfl, t, hst, q⟩ := h
    refine ⟨_, (pss_cons (ps_if (pt_cmpR op_eq (pe_ix ix_tup (pv 0) pe_int (fun _ _ => rfl)) pe_str (nomark _)) (pss_one (ps_ret (pe_tup (pa_cons (pe_ix ix_tup (pv 0) pe_int (fun _ _ => rfl)) (pa_cons (pe_ix ix_tup (pv 0) pe_int (fun _ _ => rfl)) pa_nil))))) pss_nil)
      (pss_cons (ps_if (pt_cmpR op_eq (pe_ix ix_tup (pv 0) pe_int (fun _ _ => rfl)) pe_str (nomark _)) (pss_one (ps_ret (pe_tup (pa_cons (pe_ix ix_tup (pv 0) pe_int (fun _ _ => rfl)) pa_nil)))) pss_nil)
      (pss_one (ps_ret (pe_tup pa_nil))))), ?_⟩
    rcases stB_inv hst with rfl | ⟨x, rfl, _⟩ | ⟨x, y, rfl, _⟩ | ⟨k, y, rfl, _⟩ | ⟨t', y, z, rfl, _⟩
    · obtain ⟨a, p, rfl, ha, t1⟩ := gd1 t
      cases t1
      refine ⟨_, rfl, a, _, _, _, rfl, rfl, SqT.of ha, rfl, rfl, _, rfl, iteN (by decide +kernel) ⟨_, rfl, a, _, _, _, rfl, rfl, SqT.of ha, rfl, rfl, _, rfl, iteN (by decide +kernel) ⟨by show 0 ≤ sizeLine; decide, fun p' hp' => ?_⟩⟩⟩
      exact q _ _ (Sx.n0 hp') (.tup upd_same .nil)
    · obtain ⟨a, p, u, rfl, ha, t1, _⟩ := gd2 t
      cases t1
      refine ⟨_, rfl, a, _, _, _, rfl, rfl, SqT.of ha, rfl, rfl, _, rfl, iteN (by decide +kernel) ⟨_, rfl, a, _, _, _, rfl, rfl, SqT.of ha, rfl, rfl, _, rfl, iteN (by decide +kernel) ⟨by show 0 ≤ sizeLine; decide, fun p' hp' => ?_⟩⟩⟩
      rw [blD2] at q
      exact q _ _ (Sx.n0 hp') (.tup upd_same .nil)
    · obtain ⟨a, p, u, y', rfl, ha, t1, _, _⟩ := gd3 t
      cases t1
      refine ⟨_, rfl, a, _, _, _, rfl, rfl, SqT.of ha, rfl, rfl, _, rfl, iteN (by decide +kernel) ⟨_, rfl, a, _, _, _, rfl, rfl, SqT.of ha, rfl, rfl, _, rfl, iteN (by decide +kernel) ⟨by show 0 ≤ sizeLine; decide, fun p' hp' => ?_⟩⟩⟩
      have e : blD (.tuple [.str "set", x, y]) = [] := by
        cases y <;> simp only [blD]
        rw [(if_neg (by decide +kernel))]
      rw [e] at q
      exact q _ _ (Sx.n0 hp') (.tup upd_same .nil)
    · obtain ⟨a, p, u, y', rfl, ha, t1, _, t3⟩ := gd3 t
      cases t1
      refine ⟨_, rfl, a, _, _, _, rfl, rfl, SqT.of ha, rfl, rfl, _, rfl, iteN (by decide +kernel) ⟨_, rfl, a, _, _, _, rfl, rfl, SqT.of ha, rfl, rfl, _, rfl, iteP (by decide +kernel) ⟨_, rfl, a, _, _, y', rfl, rfl, SqT.of ha, rfl, by show 1 ≤ sizeLine; decide, fun p' hp' => ?_⟩⟩⟩
      rw [blD3, if_pos rfl] at q
      exact q _ _ (Sx.n0 hp') (.tup upd_same (.cons (t3.new hp') .nil))
    · obtain ⟨a, p, u, y', n', rfl, ha, t1, _, t3, t4⟩ := gd4 t
      cases t1
      refine ⟨_, rfl, a, _, _, _, rfl, rfl, SqT.of ha, rfl, rfl, _, rfl, iteP (by decide +kernel) ⟨_, rfl, a, _, _, y', rfl, rfl, SqT.of ha, rfl, _, rfl, a, _, _, n', rfl, rfl, SqT.of ha, rfl, by show 2 ≤ sizeLine; decide, fun p' hp' => ?_⟩⟩
      rw [blD4, if_pos rfl] at q
      exact q _ _ (Sx.n0 hp') (.tup upd_same (.cons (t3.new hp') (.cons (t4.new hp') .nil)))
theorem ok_gperr {f fE fB fS fR : Addr} {fd fdE fdB fdS fdR : FuncData} {PW PT : Addr} {t1 : Tok} (F_pprogram_error : Fun K "program_error" "program_error" sPProgramError f fd) (F_peach_statement : Fun K "each_statement" "each_statement" sPEachStatement fE fdE) (F_pblocks_of : Fun K "blocks_of" "blocks_of" sPBlocksOf fB fdB) (F_pis_statement : Fun K "is_statement" "is_statement" sPIsStatement fS fdS) (F_pbound_error : Fun K "bound_error" "bound_error" sPBoundError fR fdR)
    (G_pblocks_of : FnOk P w K mg base CX0 1 fB fdB ["statement"] spBlocksG) (G_pis_statement : FnOk P w K mg base CX0 11 fS fdS ["value"] spStG) (G_pbound_error : FnOk P w K mg base CX0 12 fR fdR ["program"] (spBound PW PT 5))
    (b_peach_statement : Binds K fdE ["program"] []) (b_pblocks_of : Binds K fdB ["statement"] []) (b_pis_statement : Binds K fdS ["value"] []) (b_pbound_error : Binds K fdR ["program"] [])
    (m_peach_statement : mg "each_statement" = some (.ref fE)) (m_pblocks_of : mg "blocks_of" = some (.ref fB)) (m_pis_statement : mg "is_statement" = some (.ref fS)) (m_pbound_error : mg "bound_error" = some (.ref fR))
    (m_MAX_NEST : mg "MAX_NEST" = some (.int 3 t1)) (z_isinstance : mg "isinstance" = none) (z_tuple : mg "tuple" = none) : FnOk P w K mg base CX0 17 f fd ["value"] (spPEG PW PT) := by
  refine F_pprogram_error.ok scPProgramError (fun vs H Q E h => ?_) (fun cdv A outer s H vs Q E hr h => ?_)
  · obtain ⟨_, _, _, rfl, _⟩ := h
    rfl
  · obtain ⟨N, v, d, rfl, t, hw, hT, q⟩ := h
    refine ⟨_, (pss_cons (ps_if (pt_not (pt_val (pe_callB call_isi (by rfl) z_isinstance (by decide +kernel) (pa_cons (pv 0) (pa_cons (pe_bltn (v := .ty "tuple") (by rfl) z_tuple (by decide +kernel) rfl) pa_nil))))) (pss_one (ps_ret (pe_tup (pa_cons pe_non (pa_cons pe_str pa_nil))))) pss_nil)
      (C8.pss_cut (ps_forGen (k := 1) (pre := (defBody sPEachStatement).take 2) (test := gWT sPEachStatement) (as := (gWB sPEachStatement).take 1) (ye := gYe sPEachStatement 1) (bs := (gWB sPEachStatement).drop 2) F_peach_statement scPEachStatement ncEach (by rfl) (fun n cd pn s H hr => rowsEachG F_pblocks_of G_pblocks_of b_pblocks_of m_pblocks_of cdv A outer _ _ E n cd pn s H hr) (hr.mono (by omega)) (fun _ _ z => z) (by rfl) m_peach_statement F_peach_statement.kp b_peach_statement (pa_cons (pv 0) pa_nil) (pg_tup rfl (pgs_cons (pg_name (i := 1) scPProgramError.nd rfl (by first | exact Or.inl rfl | exact Or.inr rfl)) (pgs_cons (pg_name (i := 2) scPProgramError.nd rfl (by first | exact Or.inl rfl | exact Or.inr rfl)) (pgs_cons (pg_name (i := 3) scPProgramError.nd rfl (by first | exact Or.inl rfl | exact Or.inr rfl)) pgs_nil)))) (pss_cons (ps_if (pt_cmpR op_gt (pv 2) (pe_glob (v := .int 3) (by rfl) m_MAX_NEST ⟨_, rfl⟩) (nomark _)) (pss_one (ps_ret (pe_tup (pa_cons (pv 1) (pa_cons pe_str pa_nil))))) pss_nil)
      (pss_one (ps_if (pt_not (pt_val (pe_call G_pis_statement (hr.mono (by omega)) (by rfl) m_pis_statement F_pis_statement.kp b_pis_statement .nil pass0 (pa_cons (pv 3) pa_nil)))) (pss_one (ps_ret (pe_tup (pa_cons (pv 1) (pa_cons pe_str pa_nil))))) pss_nil))))
      (pss_one (ps_ret (pe_call G_pbound_error (hr.mono (by omega)) (by rfl) m_pbound_error F_pbound_error.kp b_pbound_error .nil pass0 (pa_cons (pv 0) pa_nil)))))), ?_⟩
    have t0 := t
    have WBe : WB = 1000000 := rfl
    refine ⟨_, rfl, _, _, _, _, _, rfl, .ty _, t.ty, kit_ty (kb_tuple d), _, rfl, ?_⟩
    cases hd : isTup d with
    | false =>
      refine iteT ⟨by show 2 ≤ sizeLine; decide, fun p hp => ?_⟩
      have e : perrD d = .tuple [.none, .str "program"] := by
        cases d with
        | tuple _ => cases hd
        | _ => rfl
      refine q _ _ (Sx.n0 hp).nil (Tabs.sx hT (Sx.n0 hp)) ?_
      rw [e]
      exact .tup upd_same (.cons .non (.cons (.str _) .nil))
    | true =>
    refine iteF ?_
    obtain ⟨ds, rfl⟩ := isTup_of hd
    rw [tw] at hw
    obtain ⟨a, xs, rfl, ha, hx⟩ := t.tuple
    have hl := hx.len
    have e0 : perrS (bndD ds) (atD 0 ds) 0 = perrD (.tuple ds) := rfl
    generalize hB : bndD ds = e at e0
    refine ⟨fun σ H' => ∃ o1 o2 o3, σ = [some (.ref a), o1, o2, o3] ∧ Sx [] H H' ∧ Gw (atD 0 ds) ∧ e = perrD (.tuple ds), ?_, ?_⟩
    · refine ⟨_, rfl, rfl, PyData.weightAll ds, fun m σg σc H' => ∃ (D : Addr) (ws : List (Int × PyData)) (k : Nat) (o3 o4 o5 o6 c1 c2 c3 : Option V), σg = [some (.ref a), some (.ref D), some (.int k), o3, o4, o5, o6] ∧ σc = [some (.ref a), c1, c2, c3] ∧ H D = none ∧ Sx [] H H' ∧ StkG (D :: N) H' D ws ∧ k + wS ws ≤ PyData.weightAll ds ∧ (Gw ws → Gw (atD 0 ds)) ∧ (∀ x ∈ ws, 0 ≤ x.1) ∧ perrS e ws k = perrD (.tuple ds) ∧ m = wS ws, ?_, ?_⟩
      · -- the first stack
        refine ⟨_, rfl, a, xs, rfl, SqT.of ha, fun p hp => ⟨p, rfl, ⟨_, SqT.of upd_same⟩, fun D hD => lc_tup (xs := xs.reverse)
          (fun i H1 => Sx [] H H1 ∧ H1 p = some (.tup xs.reverse) ∧ StkG (D :: N) H1 D (atD 0 (ds.drop (ds.length - i))))
          ⟨(Sx.n0 hp).trans (Sx.n0 hD), by rw [upd_ne (ne_of_none upd_same hD)]; exact upd_same, [], upd_same, by rw [Nat.sub_zero, List.drop_length]; exact .nil⟩ (fun i H1 _ z => SqT.of z.2.1) (fun i x H1 hi z => ?_) (fun H1 z => ?_)⟩⟩
        · obtain ⟨s1, hp1, hv⟩ := z
          obtain ⟨hi1, hi2⟩ := rev_get hi
          rw [hl] at hi1 hi2
          have hDn : H D = none := (Sx.n0 (o := .tup xs.reverse) hp).free (by simp) hD
          obtain ⟨st, hst, tst⟩ := (hx.fresh hDn).get hi2
          refine ⟨rfl, ?_⟩
          refine ⟨_, rfl, by show 2 ≤ sizeLine; decide, fun u hu => ?_⟩
          have bl := wA_len ds
          have su : Sx [] H1 (upd H1 u (.tup [.int 0, x])) := Sx.n0 hu
          obtain ⟨acc, e1, e2, e3⟩ := (hv.keep su).push (x := .ref u) (y := (0, st)) (List.mem_cons_self ..) (gdPair upd_same ((tst.keep s1.kp0).new hu))
          have npD : p ≠ D := ne_of_none upd_same hD
          refine ⟨acc, e1, lt_line (by rw [e2]; unfold atD; rw [List.length_map, List.length_drop]; omega), (s1.new hu).own hDn, ?_, ?_⟩
          · rw [upd_ne npD]; exact su _ _ (by simp) hp1
          · rw [drop_back hi1 hst]; exact e3
        · obtain ⟨s1, _, hv⟩ := z
          have hDn : H D = none := (Sx.n0 (o := .tup xs.reverse) hp).free (by simp) hD
          rw [List.length_reverse, hl, Nat.sub_self, List.drop_zero] at hv
          exact ⟨PyData.weightAll ds, Nat.le_refl _, D, atD 0 ds, 0, _, _, _, _, _, _, _, rfl, rfl, hDn, s1, hv, by rw [wS_at]; omega, fun z => z, fun x hx => by obtain ⟨y, _, rfl⟩ := List.mem_map.mp hx; exact Int.le_refl _, e0, (wS_at 0 ds).symm⟩
      · rintro m σg σc H' ⟨D, ws, k, o3, o4, o5, o6, c1, c2, c3, rfl, rfl, hDn, s2, hs, hk, hG, hd0, hpe, rfl⟩
        have hDN : D ∈ D :: N := List.mem_cons_self ..
        cases ws with
        | nil =>
          refine ⟨_, rfl, false, .inl ⟨_, SqL.of hs.nil_, rfl⟩, iteF ?_⟩
          exact ⟨_, _, _, rfl, s2, hG Gw.nil, hpe⟩
        | cons y ws =>
          obtain ⟨d, st⟩ := y
          obtain ⟨acc, c, x, e1, e2, e3, e4, e5, e6⟩ := hs.pop hDN
          have hk : k + (st.weight + 1 + wS ws) ≤ PyData.weightAll ds := hk
          have wle := wS_len ws
          have d0 : 0 ≤ d := hd0 _ (List.mem_cons_self ..)
          rw [perrS_cons] at hpe
          refine ⟨_, rfl, true, .inl ⟨_, SqL.of e1, ?_⟩, iteT ?_⟩
          · cases acc with
            | nil => simp at e6
            | cons _ _ => rfl
          refine ⟨_, rfl, .inl ⟨rfl, _, SqL.of e1⟩, D, _, _, rfl, rfl, e1, e2, ?_⟩
          have k1 : Kp (D :: N) H' (upd H' D (.lst acc.dropLast)) := Kp.own e1 hDN
          refine gh (H1 := upd H' D (.lst acc.dropLast)) (F := fun H2 => Sx [] H H2 ∧ Kp (D :: N) H' H2 ∧ StkG (D :: N) H2 D ws) ⟨s2.own hDn, k1, e5⟩ (fun H2 ⟨s3, k1, e5⟩ => ?_)
          refine ⟨c, _, rfl, SqT.of (k1.t _ _ e3), rfl, _, _, rfl, gnm ⟨_, _, rfl, gnm ⟨rfl, ?_⟩⟩⟩
          refine ⟨_, rfl, _, rfl, _, rfl, by show 3 ≤ sizeLine; decide, fun u hu => ?_⟩
          have su : Sx [] H2 (upd H2 u (.tup [.int k, .int d, x])) := Sx.n0 hu
          have tx : Gd (D :: N) (upd H2 u (.tup [.int k, .int d, x])) x st := (e4.keep k1).new hu
          have eu : (upd H2 u (.tup [.int k, .int d, x])) u = some (.tup [.int k, .int d, x]) := upd_same
          refine gh (H1 := upd H2 u (.tup [.int k, .int d, x])) (F := fun H3 => Sx [] H H3 ∧ StkG (D :: N) H3 D ws ∧ Gd (D :: N) H3 x st ∧ H3 u = some (.tup [.int k, .int d, x])) ⟨s3.trans su, e5.keep su, tx, eu⟩ (fun H3 ⟨s4, e7, e8, eu⟩ => ?_)
          -- the consumer's turn
          refine ⟨fun σ3 H5 => σ3 = [some (.ref a), some (.int k), some (.int d), some x] ∧ Sx [] H H5 ∧ StkG (D :: N) H5 D ws ∧ Gd (D :: N) H5 x st ∧ d ≤ 3 ∧ stB st = true ∧ perrS e (kidD (blD st) (d + 1) ++ ws) (k + 1) = perrD (.tuple ds), ?_, ?_⟩
          · refine ⟨u, _, rfl, SqT.of eu, rfl, _, _, rfl, gnm ⟨_, _, rfl, gnm ⟨_, _, rfl, gnm ⟨rfl, ?_⟩⟩⟩⟩
            refine ⟨_, rfl, _, 3, rfl, rfl, _, rfl, ite2 (fun e => ?_) (fun e => ?_)⟩
            · refine ⟨_, rfl, by show 2 ≤ sizeLine; decide, fun p hp => ?_⟩
              have e' : (3 : Int) < d := of_decide_eq_true e
              refine q _ _ (s4.new hp).nil (Tabs.sx hT (s4.new hp)) ?_
              rw [← hpe, if_pos e']
              exact .tup upd_same (.cons (.int _) (.cons (.str _) .nil))
            · have e' : ¬ (3 : Int) < d := fun z => e (decide_eq_true z)
              rw [if_neg e'] at hpe
              refine ⟨_, rfl, _, x, st, rfl, e8, by omega, fun H4 s5 => ⟨_, rfl, ?_⟩⟩
              cases hb : stB st with
              | false =>
                rw [if_pos hb] at hpe
                refine iteT ⟨_, rfl, by show 2 ≤ sizeLine; decide, fun p hp => ?_⟩
                refine q _ _ ((s4.trans s5).new hp).nil (Tabs.sx hT ((s4.trans s5).new hp)) ?_
                rw [← hpe]
                exact .tup upd_same (.cons (.int _) (.cons (.str _) .nil))
              | true =>
                rw [if_neg (by rw [hb]; simp)] at hpe
                exact iteF ⟨rfl, s4.trans s5, e7.keep s5, e8.keep s5.kp0, by omega, rfl, hpe⟩
          · rintro _ H5 ⟨rfl, s5, hs5, t5, hd3, hb, hpe5⟩
            -- what lies in it
            have hw5 := wB_blD hb
            refine Exists.intro _ ⟨rfl, _, _, rfl, rfl, ?_⟩
            refine ⟨_, rfl, _, x, st, rfl, t5, hb, fun H4 v4 s6 t4 => ?_⟩
            obtain ⟨a4, xs4, rfl, ha4, hx4⟩ := t4.tuple
            have hl4 := hx4.len
            rw [List.length_map] at hl4
            refine ⟨a4, xs4, rfl, SqT.of ha4, fun p4 hp4 => ⟨p4, rfl, ⟨_, SqT.of upd_same⟩, for_tup (xs := xs4.reverse)
              (fun i σ H5 => ∃ o5 o6, σ = [some (.ref a), some (.ref D), some (.int (k + 1)), some (.int d), some x, o5, o6] ∧ Sx [] H H5 ∧ H5 p4 = some (.tup xs4.reverse) ∧ Kp (D :: N) H4 H5 ∧ StkG (D :: N) H5 D (kidD ((blD st).drop ((blD st).length - i)) (d + 1) ++ ws))
              ⟨_, _, rfl, (s5.trans s6).new hp4, upd_same, (Sx.n0 hp4).kp0, by rw [Nat.sub_zero, List.drop_length]; exact (hs5.keep s6).keep (Sx.n0 hp4)⟩ (fun i σ H5 _ z => by obtain ⟨_, _, _, _, z, _⟩ := z; exact SqT.of z) (fun i y σ H5 hi z => ?_) (fun σ H5 z => ?_)⟩⟩
            · obtain ⟨o5, o6, rfl, s6, hp5, k5, hs5⟩ := z
              obtain ⟨hi1, hi2⟩ := rev_get hi
              rw [hl4] at hi1 hi2
              obtain ⟨bk', hbk', tbk⟩ := hx4.get hi2
              rw [List.getElem?_map] at hbk'
              obtain ⟨bk, hbk, rfl⟩ := Option.map_eq_some_iff.mp hbk'
              refine gnm ?_
              obtain ⟨a6, xs6, rfl, ha6, hx6⟩ := (tbk.keep k5).tuple
              have hl6 := hx6.len
              rw [drop_back hi1 hbk]
              have kl : (kidD ((blD st).drop ((blD st).length - i)) (d + 1)).length + PyData.weightAll bk + 1 ≤ st.weight := by
                have h1 := kid_len (d + 1) ((blD st).drop ((blD st).length - i))
                have h3 := sum_dropN ((blD st).map PyData.weightAll) ((blD st).length - (i + 1))
                rw [← List.map_drop, drop_back hi1 hbk, List.map_cons, List.sum_cons] at h3
                omega
              have bl6 := wA_len bk
              refine ⟨_, rfl, a6, xs6, rfl, SqT.of ha6, fun p6 hp6 => ⟨p6, rfl, ⟨_, SqT.of upd_same⟩, for_tup (xs := xs6.reverse)
                (fun j σ H6 => ∃ o6, σ = [some (.ref a), some (.ref D), some (.int (k + 1)), some (.int d), some x, some (.ref a6), o6] ∧ Sx [] H H6 ∧ H6 p4 = some (.tup xs4.reverse) ∧ H6 p6 = some (.tup xs6.reverse) ∧ Kp (D :: N) H5 H6 ∧ StkG (D :: N) H6 D (atD (d + 1) (bk.drop (bk.length - j)) ++ (kidD ((blD st).drop ((blD st).length - i)) (d + 1) ++ ws)))
                ⟨_, rfl, s6.new hp6, Sx.n0 hp6 _ _ (by simp) hp5, upd_same, (Sx.n0 hp6).kp0, by rw [Nat.sub_zero, List.drop_length]; exact hs5.keep (Sx.n0 hp6)⟩ (fun j σ H6 _ z => by obtain ⟨_, _, _, _, z, _⟩ := z; exact SqT.of z) (fun j y2 σ H6 hj z => ?_) (fun σ H6 z => ?_)⟩⟩
              · obtain ⟨o6, rfl, s7, hp6a, hp6b, k6, hs6⟩ := z
                obtain ⟨hj1, hj2⟩ := rev_get hj
                rw [hl6] at hj1 hj2
                obtain ⟨st2, hst2, tst2⟩ := hx6.get hj2
                refine gnm ?_
                obtain ⟨L6, hL6, _⟩ := id hs6
                refine ⟨_, rfl, .inl ⟨rfl, _, SqL.of hL6⟩, _, rfl, d, 1, rfl, rfl, _, rfl, by show 2 ≤ sizeLine; decide, fun u2 hu2 => ?_⟩
                obtain ⟨acc2, g1, g2, g3⟩ := (hs6.keep (Sx.n0 hu2)).push (x := .ref u2) (y := (d + 1, st2)) hDN (gdPair upd_same ((tst2.keep k6).new hu2))
                have alen : (atD (d + 1) (bk.drop (bk.length - j))).length ≤ bk.length := by unfold atD; rw [List.length_map, List.length_drop]; omega
                refine ⟨D, _, _, rfl, rfl, g1, lt_line (by rw [g2, List.length_append, List.length_append]; omega), ?_⟩
                have kk : Kp (D :: N) H6 (upd (upd H6 u2 (.tup [.int (d + 1), y2])) D (.lst (acc2 ++ [.ref u2]))) := (Sx.n0 hu2).kp0.trans (Kp.own g1 hDN)
                refine ⟨_, rfl, (s7.new hu2).own hDn, ?_, ?_, k6.trans kk, ?_⟩
                · exact kk.t _ _ hp6a
                · exact kk.t _ _ hp6b
                · rw [drop_back hj1 hst2]; exact g3
              · obtain ⟨o6, rfl, s7, hp6a, hp6b, k6, hs6⟩ := z
                rw [List.length_reverse, hl6, Nat.sub_self, List.drop_zero] at hs6
                refine ⟨_, _, rfl, s7, hp6a, k5.trans k6, ?_⟩
                rw [kid_cons, List.append_assoc]
                exact hs6
            · obtain ⟨o5, o6, rfl, s6, hp5, k5, hs5⟩ := z
              rw [List.length_reverse, hl4, Nat.sub_self, List.drop_zero] at hs5
              have e9 : ((k + 1 : Nat) : Int) = (k : Int) + 1 := by omega
              have szE : wS (kidD (blD st) (d + 1) ++ ws) + 1 ≤ st.weight + wS ws := by
                rw [wS_append, wS_kid]
                omega
              refine ⟨_, ?_, D, kidD (blD st) (d + 1) ++ ws, k + 1, _, _, _, _, _, _, _, by rw [e9], rfl, hDn, s6, hs5, by omega, fun z => hG (Gw.step d0 (by omega) hb z), fun z hz => ?_, by rw [e9]; exact hpe5, rfl⟩
              · have e10 : ((d, st) : Int × PyData).2.weight = st.weight := rfl
                rw [wS_cons, e10]
                omega
              · rcases List.mem_append.1 hz with hz | hz
                · obtain ⟨l, hl1, hl2⟩ := List.mem_flatten.1 hz
                  obtain ⟨b, _, rfl⟩ := List.mem_map.mp hl1
                  obtain ⟨s, _, rfl⟩ := List.mem_map.mp hl2
                  show 0 ≤ d + 1
                  omega
                · exact hd0 z (List.mem_cons_of_mem _ hz)
    · rintro _ H1 ⟨o1, o2, o3, rfl, s1, hG, hpe⟩
      obtain ⟨b, rfl, hf⟩ := hG.bk hw
      have hsz := b.sz_w
      rw [bndD_ds] at hB
      subst hB
      have tt : Tp H (.ref a) (.tuple b.ds) := by
        refine t0.tp ?_
        simp only [plainD]
        exact Bk.plain b
      refine ⟨_, rfl, .ref a, b, rfl, tt.keep s1.tk0, hf, by omega, Tabs.sx hT s1, fun H2 r s2 hT2 tr => ?_⟩
      exact q H2 r (s1.nil.trans s2) hT2 (by rw [← hpe]; exact tr)
end
/-! ### the law's own walk, over values of any kind -/
theorem parts_st {x : PyData} (h : stB x = true) : ∃ z ds, x = .tuple (.str z :: ds) ∧ ptsG z ds = (blD x).map PyData.tuple := by
  rcases stB_inv h with rfl | ⟨e, rfl, _⟩ | ⟨a, e, rfl, _⟩ | ⟨k, y, rfl, _⟩ | ⟨t, y, n, rfl, _⟩
  · exact ⟨"stop", [], rfl, by rw [blD1]; unfold ptsG; rw [if_neg (by decide +kernel)]; rfl⟩
  · exact ⟨"pay", _, rfl, by rw [blD2]; unfold ptsG; rw [if_neg (by decide +kernel)]; rfl⟩
  · refine ⟨"set", _, rfl, ?_⟩
    have eb : blD (.tuple [.str "set", a, e]) = [] := by
      cases e <;> simp only [blD]
      rw [(if_neg (by decide +kernel))]
    rw [eb]
    unfold ptsG
    rw [(if_neg (by decide +kernel))]
    rfl
  · exact ⟨"repeat", _, rfl, by rw [blD3, if_pos rfl]; unfold ptsG; rw [if_pos (.inr rfl)]; rfl⟩
  · exact ⟨"if", _, rfl, by rw [blD4, if_pos rfl]; unfold ptsG; rw [if_pos (.inl rfl)]; rfl⟩
theorem GdAll.revG {N : List Addr} {H : Hp} {vs : List V} {ds : List PyData} (h : GdAll N H vs ds) : GdAll N H vs.reverse ds.reverse := h.rev
theorem StkG.anti {N M : List Addr} {H : Hp} {L : Addr} {ws : List (Int × PyData)} (h : StkG N H L ws) (k : ∀ b ∈ M, b ∈ N) : StkG M H L ws := by
  obtain ⟨vals, h1, h2⟩ := h
  exact ⟨vals, h1, h2.anti k⟩
theorem StkG.fresh {N : List Addr} {H : Hp} {L p : Addr} {ws : List (Int × PyData)} (h : StkG N H L ws) (n : H p = none) : StkG (p :: N) H L ws := by
  obtain ⟨vals, h1, h2⟩ := h
  exact ⟨vals, h1, h2.fresh n⟩
theorem StkG.ext {N : List Addr} {H : Hp} {L : Addr} {ws es : List (Int × PyData)} {ys : List V} (hL : L ∈ N) (h : StkG N H L ws) (t : GdAll N H ys (es.map prG)) : ∃ acc, H L = some (.lst acc) ∧ acc.length = ws.length ∧ StkG N (upd H L (.lst (acc ++ ys.reverse))) L (es ++ ws) := by
  obtain ⟨vals, h1, h2⟩ := h
  have e := h2.len
  rw [List.length_map] at e
  refine ⟨_, h1, by rw [List.length_reverse, e], ys ++ vals, by rw [upd_same, List.reverse_append], ?_⟩
  rw [List.map_append]
  exact (t.keep (Kp.own h1 hL)).append (h2.keep (Kp.own h1 hL))
theorem StkG.ls {N : List Addr} {H : Hp} {L Z : Addr} {ws : List (Int × PyData)} {xs : List V} {zs : List V} (h : StkG N H L ws) (hz : H Z = some (.lst xs)) (m : Z ∈ N) (n : L ≠ Z) : StkG N (upd H Z (.lst zs)) L ws := by
  obtain ⟨vals, h1, h2⟩ := h
  exact ⟨vals, by rw [upd_ne n]; exact h1, h2.keep (Kp.own hz m)⟩
def spLErrG : Sp := fun vs H Q _ => ∃ (N : List Addr) (v : V) (d : PyData), vs = [v] ∧ Gd N H v d ∧ d.weight ≤ WB ∧ ∀ H' r, Sx [] H H' → Tp H' r (perrD d) → Q r H'
section
variable {w : World} {P : Program} {K : PySem.W.Frag} {mg : Str → Option Value} {base : Heap}
theorem ok_glerr {f fS fP fC : Addr} {fd fdS fdP fdC : FuncData} (F_error : Fun K "_law_error" "_law_error" sError f fd) (F_is_statement : Fun K "_law_is_statement" "_law_is_statement" sIsStatement fS fdS) (F_parts : Fun K "_law_parts" "_law_parts" sParts fP fdP) (F_counts : Fun K "_law_counts" "_law_counts" sCounts fC fdC)
    (G_is_statement : FnOk P w K mg base CX0 12 fS fdS ["_law_value_here"] spStG) (G_parts : FnOk P w K mg base CX0 1 fP fdP ["_law_row_here"] spPartsG) (G_counts : FnOk P w K mg base CX0 6 fC fdC ["_law_block_here"] (spCounts 5))
    (b_is_statement : Binds K fdS ["_law_value_here"] []) (b_parts : Binds K fdP ["_law_row_here"] []) (b_counts : Binds K fdC ["_law_block_here"] [])
    (m_is_statement : mg "_law_is_statement" = some (.ref fS)) (m_parts : mg "_law_parts" = some (.ref fP)) (m_counts : mg "_law_counts" = some (.ref fC)) (z_isinstance : mg "isinstance" = none) (z_tuple : mg "tuple" = none) (z_enumerate : mg "enumerate" = none) :
    FnOk P w K mg base CX0 13 f fd ["_law_value_here"] spLErrG := by
  refine F_error.ok scError (fun vs H Q E h => ?_) (fun cdv A outer s H vs Q E hr h => ?_)
  · obtain ⟨_, _, _, rfl, _⟩ := h
    rfl
  · obtain ⟨N, v, d, rfl, t, hw, q⟩ := h
    refine ⟨_, (pss_cons (ps_if (pt_not (pt_val (pe_callB call_isi (by rfl) z_isinstance (by decide +kernel) (pa_cons (pv 0) (pa_cons (pe_bltn (v := .ty "tuple") (by rfl) z_tuple (by decide +kernel) rfl) pa_nil))))) (pss_one (ps_ret (pe_tup (pa_cons pe_non (pa_cons pe_str pa_nil))))) pss_nil)
      (pss_cons (ps_par (i := 1) (j := 2) (by rfl) scError.nd rfl rfl (by decide) rfl rfl (pa_cons (pe_revL (pe_lc (own := [("_law_item", 10)]) (g := gName 10) (tt := tYes) rfl scError.nd (pi_tup (pv 0)) (blkOk_by (N := nError) (sc := defScope sError) (by decide +kernel)) (fun _ _ _ _ _ => (pg_name (i := 10) scError.nd rfl (by first | exact Or.inl rfl | exact Or.inr rfl))) (fun _ _ _ _ _ => pts_nil) (fun _ _ _ _ _ => (pe_tup (pa_cons pe_int (pa_cons (pv 10) pa_nil)))))) (pa_cons pe_int pa_nil)) (by rfl))
      (C8.pss_cut (ps_while PassesOwn.never (pt_cmpR (op_neL0 hr.units) (pv 1) (pe_lst pa_nil) (nomark _)) (pss_cons (ps_asg (pe_bm0 PySem.F.plainAttrs_list PySem.F.slot_list_pop PySem.F.type_list_pop mt_pop (pv 1)) (pg_tup rfl (pgs_cons (pg_name (i := 3) scError.nd rfl (by first | exact Or.inl rfl | exact Or.inr rfl)) (pgs_cons (pg_name (i := 4) scError.nd rfl (by first | exact Or.inl rfl | exact Or.inr rfl)) pgs_nil))))
      (pss_cons (ps_if (pt_cmpR op_gt (pv 3) pe_int (nomark _)) (pss_one (ps_ret (pe_tup (pa_cons (pv 2) (pa_cons pe_str pa_nil))))) pss_nil)
      (pss_cons (ps_if (pt_not (pt_val (pe_call G_is_statement (hr.mono (by omega)) (by rfl) m_is_statement F_is_statement.kp b_is_statement .nil pass0 (pa_cons (pv 4) pa_nil)))) (pss_one (ps_ret (pe_tup (pa_cons (pv 2) (pa_cons pe_str pa_nil))))) pss_nil)
      (pss_cons (ps_set (i := 5) scError.nd rfl (by first | exact Or.inl rfl | exact Or.inr rfl) (pe_lst pa_nil))
      (C8.pss_cut (ps_for PassesOwn.never rfl (pi_tup (pe_call G_parts (hr.mono (by omega)) (by rfl) m_parts F_parts.kp b_parts .nil pass0 (pa_cons (pv 4) pa_nil))) (pg_name (i := 6) scError.nd rfl (by first | exact Or.inl rfl | exact Or.inr rfl)) (pss_one (ps_expr (pe_bm PySem.F.plainAttrs_list PySem.F.slot_list_extend PySem.F.type_list_extend mt_extend (pv 5) (pa_cons (pe_lc (own := [("_law_item", 10)]) (g := gName 10) (tt := tYes) rfl scError.nd (pi_tup (pv 6)) (blkOk_by (N := nError) (sc := defScope sError) (by decide +kernel)) (fun _ _ _ _ _ => (pg_name (i := 10) scError.nd rfl (by first | exact Or.inl rfl | exact Or.inr rfl))) (fun _ _ _ _ _ => pts_nil) (fun _ _ _ _ _ => (pe_tup (pa_cons (pe_op op_add (pv 3) pe_int) (pa_cons (pv 10) pa_nil))))) pa_nil)))))
      (pss_cons (ps_expr (pe_bm PySem.F.plainAttrs_list PySem.F.slot_list_extend PySem.F.type_list_extend mt_extend (pv 1) (pa_cons (pe_revL (pv 5)) pa_nil)))
      (pss_one (ps_set (i := 2) scError.nd rfl (by first | exact Or.inl rfl | exact Or.inr rfl) (pe_op op_add (pv 2) pe_int))))))))))
      (pss_cons (ps_set (i := 7) scError.nd rfl (by first | exact Or.inl rfl | exact Or.inr rfl) (pe_call G_counts (hr.mono (by omega)) (by rfl) m_counts F_counts.kp b_counts .nil pass0 (pa_cons (pv 0) pa_nil)))
      (C8.pss_cut (ps_for PassesOwn.never rfl (pi_enum (by rfl) z_enumerate (pa_cons (pe_lst (pa_cons pe_str (pa_cons pe_str (pa_cons pe_str (pa_cons pe_str pa_nil))))) pa_nil)) (pg_tup rfl (pgs_cons (pg_name (i := 8) scError.nd rfl (by first | exact Or.inl rfl | exact Or.inr rfl)) (pgs_cons (pg_name (i := 9) scError.nd rfl (by first | exact Or.inl rfl | exact Or.inr rfl)) pgs_nil))) (pss_one (ps_if (pt_cmpR op_gt (pe_ix ix_list (pv 7) (pv 8) (fun _ _ => rfl)) (pe_ix ix_list (pe_lst (pa_cons pe_int (pa_cons pe_int (pa_cons pe_int (pa_cons pe_int pa_nil))))) (pv 8) (fun _ _ => rfl)) (nomark _)) (pss_one (ps_ret (pe_tup (pa_cons pe_non (pa_cons (pv 9) pa_nil))))) pss_nil)))
      (pss_one (ps_ret pe_non))))))), ?_⟩
    have t0 := t
    have WBe : WB = 1000000 := rfl
    refine ⟨_, rfl, _, _, _, _, _, rfl, .ty _, t.ty, kit_ty (kb_tuple d), _, rfl, ?_⟩
    cases hd : isTup d with
    | false =>
      refine iteT ⟨by show 2 ≤ sizeLine; decide, fun p hp => ?_⟩
      have e : perrD d = .tuple [.none, .str "program"] := by
        cases d with
        | tuple _ => cases hd
        | _ => rfl
      refine q _ _ (Sx.n0 hp) ?_
      rw [e]
      exact .tup upd_same (.cons .non (.cons (.str _) .nil))
    | true =>
    refine iteF ?_
    obtain ⟨ds, rfl⟩ := isTup_of hd
    rw [tw] at hw
    obtain ⟨a, xs, rfl, ha, hx⟩ := t.tuple
    have hl := hx.len
    have bl := wA_len ds
    have e0 : perrS (bndD ds) (atD 0 ds) 0 = perrD (.tuple ds) := rfl
    generalize hB : bndD ds = e at e0
    -- the first stack
    refine ⟨_, rfl, a, rfl, ⟨_, SqT.of ha⟩, fun D0 hD0 => lc_tup (xs := xs)
      (fun i H1 => Sx [] H H1 ∧ ∃ vals, H1 D0 = some (.lst vals) ∧ GdAll (D0 :: N) H1 vals ((atD 0 (ds.take i)).map prG))
      ⟨Sx.n0 hD0, [], upd_same, .nil⟩ (fun i H1 _ z => SqT.of (z.1 _ _ (by simp) ha)) (fun i x H1 hi z => ?_) (fun H1 z => ?_)⟩
    · obtain ⟨s1, vals, e1, e2⟩ := z
      obtain ⟨st, hst, tst⟩ := (hx.fresh hD0).get hi
      refine ⟨rfl, ?_⟩
      refine ⟨_, rfl, by show 2 ≤ sizeLine; decide, fun u hu => ?_⟩
      have il := List.getElem?_eq_some_iff.mp hst
      have vl := e2.len
      unfold atD at vl
      rw [List.length_map, List.length_map, List.length_take] at vl
      have eD : (upd H1 u (.tup [.int 0, x])) D0 = some (.lst vals) := Sx.n0 hu _ _ (by simp) e1
      refine ⟨vals, eD, lt_line (by omega), (s1.new hu).own hD0, _, upd_same, ?_⟩
      have k1 : Kp (D0 :: N) H1 (upd (upd H1 u (.tup [.int 0, x])) D0 (.lst (vals ++ [.ref u]))) := (Sx.n0 hu).kp0.trans (Kp.own eD (List.mem_cons_self ..))
      have ea : atD 0 (ds.take (i + 1)) = atD 0 (ds.take i) ++ [(0, st)] := by rw [List.take_add_one, hst]; unfold atD; rw [List.map_append]; rfl
      rw [ea, List.map_append]
      refine (e2.keep k1).append (.cons ?_ .nil)
      exact (gdPair (H := upd H1 u (.tup [.int 0, x])) upd_same ((tst.keep s1.kp0).new hu)).keep (Kp.own eD (List.mem_cons_self ..))
    · obtain ⟨s1, vals, e1, e2⟩ := z
      rw [hl, List.take_length] at e2
      refine ⟨D0, vals, rfl, SqL.of e1, fun Z hZ => ?_⟩
      refine ⟨_, _, rfl, ?_⟩
      have hHZ : H Z = none := s1.free (by simp) hZ
      have hs1 : StkG (Z :: N) (upd H1 Z (.lst vals.reverse)) Z (atD 0 ds) := ⟨vals, upd_same, ((e2.anti (M := N) fun b hb => List.mem_cons_of_mem _ hb).fresh hZ).new hZ⟩
      have hZN : Z ∈ Z :: N := List.mem_cons_self ..
      refine gh (H1 := upd H1 Z (.lst vals.reverse)) (F := fun H2 => Sx [] H H2 ∧ StkG (Z :: N) H2 Z (atD 0 ds)) ⟨s1.new hZ, hs1⟩ (fun H2 ⟨s2, hs2⟩ => ?_)
      refine ⟨fun σ H' => ∃ (k : Int) (o3 o4 o5 o6 o7 o8 o9 o10 : Option V), σ = [some (.ref a), some (.ref Z), some (.int k), o3, o4, o5, o6, o7, o8, o9, o10] ∧ Sx [] H H' ∧ Gw (atD 0 ds) ∧ e = perrD (.tuple ds), ?_, ?_⟩
      · refine ⟨fun m σ H' => ∃ (ws : List (Int × PyData)) (k : Nat) (o3 o4 o5 o6 o7 o8 o9 o10 : Option V), σ = [some (.ref a), some (.ref Z), some (.int k), o3, o4, o5, o6, o7, o8, o9, o10] ∧ Sx [] H H' ∧ StkG (Z :: N) H' Z ws ∧ k + wS ws ≤ PyData.weightAll ds ∧ (Gw ws → Gw (atD 0 ds)) ∧ (∀ x ∈ ws, 0 ≤ x.1) ∧ perrS e ws k = perrD (.tuple ds) ∧ m = wS ws,
          ⟨_, atD 0 ds, 0, _, _, _, _, _, _, _, _, rfl, s2, hs2, by rw [wS_at]; omega, fun z => z, fun x hx => by obtain ⟨y, _, rfl⟩ := List.mem_map.mp hx; exact Int.le_refl _, e0, rfl⟩, ?_⟩
        rintro m σ H3 ⟨ws, k, o3, o4, o5, o6, o7, o8, o9, o10, rfl, s3, hs, hk, hG, hd0, hpe, rfl⟩
        obtain ⟨vals3, h3, t3⟩ := id hs
        have vl3 := t3.len
        rw [List.length_map] at vl3
        refine ⟨_, rfl, by show 0 ≤ sizeLine; decide, fun u hu => ⟨Z, u, _, rfl, rfl, Sx.n0 hu _ _ (by simp) h3, upd_same, _, rfl, ?_⟩⟩
        have s4 : Sx [] H (upd H3 u (.lst [])) := s3.new hu
        have hs4 : StkG (Z :: N) (upd H3 u (.lst [])) Z ws := hs.keep (Sx.n0 hu)
        generalize upd H3 u (.lst []) = H4 at s4 hs4 ⊢
        clear h3 t3 hs
        cases ws with
        | nil =>
          obtain rfl : vals3 = [] := List.length_eq_zero_iff.mp vl3
          exact iteF ⟨k, _, _, _, _, _, _, _, _, rfl, s4, hG Gw.nil, hpe⟩
        | cons y ws =>
          obtain ⟨d, st⟩ := y
          have en : (vals3.reverse).isEmpty = false := by
            cases vals3 with
            | nil => simp at vl3
            | cons y r => cases e : (y :: r).reverse with
              | nil => simp at e
              | cons _ _ => rfl
          rw [en]
          refine iteT ⟨fun σ' H5 => ∃ m', m' < wS ((d, st) :: ws) ∧ ∃ (ws : List (Int × PyData)) (k : Nat) (o3 o4 o5 o6 o7 o8 o9 o10 : Option V), σ' = [some (.ref a), some (.ref Z), some (.int k), o3, o4, o5, o6, o7, o8, o9, o10] ∧ Sx [] H H5 ∧ StkG (Z :: N) H5 Z ws ∧ k + wS ws ≤ PyData.weightAll ds ∧ (Gw ws → Gw (atD 0 ds)) ∧ (∀ x ∈ ws, 0 ≤ x.1) ∧ perrS e ws k = perrD (.tuple ds) ∧ m' = wS ws, fun _ _ z => z, ?_⟩
          obtain ⟨acc, c, x, e1, e2, e3, e4, e5, e6⟩ := hs4.pop hZN
          have hk : k + (st.weight + 1 + wS ws) ≤ PyData.weightAll ds := hk
          have wle := wS_len ws
          have d0 : 0 ≤ d := hd0 _ (List.mem_cons_self ..)
          rw [perrS_cons] at hpe
          refine ⟨_, rfl, .inl ⟨rfl, _, SqL.of e1⟩, Z, _, _, rfl, rfl, e1, e2, ?_⟩
          have k1 : Kp (Z :: N) H4 (upd H4 Z (.lst acc.dropLast)) := Kp.own e1 hZN
          refine gh (H1 := upd H4 Z (.lst acc.dropLast)) (F := fun H5 => Sx [] H H5 ∧ Kp (Z :: N) H4 H5 ∧ StkG (Z :: N) H5 Z ws) ⟨s4.own hHZ, k1, e5⟩ (fun H5 ⟨s5, k5, hs5⟩ => ?_)
          have tx := e4.keep k5
          refine ⟨c, _, rfl, SqT.of (k5.t _ _ e3), rfl, _, _, rfl, gnm ⟨_, _, rfl, gnm ⟨rfl, ?_⟩⟩⟩
          refine ⟨_, rfl, _, 3, rfl, rfl, _, rfl, ite2 (fun e => ?_) (fun e => ?_)⟩
          · refine ⟨_, rfl, by show 2 ≤ sizeLine; decide, fun p hp => q _ _ (s5.new hp) ?_⟩
            have e' : (3 : Int) < d := of_decide_eq_true e
            rw [← hpe, if_pos e']
            exact .tup upd_same (.cons (.int _) (.cons (.str _) .nil))
          have e' : ¬ (3 : Int) < d := fun z => e (decide_eq_true z)
          rw [if_neg e'] at hpe
          refine ⟨_, rfl, _, x, st, rfl, tx, by omega, fun H6 s6 => ⟨_, rfl, ?_⟩⟩
          cases hb : stB st with
          | false =>
            rw [if_pos hb] at hpe
            refine iteT ⟨_, rfl, by show 2 ≤ sizeLine; decide, fun p hp => q _ _ ((s5.trans s6).new hp) ?_⟩
            rw [← hpe]
            exact .tup upd_same (.cons (.int _) (.cons (.str _) .nil))
          | true =>
          rw [if_neg (by rw [hb]; simp)] at hpe
          have hw5 := wB_blD hb
          refine iteF ?_
          refine ⟨by show 0 ≤ sizeLine; decide, fun I hI => ?_⟩
          have s56 : Sx [] H5 (upd H6 I (.lst [])) := s6.new hI
          have hI5 : H5 I = none := s6.free (by simp) hI
          have hHI : H I = none := s5.free (by simp) hI5
          have IZ : I ≠ Z := fun z => by
            obtain ⟨_, h, _⟩ := hs5
            rw [z, h] at hI5
            cases hI5
          have hs5I := hs5.fresh hI5
          have txI := tx.fresh hI5
          have hIN : I ∈ I :: Z :: N := List.mem_cons_self ..
          have hZN2 : Z ∈ I :: Z :: N := List.mem_cons_of_mem _ hZN
          refine gh (H1 := upd H6 I (.lst [])) (F := fun H7 => Sx [] H H7 ∧ Sx [] H5 H7 ∧ H7 I = some (.lst [])) ⟨(s5.trans s6).new hI, s56, upd_same⟩ (fun H7 ⟨s7, s57, eI⟩ => ?_)
          refine ⟨fun σ H8 => ∃ (vals : List V) (o6 o7 o8 o9 o10 : Option V), σ = [some (.ref a), some (.ref Z), some (.int k), some (.int d), some x, some (.ref I), o6, o7, o8, o9, o10] ∧ Sx [] H H8 ∧ StkG (I :: Z :: N) H8 Z ws ∧ H8 I = some (.lst vals) ∧ GdAll (I :: Z :: N) H8 vals ((kidD (blD st) (d + 1)).map prG), ?_, ?_⟩
          · obtain ⟨zz, dd, hstE, hpts⟩ := parts_st hb
            refine ⟨_, rfl, I :: Z :: N, x, zz, dd, rfl, by rw [← hstE]; exact txI.keep s57.kp0, fun H8 v8 s8 t8 => ?_⟩
            rw [hpts] at t8
            obtain ⟨a4, xs4, rfl, ha4, hx4⟩ := t8.tuple
            have hl4 := hx4.len
            rw [List.length_map] at hl4
            refine ⟨a4, rfl, ⟨_, SqT.of ha4⟩, for_tup (xs := xs4)
              (fun i σ H9 => ∃ (vals : List V) (o6 o7 o8 o9 o10 : Option V), σ = [some (.ref a), some (.ref Z), some (.int k), some (.int d), some x, some (.ref I), o6, o7, o8, o9, o10] ∧ Sx [] H H9 ∧ Kp (I :: Z :: N) H8 H9 ∧ StkG (I :: Z :: N) H9 Z ws ∧ H9 I = some (.lst vals) ∧ GdAll (I :: Z :: N) H9 vals ((kidD ((blD st).take i) (d + 1)).map prG))
              ⟨[], _, _, _, _, _, rfl, s7.trans s8, Kp.refl _ _, (hs5I.keep s57).keep s8, s8 _ _ (by simp) eI, .nil⟩ (fun i σ H9 _ z => by obtain ⟨_, _, _, _, _, _, _, _, z, _⟩ := z; exact SqT.of (z.t _ _ ha4)) (fun i y σ H9 hi z => ?_) (fun σ H9 z => ?_)⟩
            · obtain ⟨vals, o6, o7, o8, o9, o10, rfl, s9, k9, hs9, eI9, tI9⟩ := z
              obtain ⟨bk', hbk', tbk⟩ := hx4.get hi
              rw [List.getElem?_map] at hbk'
              obtain ⟨bk, hbk, rfl⟩ := Option.map_eq_some_iff.mp hbk'
              refine gnm ?_
              obtain ⟨a6, xs6, rfl, ha6, hx6⟩ := (tbk.keep k9).tuple
              have hl6 := hx6.len
              have bl6 := wA_len bk
              have vl9 := tI9.len
              have kl9 := kid_len (d + 1) ((blD st).take i)
              have kt : (((blD st).take i).map PyData.weightAll).sum + PyData.weightAll bk ≤ ((blD st).map PyData.weightAll).sum := by
                have e := congrArg (fun l => (l.map PyData.weightAll).sum) (List.take_append_drop (i + 1) (blD st))
                rw [List.take_add_one, hbk] at e
                simp only [List.map_append, List.sum_append, Option.toList_some, List.map_cons, List.map_nil, List.sum_cons, List.sum_nil] at e
                omega
              rw [List.length_map] at vl9
              refine ⟨_, rfl, .inl ⟨rfl, _, SqL.of eI9⟩, _, rfl, a6, rfl, ⟨_, SqT.of ha6⟩, fun D6 hD6 => lc_tup (xs := xs6)
                (fun j H10 => Sx [] H9 H10 ∧ ∃ vs6, H10 D6 = some (.lst vs6) ∧ GdAll (D6 :: I :: Z :: N) H10 vs6 ((atD (d + 1) (bk.take j)).map prG))
                ⟨Sx.n0 hD6, [], upd_same, .nil⟩ (fun j H10 _ z => SqT.of (z.1 _ _ (by simp) ha6)) (fun j y2 H10 hj z => ?_) (fun H10 z => ?_)⟩
              · obtain ⟨s10, vs6, e10, t10⟩ := z
                obtain ⟨st2, hst2, tst2⟩ := (hx6.fresh hD6).get hj
                refine ⟨rfl, ?_⟩
                refine ⟨_, rfl, d, 1, rfl, rfl, _, rfl, by show 2 ≤ sizeLine; decide, fun u2 hu2 => ?_⟩
                have jl := List.getElem?_eq_some_iff.mp hst2
                have vl := t10.len
                unfold atD at vl
                rw [List.length_map, List.length_map, List.length_take] at vl
                have eD6 : (upd H10 u2 (.tup [.int (d + 1), y2])) D6 = some (.lst vs6) := Sx.n0 hu2 _ _ (by simp) e10
                refine ⟨vs6, eD6, lt_line (by omega), (s10.new hu2).own hD6, _, upd_same, ?_⟩
                have k11 : Kp (D6 :: I :: Z :: N) H10 (upd (upd H10 u2 (.tup [.int (d + 1), y2])) D6 (.lst (vs6 ++ [.ref u2]))) := (Sx.n0 hu2).kp0.trans (Kp.own eD6 (List.mem_cons_self ..))
                have ea : atD (d + 1) (bk.take (j + 1)) = atD (d + 1) (bk.take j) ++ [(d + 1, st2)] := by rw [List.take_add_one, hst2]; unfold atD; rw [List.map_append]; rfl
                rw [ea, List.map_append]
                refine (t10.keep k11).append (.cons ?_ .nil)
                exact (gdPair (H := upd H10 u2 (.tup [.int (d + 1), y2])) upd_same ((tst2.keep s10.kp0).new hu2)).keep (Kp.own eD6 (List.mem_cons_self ..))
              · obtain ⟨s10, vs6, e10, t10⟩ := z
                rw [hl6, List.take_length] at t10
                have eI10 := s10 _ _ (by simp) eI9
                have v6l := t10.len
                unfold atD at v6l
                rw [List.length_map, List.length_map] at v6l
                refine ⟨I, D6, _, _, rfl, rfl, eI10, e10, le_line (by omega), ?_⟩
                have kk : Kp (I :: Z :: N) H10 (upd H10 I (.lst (vals ++ vs6))) := Kp.own eI10 hIN
                refine ⟨_, _, _, _, _, _, rfl, (s9.trans s10).own hHI, (k9.trans s10.kp0).trans kk, (hs9.keep s10).ls eI10 hIN IZ.symm, upd_same, ?_⟩
                rw [List.take_add_one, hbk]
                have ek : kidD ((blD st).take i ++ [bk]) (d + 1) = kidD ((blD st).take i) (d + 1) ++ atD (d + 1) bk := by
                  unfold kidD
                  simp
                rw [show (some bk).toList = [bk] from rfl, ek, List.map_append]
                exact ((tI9.keep s10.kp0).keep kk).append ((t10.anti fun b hb => List.mem_cons_of_mem _ hb).keep kk)
            · obtain ⟨vals, o6, o7, o8, o9, o10, rfl, s9, k9, hs9, eI9, tI9⟩ := z
              rw [hl4, List.take_length] at tI9
              exact ⟨vals, _, _, _, _, _, rfl, s9, hs9, eI9, tI9⟩
          · rintro _ H8 ⟨vals, o6, o7, o8, o9, o10, rfl, s8, hs8, eI8, tI8⟩
            obtain ⟨valsZ, hZ8, _⟩ := id hs8
            have vl8 := tI8.len
            have kl8 := kid_len (d + 1) (blD st)
            rw [List.length_map] at vl8
            refine ⟨_, rfl, .inl ⟨rfl, _, SqL.of hZ8⟩, _, rfl, I, vals, rfl, SqL.of eI8, fun l2 hl2 => ?_⟩
            obtain ⟨acc6, g1, g2, g3⟩ := (hs8.keep (Sx.n0 (o := .lst vals.reverse) hl2)).ext (es := kidD (blD st) (d + 1)) hZN2 (tI8.new hl2)
            refine ⟨Z, l2, acc6, vals.reverse, rfl, rfl, g1, upd_same, le_line (by rw [g2, List.length_reverse]; omega), ?_⟩
            refine ⟨_, rfl, _, 1, rfl, rfl, ?_⟩
            have e9 : ((k + 1 : Nat) : Int) = (k : Int) + 1 := by omega
            have szE : wS (kidD (blD st) (d + 1) ++ ws) + 1 ≤ st.weight + wS ws := by
              rw [wS_append, wS_kid]
              omega
            refine ⟨_, ?_, kidD (blD st) (d + 1) ++ ws, k + 1, _, _, _, _, _, _, _, _, by rw [e9]; rfl, (s8.new hl2).own hHZ, g3.anti (fun b hb => List.mem_cons_of_mem _ hb), by omega, fun z => hG (Gw.step d0 e' hb z), fun z hz => ?_, by rw [e9]; exact hpe, rfl⟩
            · have e10 : ((d, st) : Int × PyData).2.weight = st.weight := rfl
              rw [wS_cons, e10]
              omega
            · rcases List.mem_append.1 hz with hz | hz
              · obtain ⟨l, hl1, hl2⟩ := List.mem_flatten.1 hz
                obtain ⟨b, _, rfl⟩ := List.mem_map.mp hl1
                obtain ⟨s, _, rfl⟩ := List.mem_map.mp hl2
                show 0 ≤ d + 1
                omega
              · exact hd0 z (List.mem_cons_of_mem _ hz)
      · rintro _ H3 ⟨k, o3, o4, o5, o6, o7, o8, o9, o10, rfl, s3, hG, hpe⟩
        obtain ⟨b, rfl, hf⟩ := hG.bk hw
        rw [bndD_ds] at hB
        subst hB
        have tt : Tp H (.ref a) (.tuple b.ds) := by
          refine t0.tp ?_
          simp only [plainD]
          exact Bk.plain b
        refine ⟨_, rfl, .ref a, b, rfl, tt.keep s3.tk0, hf, fun H4 C s4 nC eC => ?_⟩
        have s34 := s3.trans s4
        have eC := cnt_at eC
        refine ⟨fun σ H5 => (∀ j < 4, ¬ bndM j < bndN b j) ∧ Sx [] H H5, ?_, ?_⟩
        · refine ⟨by show 4 ≤ sizeLine; decide, fun L hL => ⟨L, _, rfl, SqL.of upd_same, ?_⟩⟩
          refine for_it (walk_enum (xs := bndW.map V.str)) (fun i σ H5 => ∃ o8 o9, σ = [some (.ref a), some (.ref Z), some (.int k), o3, o4, o5, o6, some (.ref C), o8, o9, o10] ∧ Sx [] H4 H5 ∧ H5 L = some (.lst (bndW.map V.str)) ∧ ∀ j < i, ¬ bndM j < bndN b j) ⟨_, _, rfl, Sx.n0 hL, upd_same, fun j hj => absurd hj (Nat.not_lt_zero _)⟩ (fun i σ H5 _ z => by obtain ⟨_, _, _, _, z, _⟩ := z; exact SqL.of z) (fun i x σ H5 H6 hi z y => ?_) (fun σ H5 z => ?_)
          · obtain ⟨o8, o9, rfl, s5, eL, hlt⟩ := z
            obtain ⟨T, y1, y2, rfl, nT, rfl, h1, h2⟩ := y
            have hi4 : i < 4 := hi
            have h2 : (bndW.map V.str)[i]? = some y2 := h2
            rw [List.getElem?_map] at h2
            obtain ⟨z2, hz2, rfl⟩ := Option.map_eq_some_iff.mp h2
            obtain rfl : V.int (i : Nat) = y1 := Option.some.inj h1
            refine ⟨T, _, rfl, SqT.of upd_same, rfl, _, _, rfl, gnm ⟨_, _, rfl, gnm ⟨rfl, ?_⟩⟩⟩
            have s6 : Sx [] H4 (upd H5 T (.tup [.int (i : Nat), .str z2])) := s5.new nT
            have eL6 := Sx.n0 (o := .tup [.int (i : Nat), .str z2]) nT _ _ (by simp) eL
            generalize upd H5 T (.tup [.int (i : Nat), .str z2]) = H6 at s6 eL6 ⊢
            have eC6 := s6 _ _ (by simp) eC
            have hc1 : atI [V.int (b.sz : Int), .int (b.sumO fun _ => 1), .int (b.sumO (ownT "rest")), .int (b.sumO (ownT "less"))] (i : Int) = some (.int (bndN b i)) := by
              match i, hi4 with
              | 0, _ => rfl
              | 1, _ => rfl
              | 2, _ => rfl
              | 3, _ => rfl
            have hc2 : atI [V.int 24, .int 30, .int 2, .int 2] (i : Int) = some (.int (bndM i)) := by
              match i, hi4 with
              | 0, _ => rfl
              | 1, _ => rfl
              | 2, _ => rfl
              | 3, _ => rfl
            refine ⟨_, rfl, _, rfl, C, _, _, _, rfl, rfl, SqL.of eC6, hc1, by show 4 ≤ sizeLine; decide, fun M hM => ⟨_, rfl, M, _, _, _, rfl, rfl, SqL.of upd_same, hc2, _, _, rfl, rfl, _, rfl, ite2 (fun e => ?_) (fun e => ?_)⟩⟩
            · refine ⟨_, rfl, by show 2 ≤ sizeLine; decide, fun p hp => q _ _ (((s34.trans s6).new hM).new hp) ?_⟩
              rw [← hpe, bnd_hit hi4 hlt (of_decide_eq_true e) hz2]
              exact .tup upd_same (.cons .non (.cons (.str _) .nil))
            · refine ⟨_, _, rfl, s6.new hM, Sx.n0 hM _ _ (by simp) eL6, fun j hj => ?_⟩
              rcases Nat.lt_succ_iff_lt_or_eq.mp hj with h | rfl
              · exact hlt j h
              · exact fun z => e (decide_eq_true z)
          · obtain ⟨o8, o9, rfl, s5, eL, hlt⟩ := z
            exact ⟨hlt, s34.trans s5⟩
        · rintro σ H5 ⟨hlt, s5⟩
          refine q _ _ s5 ?_
          rw [← hpe, bnd_none hlt]
          exact .non
end
/-! ### data that repr shows -/
structure ShG (k n : Nat) (d : PyData) : Prop where
  s : d.showable = true
  l : d.leavesShort 201 = true
  dp : d.depth ≤ k
  w : d.weight ≤ n
structure ShGA (k n : Nat) (ds : List PyData) : Prop where
  s : PyData.showableAll ds = true
  l : PyData.leavesShortAll 201 ds = true
  dp : PyData.depthAll ds ≤ k
  w : PyData.weightAll ds ≤ n
namespace ShG
theorem mono {k n k' n' : Nat} {d : PyData} (h : ShG k n d) (hk : k ≤ k') (hn : n ≤ n') : ShG k' n' d := ⟨h.s, h.l, Nat.le_trans h.dp hk, Nat.le_trans h.w hn⟩
theorem int {i : Int} {n : Nat} (h : i.natAbs < 2 ^ n) (h0 : 0 < n) (hn : n ≤ 200) (k : Nat) : ShG k n (.int i) := by
  have l := PySem.Flt.log2_lt_of h0 h
  have l' : i.natAbs.log2 < 200 := by omega
  refine ⟨by simp only [PyData.showable, decide_eq_true_eq]; omega, ?_, by simp only [PyData.depth]; omega, ?_⟩
  · simp only [PyData.leavesShort, decide_eq_true_eq, PyData.shown]
    exact decide_eq_true (by rw [PySem.ofString_length]; exact PySem.int_text_length_le (k := 200) (by decide) l')
  · simp only [PyData.weight]
    split <;> omega
theorem str {z : Str} (h : PyData.strOk z = true) (k n : Nat) (hn : z.length ≤ n) : ShG k n (.str z) := by
  refine ⟨by simp only [PyData.showable], ?_, by simp only [PyData.depth]; omega, by simp only [PyData.weight]; exact hn⟩
  simp only [PyData.leavesShort]
  rw [List.all_eq_true]
  intro c hc
  unfold PyData.strOk at h
  rw [Array.all_eq_true'] at h
  have := of_decide_eq_true (h c (Array.mem_toList_iff.mp hc))
  have e : (16 : Nat) ^ 8 = 4294967296 := rfl
  refine decide_eq_true ?_; omega
theorem tup {k n : Nat} {ds : List PyData} (h : ShGA k n ds) : ShG (k + 1) n (.tuple ds) :=
  ⟨by simp only [PyData.showable]; exact h.s, by simp only [PyData.leavesShort]; exact h.l, by simp only [PyData.depth]; have := h.dp; omega, by simp only [PyData.weight]; exact h.w⟩
theorem lst {k n : Nat} {ds : List PyData} (h : ShGA k n ds) : ShG (k + 1) n (.list ds) :=
  ⟨by simp only [PyData.showable]; exact h.s, by simp only [PyData.leavesShort]; exact h.l, by simp only [PyData.depth]; have := h.dp; omega, by simp only [PyData.weight]; exact h.w⟩
/-- what repr asks -/
theorem len {k n : Nat} {d : PyData} (h : ShG k n d) (hn : n ≤ 80000) : d.shown.length ≤ 16777216 := by
  have := PyData.shown_le 201 (by decide) d h.l
  have := h.w
  omega
end ShG
namespace ShGA
theorem nil (k n : Nat) : ShGA k n [] := ⟨by simp only [PyData.showableAll], by simp only [PyData.leavesShortAll], by simp only [PyData.depthAll]; omega, by simp only [PyData.weightAll]; omega⟩
theorem cons {k n m : Nat} {d : PyData} {ds : List PyData} (h : ShG k n d) (hs : ShGA k m ds) : ShGA k (n + 1 + m) (d :: ds) := by
  refine ⟨?_, ?_, ?_, ?_⟩
  · simp only [PyData.showableAll, h.s, hs.s, Bool.and_self]
  · simp only [PyData.leavesShortAll, h.l, hs.l, Bool.and_self]
  · simp only [PyData.depthAll]; have := h.dp; have := hs.dp; omega
  · simp only [PyData.weightAll]; have := h.w; have := hs.w; omega
theorem mono {k n k' n' : Nat} {d : List PyData} (h : ShGA k n d) (hk : k ≤ k') (hn : n ≤ n') : ShGA k' n' d := ⟨h.s, h.l, Nat.le_trans h.dp hk, Nat.le_trans h.w hn⟩
theorem allInt {l : List Int} {n : Nat} (h0 : 0 < n) (hn : n ≤ 200) (h : ∀ i ∈ l, i.natAbs < 2 ^ n) (k : Nat) : ShGA k ((n + 1) * l.length) (l.map PyData.int) := by
  induction l with
  | nil => exact .nil _ _
  | cons i l ih =>
    refine (ShGA.cons (ShG.int (h i (by simp)) h0 hn k) (ih fun j hj => h j (List.mem_cons_of_mem _ hj))).mono (Nat.le_refl _) ?_
    rw [List.length_cons, Nat.mul_succ]
    omega
end ShGA
theorem smG {i : Int} (h1 : -120 ≤ i) (h2 : i ≤ 120) (k : Nat) : ShG k 7 (.int i) := by
  have e : (2 : Nat) ^ 7 = 128 := by decide
  exact ShG.int (by omega) (by decide) (by decide) k
def wEG : Nat → Nat
  | 0 => 0
  | n + 1 => 2 * wEG n + 16
theorem Ex.shg {ns : List Str} (hn : ∀ z ∈ ns, NmOk z) : ∀ (e : Ex) (n : Nat), e.ok ns n → ShG n (wEG n) e.d
  | .int i, n, ⟨h1, h2, h3⟩ => by
    obtain ⟨m, rfl⟩ : ∃ m : Nat, n = m + 1 := ⟨n - 1, by omega⟩
    exact (smG (by omega) (by omega) _).mono (Nat.le_refl _) (by simp only [wEG]; omega)
  | .name z, n, ⟨h1, h2⟩ => by
    obtain ⟨m, rfl⟩ : ∃ m : Nat, n = m + 1 := ⟨n - 1, by omega⟩
    exact ShG.str (hn z h2).ok _ _ (by have := (hn z h2).hi; simp only [wEG]; omega)
  | .plus x y, n, ⟨h1, h2, h3⟩ => by
    obtain ⟨m, rfl⟩ : ∃ m : Nat, n = m + 1 := ⟨n - 1, by omega⟩
    exact (ShG.tup (.cons (ShG.str (n := 4) (by decide +kernel) m (by decide)) (.cons (Ex.shg hn x m h2) (.cons (Ex.shg hn y m h3) (.nil m 0))))).mono (Nat.le_refl _) (by simp only [wEG]; omega)
  | .minus x y, n, ⟨h1, h2, h3⟩ => by
    obtain ⟨m, rfl⟩ : ∃ m : Nat, n = m + 1 := ⟨n - 1, by omega⟩
    exact (ShG.tup (.cons (ShG.str (n := 5) (by decide +kernel) m (by decide)) (.cons (Ex.shg hn x m h2) (.cons (Ex.shg hn y m h3) (.nil m 0))))).mono (Nat.le_refl _) (by simp only [wEG]; omega)
  | .times f x, n, ⟨h1, h2, h3, h4⟩ => by
    obtain ⟨m, rfl⟩ : ∃ m : Nat, n = m + 1 := ⟨n - 1, by omega⟩
    exact (ShG.tup (.cons (ShG.str (n := 5) (by decide +kernel) m (by decide)) (.cons (smG (by omega) (by omega) m) (.cons (Ex.shg hn x m h4) (.nil m 0))))).mono (Nat.le_refl _) (by simp only [wEG]; omega)
theorem Ts.shg {ns : List Str} (hn : ∀ z ∈ ns, NmOk z) : ∀ (t : Ts) (n : Nat), t.ok ns n → ShG (n + 4) (5 * n + 240) t.d
  | .rest x b r, n, ⟨h1, h2, h3, h4, h5⟩ => (ShG.tup (.cons (ShG.str (n := 4) (by decide +kernel) 3 (by decide)) (.cons (Ex.shg hn x 3 h1) (.cons (smG (by omega) (by omega) 3) (.cons (smG (by omega) (by omega) 3) (.nil 3 0)))))).mono (by omega) (by simp only [wEG]; omega)
  | .less x y, n, ⟨h1, h2⟩ => (ShG.tup (.cons (ShG.str (n := 4) (by decide +kernel) 3 (by decide)) (.cons (Ex.shg hn x 3 h1) (.cons (Ex.shg hn y 3 h2) (.nil 3 0))))).mono (by omega) (by simp only [wEG]; omega)
  | .not t, n, ⟨h1, h2⟩ => by
    obtain ⟨m, rfl⟩ : ∃ m : Nat, n = m + 1 := ⟨n - 1, by omega⟩
    exact (ShG.tup (.cons (ShG.str (n := 3) (by decide +kernel) _ (by decide)) (.cons (Ts.shg hn t m h2) (.nil _ 0)))).mono (by omega) (by omega)
mutual
theorem St.shg {ns : List Str} (hn : ∀ z ∈ ns, NmOk z) : ∀ (s : St) (d : Nat), s.ok ns d → ShG (2 * d + 9) (300 * s.sz - 1) s.d
  | .set z e, d, ⟨h1, h2⟩ => (ShG.tup (.cons (ShG.str (n := 3) (by decide +kernel) 3 (by decide)) (.cons (ShG.str (n := 8) (hn z h1).ok 3 (hn z h1).hi) (.cons (Ex.shg hn e 3 h2) (.nil 3 0))))).mono (by omega) (by simp only [wEG, St.sz]; omega)
  | .pay e, d, h => (ShG.tup (.cons (ShG.str (n := 3) (by decide +kernel) 3 (by decide)) (.cons (Ex.shg hn e 3 h) (.nil 3 0)))).mono (by omega) (by simp only [wEG, St.sz]; omega)
  | .stop, d, h => (ShG.tup (.cons (ShG.str (n := 4) (by decide +kernel) 3 (by decide)) (.nil 3 0))).mono (by omega) (by simp only [St.sz]; omega)
  | .ite t y n, d, ⟨h1, h2, h3⟩ => (ShG.tup (.cons (ShG.str (n := 2) (by decide +kernel) (2 * d + 8) (by decide)) (.cons ((Ts.shg hn t 2 h1).mono (by omega) (Nat.le_refl _)) (.cons ((ShG.tup (Bk.shg hn y d h2)).mono (by omega) (Nat.le_refl _)) (.cons ((ShG.tup (Bk.shg hn n d h3)).mono (by omega) (Nat.le_refl _)) (.nil _ 0)))))).mono (by omega) (by simp only [St.sz]; omega)
  | .rep k y, d, ⟨h1, h2, h3⟩ => (ShG.tup (.cons (ShG.str (n := 6) (by decide +kernel) (2 * d + 8) (by decide)) (.cons (smG (by omega) (by omega) _) (.cons ((ShG.tup (Bk.shg hn y d h3)).mono (by omega) (Nat.le_refl _)) (.nil _ 0))))).mono (by omega) (by simp only [St.sz]; omega)
theorem Bk.shg {ns : List Str} (hn : ∀ z ∈ ns, NmOk z) : ∀ (b : Bk) (d : Nat), b.ok ns d → ShGA (2 * d + 7) (300 * b.sz) b.ds
  | .nil, d, _ => .nil _ _
  | .cons s b, d, ⟨h1, h2, h3⟩ => by
    have p : 1 ≤ s.sz := by rw [s.sz_blks]; omega
    exact (ShGA.cons ((St.shg hn s (d - 1) h2).mono (by omega) (Nat.le_refl _)) (Bk.shg hn b d h3)).mono (Nat.le_refl _) (by simp only [Bk.sz]; omega)
end
/-! ### repr of values of any kind -/
theorem ShG.non (k n : Nat) : ShG k n .none := ⟨by simp only [PyData.showable], by simp only [PyData.leavesShort], by simp only [PyData.depth]; omega, by simp only [PyData.weight]; omega⟩
theorem ShG.bl (b : Bool) (k n : Nat) : ShG k n (.bool b) := ⟨by simp only [PyData.showable], by simp only [PyData.leavesShort], by simp only [PyData.depth]; omega, by simp only [PyData.weight]; omega⟩
theorem sys1 : PySem.sysModules = (1 : Nat) := rfl
theorem dic_reads {h : Heap} {P : Program} {w : World} : ∀ {kvs : List (Str × Int)} {vs : List (Key × Value)} {es : List DictEntry}, KV (kvs.map fun p => ((.inr p.1 : Key), V.int p.2)) vs → PySem.Pairs (mixKind P w) es vs →
    ReadsAll h (es.map (·.key)) ((kvs.map fun p => (PyData.str p.1, PyData.int p.2)).map (·.1)) [] ∧ ReadsAll h (es.map (·.val)) ((kvs.map fun p => (PyData.str p.1, PyData.int p.2)).map (·.2)) []
  | [], _, _, r, p => by
    cases r
    cases p
    exact ⟨.nil, .nil⟩
  | (z, i) :: kvs, _, _, r, p => by
    cases r with
    | @cons a b as bs r1 r2 =>
      cases p with
      | @cons e kv es kvs' h1 h2 h3 =>
        obtain ⟨i1, i2⟩ := dic_reads (h := h) r2 h3
        obtain ⟨k0, v0⟩ := b
        obtain ⟨e1, t, e2⟩ := r1
        have e1 : (.inr z : Key) = k0 := e1
        subst e1
        have e2 : v0 = Value.int i t := e2
        have h2 : e.val = v0 := h2
        have h1 : keyIs (.inr z) e.key = true := h1
        rcases keyIs_shape h1 with ⟨_, _, q, _⟩ | ⟨x, u, q, e3⟩
        · cases q
        · cases q
          obtain ⟨ha, ky, va⟩ := e
          have e3 : ky = Value.str z u := e3
          have h2 : va = v0 := h2
          subst h2
          subst e2
          subst e3
          exact ⟨ReadsAll.cons (as := []) (bs := []) (.str z u) i1, ReadsAll.cons (as := []) (bs := []) (.int i t) i2⟩
section
variable {X : Cx} {pins : List (Addr × Obj)} {σ : L2.St} {H : Hp} {s : Shared} {N : List Addr}
mutual
theorem Gd.reads (I : Inv X pins σ H s) : ∀ {v : V} {d : PyData}, Gd N H v d → ∀ u : Value, RelV v u → ∃ as, Reads s.heap u d as ∧ PySem.sysModules ∉ as
  | _, _, .non, _, r => by cases r; exact ⟨_, Reads.none, by simp⟩
  | _, _, .bl b, _, r => by cases r; exact ⟨_, Reads.bool b, by simp⟩
  | _, _, .int i, _, r => by obtain ⟨t, rfl⟩ := r; exact ⟨_, Reads.int i t, by simp⟩
  | _, _, .str x, _, r => by obtain ⟨t, rfl⟩ := r; exact ⟨_, Reads.str x t, by simp⟩
  | _, _, .tup h a, _, r => by
    cases r
    obtain ⟨its, rv, ⟨o, ho, hc, n, hd⟩, _⟩ := I.tuple (SqT.of h)
    obtain ⟨as, hr, hn⟩ := GdAll.reads I a its rv
    exact ⟨_, Reads.tuple ho hc hd hr, hn⟩
  | _, _, .lst (a := p) h _ h1 a, _, r => by
    cases r
    obtain ⟨its, rv, ⟨o, n, ho, hc, _, hd⟩, _⟩ := I.list (SqL.of h)
    obtain ⟨as, hr, hn⟩ := GdAll.reads I a its rv
    refine ⟨_, Reads.list ho hc hd hr, fun hm => ?_⟩
    rcases List.mem_cons.1 hm with e | hm
    · exact h1 e.symm
    · exact hn hm
  | _, _, .dic (a := p) kvs h _, _, r => by
    cases r
    obtain ⟨_, hd, vs, rel, o, es, ep, ho, hx, hdt, _, hp, _⟩ := dk_of I.hok h
    obtain ⟨i1, i2⟩ := dic_reads (h := s.heap) rel hp
    refine ⟨_, Reads.dict ho hx.1 hdt i1 i2, fun hm => ?_⟩
    have e : PySem.sysModules = p := by simpa using hm
    rw [← e] at hd
    simp at hd
theorem GdAll.reads (I : Inv X pins σ H s) : ∀ {vs : List V} {ds : List PyData}, GdAll N H vs ds → ∀ us : List Value, Vals vs us → ∃ as, ReadsAll s.heap us ds as ∧ PySem.sysModules ∉ as
  | _, _, .nil, _, r => by cases r; exact ⟨_, ReadsAll.nil, by simp⟩
  | _, _, .cons a b, _, r => by
    cases r with
    | cons r1 r2 =>
      obtain ⟨as, q1, n1⟩ := Gd.reads I a _ r1
      obtain ⟨bs, q2, n2⟩ := GdAll.reads I b _ r2
      exact ⟨_, ReadsAll.cons q1 q2, fun hm => (List.mem_append.1 hm).elim n1 n2⟩
end
end
def rReprG : List V → Hp → VK → Prop := fun xs H Q => ∃ (N : List Addr) (x : V) (d : PyData), xs = [x] ∧ Gd N H x d ∧ ShG 60 80000 d ∧ Q (.str d.shown) H
theorem call_reprG {X : Cx} (hgd : X.A.guards = some []) (hu : X.A.units + 64 < cLine) : CallR X (.builtin "repr") rReprG := by
  intro pins s σ H xs us Q I r h0; have h := h0
  obtain ⟨N, x, d, rfl, hd, sh, q⟩ := h
  rcases vals1 r with ⟨u, rfl, rx⟩
  have hz := sh.len (Nat.le_refl _)
  have hdp := sh.dp
  obtain ⟨as, rd, hns⟩ := hd.reads I u rx
  have fin : ∀ {a : Addr}, Reads s.heap (.ref a) d as → wpAny (model X.prog X.w) X.A (call (.builtin "repr") [.ref a]) (EP X pins σ Q) X.xe s := fun {a} rd =>
    repr_of_reads' rd sh.s (fun _ => hns) hgd (by omega) (fun _ _ e => e) (fun h' u' tk hk => ⟨.str d.shown, H, I.kept hk, ⟨u', rfl⟩, q⟩) hz
  cases hd with
  | non =>
    cases rx
    have e : PyData.shown .none = "None" := by simp only [PyData.shown]
    rw [e] at q
    exact PySem.P.repr_of_none ⟨.str _, H, I.tok _, ⟨_, rfl⟩, q⟩
  | bl b =>
    cases rx
    have e : (PyData.bool b).shown = (if b then "True" else "False" : Str) := by cases b <;> simp [PyData.shown]
    rw [e] at q
    exact PySem.P.repr_of_bool ⟨.str _, H, I.tok _, ⟨_, rfl⟩, q⟩
  | int i =>
    obtain ⟨t, rfl⟩ := rx
    have hi : i.natAbs.log2 < 1920 := by
      have : (PyData.int i).showable = true := sh.s
      simpa only [PyData.showable, decide_eq_true_eq] using this
    have e : (PyData.int i).shown = (toString i : String) := by simp only [PyData.shown]
    rw [e] at q
    exact PySem.P.repr_of_int hi ⟨.str _, H, I.tok _, ⟨_, rfl⟩, q⟩
  | str z =>
    obtain ⟨t, rfl⟩ := rx
    have e : (PyData.str z).shown = reprText z := by simp only [PyData.shown]
    rw [e] at q hz
    exact PySem.P.repr_of_str ⟨.str _, H, I.tok _, ⟨_, rfl⟩, q⟩ hz
  | tup _ _ => cases rx; exact fin rd
  | lst _ _ _ _ => cases rx; exact fin rd
  | dic _ _ _ => cases rx; exact fin rd
/-! ### lists as data -/
def tLstB (t : TA) : TE := fun σ H Q => t σ H fun xs H1 => xs.length ≤ sizeLine ∧ ∀ p, H1 p = none → p ≠ 1 → Q (.ref p) (upd H1 p (.lst xs))
theorem pe_lstB {X : Cx} {es : List Expr} {pos : Pos} {t : TA} (h : PA X es t) : PE X (.List es pos) (tLstB t) := by
  refine (⟨fun pins s σ H Q I hq => ?_⟩)
  refine (wpAny_List_spliced (thn (h.run pos pins s σ H _ I hq) fun us s1 ⟨xs, H1, I1, r, z, q⟩ => ⟨by rw [← r.length]; exact z, ?_⟩))
  have hf : (H1 s1.heap.objs.size = none) := I1.hok.fresh (Nat.le_refl _)
  have big := I1.big
  refine ⟨.ref s1.heap.objs.size, upd H1 s1.heap.objs.size (.lst xs), I1.laid (t' := s1.toks) (fun b u e => Heap.get?_push_of_some _ e) (Nat.le_refl _) ?_, rfl, q _ hf (Nat.ne_of_gt big)⟩
  exact (⟨z, us, 0, r, Heap.get?_push_size _ rfl⟩)
theorem call_list_ofB {X : Cx} : CallR X (.type "list") (fun xs H Q => ∃ p ys, xs = [.ref p] ∧ (SqL X.K H p ys ∨ SqT X.K H p ys) ∧ ∀ l, H l = none → l ≠ 1 → Q (.ref l) (upd H l (.lst ys))) := by
  intro pins s σ H xs us Q I r h0; have h := h0
  rcases h with ⟨p, ys, rfl, hq, q⟩
  rcases vals1 r with ⟨u, rfl, rx⟩
  cases rx
  have big := I.big
  have fin : ∀ (js : List Value), Vals ys js → ys.length ≤ sizeLine → ∀ (g : Heap) (m : Nat), (∀ b o', s.heap.get? b = some o' → g.get? b = some o') →
      g.get? s.heap.objs.size = some ⟨.type "list", none, .seq js.toArray m, #[]⟩ → EP X pins σ Q (.ref s.heap.objs.size) { s with heap := g } := fun its r' hz h' c' kp e =>
    ⟨.ref s.heap.objs.size, _, I.laid (t' := s.toks) kp (Nat.le_refl _) (show ObjOk X.prog X.w _ h' _ (.lst ys) from ⟨hz, its, c', r', e⟩), rfl, q _ (I.hok.fresh (Nat.le_refl _)) (Nat.ne_of_gt big)⟩
  rcases hq with hq | hq
  · rcases I.list hq with ⟨its, r', pl, hz⟩
    have hlen := r'.length
    rcases pl.isList with ⟨o, ho, hc, n, hd⟩
    exact (call_list_seq p (.inl rfl) ho hc hd (fun h' c' kp e => fin its r' hz h' c' kp e) (by simp only [List.size_toArray] <;> omega))
  · rcases I.tuple hq with ⟨its, r', pl, hz⟩
    have hlen := r'.length
    rcases pl with ⟨o, ho, hc, n, hd⟩
    exact (call_list_seq p (.inr rfl) ho hc hd (fun h' c' kp e => fin its r' hz h' c' kp e) (by simp only [List.size_toArray] <;> omega))
/-! ### one step of a reading -/
theorem gSeqAsg {te : TE} {g : TG} {u : TS} {D : Ends} {σ : L2.St} {H : Hp} (h : te σ H fun x H1 => g x σ H1 (u D)) : tSeq (tAsg te g) u D σ H := h
theorem gAsg {te : TE} {g : TG} {D : Ends} {σ : L2.St} {H : Hp} (h : te σ H fun x H1 => g x σ H1 D.nx) : tAsg te g D σ H := h
theorem gRet {te : TE} {D : Ends} {σ : L2.St} {H : Hp} (h : te σ H D.rt) : tRet te D σ H := h
theorem gCall {sp : Sp} {dvs : List V} {E : XK} {t : TA} {σ : L2.St} {H : Hp} {Q : VK} (h : t σ H fun vs H1 => sp (vs ++ dvs) H1 Q E) : tCall sp dvs E t σ H Q := h
theorem gCons {te : TE} {ta : TA} {σ : L2.St} {H : Hp} {Q : List V → Hp → Prop} (h : te σ H fun x H1 => ta σ H1 fun xs H2 => Q (x :: xs) H2) : tCons te ta σ H Q := h
theorem gVar {i : Nat} {v : V} {σ : L2.St} {H : Hp} {Q : VK} (e : σ[i]? = some (some v)) (h : Q v H) : tVar i σ H Q := ⟨v, e, h⟩
theorem gNil {σ : L2.St} {H : Hp} {Q : List V → Hp → Prop} (h : Q [] H) : tNil σ H Q := h
/-! ### written data -/
/-- the reading t makes a value of any kind, as deep and as large at most -/
def MkE (N : List Addr) (σ : L2.St) (H : Hp) (k n : Nat) (t : TE) : Prop := ∀ (H1 : Hp) (Q : VK), Sx [] H H1 → (∀ H2 v d, Sx [] H1 H2 → Gd N H2 v d → ShG k n d → Q v H2) → t σ H1 Q
/-- the same of values one behind the other -/
def GS (N : List Addr) (H : Hp) (k n : Nat) (vs : List V) : Prop := ∃ ds, GdAll N H vs ds ∧ ShGA k n ds
def MkA (N : List Addr) (σ : L2.St) (H : Hp) (k n m : Nat) (t : TA) : Prop := ∀ (H1 : Hp) (Q : List V → Hp → Prop), Sx [] H H1 → (∀ H2 vs, Sx [] H1 H2 → GS N H2 k n vs → vs.length = m → Q vs H2) → t σ H1 Q
section
variable {N : List Addr} {σ : L2.St} {H : Hp} {k n m : Nat}
theorem GS.len {vs : List V} (h : GS N H k n vs) : vs.length ≤ n := by
  obtain ⟨ds, h1, h2⟩ := h
  rw [h1.len]
  have := wA_len ds
  have := h2.w
  omega
theorem GS.keep {H' : Hp} {vs : List V} (s : Kp N H H') (h : GS N H k n vs) : GS N H' k n vs := by
  obtain ⟨ds, h1, h2⟩ := h
  exact ⟨ds, h1.keep s, h2⟩
theorem GS.mono {vs : List V} {n2 : Nat} (h : GS N H k n vs) (hn : n ≤ n2) : GS N H k n2 vs := by
  obtain ⟨ds, h1, h2⟩ := h
  exact ⟨ds, h1, h2.mono (Nat.le_refl _) hn⟩
theorem GS.mem {vs : List V} {x : V} (h : GS N H k n vs) (hx : x ∈ vs) : ∃ d, Gd N H x d ∧ ShG k n d := by
  obtain ⟨ds, h1, h2⟩ := h
  induction vs generalizing ds n with
  | nil => cases hx
  | cons y vs ih =>
    cases h1 with
    | @cons _ _ d ds g h1 =>
      have hs := h2.s
      have hl := h2.l
      have hd := h2.dp
      have hw := h2.w
      simp only [PyData.showableAll, Bool.and_eq_true] at hs
      simp only [PyData.leavesShortAll, Bool.and_eq_true] at hl
      simp only [PyData.depthAll] at hd
      simp only [PyData.weightAll] at hw
      rcases List.mem_cons.1 hx with rfl | hx
      · exact ⟨d, g, hs.1, hl.1, by omega, by omega⟩
      · exact ih hx ds h1 ⟨hs.2, hl.2, by omega, by omega⟩
theorem GS.append {n2 : Nat} {vs us : List V} (h : GS N H k n vs) (h' : GS N H k n2 us) : GS N H k (n + n2) (vs ++ us) := by
  obtain ⟨ds, h1, h2⟩ := h
  obtain ⟨es, h3, h4⟩ := h'
  refine ⟨ds ++ es, h1.append h3, ?_⟩
  clear h1 h3
  induction ds generalizing n with
  | nil => exact h4.mono (Nat.le_refl _) (by omega)
  | cons d ds ih =>
    have hs := h2.s
    have hl := h2.l
    have hd := h2.dp
    have hw := h2.w
    simp only [PyData.showableAll, Bool.and_eq_true] at hs
    simp only [PyData.leavesShortAll, Bool.and_eq_true] at hl
    simp only [PyData.depthAll] at hd
    simp only [PyData.weightAll] at hw
    have r := ih (n := n - d.weight - 1) ⟨hs.2, hl.2, by omega, by omega⟩
    exact (ShGA.cons (n := d.weight) (k := k) ⟨hs.1, hl.1, by omega, Nat.le_refl _⟩ r).mono (Nat.le_refl _) (by omega)
theorem MkA.nil : MkA N σ H k 0 0 tNil := fun H1 Q s q => q H1 [] (Sx.refl _) ⟨[], .nil, .nil _ _⟩ rfl
theorem MkA.cons {te : TE} {ta : TA} {n2 : Nat} (h : MkE N σ H k n te) (h' : MkA N σ H k n2 m ta) : MkA N σ H k (n + 1 + n2) (m + 1) (tCons te ta) := fun H1 Q s q =>
  h H1 _ s fun H2 v d s2 g sh => h' H2 _ (s.trans s2) fun H3 vs s3 ⟨ds, g3, sh3⟩ hl => q H3 (v :: vs) (s2.trans s3) ⟨d :: ds, .cons (g.keep s3.kp0) g3, .cons sh sh3⟩ (by rw [List.length_cons, hl])
theorem MkE.mono {te : TE} {k2 n2 : Nat} (h : MkE N σ H k n te) (hk : k ≤ k2) (hn : n ≤ n2) : MkE N σ H k2 n2 te := fun H1 Q s q => h H1 Q s fun H2 v d s2 g sh => q H2 v d s2 g (sh.mono hk hn)
theorem MkE.int {i : Int} (h : i.natAbs < 2 ^ 200) : MkE N σ H k 200 (tC (.int i)) := fun H1 Q s q => q H1 _ _ (Sx.refl _) (.int i) (ShG.int h (by decide) (by decide) k)
theorem MkE.sm {i : Int} (h : i.natAbs < 2 ^ 8) : MkE N σ H k 8 (tC (.int i)) := fun H1 Q s q => q H1 _ _ (Sx.refl _) (.int i) (ShG.int h (by decide) (by decide) k)
theorem MkE.str {z : Str} (h : PyData.strOk z = true) (hz : z.length ≤ 20) : MkE N σ H k 20 (tC (.str z)) := fun H1 Q s q => q H1 _ _ (Sx.refl _) (.str z) (ShG.str h k 20 hz)
theorem MkE.bl {b : Bool} : MkE N σ H k 0 (tC (.bl b)) := fun H1 Q s q => q H1 _ _ (Sx.refl _) (.bl b) (ShG.bl b k 0)
theorem MkE.non : MkE N σ H k 0 (tC .non) := fun H1 Q s q => q H1 _ _ (Sx.refl _) .non (ShG.non k 0)
theorem MkE.neg {i : Int} (h : i.natAbs < 2 ^ 8) : MkE N σ H k 8 (tUn (rU fun i => .int (-i)) (tC (.int i))) := fun H1 Q s q => ⟨i, rfl, q H1 _ _ (Sx.refl _) (.int _) (ShG.int (by omega) (by decide) (by decide) k)⟩
theorem MkE.pow {i j : Int} (h1 : CPow i j) (h : (i ^ j.toNat).natAbs < 2 ^ 200) : MkE N σ H k 200 (tOp (rI CPow fun i j => .int (i ^ j.toNat)) (tC (.int i)) (tC (.int j))) := fun H1 Q s q => ⟨i, j, rfl, rfl, h1, q H1 _ _ (Sx.refl _) (.int _) (ShG.int h (by decide) (by decide) k)⟩
theorem MkE.tup {ta : TA} (h : MkA N σ H k n m ta) (hm : m ≤ 16777216) : MkE N σ H (k + 1) n (tTup ta) := fun H1 Q s q =>
  h H1 _ s fun H2 vs s2 ⟨ds, g, sh⟩ hl => ⟨by rw [hl]; exact hm, fun p hp => q _ _ _ (s2.new hp) (.tup upd_same (g.new hp)) (ShG.tup sh)⟩
theorem notin_new {p : Addr} {H2 : Hp} (hN : ∀ b ∈ N, H b ≠ none) (s : Sx [] H H2) (hp : H2 p = none) : p ∉ N := fun hm => hN p hm (s.free (by simp) hp)
theorem MkE.lst {ta : TA} (hN : ∀ b ∈ N, H b ≠ none) (h : MkA N σ H k n m ta) (hm : m ≤ 16777216) : MkE N σ H (k + 1) n (tLstB ta) := fun H1 Q s q =>
  h H1 _ s fun H2 vs s2 ⟨ds, g, sh⟩ hl => ⟨by rw [hl]; exact hm, fun p hp p1 => q _ _ _ (s2.new hp) (.lst upd_same (notin_new hN (s.trans s2) hp) p1 (g.new hp)) (ShG.lst sh)⟩
theorem ShG.dic0 : ShG (k + 1) n (.dict []) := ⟨by simp only [PyData.showable, PyData.showableKv], by simp only [PyData.leavesShort, PyData.leavesShortKv], by simp only [PyData.depth, PyData.depthKv]; omega, by simp only [PyData.weight, PyData.weightKv]; omega⟩
theorem MkE.dic0 (hN : ∀ b ∈ N, H b ≠ none) : MkE N σ H (k + 1) 0 tDNewK := fun H1 Q s q p hp => q _ _ _ (Sx.n0 hp) (.dic [] upd_same (notin_new hN s hp)) ShG.dic0
theorem ShG.dic1 {z : Str} {i : Int} (h : PyData.strOk z = true) (hz : z.length ≤ 20) (hi : i.natAbs < 2 ^ 200) : ShG (k + 1) 300 (.dict [(.str z, .int i)]) := by
  have a := ShG.str h k 20 hz
  have b := ShG.int (n := 200) hi (by decide) (by decide) k
  refine ⟨?_, ?_, ?_, ?_⟩
  · simp only [PyData.showable, PyData.showableKv]; have := a.s; have := b.s; simp_all [PyData.showable]
  · simp only [PyData.leavesShort, PyData.leavesShortKv]; have := a.l; have := b.l; simp_all [PyData.leavesShort]
  · simp only [PyData.depth, PyData.depthKv]; omega
  · have h1 := a.w
    have h2 := b.w
    simp only [PyData.weight, PyData.weightKv] at h1 h2 ⊢
    omega
theorem MkE.dic1 {z : Str} {i : Int} (hN : ∀ b ∈ N, H b ≠ none) (h : PyData.strOk z = true) (hz : z.length ≤ 20) (hi : i.natAbs < 2 ^ 200) : MkE N σ H (k + 1) 300 (tDisp [(tC (.str z), tC (.int i))]) := fun H1 Q s q p hp => by
  refine ⟨upd_same, [(.inr z, .int i)], rfl, (show 1 ≤ 15 by decide), ?_⟩
  refine q _ _ (.dict [(.str z, .int i)]) ?_ ?_ (ShG.dic1 h hz hi)
  · exact ((Sx.refl _).new hp).own hp
  · exact .dic [(z, i)] upd_same (notin_new hN s hp)
theorem MkE.var {i : Nat} {v : V} {d : PyData} {k2 : Nat} (hv : σ[i]? = some (some v)) (g : Gd N H v d) (sh : ShG k2 n d) (hk : k2 ≤ k) : MkE N σ H k n (tVar i) := fun H1 Q s q => ⟨v, hv, q H1 v d (Sx.refl _) (g.keep s.kp0) (sh.mono hk (Nat.le_refl _))⟩
/-- a list of such values, at an address of its own -/
def MkL (N : List Addr) (σ : L2.St) (H : Hp) (k n m : Nat) (t : TE) : Prop := ∀ (H1 : Hp) (Q : VK), Sx [] H H1 → (∀ H2 l vs, Sx [] H1 H2 → l ∉ N → H2 l = some (.lst vs) → GS N H2 k n vs → vs.length = m → Q (.ref l) H2) → t σ H1 Q
theorem MkL.lst {ta : TA} (hN : ∀ b ∈ N, H b ≠ none) (h : MkA N σ H k n m ta) (hm : m ≤ 16777216) : MkL N σ H k n m (tLst ta) := fun H1 Q s q =>
  h H1 _ s fun H2 vs s2 g hl => ⟨by rw [hl]; exact hm, fun p hp => q _ p vs (s2.new hp) (notin_new hN (s.trans s2) hp) upd_same (g.keep (Sx.n0 hp).kp0) hl⟩
theorem MkL.var {i : Nat} {l : Addr} {vs : List V} (hv : σ[i]? = some (some (.ref l))) (hl : l ∉ N) (e : H l = some (.lst vs)) (g : GS N H k n vs) (hm : vs.length = m) : MkL N σ H k n m (tVar i) := fun H1 Q s q => ⟨_, hv, q H1 l vs (Sx.refl _) hl (s _ _ (by simp) e) (g.keep s.kp0) hm⟩
theorem MkL.cat {ta tb : TE} {n2 m2 : Nat} (hN : ∀ b ∈ N, H b ≠ none) (h : MkL N σ H k n m ta) (h' : MkL N σ H k n2 m2 tb) (hm : m + m2 ≤ 16777216) : MkL N σ H k (n + n2) (m + m2) (tOp rCat ta tb) := fun H1 Q s q =>
  h H1 _ s fun H2 l vs s2 nl el g hl => h' H2 _ (s.trans s2) fun H3 l' us s3 nl' el' g' hl' => ⟨l, l', vs, us, rfl, rfl, s3 _ _ (by simp) el, el', by rw [hl, hl']; exact hm, fun p hp =>
    q _ p _ ((s2.trans s3).new hp) (notin_new hN (s.trans (s2.trans s3)) hp) upd_same (((g.keep s3.kp0).append g').keep (Sx.n0 hp).kp0) (by rw [List.length_append, hl, hl'])⟩
end
/-! ### written lists, each item as large at most -/
def GE (N : List Addr) (H : Hp) (k e : Nat) (vs : List V) : Prop := ∃ ds, GdAll N H vs ds ∧ ∀ d ∈ ds, ShG k e d
def MkB (N : List Addr) (σ : L2.St) (H : Hp) (k e m : Nat) (t : TA) : Prop := ∀ (H1 : Hp) (Q : List V → Hp → Prop), Sx [] H H1 → (∀ H2 vs, Sx [] H1 H2 → GE N H2 k e vs → vs.length = m → Q vs H2) → t σ H1 Q
def MkM (N : List Addr) (σ : L2.St) (H : Hp) (k e m : Nat) (t : TE) : Prop := ∀ (H1 : Hp) (Q : VK), Sx [] H H1 → (∀ H2 l vs, Sx [] H1 H2 → l ∉ N → H2 l = some (.lst vs) → GE N H2 k e vs → vs.length = m → Q (.ref l) H2) → t σ H1 Q
section
variable {N : List Addr} {σ : L2.St} {H : Hp} {k e m : Nat}
theorem GE.keep {H' : Hp} {vs : List V} (s : Kp N H H') (h : GE N H k e vs) : GE N H' k e vs := by
  obtain ⟨ds, h1, h2⟩ := h
  exact ⟨ds, h1.keep s, h2⟩
theorem GE.mono {vs : List V} {k2 e2 : Nat} (h : GE N H k e vs) (hk : k ≤ k2) (he : e ≤ e2) : GE N H k2 e2 vs := by
  obtain ⟨ds, h1, h2⟩ := h
  exact ⟨ds, h1, fun d hd => (h2 d hd).mono hk he⟩
theorem GE.nil : GE N H k e [] := ⟨[], .nil, fun _ h => by cases h⟩
theorem GE.cons {v : V} {d : PyData} {vs : List V} (g : Gd N H v d) (s : ShG k e d) (h : GE N H k e vs) : GE N H k e (v :: vs) := by
  obtain ⟨ds, h1, h2⟩ := h
  exact ⟨d :: ds, .cons g h1, fun x hx => (List.mem_cons.1 hx).elim (fun z => by rw [z]; exact s) (h2 x)⟩
theorem GE.append {vs us : List V} (h : GE N H k e vs) (h' : GE N H k e us) : GE N H k e (vs ++ us) := by
  obtain ⟨ds, h1, h2⟩ := h
  obtain ⟨es, h3, h4⟩ := h'
  exact ⟨ds ++ es, h1.append h3, fun d hd => (List.mem_append.1 hd).elim (h2 d) (h4 d)⟩
theorem GE.mem {vs : List V} {x : V} (h : GE N H k e vs) (hx : x ∈ vs) : ∃ d, Gd N H x d ∧ ShG k e d := by
  obtain ⟨ds, h1, h2⟩ := h
  obtain ⟨i, hi⟩ := List.getElem?_of_mem hx
  obtain ⟨d, hd, g⟩ := h1.get hi
  exact ⟨d, g, h2 d (List.mem_of_getElem? hd)⟩
theorem GE.take {vs : List V} (h : GE N H k e vs) (j : Nat) : GE N H k e (vs.take j) := by
  obtain ⟨ds, h1, h2⟩ := h
  exact ⟨ds.take j, h1.take j, fun d hd => h2 d (List.mem_of_mem_take hd)⟩
theorem GE.tup {vs : List V} (h : GE N H k e vs) : ∃ ds, GdAll N H vs ds ∧ ShGA k (vs.length * (e + 1)) ds := by
  obtain ⟨ds, h1, h2⟩ := h
  refine ⟨ds, h1, ?_⟩
  rw [h1.len]
  clear h1
  induction ds with
  | nil => exact .nil _ _
  | cons d ds ih =>
    refine (ShGA.cons (h2 d (List.mem_cons_self ..)) (ih fun x hx => h2 x (List.mem_cons_of_mem _ hx))).mono (Nat.le_refl _) ?_
    rw [List.length_cons, Nat.succ_mul]
    omega
theorem GE.strs {zs : List Str} (h : ∀ z ∈ zs, PyData.strOk z = true ∧ z.length ≤ e) : GE N H k e (zs.map V.str) := by
  induction zs with
  | nil => exact .nil
  | cons z zs ih =>
    obtain ⟨h1, h2⟩ := h z (List.mem_cons_self ..)
    exact .cons (.str z) (ShG.str h1 k e h2) (ih fun y hy => h y (List.mem_cons_of_mem _ hy))
theorem MkB.nil : MkB N σ H k e 0 tNil := fun H1 Q s q => q H1 [] (Sx.refl _) .nil rfl
theorem MkB.cons {te : TE} {ta : TA} {n : Nat} (h : MkE N σ H k n te) (hn : n ≤ e) (h' : MkB N σ H k e m ta) : MkB N σ H k e (m + 1) (tCons te ta) := fun H1 Q s q =>
  h H1 _ s fun H2 v d s2 g sh => h' H2 _ (s.trans s2) fun H3 vs s3 ge hl => q H3 (v :: vs) (s2.trans s3) (.cons (g.keep s3.kp0) (sh.mono (Nat.le_refl _) hn) ge) (by rw [List.length_cons, hl])
theorem MkM.lst {ta : TA} (hN : ∀ b ∈ N, H b ≠ none) (h : MkB N σ H k e m ta) (hm : m ≤ 16777216) : MkM N σ H k e m (tLst ta) := fun H1 Q s q =>
  h H1 _ s fun H2 vs s2 g hl => ⟨by rw [hl]; exact hm, fun p hp => q _ p vs (s2.new hp) (notin_new hN (s.trans s2) hp) upd_same (g.keep (Sx.n0 hp).kp0) hl⟩
theorem MkM.var {i : Nat} {l : Addr} {vs : List V} (hv : σ[i]? = some (some (.ref l))) (hl : l ∉ N) (el : H l = some (.lst vs)) (g : GE N H k e vs) (hm : vs.length = m) : MkM N σ H k e m (tVar i) := fun H1 Q s q => ⟨_, hv, q H1 l vs (Sx.refl _) hl (s _ _ (by simp) el) (g.keep s.kp0) hm⟩
theorem MkM.cat {ta tb : TE} {m2 : Nat} (hN : ∀ b ∈ N, H b ≠ none) (h : MkM N σ H k e m ta) (h' : MkM N σ H k e m2 tb) (hm : m + m2 ≤ 16777216) : MkM N σ H k e (m + m2) (tOp rCat ta tb) := fun H1 Q s q =>
  h H1 _ s fun H2 l vs s2 nl el g hl => h' H2 _ (s.trans s2) fun H3 l' us s3 nl' el' g' hl' => ⟨l, l', vs, us, rfl, rfl, s3 _ _ (by simp) el, el', by rw [hl, hl']; exact hm, fun p hp =>
    q _ p _ ((s2.trans s3).new hp) (notin_new hN (s.trans (s2.trans s3)) hp) upd_same (((g.keep s3.kp0).append g').keep (Sx.n0 hp).kp0) (by rw [List.length_append, hl, hl'])⟩
end
/-! ### written data, told exactly -/
def MkX (σ : L2.St) (H : Hp) (t : TE) (d : PyData) : Prop := ∀ (H1 : Hp) (Q : VK), Sx [] H H1 → (∀ H2 v, Sx [] H1 H2 → Tp H2 v d → Q v H2) → t σ H1 Q
def MkXA (σ : L2.St) (H : Hp) (t : TA) (ds : List PyData) : Prop := ∀ (H1 : Hp) (Q : List V → Hp → Prop), Sx [] H H1 → (∀ H2 vs, Sx [] H1 H2 → TpAll H2 vs ds → Q vs H2) → t σ H1 Q
def MkXL (σ : L2.St) (H : Hp) (t : TE) (ds : List PyData) : Prop := ∀ (H1 : Hp) (Q : VK), Sx [] H H1 → (∀ H2 l vs, Sx [] H1 H2 → H2 l = some (.lst vs) → TpAll H2 vs ds → Q (.ref l) H2) → t σ H1 Q
section
variable {σ : L2.St} {H : Hp}
theorem MkX.int {i : Int} : MkX σ H (tC (.int i)) (.int i) := fun H1 Q s q => q H1 _ (Sx.refl _) (.int i)
theorem MkX.str {z : Str} : MkX σ H (tC (.str z)) (.str z) := fun H1 Q s q => q H1 _ (Sx.refl _) (.str z)
theorem MkX.bl {b : Bool} : MkX σ H (tC (.bl b)) (.bool b) := fun H1 Q s q => q H1 _ (Sx.refl _) (.bl b)
theorem MkX.non : MkX σ H (tC .non) .none := fun H1 Q s q => q H1 _ (Sx.refl _) .non
theorem MkX.neg {i : Int} : MkX σ H (tUn (rU fun i => .int (-i)) (tC (.int i))) (.int (-i)) := fun H1 Q s q => ⟨i, rfl, q H1 _ (Sx.refl _) (.int _)⟩
theorem MkX.var {i : Nat} {v : V} {d : PyData} (hv : σ[i]? = some (some v)) (t : Tp H v d) : MkX σ H (tVar i) d := fun H1 Q s q => ⟨v, hv, q H1 v (Sx.refl _) (t.keep s.tk0)⟩
theorem MkXA.nil : MkXA σ H tNil [] := fun H1 Q s q => q H1 [] (Sx.refl _) .nil
theorem MkXA.cons {te : TE} {ta : TA} {d : PyData} {ds : List PyData} (h : MkX σ H te d) (h' : MkXA σ H ta ds) : MkXA σ H (tCons te ta) (d :: ds) := fun H1 Q s q =>
  h H1 _ s fun H2 v s2 t2 => h' H2 _ (s.trans s2) fun H3 vs s3 t3 => q H3 (v :: vs) (s2.trans s3) (.cons (t2.keep s3.tk0) t3)
theorem MkX.tup {ta : TA} {ds : List PyData} (h : MkXA σ H ta ds) (hm : ds.length ≤ 16777216) : MkX σ H (tTup ta) (.tuple ds) := fun H1 Q s q =>
  h H1 _ s fun H2 vs s2 t2 => ⟨by rw [t2.len]; exact hm, fun p hp => q _ _ (s2.new hp) (.tup upd_same (t2.new hp))⟩
theorem MkXL.lst {ta : TA} {ds : List PyData} (h : MkXA σ H ta ds) (hm : ds.length ≤ 16777216) : MkXL σ H (tLst ta) ds := fun H1 Q s q =>
  h H1 _ s fun H2 vs s2 t2 => ⟨by rw [t2.len]; exact hm, fun p hp => q _ p vs (s2.new hp) upd_same (t2.new hp)⟩
theorem MkXL.var {i : Nat} {l : Addr} {vs : List V} {ds : List PyData} (hv : σ[i]? = some (some (.ref l))) (e : H l = some (.lst vs)) (t : TpAll H vs ds) : MkXL σ H (tVar i) ds := fun H1 Q s q => ⟨_, hv, q H1 l vs (Sx.refl _) (s _ _ (by simp) e) (t.keep s.tk0)⟩
theorem MkXL.cat {ta tb : TE} {ds es : List PyData} (h : MkXL σ H ta ds) (h' : MkXL σ H tb es) (hm : ds.length + es.length ≤ 16777216) : MkXL σ H (tOp rCat ta tb) (ds ++ es) := fun H1 Q s q =>
  h H1 _ s fun H2 l vs s2 e2 t2 => h' H2 _ (s.trans s2) fun H3 l' us s3 e3 t3 => ⟨l, l', vs, us, rfl, rfl, s3 _ _ (by simp) e2, e3, by rw [t2.len, t3.len]; exact hm, fun p hp =>
    q _ p _ ((s2.trans s3).new hp) upd_same (((t2.keep s3.tk0).append t3).new hp)⟩
end
theorem gNext {D : Ends} {σ : L2.St} {H : Hp} (h : D.nx σ H) : tNext D σ H := h
theorem gForL {K : PySem.W.Frag} {tl : TE} {g : TG} {tb : TS} {D : Ends} {σ : L2.St} {H : Hp} (h : tl σ H fun x H1 => ∃ a, x = .ref a ∧ (∃ xs, SqL K H1 a xs) ∧ ∃ W : Nat → Nat → L2.St → Hp → Prop, (∃ m, W 0 m σ H1) ∧ ∀ i m σ H, W i m σ H →
    ((Itl K a).stop i H ∧ D.nx σ H) ∨ ((Itl K a).go i H ∧ ∃ Nx : L2.St → Hp → Prop, (∀ σ' H', Nx σ' H' → ∃ m', m' < m ∧ W (i + 1) m' σ' H') ∧ ∀ x H', (Itl K a).yld i H x H' → g x σ H' fun σ2 H2 => tb { D with nx := Nx, ct := Nx, bk := D.nx } σ2 H2)) : tFor (iList K tl) g tb D σ H := h
theorem Ex.nm_ok {ns : List Str} (hn : ∀ z ∈ ns, NmOk z) : ∀ (x : Ex) (n : Nat), x.ok ns n → x.nm
  | .int _, _, _ => trivial
  | .name z, _, h => hn z h.2
  | .plus x y, n, h => ⟨Ex.nm_ok hn x _ h.2.1, Ex.nm_ok hn y _ h.2.2⟩
  | .minus x y, n, h => ⟨Ex.nm_ok hn x _ h.2.1, Ex.nm_ok hn y _ h.2.2⟩
  | .times _ x, n, h => Ex.nm_ok hn x _ h.2.2.2
theorem Ts.nm_ok {ns : List Str} (hn : ∀ z ∈ ns, NmOk z) : ∀ (t : Ts) (n : Nat), t.ok ns n → t.nm
  | .rest x _ _, _, h => Ex.nm_ok hn x _ h.1
  | .less x y, _, h => ⟨Ex.nm_ok hn x _ h.1, Ex.nm_ok hn y _ h.2⟩
  | .not t, n, h => Ts.nm_ok hn t _ h.2
theorem St.nm_ok {ns : List Str} (hn : ∀ z ∈ ns, NmOk z) (s : St) (n : Nat) (h : s.ok ns n) : s.nm := by
  cases s with
  | set z e => exact ⟨hn z h.1, Ex.nm_ok hn e _ h.2⟩
  | pay e => exact Ex.nm_ok hn e _ h
  | ite t y n => exact Ts.nm_ok hn t _ h.1
  | _ => trivial
mutual
theorem St.rws_ok {ns : List Str} : ∀ (s : St) (n : Nat) (d p : Int), s.ok ns n → ∀ r ∈ s.rws d p, ∃ m, r.2.2.ok ns m
  | .set _ _, n, _, _, h, r, hr => by rw [List.mem_singleton.mp hr]; exact ⟨n, h⟩
  | .pay _, n, _, _, h, r, hr => by rw [List.mem_singleton.mp hr]; exact ⟨n, h⟩
  | .stop, n, _, _, h, r, hr => by rw [List.mem_singleton.mp hr]; exact ⟨n, h⟩
  | .ite t y z, n, d, p, h, r, hr => by
    rcases List.mem_cons.1 hr with rfl | hr
    · exact ⟨n, h⟩
    · rcases List.mem_append.1 hr with hr | hr
      · exact Bk.rws_ok y n _ _ h.2.1 r hr
      · exact Bk.rws_ok z n _ _ h.2.2 r hr
  | .rep k y, n, d, p, h, r, hr => by
    rcases List.mem_cons.1 hr with rfl | hr
    · exact ⟨n, h⟩
    · exact Bk.rws_ok y n _ _ h.2.2 r hr
theorem Bk.rws_ok {ns : List Str} : ∀ (b : Bk) (n : Nat) (d p : Int), b.ok ns n → ∀ r ∈ b.rws d p, ∃ m, r.2.2.ok ns m
  | .nil, _, _, _, _, r, hr => by cases hr
  | .cons s b, n, d, p, h, r, hr => by
    rcases List.mem_append.1 hr with hr | hr
    · exact St.rws_ok s _ d p h.2.1 r hr
    · exact Bk.rws_ok b n d _ h.2.2 r hr
end
/-! ### programs within all bounds -/
theorem Ex.okB_ok {ns : List Str} : ∀ (e : Ex) (n : Nat), e.ok ns n → e.okB n = true
  | .int i, n, ⟨h1, h2, h3⟩ => by
    rw [Ex.okB, decide_eq_true (show 0 < n by omega), decide_eq_true h2, decide_eq_true h3]; rfl
  | .name z, n, ⟨h1, _⟩ => by rw [Ex.okB, decide_eq_true (show 0 < n by omega)]
  | .plus x y, n, ⟨h1, h2, h3⟩ => by rw [Ex.okB, decide_eq_true (show 0 < n by omega), Ex.okB_ok x _ h2, Ex.okB_ok y _ h3]; rfl
  | .minus x y, n, ⟨h1, h2, h3⟩ => by rw [Ex.okB, decide_eq_true (show 0 < n by omega), Ex.okB_ok x _ h2, Ex.okB_ok y _ h3]; rfl
  | .times f x, n, ⟨h1, h2, h3, h4⟩ => by rw [Ex.okB, decide_eq_true (show 0 < n by omega), decide_eq_true h2, decide_eq_true h3, Ex.okB_ok x _ h4]; rfl
theorem Ts.okB_ok {ns : List Str} : ∀ (t : Ts) (n : Nat), t.ok ns n → t.okB n = true
  | .rest x b r, n, ⟨h1, h2, h3, h4, h5⟩ => by rw [Ts.okB, decide_eq_true h2, decide_eq_true h3, Ex.okB_ok x 3 h1, decide_eq_true h4, decide_eq_true (show r ≤ b - 1 by omega)]; rfl
  | .less x y, n, ⟨h1, h2⟩ => by rw [Ts.okB, Ex.okB_ok x 3 h1, Ex.okB_ok y 3 h2]; rfl
  | .not t, n, ⟨h1, h2⟩ => by rw [Ts.okB, decide_eq_true (show 0 < n by omega), Ts.okB_ok t _ h2]; rfl
theorem St.okB_ok {ns : List Str} (s : St) (d : Nat) (h : s.ok ns d) : s.okB = true := by
  cases s with
  | set z e => exact Ex.okB_ok e 3 h.2
  | pay e => exact Ex.okB_ok e 3 h
  | stop => rfl
  | ite t y n => exact Ts.okB_ok t 2 h.1
  | rep k y => rw [St.okB, decide_eq_true h.1, decide_eq_true h.2.1]; rfl
mutual
theorem St.rws_dp {ns : List Str} : ∀ (s : St) (n : Nat) (d p : Int), s.ok ns n → ∀ r ∈ s.rws d p, r.2.1 ≤ d + n
  | .set _ _, n, d, _, _, r, hr => by rw [List.mem_singleton.mp hr]; show d ≤ d + n; omega
  | .pay _, n, d, _, _, r, hr => by rw [List.mem_singleton.mp hr]; show d ≤ d + n; omega
  | .stop, n, d, _, _, r, hr => by rw [List.mem_singleton.mp hr]; show d ≤ d + n; omega
  | .ite t y z, n, d, p, h, r, hr => by
    rcases List.mem_cons.1 hr with rfl | hr
    · show d ≤ d + n; omega
    · rcases List.mem_append.1 hr with hr | hr
      · have := Bk.rws_dp y n _ _ h.2.1 r hr; omega
      · have := Bk.rws_dp z n _ _ h.2.2 r hr; omega
  | .rep k y, n, d, p, h, r, hr => by
    rcases List.mem_cons.1 hr with rfl | hr
    · show d ≤ d + n; omega
    · have := Bk.rws_dp y n _ _ h.2.2 r hr; omega
theorem Bk.rws_dp {ns : List Str} : ∀ (b : Bk) (n : Nat) (d p : Int), b.ok ns n → ∀ r ∈ b.rws d p, r.2.1 ≤ d + n - 1
  | .nil, _, _, _, _, r, hr => by cases hr
  | .cons s b, n, d, p, h, r, hr => by
    have h1 := h.1
    rcases List.mem_append.1 hr with hr | hr
    · have := St.rws_dp s _ d p h.2.1 r hr; omega
    · exact Bk.rws_dp b n d _ h.2.2 r hr
end
mutual
theorem St.sum_wt {ns : List Str} : ∀ (s : St) (n : Nat), s.ok ns n → s.sumO (fun _ => 1) = (s.wt : Int)
  | .set _ _, _, _ => rfl
  | .pay _, _, _ => rfl
  | .stop, _, _ => rfl
  | .ite t y z, n, h => by rw [St.sumO, St.wt, Bk.sum_wt y n h.2.1, Bk.sum_wt z n h.2.2]; omega
  | .rep k y, n, h => by
    rw [St.sumO, St.wt, Bk.sum_wt y n h.2.2, Int.natCast_add, Int.natCast_mul, Int.toNat_of_nonneg (by have := h.1; omega)]; rfl
theorem Bk.sum_wt {ns : List Str} : ∀ (b : Bk) (n : Nat), b.ok ns n → b.sumO (fun _ => 1) = (b.wt : Int)
  | .nil, _, _ => rfl
  | .cons s b, n, h => by rw [Bk.sumO, Bk.wt, St.sum_wt s _ h.2.1, Bk.sum_wt b n h.2.2]; omega
end
theorem Ts.bare_hd : ∀ t : Ts, t.bare.hd = if t.isR = true then "rest" else "less"
  | .rest _ _ _ => rfl
  | .less _ _ => rfl
  | .not t => by rw [Ts.bare, Ts.isR]; exact Ts.bare_hd t
theorem own_q (q : Bool) (t : Ts) (y n : Bk) : ownT (if q = true then "rest" else "less") (.ite t y n) = if t.isR = q then 1 else 0 := by
  have h1 : ¬ (V.str "less" = V.str "rest") := by decide +kernel
  have h2 : ¬ (V.str "rest" = V.str "less") := by decide +kernel
  unfold ownT
  rw [St.tw, Ts.bare_hd]
  cases t.isR <;> cases q <;> simp [h1, h2]
mutual
theorem St.sum_tn {ns : List Str} (q : Bool) : ∀ (s : St) (n : Nat), s.ok ns n → s.sumO (ownT (if q = true then "rest" else "less")) = (s.tn q : Int)
  | .set _ _, _, _ => rfl
  | .pay _, _, _ => rfl
  | .stop, _, _ => rfl
  | .ite t y z, n, h => by
    rw [St.sumO, St.tn, Bk.sum_tn q y n h.2.1, Bk.sum_tn q z n h.2.2, own_q]
    split <;> omega
  | .rep k y, n, h => by
    rw [St.sumO, St.tn, Bk.sum_tn q y n h.2.2, Int.natCast_mul, Int.toNat_of_nonneg (by have := h.1; omega)]
    show 0 + _ = _
    omega
theorem Bk.sum_tn {ns : List Str} (q : Bool) : ∀ (b : Bk) (n : Nat), b.ok ns n → b.sumO (ownT (if q = true then "rest" else "less")) = (b.tn q : Int)
  | .nil, _, _ => rfl
  | .cons s b, n, h => by rw [Bk.sumO, Bk.tn, St.sum_tn q s _ h.2.1, Bk.sum_tn q b n h.2.2]; omega
end
theorem perrL_all {e : PyData} : ∀ {l : List Rw}, (∀ r ∈ l, r.2.1 ≤ 3 ∧ r.2.2.okB = true) → perrL l e = e
  | [], _ => rfl
  | (p, d, s) :: l, h => by
    obtain ⟨h1, h2⟩ := h (p, d, s) (List.mem_cons_self ..)
    have h1 : d ≤ 3 := h1
    have h2 : s.okB = true := h2
    rw [perrL, if_neg (by omega), if_neg (by rw [h2]; decide)]
    exact perrL_all fun r hr => h r (List.mem_cons_of_mem _ hr)
theorem Bk.perr_no {ns : List Str} {b : Bk} (ho : b.ok ns 4) (h1 : b.sz ≤ 24) (h2 : b.wt ≤ 30) (h3 : b.tn true ≤ 2) (h4 : b.tn false ≤ 2) : b.perr = .none := by
  unfold Bk.perr
  rw [perrL_all fun r hr => ⟨by have := Bk.rws_dp b 4 0 0 ho r hr; omega, by obtain ⟨m, hm⟩ := Bk.rws_ok b 4 0 0 ho r hr; exact St.okB_ok _ m hm⟩]
  have w := Bk.sum_wt b 4 ho
  have r := Bk.sum_tn true b 4 ho
  have l := Bk.sum_tn false b 4 ho
  rw [if_pos rfl] at r
  rw [if_neg (by decide)] at l
  unfold Bk.bnd
  rw [if_neg (by omega), if_neg (by omega), if_neg (by omega), if_neg (by omega)]
/-- neither lists nor tables are tuples -/
theorem tk_ex {H H' : Hp} {ex : List Addr} (s : Sx ex H H') (h : ∀ b ∈ ex, ∀ xs, H b ≠ some (.tup xs)) : Tk H H' := fun b xs e => s b _ (fun hb => h b hb xs e) e
theorem tab_at {PW PT : Addr} {H : Hp} (hT : LamX.Tabs (TL PW PT) H) : ∀ b ∈ [PW, PT], ∃ ps, H b = some (.tbl ps) := fun b hb => by
  rcases List.mem_cons.1 hb with rfl | hb
  · obtain ⟨ps, hP, _⟩ := hT _ (List.mem_cons_self ..)
    exact ⟨ps, hP⟩
  · obtain ⟨ps, hP, _⟩ := hT _ (List.mem_cons_of_mem _ (List.mem_cons_self ..))
    rw [List.mem_singleton.mp hb]
    exact ⟨ps, hP⟩
theorem ex_nt {PW PT D c : Addr} {H : Hp} {cs : List Int} {k : Int} (DK : Dk H D c cs k) (hT : LamX.Tabs (TL PW PT) H) : ∀ b ∈ [D, c, PW, PT], ∀ xs, H b ≠ some (.tup xs) := fun b hb xs e => by
  rcases List.mem_cons.1 hb with rfl | hb
  · rw [DK.ha] at e; cases e
  · rcases List.mem_cons.1 hb with rfl | hb
    · rw [DK.hc] at e; cases e
    · obtain ⟨ps, hP⟩ := tab_at hT b hb
      rw [hP] at e; cases e
theorem deck_nt {PW PT D c : Addr} {H : Hp} {cs : List Int} {k : Int} (DK : Dk H D c cs k) (hT : LamX.Tabs (TL PW PT) H) : (∀ b ∈ [D, c], b ∉ [PW, PT]) ∧ ∀ b ∈ [PW, PT], b ∉ [D, c] := by
  have z : ∀ b, b ∈ [D, c] → b ∈ [PW, PT] → False := fun b h1 h2 => by
    obtain ⟨ys, e⟩ := DK.lst b h1
    obtain ⟨ps, e2⟩ := tab_at hT b h2
    rw [e] at e2; cases e2
  exact ⟨fun b h1 h2 => z b h1 h2, fun b h1 h2 => z b h2 h1⟩
/-- the tables stay where the deck is drawn from -/
theorem tabs_deck {PW PT D c : Addr} {H H' : Hp} {cs : List Int} {k : Int} (DK : Dk H D c cs k) (hT : LamX.Tabs (TL PW PT) H) (s : Sx [D, c] H H') : LamX.Tabs (TL PW PT) H' := fun p hp => by
  obtain ⟨ps, h1, h2, h3⟩ := hT p hp
  have hb : p.1 ∈ [PW, PT] := by
    rcases List.mem_cons.1 hp with rfl | hp
    · exact List.mem_cons_self ..
    · rw [List.mem_singleton.mp hp]; exact List.mem_cons_of_mem _ (List.mem_cons_self ..)
  refine ⟨ps, s _ _ ((deck_nt DK hT).2 _ hb) h1, h2, fun pos cv hc => ?_⟩
  obtain ⟨cc, e, h4⟩ := h3 pos cv hc
  exact ⟨cc, e, s _ _ (fun hb => by obtain ⟨ys, e2⟩ := DK.lst cc hb; rw [h4] at e2; cases e2) h4⟩
/-- the deck stays where the tables grow -/
theorem deck_tabs {PW PT D c : Addr} {H H' : Hp} {cs : List Int} {k : Int} (DK : Dk H D c cs k) (hT : LamX.Tabs (TL PW PT) H) (s : Sx [PW, PT] H H') : Dk H' D c cs k := DK.sx s ((deck_nt DK hT).1 _ (List.mem_cons_self ..)) ((deck_nt DK hT).1 _ (List.mem_cons_of_mem _ (List.mem_cons_self ..)))
/-! ### typed programs, as values of any kind -/
theorem blD_set (z : Str) (e : PyData) : blD (.tuple [.str "set", .str z, e]) = [] := by
  cases e <;> simp only [blD]
  rw [(if_neg (by decide +kernel))]
theorem blD_typed (s : St) : blD s.d = s.blks.map Bk.ds := by
  cases s with
  | set z e => exact blD_set z e.d
  | pay e => exact blD2 _ _
  | stop => exact blD1 _
  | ite t y n => show blD (.tuple [.str "if", t.d, .tuple y.ds, .tuple n.ds]) = _; rw [blD4, if_pos rfl]; rfl
  | rep k y => show blD (.tuple [.str "repeat", .int k, .tuple y.ds]) = _; rw [blD3, if_pos rfl]; rfl
def fDt (x : Int × St) : Int × PyData := (x.1, x.2.d)
theorem atD_typed (d : Int) (b : Bk) : atD d b.ds = (b.stk d).map fDt := by
  rw [b.ds_lst]
  unfold atD Bk.stk
  rw [List.map_map]; rw [List.map_map]
  rfl
theorem kidD_typed (d : Int) : ∀ l : List Bk, kidD (l.map Bk.ds) d = (kidsOf l d).map fDt
  | [] => rfl
  | b :: l => by
    show atD d b.ds ++ kidD (l.map Bk.ds) d = (b.stk d ++ kidsOf l d).map fDt
    rw [List.map_append, atD_typed, kidD_typed d l]
theorem perrS_typed (e : PyData) : ∀ (n : Nat) (ws : List (Int × St)) (p : Int), stkSz ws ≤ n → (∀ r ∈ stkRws ws p, r.2.2.nm) → perrS e (ws.map fDt) p = perrL (stkRws ws p) e
  | _, [], p, _, _ => rfl
  | 0, x :: ws, p, h, _ => by rw [stkSz_cons] at h; have := x.2.sz_pos; omega
  | n + 1, (d, s) :: ws, p, h, hn => by
    have rowE : stkRws ((d, s) :: ws) p = (p, d, s) :: (stkRws (kidsOf s.blks (d + 1)) (p + 1) ++ stkRws ws (p + s.sz)) := by
      show s.rws d p ++ stkRws ws _ = _
      rw [s.rws_kids, List.cons_append]
    have rows : stkRws (kidsOf s.blks (d + 1) ++ ws) (p + 1) = stkRws (kidsOf s.blks (d + 1)) (p + 1) ++ stkRws ws (p + s.sz) := by
      rw [stk_append, kidsSz]
      congr 2
      rw [s.sz_blks]
      omega
    rw [stkSz_cons] at h
    have h : s.sz + stkSz ws ≤ n + 1 := h
    rw [rowE] at hn ⊢
    have nm1 : s.nm := hn _ (List.mem_cons_self ..)
    show perrS e ((d, s.d) :: ws.map fDt) p = _
    rw [perrS_cons, perrL, stB_typed nm1, blD_typed, kidD_typed, ← List.map_append]
    have ih := perrS_typed e n (kidsOf s.blks (d + 1) ++ ws) (p + 1) (by rw [stkSz_append, kidsSz]; have := s.sz_blks; omega) (by rw [rows]; exact fun r hr => hn r (List.mem_cons_of_mem _ hr))
    rw [ih, rows]
theorem perrD_typed {b : Bk} (h : ∀ r ∈ b.rws 0 0, r.2.2.nm) : perrD (.tuple b.ds) = b.perr := by
  show perrS (bndD b.ds) (atD 0 b.ds) 0 = perrL (b.rws 0 0) b.bnd
  rw [atD_typed, bndD_ds, perrS_typed _ _ (b.stk 0) 0 (Nat.le_refl _) (by rw [stk_bk]; exact h), stk_bk]
/-- what is told is short -/
theorem sh_err1 (p : Int) (w : Str) (hp : p.natAbs < 2 ^ 100) (hw : PyData.strOk w = true) (hl : w.length ≤ 20) : ShG 60 80000 (.tuple [.int p, .str w]) :=
  (ShG.tup (k := 1) (.cons (ShG.int hp (by decide) (by decide) 1) (.cons (ShG.str hw 1 20 hl) (.nil 1 0)))).mono (by decide) (by decide)
theorem sh_err0 (w : Str) (hw : PyData.strOk w = true) (hl : w.length ≤ 20) : ShG 60 80000 (.tuple [.none, .str w]) :=
  (ShG.tup (k := 1) (.cons (ShG.non 1 0) (.cons (ShG.str hw 1 20 hl) (.nil 1 0)))).mono (by decide) (by decide)
theorem bnd_sh (b : Bk) : ShG 60 80000 b.bnd := by
  unfold Bk.bnd
  split
  · exact sh_err0 _ (by decide +kernel) (by decide +kernel)
  split
  · exact sh_err0 _ (by decide +kernel) (by decide +kernel)
  split
  · exact sh_err0 _ (by decide +kernel) (by decide +kernel)
  split
  · exact sh_err0 _ (by decide +kernel) (by decide +kernel)
  exact ShG.non _ _
theorem bndD_sh (ds : List PyData) : ShG 60 80000 (bndD ds) := by
  unfold bndD
  split
  · exact bnd_sh _
  · exact ShG.non _ _
theorem perrW_sh {e : PyData} (he : ShG 60 80000 e) : ∀ (n : Nat) (ws : List (Int × PyData)) (p : Int), 0 ≤ p → p + n < 2 ^ 100 → ShG 60 80000 (perrW e n ws p)
  | n, [], _, _, _ => by cases n <;> exact he
  | 0, _ :: _, _, _, _ => he
  | n + 1, (d, x) :: ws, p, h0, h1 => by
    show ShG 60 80000 (if 3 < d then _ else if stB x = false then _ else _)
    split
    · exact sh_err1 p _ (by omega) (by decide +kernel) (by decide +kernel)
    split
    · exact sh_err1 p _ (by omega) (by decide +kernel) (by decide +kernel)
    exact perrW_sh he n _ _ (by omega) (by omega)
theorem perrD_sh {d : PyData} (h : d.weight ≤ 80000) : ShG 60 80000 (perrD d) := by
  cases d with
  | tuple ds =>
    rw [tw] at h
    refine perrW_sh (bndD_sh ds) _ _ _ (Int.le_refl _) ?_
    rw [wS_at]
    have e : (2 : Int) ^ 100 = 1267650600228229401496703205376 := by decide +kernel
    omega
  | _ => exact sh_err0 _ (by decide +kernel) (by decide +kernel)
/-- a value that the law asks about -/
def Vl (N : List Addr) (H : Hp) (x : V) : Prop := ∃ d, Gd N H x d ∧ ShG 60 80000 d
theorem Vl.keep {N : List Addr} {H H' : Hp} {x : V} (h : Vl N H x) (k : Kp N H H') : Vl N H' x := by
  obtain ⟨d, g, s⟩ := h
  exact ⟨d, g.keep k, s⟩
def VlA (N : List Addr) (H : Hp) (xs : List V) : Prop := ∀ x ∈ xs, Vl N H x
theorem VlA.keep {N : List Addr} {H H' : Hp} {xs : List V} (h : VlA N H xs) (k : Kp N H H') : VlA N H' xs := fun x hx => (h x hx).keep k
theorem VlA.snoc {N : List Addr} {H : Hp} {xs : List V} {x : V} (h : VlA N H xs) (hx : Vl N H x) : VlA N H (xs ++ [x]) := fun y hy => (List.mem_append.1 hy).elim (h y) fun z => by rw [List.mem_singleton.mp z]; exact hx
theorem tabs_kp {N : List Addr} {PW PT : Addr} {H H' : Hp} (hT : LamX.Tabs (TL PW PT) H) (s : Sx [PW, PT] H H') : Kp N H H' :=
  ⟨tabs_tk hT s, fun b xs _ e => s b _ (fun hb => by obtain ⟨ps, hP⟩ := tab_at hT b hb; rw [e] at hP; cases hP) e, fun b xs _ e => s b _ (fun hb => by obtain ⟨ps, hP⟩ := tab_at hT b hb; rw [e] at hP; cases hP) e⟩
def spLawT (K : PySem.W.Frag) (Pw Pt : Addr) : Sp := fun vs H Q _ => ∃ (a : Addr) (ns : List Int), vs = [.ref a] ∧ SqL K H a (ns.map V.int) ∧ ns.length ≤ 63 ∧ LamX.Tabs (TL Pw Pt) H ∧ ∀ H', Q (.bl true) H'
/-! ### repr of any data -/
structure RpA (K : PySem.W.Frag) (H : Hp) (v : V) (d : PyData) : Prop where
  r1 : Dp K H v d
  r2 : d.showable = true
  r3 : d.hasDict = false
  r4 : d.depth ≤ 60
  r5 : d.shown.length ≤ 16777216
theorem RpA.of {K : PySem.W.Frag} {H : Hp} {v : V} {d : PyData} {k n : Nat} (h : Dp K H v d) (z : Shw k n d) (hk : k ≤ 60) (hn : n ≤ 8000) : RpA K H v d :=
  ⟨h, z.s, z.h, by have := z.dp; omega, z.len hn⟩
def rReprA (K : PySem.W.Frag) : List V → Hp → VK → Prop := fun xs H Q => ∃ x d, xs = [x] ∧ RpA K H x d ∧ Q (.str d.shown) H
theorem call_reprA {X : Cx} (hgd : X.A.guards = some []) (hu : X.A.units + 64 < cLine) : CallR X (.builtin "repr") (rReprA X.K) := by
  intro pins s σ H xs us Q I r h0; have h := h0
  obtain ⟨x, d, rfl, ⟨hd, hs, hnd, hdp, hz⟩, q⟩ := h
  rcases vals1 r with ⟨u, rfl, rx⟩
  have fin : ∀ {as : List Addr} {a : Addr}, Reads s.heap (.ref a) d as → wpAny (model X.prog X.w) X.A (call (.builtin "repr") [.ref a]) (EP X pins σ Q) X.xe s := fun {as a} rd =>
    repr_of_reads' rd hs (fun h => by rw [hnd] at h; cases h) hgd (by omega) (fun _ _ e => e) (fun h' u' tk hk => ⟨.str d.shown, H, I.kept hk, ⟨u', rfl⟩, q⟩) hz
  obtain ⟨as, rd⟩ := Dp.reads I d x u hd rx
  cases hd with
  | non =>
    cases rx
    have e : PyData.shown .none = "None" := by simp only [PyData.shown]
    rw [e] at q
    exact PySem.P.repr_of_none ⟨.str _, H, I.tok _, ⟨_, rfl⟩, q⟩
  | bl b =>
    cases rx
    have e : (PyData.bool b).shown = (if b then "True" else "False" : Str) := by cases b <;> simp [PyData.shown]
    rw [e] at q
    exact PySem.P.repr_of_bool ⟨.str _, H, I.tok _, ⟨_, rfl⟩, q⟩
  | int i =>
    obtain ⟨t, rfl⟩ := rx
    have hi : i.natAbs.log2 < 1920 := by
      have : (PyData.int i).showable = true := hs
      simpa only [PyData.showable, decide_eq_true_eq] using this
    have e : (PyData.int i).shown = (toString i : String) := by simp only [PyData.shown]
    rw [e] at q
    exact PySem.P.repr_of_int hi ⟨.str _, H, I.tok _, ⟨_, rfl⟩, q⟩
  | str z =>
    obtain ⟨t, rfl⟩ := rx
    have e : (PyData.str z).shown = reprText z := by simp only [PyData.shown]
    rw [e] at q hz
    exact PySem.P.repr_of_str ⟨.str _, H, I.tok _, ⟨_, rfl⟩, q⟩ hz
  | lst hq ha => cases rx; exact fin rd
  | tup hq ha => cases rx; exact fin rd
/-! ### enumerate(tuple) -/
theorem meets_enumT (l : Addr) (items : Array Value) (n : Nat) (dct : Option Addr) (sl : Array (Option Value)) :
    Meets (Builtin.«enumerate.__new__» ⟨[.type "enumerate", .ref l], []⟩) (fun _ R s => s.heap.get? l = some { cls := .type "tuple", dict := dct, data := .seq items n, slots := sl } ∧
      R (.ok (.ret (.ref (s.heap.push { cls := .type "tuple_iterator", data := .fields #[.ref l, .int 0 0] }).objs.size)))
        { s with heap := (s.heap.push { cls := .type "tuple_iterator", data := .fields #[.ref l, .int 0 0] }).push { cls := .type "enumerate", data := .fields #[.none, .bool false, .ref s.heap.objs.size, rawInt 0, .none, .none] } }) :=
  .of_wp fun pr w0 A0 R0 s0 h0 => by
    obtain ⟨hp, g, d, tk, os⟩ := s0; obtain ⟨ht, h⟩ := h0
    have hsb := sub_enumerate
    have hT : Heap.IsTuple (Shared.heap ⟨hp, g, d, tk, os⟩) l items := ⟨_, ht, rfl, n, rfl⟩
    (wp_walk using AutoSeq1.wpAny_loadPart' ht)
    refine wpAny_stack_any fun stk => wpAny_pure ?_
    split
    · rename_i c _ _ _ _ _
      cases (c == Value.type "enumerate") <;> (wp_walk using AutoSeq1.wpAny_loadPart' ht, wpAny_pyIter_tuple hT; exact ⟨_, rfl, h⟩)
    · (wp_walk using AutoSeq1.wpAny_loadPart' ht, wpAny_pyIter_tuple hT; exact ⟨_, rfl, h⟩)
theorem call_enumT {pr : Program} {w : World} {A : Around} {E : Value → Shared → Prop} {s : Shared} {l : Addr} {items : Array Value} {Q : Value → Shared → Prop} (hL : s.heap.IsTuple l items)
    (h : ∀ h', IsEnum h' (s.heap.objs.size + 1) s.heap.objs.size 0 .none → h'.IsTupleIter s.heap.objs.size l 0 → h'.objs.size = s.heap.objs.size + 2 →
      (∀ y oy, s.heap.get? y = some oy → h'.get? y = some oy) → Q (.ref (s.heap.objs.size + 1)) { s with heap := h' }) :
    wpAny (model pr w) A (call (.type "enumerate") [.ref l]) Q E s := by
  obtain ⟨⟨c, dct, dt, sl⟩, ht, hc, n, hd⟩ := hL
  have hc : c = .type "tuple" := hc
  have hd : dt = .seq items n := hd
  subst hc hd
  refine callType_new F.called_enumerate (by decide) (F.typeCall_enumerate_1 _) (F.newCall_enumerate_1 _) (fun ob => F.args_object_init_2 ob _) F.entry_enumerate_new (meets_enumT l items n dct sl) ⟨ht, ?_⟩
  have hz : (s.heap.push { cls := .type "tuple_iterator", data := .fields #[.ref l, .int 0 0] }).objs.size = s.heap.objs.size + 1 := Heap.size_push ..
  show _ ∧ _
  rw [hz]
  have he : IsEnum ((s.heap.push { cls := .type "tuple_iterator", data := .fields #[.ref l, .int 0 0] }).push { cls := .type "enumerate", data := .fields #[.none, .bool false, .ref s.heap.objs.size, rawInt 0, .none, .none] }) (s.heap.objs.size + 1) s.heap.objs.size 0 .none := by
    have e := Heap.get?_push_size (s.heap.push { cls := .type "tuple_iterator", data := .fields #[.ref l, .int 0 0] }) (o := { cls := .type "enumerate", data := .fields #[.none, .bool false, .ref s.heap.objs.size, rawInt 0, .none, .none] }) rfl
    rw [hz] at e
    exact e
  exact ⟨⟨_, he, rfl⟩, h _ he ⟨_, Heap.get?_push_of_some _ (Heap.get?_push_size _ rfl), rfl, rfl⟩ (by rw [Heap.size_push, hz]) fun b o x => Heap.get?_push_of_some _ (Heap.get?_push_of_some _ x)⟩
/-- the tuple at a as it stands at each turn, each item in a new pair -/
def IteT (K : PySem.W.Frag) (a : Addr) : It :=
  ⟨fun i H => ∃ (xs : List V) (x : V), SqT K H a xs ∧ xs[i]? = some x, fun i H v H' => ∃ T x, v = .ref T ∧ H T = none ∧ H' = upd H T (.tup [.int (i : Nat), x]) ∧ ∀ xs, SqT K H a xs → xs[i]? = some x, fun i H => ∃ xs : List V, SqT K H a xs ∧ xs.length = i⟩
theorem tupInj {X : Cx} {pins : List (Addr × Obj)} {σ : L2.St} {H : Hp} {s : Shared} {a : Addr} {xs ys : List V} (I : Inv X pins σ H s) (h1 : SqT X.K H a xs) (h2 : SqT X.K H a ys) : xs = ys := I.tuple_inj h1 h2
theorem turn_enumT {P : Program} {w : World} {K : PySem.W.Frag} {elts : List Expr} {kk : Nat} {tpos : Pos} (a e it : Addr) :
    L2.Turn P w K (.Tuple elts kk tpos) (IteT K a) [e, it] e (fun i h => (∃ old, IsEnum h e it ((i : Nat) : Int) old) ∧ h.IsTupleIter it a i ∧ e ≠ it ∧ a ≠ it ∧ a ≠ e) where
  mem := by simp
  obj := fun i h st b hb => by
    rcases st with ⟨⟨old, he⟩, ⟨o, ho, hc, hd⟩, _⟩
    rcases (show b = e ∨ b = it by simpa using hb) with z | z
    · rw [z]
      exact ⟨_, he, fun v q => nomatch q⟩
    · rw [z]
      exact ⟨o, ho, fun v q => by rw [hd] at q; cases q⟩
  keep := fun i h h' st k => by
    obtain ⟨⟨was, ee⟩, hi, ne⟩ := st
    exact ⟨⟨was, k e (by simp) _ ee⟩, hi.at fun o q => k it (by simp) o q, ne⟩
  item := by
    intro X hP hw hK hc i pins s σ H Ex I hf st hg
    subst hP hw hK
    obtain ⟨⟨old, he⟩, hit, hne, hai, hae⟩ := st
    obtain ⟨xs, x, hq, hx⟩ := hg
    rcases I.tuple hq with ⟨its, rv, p, hz⟩
    rcases rv.get hx with ⟨u, hu, ru⟩
    have hel : (e < s.heap.objs.size) := Heap.lt_size he
    have hil : (it < s.heap.objs.size) := by obtain ⟨_, q, _⟩ := hit; exact Heap.lt_size q
    have hlt : i < its.toArray.size := by
      rw [List.size_toArray]
      exact (List.getElem?_eq_some_iff.mp hu).1
    refine wpAny_pyNext_enum_itemD (Draws.tuple (prog := X.prog) (w := X.w) (A := X.A.in1) (I.ok.hd hc) it a hai its.toArray) he ⟨hit, p⟩ hlt hne (by simp [hne, hae.symm]) fun x' h' tk hP ho hs' hT hsz hk => ?_
    have ex : x' = u := by
      have q : its[i]? = some x' := by simpa using hP
      rw [hu] at q
      exact ((Option.some.inj q).symm)
    subst ex
    refine ⟨_, rfl, wpAny_letOwnedTupleGo_enum (s := { s with heap := h', toks := tk + 1 }) ho fun h'' he' sb => ?_⟩
    have hT2 : h''.get? s.heap.objs.size = some { cls := .type "tuple", data := .seq #[.int i tk, x'] } := (sb.2 _ (Nat.ne_of_gt hel)).trans hT
    have made : ObjOk X.prog X.w (upd H s.heap.objs.size (.tup [.int (i : Nat), x])) h'' s.heap.objs.size (.tup [.int (i : Nat), x]) :=
      ⟨by show 2 ≤ sizeLine; decide, [.int i tk, x'], .cons ⟨_, rfl⟩ (.cons ru .nil), ⟨_, hT2, rfl, _, rfl⟩⟩
    have I1 : Inv X pins σ (upd H s.heap.objs.size (.tup [.int (i : Nat), x])) { s with heap := h'', toks := tk + 1 } :=
      Inv.turnedNew (ch := [e, it]) I (fun b ob hb q => (sb.2 b (fun z => hb (by simp [z]))).trans (hk b ob (fun z => hb (by simp [z])) (fun z => hb (by simp [z])) q)) hf (Nat.le_refl _) made
    refine ⟨.ref s.heap.objs.size, _, I1, rfl, ⟨_, x, rfl, I.hok.fresh (Nat.le_refl _), rfl, fun ys hy => by rw [tupInj I hy hq]; exact hx⟩, ⟨⟨x', ?_⟩, hs'.1.at fun o q => (sb.2 it (Ne.symm hne)).trans q, hne, hai, hae⟩, fun b hb => ?_⟩
    · have e1 : (((i + 1 : Nat) : Int) = (i : Int) + 1) := by omega
      rw [e1]; exact he'
    · have hb' : (b < s.heap.objs.size) := by
        rcases (show b = e ∨ b = it by simpa using hb) with z | z
        · rw [z]; exact hel
        · rw [z]; exact hil
      rw [(upd_ne (Nat.ne_of_lt hb'))]
      exact (hf b hb).1
  done := by
    intro X hP hw hK hc i pins s σ H Ex I hf st hg
    subst hP hw hK
    obtain ⟨⟨old, he⟩, hit, hne, hai, hae⟩ := st
    obtain ⟨xs, hq, hx⟩ := hg
    rcases I.tuple hq with ⟨its, rv, p, hz⟩
    rcases hf it (by simp) with ⟨f0, f1, f2, f3, f4, f5⟩
    have hl := rv.length
    subst hx
    have en : xs.length = its.toArray.size := by rw [List.size_toArray]; exact hl
    rw [en] at he hit
    exact wpAny_pyNext_enum_endD (Draws.tuple (prog := X.prog) (w := X.w) (A := X.A.in1) (I.ok.hd hc) it a hai its.toArray) he ⟨hit, p⟩ fun h' eb => ⟨rfl, I.turned (t' := s.toks) (fun b o hb q => eb b o hb q) f0 f1 f3 f4 f5⟩
  self := fun A i s Q Ex st h => wpAny_pyIter_enum st.1.choose_spec h
def iEnumT (K : PySem.W.Frag) (ta : TA) : TI := fun σ H R => ta σ H fun vs H1 => ∃ a xs, vs = [.ref a] ∧ SqT K H1 a xs ∧ R (IteT K a) H1
theorem pi_enumT {X : Cx} {e : Expr} {ta : TA} {p pos tpos : Pos} {elts : List Expr} {kk : Nat} (hg : Gl X "enumerate") (hm : X.mg "enumerate" = none) (ha : PA X [e] ta) (hs : starEach [e] X.env = [(false, eval e X.env)] := by rfl) :
    PI X (.Tuple elts kk tpos) (.Call (.Name "enumerate" p) [e] [] pos) (iEnumT X.K ta) := by
  refine (⟨fun pins s σ H R I h => ?_⟩)
  refine (Call_ (ld_blt I hg hm boot_enumerate (PyProof.Rows.callWith_type1 (thn (ha.run pos pins s σ H _ I h) fun us s1 ⟨vs, H1, I1, r1, q1⟩ => ?_) hs rfl)))
  rcases q1 with ⟨a, xs, ex, hq, q⟩
  subst ex
  cases r1 with
  | cons r rr =>
    cases rr
    cases r
    obtain ⟨its, rv, p', hz⟩ := I1.tuple hq
    have hal : a < s1.heap.objs.size := by obtain ⟨_, z, _⟩ := p'; exact Heap.lt_size z
    refine call_enumT p' fun h' he hit hsz hk => wpAny_pyIter_enum he ?_
    have I2 : (Inv X pins σ H1 { s1 with heap := h' }) := I1.kept (t' := s1.toks) hk
    refine ⟨s1.heap.objs.size + 1, [s1.heap.objs.size + 1, s1.heap.objs.size], _, _, H1, rfl, I2, turn_enumT a (s1.heap.objs.size + 1) s1.heap.objs.size, ⟨⟨.none, he⟩, hit, Nat.succ_ne_self _, Nat.ne_of_lt hal, Nat.ne_of_lt (Nat.lt_succ_of_lt hal)⟩, fun b hb => ?_, q⟩
    have hle : (s1.heap.objs.size ≤ b) := by
      rcases (show b = s1.heap.objs.size + 1 ∨ b = s1.heap.objs.size by simpa using hb) with z | z
      · rw [z]
        exact Nat.le_add_right _ _
      · rw [z]; exact Nat.le_refl _
    exact (I1.fpOk hle (I1.hok.fresh hle))
theorem walk_enumT {K : PySem.W.Frag} {a : Addr} {xs : List V} : Walk (IteT K a) xs.length (fun H => SqT K H a xs) (YPair (fun i => some (.int (i : Nat))) (fun i => xs[i]?)) := by
  refine ⟨fun i _ hi q => ⟨xs, xs[i], q, by simp [hi]⟩, fun _ q => ⟨xs, q, rfl⟩, fun i H v H' _ q y => ?_⟩
  rcases y with ⟨T, x, h1, h2, h3, h4⟩
  exact (⟨T, .int (i : Nat), x, h1, h2, h3, rfl, h4 xs q⟩)
abbrev sPFamilyError : Stmt := topS 44
abbrev nPFamilyError : List Str := ["value", "index", "program", "error"]
theorem scPFamilyError : FnScope nPFamilyError ["value"] (defScope sPFamilyError) := ⟨rfl, rfl, rfl, by decide +kernel, rfl, by decide +kernel, by decide +kernel⟩
abbrev sPSignsAt : Stmt := topS 45
abbrev nPSignsAt : List Str := ["family", "number", "program"]
theorem scPSignsAt : FnScope nPSignsAt ["family", "number"] (defScope sPSignsAt) := ⟨rfl, rfl, rfl, by decide +kernel, rfl, by decide +kernel, by decide +kernel⟩
abbrev sFamilyError : Stmt := topS 75
abbrev nFamilyError : List Str := ["_law_value_here", "_law_found", "_law_wrong_here", "_law_index", "_law_pair"]
theorem scFamilyError : FnScope nFamilyError ["_law_value_here"] (defScope sFamilyError) := ⟨rfl, rfl, rfl, by decide +kernel, rfl, by decide +kernel, by decide +kernel⟩
/-! ### families of any values -/
theorem ix_tupK {X : Cx} {K : PySem.W.Frag} (h : X.K = K) : IxR X (rIxT K) := h ▸ ix_tup
def isNN : PyData → Bool
  | .none => true
  | _ => false
theorem isNN_t {d : PyData} (h : isNN d = true) : d = .none := by
  cases d with
  | none => rfl
  | _ => cases h
/-- what program_error tells of each -/
noncomputable def prsL : List PyData → Int → List PyData
  | [], _ => []
  | d :: r, i => .tuple [.int i, perrD d] :: prsL r (i + 1)
def secD : PyData → PyData
  | .tuple [_, e] => e
  | _ => .none
/-- the first one with an error -/
noncomputable def famL : List PyData → Int → PyData
  | [], _ => .none
  | d :: r, i => if isNN (perrD d) = true then famL r (i + 1) else .tuple [.int i, perrD d]
noncomputable def famD : PyData → PyData
  | .tuple ds => if 1 ≤ ds.length ∧ ds.length ≤ 5 then famL ds 0 else .tuple [.none, .str "many"]
  | _ => .tuple [.none, .str "family"]
def wrgP (l : List PyData) : List PyData := l.filter fun p => !isNN (secD p)
theorem wrg_fam : ∀ (ds : List PyData) (i : Int), (wrgP (prsL ds i)).headD .none = famL ds i
  | [], _ => rfl
  | d :: r, i => by
    unfold prsL famL wrgP
    rw [List.filter_cons]
    show (if (!isNN (perrD d)) = true then _ else _ : List PyData).headD .none = _
    cases isNN (perrD d) with
    | true => exact wrg_fam r (i + 1)
    | false => rfl
theorem prsL_len : ∀ (ds : List PyData) (i : Int), (prsL ds i).length = ds.length
  | [], _ => rfl
  | _ :: r, i => by unfold prsL; rw [List.length_cons, List.length_cons, prsL_len r]
theorem prsL_snoc : ∀ (ds : List PyData) (k : Int) (i : Nat) (d : PyData), ds[i]? = some d → prsL (ds.take (i + 1)) k = prsL (ds.take i) k ++ [.tuple [.int (k + i), perrD d]]
  | x :: r, k, 0, d, h => by
    cases h
    show prsL (x :: r.take 0) k = _
    rw [List.take_zero]
    show [PyData.tuple [.int k, perrD x]] = [.tuple [.int (k + 0), perrD x]]
    rw [Int.add_zero]
  | x :: r, k, i + 1, d, h => by
    show PyData.tuple [.int k, perrD x] :: prsL (r.take (i + 1)) (k + 1) = .tuple [.int k, perrD x] :: prsL (r.take i) (k + 1) ++ _
    rw [prsL_snoc r (k + 1) i d h, List.cons_append]
    congr 3
    rw [show k + 1 + (i : Int) = k + ((i + 1 : Nat) : Int) by omega]
theorem prsL_get : ∀ (ds : List PyData) (k : Int) (i : Nat) (p : PyData), (prsL ds k)[i]? = some p → ∃ d, ds[i]? = some d ∧ p = .tuple [.int (k + i), perrD d]
  | x :: r, k, 0, p, h => by
    cases h
    exact ⟨x, rfl, by rw [show k + ((0 : Nat) : Int) = k by omega]⟩
  | x :: r, k, i + 1, p, h => by
    obtain ⟨d, h1, h2⟩ := prsL_get r (k + 1) i p h
    exact ⟨d, h1, by rw [h2, show k + 1 + (i : Int) = k + ((i + 1 : Nat) : Int) by omega]⟩
theorem sh_e1 (p : Int) (w : Str) (hp : p.natAbs < 2 ^ 100) (hw : PyData.strOk w = true) (hl : w.length ≤ 20) : ShG 58 1000 (.tuple [.int p, .str w]) :=
  (ShG.tup (k := 1) (.cons (ShG.int hp (by decide) (by decide) 1) (.cons (ShG.str hw 1 20 hl) (.nil 1 0)))).mono (by decide) (by decide)
theorem sh_e0 (w : Str) (hw : PyData.strOk w = true) (hl : w.length ≤ 20) : ShG 58 1000 (.tuple [.none, .str w]) :=
  (ShG.tup (k := 1) (.cons (ShG.non 1 0) (.cons (ShG.str hw 1 20 hl) (.nil 1 0)))).mono (by decide) (by decide)
theorem perrW_form {e : PyData} (he : ShG 58 1000 e) : ∀ (n : Nat) (ws : List (Int × PyData)) (p : Int), 0 ≤ p → p + n < 2 ^ 100 → ShG 58 1000 (perrW e n ws p)
  | n, [], _, _, _ => by cases n <;> exact he
  | 0, _ :: _, _, _, _ => he
  | n + 1, (d, x) :: ws, p, h0, h1 => by
    show ShG 58 1000 (if 3 < d then _ else if stB x = false then _ else _)
    split
    · exact sh_e1 p _ (by omega) (by decide +kernel) (by decide +kernel)
    split
    · exact sh_e1 p _ (by omega) (by decide +kernel) (by decide +kernel)
    exact perrW_form he n _ _ (by omega) (by omega)
theorem bndD_form (ds : List PyData) : ShG 58 1000 (bndD ds) := by
  unfold bndD
  split
  · unfold Bk.bnd
    split
    · exact sh_e0 _ (by decide +kernel) (by decide +kernel)
    split
    · exact sh_e0 _ (by decide +kernel) (by decide +kernel)
    split
    · exact sh_e0 _ (by decide +kernel) (by decide +kernel)
    split
    · exact sh_e0 _ (by decide +kernel) (by decide +kernel)
    exact ShG.non _ _
  · exact ShG.non _ _
theorem perrD_form (d : PyData) (h : d.weight ≤ 80000) : ShG 58 1000 (perrD d) := by
  cases d with
  | tuple ds =>
    rw [tw] at h
    refine perrW_form (bndD_form ds) _ _ _ (Int.le_refl _) ?_
    rw [wS_at]
    have e : (2 : Int) ^ 100 = 1267650600228229401496703205376 := by decide +kernel
    omega
  | _ => exact sh_e0 _ (by decide +kernel) (by decide +kernel)
theorem famD_sh {d : PyData} (h : d.weight ≤ 80000) : ShG 60 80000 (famD d) := by
  cases d with
  | tuple ds =>
    unfold famD
    dsimp only
    split
    · rw [tw] at h
      have : ∀ (ds : List PyData) (i : Int), PyData.weightAll ds ≤ 80000 → 0 ≤ i → i + ds.length ≤ 200000 → ShG 60 80000 (famL ds i) := by
        intro ds
        induction ds with
        | nil => intro i _ _ _; exact ShG.non _ _
        | cons x r ih =>
          intro i hw h0 h1
          rw [wA_cons] at hw
          rw [List.length_cons] at h1
          unfold famL
          split
          · exact ih (i + 1) (by omega) (by omega) (by omega)
          · rename_i hn
            have hp : ShG 58 1000 (perrD x) := by
              have := perrD_form x (by omega : x.weight ≤ 80000)
              exact this
            refine (ShG.tup (k := 58) (.cons (ShG.int (n := 100) ?_ (by decide) (by decide) 58) (.cons hp (.nil 58 0)))).mono (by decide) (by decide)
            have e : (2 : Nat) ^ 100 = 1267650600228229401496703205376 := by decide +kernel
            omega
      have hl := wA_len ds
      exact this ds 0 h (Int.le_refl _) (by omega)
    · exact sh_err0 _ (by decide +kernel) (by decide +kernel)
  | _ => exact sh_err0 _ (by decide +kernel) (by decide +kernel)
def spFEG (PW PT : Addr) : Sp := fun vs H Q _ => ∃ (N : List Addr) (v : V) (d : PyData), vs = [v] ∧ Gd N H v d ∧ d.weight ≤ WB ∧ LamX.Tabs (TL PW PT) H ∧ ∀ H' r, Sx [PW, PT] H H' → LamX.Tabs (TL PW PT) H' → Tp H' r (famD d) → Q r H'
def spLFE : Sp := fun vs H Q _ => ∃ (N : List Addr) (v : V) (d : PyData), vs = [v] ∧ Gd N H v d ∧ d.weight ≤ WB ∧ ∀ H' r, Sx [] H H' → Tp H' r (famD d) → Q r H'
def bkD (b : Bk) : PyData := .tuple b.ds
theorem tp_NN {H : Hp} {r : V} {d : PyData} (t : Tp H r d) : decide (r = .non) = isNN d := by
  cases t <;> rfl
section
variable {w : World} {P : Program} {K : PySem.W.Frag} {mg : Str → Option Value} {base : Heap}
theorem ok_pfam {f fP : Addr} {fd fdP : FuncData} {PW PT : Addr} {t1 : Tok} (F_pfamily_error : Fun K "family_error" "family_error" sPFamilyError f fd) (F_pprogram_error : Fun K "program_error" "program_error" sPProgramError fP fdP) (G_pprogram_error : FnOk P w K mg base CX0 17 fP fdP ["value"] (spPEG PW PT))
    (b_pprogram_error : Binds K fdP ["value"] []) (m_pprogram_error : mg "program_error" = some (.ref fP)) (m_MAX_FAMILY : mg "MAX_FAMILY" = some (.int 5 t1)) (z_isinstance : mg "isinstance" = none) (z_tuple : mg "tuple" = none) (z_len : mg "len" = none) (z_enumerate : mg "enumerate" = none) : FnOk P w K mg base CX0 18 f fd ["value"] (spFEG PW PT) := by
  refine F_pfamily_error.ok scPFamilyError (fun vs H Q E h => ?_) (fun cdv A outer s H vs Q E hr h => ?_)
  · obtain ⟨_, _, _, rfl, _⟩ := h
    rfl
  · obtain ⟨N, v, d, rfl, t, hw, hT, q⟩ := h
    refine ⟨_, (pss_cons (ps_if (pt_not (pt_val (pe_callB call_isi (by rfl) z_isinstance (by decide +kernel) (pa_cons (pv 0) (pa_cons (pe_bltn (v := .ty "tuple") (by rfl) z_tuple (by decide +kernel) rfl) pa_nil))))) (pss_one (ps_ret (pe_tup (pa_cons pe_non (pa_cons pe_str pa_nil))))) pss_nil)
      (pss_cons (ps_if (pt_not (pt_chain op_le op_le pe_int (pe_callB call_len_seq (by rfl) z_len boot_len (pa_cons (pv 0) pa_nil)) (pe_glob (v := .int 5) (by rfl) m_MAX_FAMILY ⟨_, rfl⟩))) (pss_one (ps_ret (pe_tup (pa_cons pe_non (pa_cons pe_str pa_nil))))) pss_nil)
      (C8.pss_cut (ps_for PassesOwn.never rfl (pi_enumT (by rfl) z_enumerate (pa_cons (pv 0) pa_nil)) (pg_tup rfl (pgs_cons (pg_name (i := 1) scPFamilyError.nd rfl (by first | exact Or.inl rfl | exact Or.inr rfl)) (pgs_cons (pg_name (i := 2) scPFamilyError.nd rfl (by first | exact Or.inl rfl | exact Or.inr rfl)) pgs_nil))) (pss_cons (ps_set (i := 3) scPFamilyError.nd rfl (by first | exact Or.inl rfl | exact Or.inr rfl) (pe_call G_pprogram_error (hr.mono (by omega)) (by rfl) m_pprogram_error F_pprogram_error.kp b_pprogram_error .nil pass0 (pa_cons (pv 2) pa_nil)))
      (pss_one (ps_if (pt_cmpR op_notN (pv 3) pe_non (nomark _)) (pss_one (ps_ret (pe_tup (pa_cons (pv 1) (pa_cons (pv 3) pa_nil))))) pss_nil))))
      (pss_one (ps_ret pe_non))))), ?_⟩
    have WBe : WB = 1000000 := rfl
    refine ⟨_, rfl, _, _, _, _, _, rfl, .ty _, t.ty, kit_ty (kb_tuple d), _, rfl, ?_⟩
    cases hd : isTup d with
    | false =>
      refine iteT ⟨by show 2 ≤ sizeLine; decide, fun p hp => ?_⟩
      have e : famD d = .tuple [.none, .str "family"] := by
        cases d with
        | tuple _ => cases hd
        | _ => rfl
      refine q _ _ (Sx.n0 hp).nil (Tabs.sx hT (Sx.n0 hp)) ?_
      rw [e]
      exact .tup upd_same (.cons .non (.cons (.str _) .nil))
    | true =>
    refine iteF ?_
    obtain ⟨ds, rfl⟩ := isTup_of hd
    rw [tw] at hw
    obtain ⟨a, xs, rfl, ha, hx⟩ := t.tuple
    have hl := hx.len
    have bl := wA_len ds
    have many : ¬ (1 ≤ ds.length ∧ ds.length ≤ 5) → famD (.tuple ds) = .tuple [.none, .str "many"] := fun h => if_neg h
    refine ⟨_, rfl, a, _, rfl, .inr (SqT.of ha), _, _, rfl, rfl, _, rfl, ?_⟩
    by_cases z1 : (1 : Int) ≤ (xs.length : Int)
    case neg =>
      rw [decide_eq_false z1]
      refine iteN (by simp) ⟨_, rfl, iteT ⟨by show 2 ≤ sizeLine; decide, fun p hp => ?_⟩⟩
      refine q _ _ (Sx.n0 hp).nil (Tabs.sx hT (Sx.n0 hp)) ?_
      rw [many (by omega)]
      exact .tup upd_same (.cons .non (.cons (.str _) .nil))
    rw [decide_eq_true z1]
    refine iteP rfl ⟨_, _, rfl, rfl, _, rfl, ?_⟩
    by_cases z5 : (xs.length : Int) ≤ 5
    case neg =>
      rw [decide_eq_false z5]
      refine iteT ⟨by show 2 ≤ sizeLine; decide, fun p hp => ?_⟩
      refine q _ _ (Sx.n0 hp).nil (Tabs.sx hT (Sx.n0 hp)) ?_
      rw [many (by omega)]
      exact .tup upd_same (.cons .non (.cons (.str _) .nil))
    rw [decide_eq_true z5]
    refine iteF ?_
    have e0 : famL ds 0 = famD (.tuple ds) := (if_pos (⟨by omega, by omega⟩ : 1 ≤ ds.length ∧ ds.length ≤ 5)).symm
    refine ⟨fun σ H' => (∃ o1 o2 o3, σ = [some (.ref a), o1, o2, o3]) ∧ Sx [PW, PT] H H' ∧ LamX.Tabs (TL PW PT) H' ∧ famD (.tuple ds) = .none, ?_, ?_⟩
    · have aT : a ∉ [PW, PT] := fun hm => by obtain ⟨ps, hP⟩ := tab_at hT a hm; rw [ha] at hP; cases hP
      refine ⟨_, rfl, a, xs, rfl, SqT.of ha, for_it (walk_enumT (xs := xs)) (fun i σ H' => (∃ o1 o2 o3, σ = [some (.ref a), o1, o2, o3]) ∧ Sx [PW, PT] H H' ∧ LamX.Tabs (TL PW PT) H' ∧ famL (ds.drop i) i = famD (.tuple ds))
        ⟨⟨_, _, _, rfl⟩, Sx.refl _, hT, e0⟩ (fun i σ H1 _ z => by obtain ⟨_, z, _⟩ := z; exact SqT.of (z _ _ aT ha)) (fun i x σ H1 H2 hi z y => ?_) (fun σ H1 z => ?_)⟩
      · obtain ⟨⟨o1, o2, o3, rfl⟩, s1, hT1, he⟩ := z
        obtain ⟨T, y1, y2, rfl, nT, rfl, h1, h2⟩ := y
        obtain rfl : V.int (i : Nat) = y1 := Option.some.inj h1
        obtain ⟨d, hd, g⟩ := hx.get h2
        have hdm := mem_wA (List.mem_of_getElem? hd)
        refine ⟨T, _, rfl, SqT.of upd_same, rfl, _, _, rfl, gnm ⟨_, _, rfl, gnm ⟨rfl, ?_⟩⟩⟩
        have sT := Sx.n0 (o := .tup [.int (i : Nat), y2]) nT
        have hT2 := Tabs.sx hT1 sT
        have g2 := (g.keep (tabs_kp hT s1)).keep (sT.kp0 (N := N))
        refine ⟨_, rfl, N, y2, d, rfl, g2, by omega, hT2, fun H3 r s3 hT3 tr => ?_⟩
        have e1 : famL (ds.drop i) i = if isNN (perrD d) = true then famL (ds.drop (i + 1)) ((i : Int) + 1) else .tuple [.int i, perrD d] := by
          obtain ⟨hl', he'⟩ := List.getElem?_eq_some_iff.mp hd
          rw [List.drop_eq_getElem_cons hl', he']
          rfl
        rw [e1] at he
        have s13 : Sx [PW, PT] H H3 := (s1.trans sT.nil).trans s3
        refine (⟨_, rfl, rfl, _, rfl, ?_⟩)
        rw [tp_NN tr]
        cases hn : isNN (perrD d) with
        | true =>
          rw [if_pos hn] at he
          exact iteF ⟨⟨_, _, _, rfl⟩, s13, hT3, by rw [show ((i + 1 : Nat) : Int) = (i : Int) + 1 by omega]; exact he⟩
        | false =>
          rw [if_neg (by rw [hn]; simp)] at he
          refine iteT ⟨_, rfl, _, rfl, by show 2 ≤ sizeLine; decide, fun p hp => ?_⟩
          refine q _ _ (s13.new hp) (Tabs.sx hT3 (Sx.n0 hp)) ?_
          rw [← he]
          exact .tup upd_same (.cons (.int _) (.cons (tr.new hp) .nil))
      · obtain ⟨⟨o1, o2, o3, rfl⟩, s1, hT1, he⟩ := z
        rw [hl, List.drop_length] at he
        exact ⟨⟨_, _, _, rfl⟩, s1, hT1, he.symm⟩
    · rintro _ H1 ⟨⟨o1, o2, o3, rfl⟩, s1, hT1, he⟩
      refine q H1 _ s1 hT1 ?_
      rw [he]
      exact .non
theorem ok_lfam {f fE : Addr} {fd fdE : FuncData} (F_family_error : Fun K "_law_family_error" "_law_family_error" sFamilyError f fd) (F_error : Fun K "_law_error" "_law_error" sError fE fdE) (G_error : FnOk P w K mg base CX0 13 fE fdE ["_law_value_here"] spLErrG)
    (b_error : Binds K fdE ["_law_value_here"] []) (m_error : mg "_law_error" = some (.ref fE)) (z_isinstance : mg "isinstance" = none) (z_tuple : mg "tuple" = none) (z_len : mg "len" = none) (z_range : mg "range" = none) : FnOk P w K mg base CX0 14 f fd ["_law_value_here"] spLFE := by
  refine F_family_error.ok scFamilyError (fun vs H Q E h => ?_) (fun cdv A outer s H vs Q E hr h => ?_)
  · obtain ⟨_, _, _, rfl, _⟩ := h
    rfl
  · obtain ⟨N, v, d, rfl, t, hw, q⟩ := h
    refine ⟨_, (pss_cons (ps_if (pt_not (pt_val (pe_callB call_isi (by rfl) z_isinstance (by decide +kernel) (pa_cons (pv 0) (pa_cons (pe_bltn (v := .ty "tuple") (by rfl) z_tuple (by decide +kernel) rfl) pa_nil))))) (pss_one (ps_ret (pe_tup (pa_cons pe_non (pa_cons pe_str pa_nil))))) pss_nil)
      (pss_cons (ps_if (pt_not (pt_chain op_le op_le pe_int (pe_callB call_len_seq (by rfl) z_len boot_len (pa_cons (pv 0) pa_nil)) pe_int)) (pss_one (ps_ret (pe_tup (pa_cons pe_non (pa_cons pe_str pa_nil))))) pss_nil)
      (pss_cons (ps_setLc (i := 1) (own := [("_law_index", 3)]) (g := gName 3) (tt := tYes) rfl scFamilyError.nd rfl rfl (sw_true rfl rfl rfl (by decide +kernel)) (pi_range1 (by rfl) z_range (pa_cons (pe_callB call_len_seq (by rfl) z_len boot_len (pa_cons (pv 0) pa_nil)) pa_nil)) (blkOk_by (N := nFamilyError) (sc := defScope sFamilyError) (by decide +kernel)) (fun _ _ _ _ _ => (pg_name (i := 3) scFamilyError.nd rfl (by first | exact Or.inl rfl | exact Or.inr rfl))) (fun _ _ _ _ _ => pts_nil) (fun _ _ _ _ _ => (pe_tup (pa_cons (pv 3) (pa_cons (pe_call G_error (hr.mono (by omega)) (by rfl) m_error F_error.kp b_error .nil pass0 (pa_cons (pe_ix (ix_tupK (K := K) rfl) (pv 0) (pv 3) (fun _ _ => rfl)) pa_nil)) pa_nil)))))
      (pss_cons (ps_setLc (i := 2) (own := [("_law_pair", 4)]) (g := gName 4) (tt := _) rfl scFamilyError.nd rfl rfl (sw_true rfl rfl rfl (by decide +kernel)) (pi_list (pv 1)) (blkOk_by (N := nFamilyError) (sc := defScope sFamilyError) (by decide +kernel)) (fun _ _ _ _ _ => (pg_name (i := 4) scFamilyError.nd rfl (by first | exact Or.inl rfl | exact Or.inr rfl))) (fun _ _ _ _ _ => pts_one (pt_cmpR op_notN (pe_ix (ix_tupK (K := K) rfl) (pv 4) pe_int (fun _ _ => rfl)) pe_non (nomark _))) (fun _ _ _ _ _ => (pv 4)))
      (pss_one (ps_ret (pe_ifExp (pt_cmpR (op_neL0 hr.units) (pv 2) (pe_lst pa_nil) (nomark _)) (pe_ix ix_list (pv 2) pe_int (fun _ _ => rfl)) pe_non))))))), ?_⟩
    have WBe : WB = 1000000 := rfl
    refine ⟨_, rfl, _, _, _, _, _, rfl, .ty _, t.ty, kit_ty (kb_tuple d), _, rfl, ?_⟩
    cases hd : isTup d with
    | false =>
      refine iteT ⟨by show 2 ≤ sizeLine; decide, fun p hp => ?_⟩
      have e : famD d = .tuple [.none, .str "family"] := by
        cases d with
        | tuple _ => cases hd
        | _ => rfl
      refine q _ _ (Sx.n0 hp) ?_
      rw [e]
      exact .tup upd_same (.cons .non (.cons (.str _) .nil))
    | true =>
    refine iteF ?_
    obtain ⟨ds, rfl⟩ := isTup_of hd
    rw [tw] at hw
    obtain ⟨a, xs, rfl, ha, hx⟩ := t.tuple
    have hl := hx.len
    have bl := wA_len ds
    have many : ¬ (1 ≤ ds.length ∧ ds.length ≤ 5) → famD (.tuple ds) = .tuple [.none, .str "many"] := fun h => if_neg h
    refine ⟨_, rfl, a, _, rfl, .inr (SqT.of ha), _, _, rfl, rfl, _, rfl, ?_⟩
    by_cases z1 : (1 : Int) ≤ (xs.length : Int)
    case neg =>
      rw [decide_eq_false z1]
      refine iteN (by simp) ⟨_, rfl, iteT ⟨by show 2 ≤ sizeLine; decide, fun p hp => ?_⟩⟩
      refine q _ _ (Sx.n0 hp) ?_
      rw [many (by omega)]
      exact .tup upd_same (.cons .non (.cons (.str _) .nil))
    rw [decide_eq_true z1]
    refine iteP rfl ⟨_, _, rfl, rfl, _, rfl, ?_⟩
    by_cases z5 : (xs.length : Int) ≤ 5
    case neg =>
      rw [decide_eq_false z5]
      refine iteT ⟨by show 2 ≤ sizeLine; decide, fun p hp => ?_⟩
      refine q _ _ (Sx.n0 hp) ?_
      rw [many (by omega)]
      exact .tup upd_same (.cons .non (.cons (.str _) .nil))
    rw [decide_eq_true z5]
    refine iteF ?_
    have e0 : famL ds 0 = famD (.tuple ds) := (if_pos (⟨by omega, by omega⟩ : 1 ≤ ds.length ∧ ds.length ≤ 5)).symm
    refine ⟨_, rfl, a, _, rfl, .inr (SqT.of ha), (xs.length : Int), rfl, by omega, by omega, fun Z hZ => lc_range (lo := 0) (n := ((xs.length : Nat) : Int).toNat) (fun i H' => Sx [] H H' ∧ ∃ vals, H' Z = some (.lst vals) ∧ TpAll H' vals (prsL (ds.take i) 0)) ⟨Sx.n0 hZ, [], upd_same, by rw [List.take_zero]; exact .nil⟩ (fun i H' hi p => ?_) (fun H' p => ?_)⟩
    · obtain ⟨s1, vals, eZ, tv⟩ := p
      have hix : i < xs.length := by omega
      have hxi : xs[i]? = some xs[i] := List.getElem?_eq_getElem hix
      obtain ⟨d, hd, g⟩ := hx.get hxi
      have hdm := mem_wA (List.mem_of_getElem? hd)
      refine ⟨rfl, _, rfl, _, rfl, _, rfl, a, xs, _, xs[i], rfl, rfl, SqT.of (s1 _ _ (by simp) ha), atI_nat (by rw [Nat.zero_add]; exact hxi), N, _, d, rfl, g.keep s1.kp0, by omega, fun H3 r s3 tr => ⟨by show 2 ≤ sizeLine; decide, fun p hp => ?_⟩⟩
      have sp := Sx.n0 (o := .tup [.int (0 + (i : Int)), r]) hp
      have eZ3 := sp _ _ (by simp) (s3 _ _ (by simp) eZ)
      have tl := tv.len
      rw [prsL_len, List.length_take] at tl
      refine ⟨vals, eZ3, lt_line (by omega), ((s1.trans s3).trans sp).own hZ, _, upd_same, ?_⟩
      rw [prsL_snoc ds 0 i d hd]
      exact (((tv.keep s3.tk0).keep sp.tk0).keep (Tk.lst eZ3)).append (.cons (Tp.keep (Tk.lst eZ3) (.tup upd_same (.cons (.int _) (.cons (tr.new hp) .nil)))) .nil)
    · obtain ⟨s1, vals, eZ, tv⟩ := p
      rw [show ((xs.length : Nat) : Int).toNat = ds.length by omega, List.take_length] at tv
      have tl := tv.len
      rw [prsL_len] at tl
      refine ⟨_, rfl, Z, rfl, ⟨_, SqL.of eZ⟩, fun Y hY => lc_list (xs := vals) (fun j H2 => Sx [] H' H2 ∧ ∃ us, H2 Y = some (.lst us) ∧ TpAll H2 us (wrgP ((prsL ds 0).take j))) ⟨Sx.n0 hY, [], upd_same, by rw [List.take_zero]; exact .nil⟩ (fun j H2 _ p => SqL.of (p.1 _ _ (by simp) eZ)) (fun j x H2 hxj p => ?_) (fun H2 p => ?_)⟩
      · obtain ⟨s2, us, eY, tu⟩ := p
        obtain ⟨pd, hpd, tp⟩ := tv.get hxj
        obtain ⟨d, hd, rfl⟩ := prsL_get ds 0 j pd hpd
        have tp2 := tp.keep s2.tk0
        obtain ⟨pa, ps, rfl, hpa, hps⟩ := tp2.tuple
        cases hps with
        | @cons y1 ys _ _ t1 hps => cases hps with
          | @cons y2 ys _ _ t2 hps =>
          cases hps
          have il := (List.getElem?_eq_some_iff.mp hxj).1
          have tul := tu.len
          have wl : (wrgP ((prsL ds 0).take j)).length ≤ 5 := Nat.le_trans (List.length_filter_le _ _) (by rw [List.length_take]; omega)
          have ew : wrgP ((prsL ds 0).take (j + 1)) = wrgP ((prsL ds 0).take j) ++ (if isNN (perrD d) = true then [] else [.tuple [.int (0 + (j : Int)), perrD d]]) := by
            unfold wrgP
            rw [List.take_add_one, hpd, List.filter_append]
            congr 1
            show (List.filter _ [_]) = _
            rw [List.filter_cons]
            show (if (!isNN (perrD d)) = true then _ else _) = _
            cases isNN (perrD d) <;> rfl
          refine ⟨rfl, _, rfl, pa, _, 1, y2, rfl, rfl, SqT.of hpa, rfl, rfl, _, rfl, ?_⟩
          rw [tp_NN t2]
          cases hn : isNN (perrD d) with
          | true =>
            refine iteF ⟨s2, us, eY, ?_⟩
            rw [ew, if_pos hn, List.append_nil]
            exact tu
          | false =>
            refine iteT ⟨_, rfl, us, eY, lt_line (by omega), s2.own hY, _, upd_same, ?_⟩
            rw [ew, if_neg (by rw [hn]; simp)]
            exact (tu.keep (Tk.lst eY)).append (.cons (tp2.keep (Tk.lst eY)) .nil)
      · obtain ⟨s2, us, eY, tu⟩ := p
        rw [tl, show ds.length = (prsL ds 0).length from (prsL_len ds 0).symm, List.take_length] at tu
        have hf := wrg_fam ds 0
        refine ⟨_, rfl, by show 0 ≤ sizeLine; decide, fun u hu => ⟨Y, u, us, rfl, rfl, Sx.n0 hu _ _ (by simp) eY, upd_same, ?_⟩⟩
        have su := Sx.n0 (o := .lst []) hu
        have sall := (s1.trans s2).trans su
        cases us with
        | nil =>
          have el : wrgP (prsL ds 0) = [] := by
            have := tu.len
            exact List.length_eq_zero_iff.mp this.symm
          rw [el] at hf
          refine ⟨_, rfl, iteF (q _ _ sall ?_)⟩
          rw [← e0, ← hf]
          exact .non
        | cons x us =>
          cases hw' : wrgP (prsL ds 0) with
          | nil => rw [hw'] at tu; cases tu
          | cons p ps =>
            rw [hw'] at tu hf
            cases tu with
            | cons t1 _ =>
              refine ⟨_, rfl, iteT ⟨_, rfl, Y, _, 0, x, rfl, rfl, SqL.of (su _ _ (by simp) eY), at0 _ _, q _ _ sall ?_⟩⟩
              rw [← e0, ← hf]
              exact t1.keep su.tk0
end
/-! ### odd values, bent ones -/
/-- lists of one's own, the deck's among them -/
structure NOk (N : List Addr) (H : Hp) (a c : Addr) : Prop where
  ma : a ∈ N
  mc : c ∈ N
  nn : ∀ b ∈ N, H b ≠ none
theorem NOk.sx {N : List Addr} {H H' : Hp} {a c : Addr} {cs : List Int} {k : Int} (h : NOk N H a c) (s : Sx [a, c] H H') (D : Dk H' a c cs k) : NOk N H' a c := ⟨h.ma, h.mc, fun b hb => by
  by_cases e : b ∈ [a, c]
  · obtain ⟨ys, e⟩ := D.lst b e
    rw [e]
    simp
  · cases e2 : H b with
    | none => exact absurd e2 (h.nn b hb)
    | some o =>
      rw [s b o e e2]
      simp⟩
theorem NOk.kp {N : List Addr} {H H' : Hp} {a c : Addr} {cs : List Int} {k : Int} (h : NOk N H a c) (D : Dk H a c cs k) (s : Sx [a, c] H H') : Kp N H H' := s.kp fun b hb => ⟨by
  rcases List.mem_cons.1 hb with rfl | hb
  · exact h.ma
  · rw [List.mem_singleton.mp hb]; exact h.mc, D.lst b hb⟩
theorem NOk.s0 {N : List Addr} {H H' : Hp} {a c : Addr} (h : NOk N H a c) (s : Sx [] H H') : NOk N H' a c := ⟨h.ma, h.mc, fun b hb => by
  cases e2 : H b with
  | none => exact absurd e2 (h.nn b hb)
  | some o =>
    rw [s b o (by simp) e2]
    simp⟩
theorem NOk.of {H : Hp} {a c : Addr} {cs : List Int} {k : Int} (D : Dk H a c cs k) : NOk [a, c] H a c := ⟨by simp, by simp, fun b hb => by
  obtain ⟨ys, e⟩ := D.lst b hb
  rw [e]
  simp⟩
theorem NOk.cons {N : List Addr} {H : Hp} {a c l : Addr} {o : HO} (h : NOk N H a c) (e : H l = some o) : NOk (l :: N) H a c := ⟨List.mem_cons_of_mem _ h.ma, List.mem_cons_of_mem _ h.mc, fun b hb => by
  rcases List.mem_cons.1 hb with rfl | hb
  · rw [e]; simp
  · exact h.nn b hb⟩
theorem ShGA.mem {k n : Nat} : ∀ {ds : List PyData} {d : PyData}, ShGA k n ds → d ∈ ds → ShG k d.weight d
  | [], _, _, h => by cases h
  | x :: ds, d, h2, h => by
    have hs := h2.s
    have hl := h2.l
    have hd := h2.dp
    simp only [PyData.showableAll, Bool.and_eq_true] at hs
    simp only [PyData.leavesShortAll, Bool.and_eq_true] at hl
    simp only [PyData.depthAll] at hd
    rcases List.mem_cons.1 h with rfl | h
    · exact ⟨hs.1, hl.1, by omega, Nat.le_refl _⟩
    · exact ShGA.mem (n := PyData.weightAll ds) ⟨hs.2, hl.2, by omega, Nat.le_refl _⟩ h
theorem ShGA.mk' {k : Nat} : ∀ {ds : List PyData}, (∀ d ∈ ds, ShG k d.weight d) → ShGA k (PyData.weightAll ds) ds
  | [], _ => .nil _ _
  | x :: ds, h => (ShGA.cons (h x (List.mem_cons_self ..)) (ShGA.mk' fun d hd => h d (List.mem_cons_of_mem _ hd))).mono (Nat.le_refl _) (by rw [wA_cons]; exact Nat.le_refl _)
theorem wA_append : ∀ a b : List PyData, PyData.weightAll (a ++ b) = PyData.weightAll a + PyData.weightAll b
  | [], b => by rw [wA_nil, List.nil_append, Nat.zero_add]
  | x :: a, b => by rw [List.cons_append, wA_cons, wA_cons, wA_append a b]; omega
theorem wA_split (j : Nat) (ds : List PyData) : PyData.weightAll (ds.take j) + PyData.weightAll (ds.drop j) = PyData.weightAll ds := by
  rw [← wA_append, List.take_append_drop]
theorem wA_at {j : Nat} {ds : List PyData} {d : PyData} (h : ds[j]? = some d) : PyData.weightAll (ds.take j) + (d.weight + 1) + PyData.weightAll (ds.drop (j + 1)) = PyData.weightAll ds := by
  obtain ⟨hl, he⟩ := List.getElem?_eq_some_iff.mp h
  have e := wA_split j ds
  rw [List.drop_eq_getElem_cons hl, he, wA_cons] at e
  omega
theorem ShG.tupA {k n : Nat} {ds : List PyData} (h : ∀ d ∈ ds, ShG k d.weight d) (hw : PyData.weightAll ds ≤ n) : ShG (k + 1) n (.tuple ds) := ShG.tup ((ShGA.mk' h).mono (Nat.le_refl _) hw)
/-- a tuple and a tuple, of any kind -/
theorem cat_gd {K : PySem.W.Frag} {N : List Addr} {H : Hp} {v u : V} {ds es : List PyData} {Q : VK} (h1 : Gd N H v (.tuple ds)) (h2 : Gd N H u (.tuple es)) (hl : ds.length + es.length ≤ 16777216)
    (q : ∀ H' z, Sx [] H H' → Gd N H' z (.tuple (ds ++ es)) → Q z H') : rCatA K v u H Q := by
  obtain ⟨a, xs, rfl, ha, hx⟩ := h1.tuple
  obtain ⟨b, ys, rfl, hb, hy⟩ := h2.tuple
  refine ⟨a, b, xs, ys, rfl, rfl, .inl (.inl ha), .inl (.inl hb), by rw [hx.len, hy.len]; exact hl, fun e => ?_, fun _ e => ?_, fun _ _ p hp => ?_⟩
  · subst e
    cases hx
    exact q H _ (Sx.refl _) (.tup hb hy)
  · subst e
    cases hy
    rw [List.append_nil] at q
    exact q H _ (Sx.refl _) (.tup ha hx)
  · exact q _ _ ((Sx.refl _).new hp) (.tup upd_same ((hx.append hy).new hp))
theorem sl_gd {K : PySem.W.Frag} {N : List Addr} {H : Hp} {v : V} {ds : List PyData} {lo hi : Option Int} {i j : Nat} {Q : VK} (h : Gd N H v (.tuple ds)) (hc : ∀ xs : List V, xs.length = ds.length → cutV xs lo hi = (xs.drop i).take j)
    (q : ∀ H' z, Sx [] H H' → Gd N H' z (.tuple ((ds.drop i).take j)) → Q z H') : rSlA K v lo hi H Q := by
  obtain ⟨a, xs, rfl, ha, hx⟩ := h.tuple
  have hl := hx.len
  refine ⟨a, xs, rfl, SqT.of ha, fun e => ?_, fun _ p hp => ?_⟩
  · have e2 := hc xs hl
    unfold cutV at e2
    rw [e.1, e.2, List.drop_zero, Nat.sub_zero, List.take_length] at e2
    have e3 := congrArg List.length e2
    rw [List.length_take, List.length_drop] at e3
    have e4 : (ds.drop i).take j = ds := by
      cases ds with
      | nil => simp
      | cons d ds =>
        rw [List.length_cons] at hl
        obtain rfl : i = 0 := by omega
        rw [List.drop_zero]
        exact List.take_of_length_le (by rw [List.length_cons]; omega)
    rw [e4] at q
    exact q H _ (Sx.refl _) (.tup ha hx)
  · refine q _ _ ((Sx.refl _).new hp) (.tup upd_same ?_)
    rw [hc xs hl]
    exact ((hx.drop i).take j).new hp
theorem cut_to {xs : List V} {j : Nat} (h : j ≤ xs.length) : cutV xs none (some (j : Int)) = (xs.drop 0).take j := by
  unfold cutV
  rw [HT.sIx_none, HT.sIx_nat, Nat.min_eq_left h, Nat.sub_zero]
theorem cut_from {xs : List V} {j n : Nat} (h : j ≤ xs.length) (hn : xs.length = n) : cutV xs (some (j : Int)) none = (xs.drop j).take (n - j) := by
  unfold cutV
  rw [HT.sIx_none, HT.sIx_nat, Nat.min_eq_left h, hn]
theorem cut_between {xs : List V} {j : Nat} (h : j + 1 ≤ xs.length) : cutV xs (some (j : Int)) (some ((j + 1 : Nat) : Int)) = (xs.drop j).take 1 := by
  unfold cutV
  rw [HT.sIx_nat, HT.sIx_nat, Nat.min_eq_left h, Nat.min_eq_left (by omega), show j + 1 - j = 1 by omega]
theorem cut_from1 {xs : List V} {j n : Nat} (h : j + 1 ≤ xs.length) (hn : xs.length = n) : cutV xs (some ((j : Int) + 1)) none = (xs.drop (j + 1)).take (n - (j + 1)) := by
  rw [show (j : Int) + 1 = ((j + 1 : Nat) : Int) by omega]
  exact cut_from h hn
theorem cut_between1 {xs : List V} {j : Nat} (h : j + 1 ≤ xs.length) : cutV xs (some (j : Int)) (some ((j : Int) + 1)) = (xs.drop j).take 1 := by
  rw [show (j : Int) + 1 = ((j + 1 : Nat) : Int) by omega]
  exact cut_between h
theorem gNoP {σ : L2.St} {H : Hp} {Q : Option Int → Hp → Prop} (h : Q none H) : tNoPart σ H Q := h
theorem drop_all {α : Type} (ds : List α) (j : Nat) : (ds.drop j).take (ds.length - j) = ds.drop j := List.take_of_length_le (by rw [List.length_drop]; omega)
theorem mem_cut {α : Type} {ds : List α} {i j : Nat} {d : α} (h : d ∈ (ds.drop i).take j) : d ∈ ds := List.mem_of_mem_drop (List.mem_of_mem_take h)
abbrev sFamily : Stmt := topS 73
abbrev nFamily : List Str := ["_law_deck_here", "_law_names_here", "_law_found", "_law_k"]
theorem scFamily : FnScope nFamily ["_law_deck_here", "_law_names_here"] (defScope sFamily) := ⟨rfl, rfl, rfl, by decide +kernel, rfl, by decide +kernel, by decide +kernel⟩
abbrev sWrong : Stmt := topS 74
abbrev nWrong : List Str := ["_law_deck_here", "_law_program_here", "_law_some"]
theorem scWrong : FnScope nWrong ["_law_deck_here", "_law_program_here"] (defScope sWrong) := ⟨rfl, rfl, rfl, by decide +kernel, rfl, by decide +kernel, by decide +kernel⟩
/-! ### written tuples, joined and repeated -/
def MkT (N : List Addr) (σ : L2.St) (H : Hp) (k n m : Nat) (t : TE) : Prop := ∀ (H1 : Hp) (Q : VK), Sx [] H H1 → (∀ H2 v ds, Sx [] H1 H2 → Gd N H2 v (.tuple ds) → ShGA k n ds → ds.length ≤ m → Q v H2) → t σ H1 Q
theorem ShGA.append {k n n2 : Nat} {ds es : List PyData} (h : ShGA k n ds) (h' : ShGA k n2 es) : ShGA k (n + n2) (ds ++ es) := by
  refine (ShGA.mk' fun d hd => (List.mem_append.1 hd).elim (fun z => h.mem z) (fun z => h'.mem z)).mono (Nat.le_refl _) ?_
  rw [wA_append]
  have := h.w
  have := h'.w
  omega
section
variable {N : List Addr} {σ : L2.St} {H : Hp} {k n m : Nat}
theorem MkT.e {t : TE} (h : MkT N σ H k n m t) : MkE N σ H (k + 1) n t := fun H1 Q s q => h H1 Q s fun H2 v ds s2 g sh _ => q H2 v _ s2 g (ShG.tup sh)
theorem MkT.tup {ta : TA} (h : MkA N σ H k n m ta) (hm : m ≤ 16777216) : MkT N σ H k n m (tTup ta) := fun H1 Q s q =>
  h H1 _ s fun H2 vs s2 ⟨ds, g, sh⟩ hl => ⟨by rw [hl]; exact hm, fun p hp => q _ _ ds (s2.new hp) (.tup upd_same (g.new hp)) sh (by rw [← g.len, hl]; exact Nat.le_refl _)⟩
theorem MkT.var {i : Nat} {v : V} {ds : List PyData} {k2 : Nat} (hv : σ[i]? = some (some v)) (g : Gd N H v (.tuple ds)) (sh : ShGA k2 n ds) (hk : k2 ≤ k) (hm : ds.length ≤ m) : MkT N σ H k n m (tVar i) := fun H1 Q s q => ⟨v, hv, q H1 v ds (Sx.refl _) (g.keep s.kp0) (sh.mono hk (Nat.le_refl _)) hm⟩
theorem MkT.cat {K : PySem.W.Frag} {ta tb : TE} {n2 m2 : Nat} (h : MkT N σ H k n m ta) (h' : MkT N σ H k n2 m2 tb) (hm : m + m2 ≤ 16777216) : MkT N σ H k (n + n2) (m + m2) (tOp (rCatA K) ta tb) := fun H1 Q s q =>
  h H1 _ s fun H2 v ds s2 g sh hl => h' H2 _ (s.trans s2) fun H3 u es s3 g' sh' hl' => cat_gd (g.keep s3.kp0) g' (by omega) fun H4 z s4 g4 => q H4 z _ ((s2.trans s3).trans s4) g4 (sh.append sh') (by rw [List.length_append]; omega)
theorem MkT.rep {K : PySem.W.Frag} {ta : TA} {j : Int} (h : MkA N σ H k n 1 ta) (h2 : 2 ≤ j) (h3 : j ≤ 1000) : MkT N σ H k (n * j.toNat) j.toNat (tOp (rRepT K) (tTup ta) (tC (.int j))) := fun H1 Q s q =>
  h H1 _ s fun H2 vs s2 ⟨ds, g, sh⟩ hl => ⟨by rw [hl]; decide, fun p hp => by
    obtain ⟨x, rfl⟩ : ∃ x, vs = [x] := by
      match vs, hl with
      | [x], _ => exact ⟨x, rfl⟩
    cases g with
    | @cons _ _ d ds g1 g2 =>
    cases g2
    refine ⟨p, j, [x], rfl, rfl, SqT.of upd_same, by simp, h2, h3, by show 1 ≤ 1000; decide, fun p2 hp2 => ?_⟩
    have hr : ∀ i : Nat, GdAll N (upd (upd H2 p (.tup [x])) p2 (.tup (List.replicate j.toNat [x]).flatten)) (List.replicate i [x]).flatten (List.replicate i d) ∧ ShGA k (n * i) (List.replicate i d) := fun i => by
      induction i with
      | zero => exact ⟨.nil, .nil _ _⟩
      | succ i ih =>
        rw [List.replicate_succ, List.replicate_succ, List.flatten_cons]
        have hw := sh.w
        rw [wA_cons, wA_nil] at hw
        refine ⟨.cons ((g1.new hp).new hp2) ih.1, (ShGA.cons (sh.mem (List.mem_cons_self ..)) ih.2).mono (Nat.le_refl _) ?_⟩
        rw [Nat.mul_succ]
        omega
    exact q _ _ (List.replicate j.toNat d) ((s2.new hp).new hp2) (.tup upd_same (hr j.toNat).1) (hr j.toNat).2 (by rw [List.length_replicate]; exact Nat.le_refl _)⟩
theorem MkE.lof {K : PySem.W.Frag} {t : TE} (hN : ∀ b ∈ N, H b ≠ none) (h : MkT N σ H k n m t) : MkE N σ H (k + 1) n (tCB (fun xs H Q => ∃ p ys, xs = [.ref p] ∧ (SqL K H p ys ∨ SqT K H p ys) ∧ ∀ l, H l = none → l ≠ 1 → Q (.ref l) (upd H l (.lst ys))) (tCons t tNil)) := fun H1 Q s q =>
  h H1 _ s fun H2 v ds s2 g sh hl => by
    obtain ⟨a, xs, rfl, ha, hx⟩ := g.tuple
    refine ⟨a, xs, rfl, .inr (SqT.of ha), fun l hl2 l1 => q _ _ (.list ds) (s2.new hl2) (.lst upd_same (notin_new hN (s.trans s2) hl2) l1 (hx.new hl2)) (ShG.lst sh)⟩
end
def spWrong28 (K : PySem.W.Frag) : Sp := fun vs H Q _ => ∃ (N : List Addr) (a c : Addr) (cs : List Int) (k : Int) (v : V) (ds : List PyData), vs = [.ref a, v] ∧ Dk H a c cs k ∧ NOk N H a c ∧ Gd N H v (.tuple ds) ∧ ShGA 15 7200 ds ∧ ds.length ≤ 1000 ∧ k + 1 ≤ KB ∧
  ∀ H' cs' k' v' d', Sx [a, c] H H' → Dk H' a c cs' k' → k ≤ k' → k' ≤ k + 1 → Gd N H' v' d' → ShG 20 8000 d' → Q v' H'
section
variable {w : World} {P : Program} {K : PySem.W.Frag} {mg : Str → Option Value} {base : Heap}
theorem ok_wrong {f fO : Addr} {fd fdO : FuncData} (F_wrong : Fun K "_law_wrong" "_law_wrong" sWrong f fd) (F_one : Fun K "_law_one" "_law_one" sOne fO fdO)
    (G_one : FnOk P w K mg base CX0 2 fO fdO ["_law_deck_here", "_law_items"] (spOne K)) (b_one : Binds K fdO ["_law_deck_here", "_law_items"] []) (m_one : mg "_law_one" = some (.ref fO)) (z_list : mg "list" = none) : FnOk P w K mg base CX0 3 f fd ["_law_deck_here", "_law_program_here"] (spWrong28 K) := by
  refine F_wrong.ok scWrong (fun vs H Q E h => ?_) (fun cdv A outer s H vs Q E hr h => ?_)
  · obtain ⟨_, _, _, _, _, _, _, rfl, _⟩ := h
    rfl
  · obtain ⟨N, a, c, cs, k, v, ds, rfl, D, NK, gt_program, sht_program, lt_program, hk, q⟩ := h
    refine ⟨_, (pss_cons (ps_set (i := 2) scWrong.nd rfl (by first | exact Or.inl rfl | exact Or.inr rfl) (pe_lst (pa_cons pe_non (pa_cons pe_int (pa_cons pe_str (pa_cons (pe_lstB pa_nil) (pa_cons pe_dnewK (pa_cons (pe_callTy call_list_ofB (by rfl) z_list boot_list (pa_cons (pv 1) pa_nil)) (pa_cons (pe_op op_catA (pv 1) (pe_tup (pa_cons (pe_tup (pa_cons pe_str (pa_cons pe_int pa_nil))) pa_nil))) (pa_cons (pe_op op_catA (pe_tup (pa_cons (pe_tup (pa_cons pe_str (pa_cons pe_int pa_nil))) pa_nil)) (pv 1)) (pa_cons (pe_tup (pa_cons pe_str pa_nil)) pa_nil)))))))))))
      (pss_cons (ps_set (i := 2) scWrong.nd rfl (by first | exact Or.inl rfl | exact Or.inr rfl) (pe_op op_cat (pv 2) (pe_lst (pa_cons (pe_tup (pa_cons (pe_tup (pa_cons pe_str (pa_cons pe_str (pa_cons pe_int pa_nil)))) pa_nil)) (pa_cons (pe_op op_repT (pe_tup (pa_cons (pe_tup (pa_cons pe_str (pa_cons pe_int pa_nil))) pa_nil)) pe_int) (pa_cons (pe_tup (pa_cons (pe_tup (pa_cons pe_str (pa_cons pe_int (pa_cons (pe_op op_repT (pe_tup (pa_cons (pe_tup (pa_cons pe_str (pa_cons pe_int pa_nil))) pa_nil)) pe_int) pa_nil)))) pa_nil)) (pa_cons (pv 1) pa_nil)))))))
      (pss_cons (ps_set (i := 2) scWrong.nd rfl (by first | exact Or.inl rfl | exact Or.inr rfl) (pe_op op_cat (pv 2) (pe_lst (pa_cons (pe_tup (pa_cons (pe_tup (pa_cons pe_str (pa_cons pe_int (pa_cons (pe_tup (pa_cons (pe_tup (pa_cons pe_str (pa_cons (pe_tup (pa_cons pe_str (pa_cons pe_str (pa_cons pe_int pa_nil)))) (pa_cons (pe_tup pa_nil) (pa_cons (pe_tup pa_nil) pa_nil))))) pa_nil)) pa_nil)))) pa_nil)) (pa_cons (pe_tup (pa_cons (pe_tup (pa_cons pe_str (pa_cons (pe_tup (pa_cons pe_str (pa_cons pe_str (pa_cons pe_int (pa_cons pe_int pa_nil))))) (pa_cons (pe_tup pa_nil) (pa_cons (pe_tup pa_nil) pa_nil))))) pa_nil)) pa_nil)))))
      (pss_one (ps_ret (pe_call G_one (hr.mono (by omega)) (by rfl) m_one F_one.kp b_one .nil pass0 (pa_cons (pv 0) (pa_cons (pv 2) pa_nil)))))))), ?_⟩
    have hN := NK.nn
    have notin : ∀ {l : Addr}, l ∉ N → l ≠ a ∧ l ≠ c := fun h => ⟨fun e => h (e ▸ NK.ma), fun e => h (e ▸ NK.mc)⟩
    refine gSeqAsg ?_
    refine MkM.lst (N := N) (σ := [some (.ref a), some v, none]) (H := H) (k := 19) (e := 8000) hN (MkB.cons MkE.non (by omega) (MkB.cons (MkE.sm (by decide +kernel)) (by omega) (MkB.cons (MkE.str (by decide +kernel) (by decide +kernel)) (by omega) (MkB.cons (MkE.lst hN MkA.nil (by decide)) (by omega) (MkB.cons (MkE.dic0 hN) (by omega) (MkB.cons (MkE.lof hN (MkT.var rfl gt_program sht_program (by omega) lt_program)) (by omega) (MkB.cons (MkT.e (MkT.cat (MkT.var rfl gt_program sht_program (by omega) lt_program) (MkT.tup (MkA.cons (MkE.tup (MkA.cons (MkE.str (by decide +kernel) (by decide +kernel)) (MkA.cons (MkE.sm (by decide +kernel)) MkA.nil)) (by decide)) MkA.nil) (by decide)) (by decide))) (by omega) (MkB.cons (MkT.e (MkT.cat (MkT.tup (MkA.cons (MkE.tup (MkA.cons (MkE.str (by decide +kernel) (by decide +kernel)) (MkA.cons (MkE.sm (by decide +kernel)) MkA.nil)) (by decide)) MkA.nil) (by decide)) (MkT.var rfl gt_program sht_program (by omega) lt_program) (by decide))) (by omega) (MkB.cons (MkE.tup (MkA.cons (MkE.str (by decide +kernel) (by decide +kernel)) MkA.nil) (by decide)) (by omega) MkB.nil))))))))) (by decide) H _ (Sx.refl _) (fun H1 l1 vs1 s1 nl1 el1 g1 hl1 => ?_)
    have hN1 := (NK.s0 s1).nn
    replace gt_program := gt_program.keep (s1.kp0 (N := N))
    refine gnm ?_
    refine gSeqAsg ?_
    refine MkM.cat (N := N) (σ := [some (.ref a), some v, some (.ref l1)]) (H := H1) (k := 19) (e := 8000) hN1 (MkM.var rfl nl1 el1 g1 hl1) (MkM.lst hN1 (let hN := hN1; let g_program := gt_program; let sh_program := ShG.tup sht_program; (MkB.cons (MkE.tup (MkA.cons (MkE.tup (MkA.cons (MkE.str (by decide +kernel) (by decide +kernel)) (MkA.cons (MkE.str (by decide +kernel) (by decide +kernel)) (MkA.cons (MkE.sm (by decide +kernel)) MkA.nil))) (by decide)) MkA.nil) (by decide)) (by omega) (MkB.cons (MkT.e (MkT.rep (MkA.cons (MkE.tup (MkA.cons (MkE.str (by decide +kernel) (by decide +kernel)) (MkA.cons (MkE.sm (by decide +kernel)) MkA.nil)) (by decide)) MkA.nil) (by decide) (by decide))) (by omega) (MkB.cons (MkE.tup (MkA.cons (MkE.tup (MkA.cons (MkE.str (by decide +kernel) (by decide +kernel)) (MkA.cons (MkE.sm (by decide +kernel)) (MkA.cons (MkT.e (MkT.rep (MkA.cons (MkE.tup (MkA.cons (MkE.str (by decide +kernel) (by decide +kernel)) (MkA.cons (MkE.sm (by decide +kernel)) MkA.nil)) (by decide)) MkA.nil) (by decide) (by decide))) MkA.nil))) (by decide)) MkA.nil) (by decide)) (by omega) (MkB.cons (MkE.var rfl g_program sh_program (by omega)) (by omega) MkB.nil))))) (by decide)) (by decide) H1 _ (Sx.refl _) (fun H2 l2 vs2 s2' nl2 el2 g2 hl2 => ?_)
    have s2 : Sx [] H H2 := s1.trans s2'
    have hN2 := (NK.s0 s2).nn
    refine gnm ?_
    refine gSeqAsg ?_
    refine MkM.cat (N := N) (σ := [some (.ref a), some v, some (.ref l2)]) (H := H2) (k := 19) (e := 8000) hN2 (MkM.var rfl nl2 el2 g2 hl2) (MkM.lst hN2 (let hN := hN2; (MkB.cons (MkE.tup (MkA.cons (MkE.tup (MkA.cons (MkE.str (by decide +kernel) (by decide +kernel)) (MkA.cons (MkE.sm (by decide +kernel)) (MkA.cons (MkE.tup (MkA.cons (MkE.tup (MkA.cons (MkE.str (by decide +kernel) (by decide +kernel)) (MkA.cons (MkE.tup (MkA.cons (MkE.str (by decide +kernel) (by decide +kernel)) (MkA.cons (MkE.str (by decide +kernel) (by decide +kernel)) (MkA.cons (MkE.sm (by decide +kernel)) MkA.nil))) (by decide)) (MkA.cons (MkE.tup MkA.nil (by decide)) (MkA.cons (MkE.tup MkA.nil (by decide)) MkA.nil)))) (by decide)) MkA.nil) (by decide)) MkA.nil))) (by decide)) MkA.nil) (by decide)) (by omega) (MkB.cons (MkE.tup (MkA.cons (MkE.tup (MkA.cons (MkE.str (by decide +kernel) (by decide +kernel)) (MkA.cons (MkE.tup (MkA.cons (MkE.str (by decide +kernel) (by decide +kernel)) (MkA.cons (MkE.str (by decide +kernel) (by decide +kernel)) (MkA.cons (MkE.sm (by decide +kernel)) (MkA.cons (MkE.sm (by decide +kernel)) MkA.nil)))) (by decide)) (MkA.cons (MkE.tup MkA.nil (by decide)) (MkA.cons (MkE.tup MkA.nil (by decide)) MkA.nil)))) (by decide)) MkA.nil) (by decide)) (by omega) MkB.nil))) (by decide)) (by decide) H2 _ (Sx.refl _) (fun H3 l3 vs3 s3' nl3 el3 g3 hl3 => ?_)
    have s3 : Sx [] H H3 := s2.trans s3'
    have D3 := D.same s3
    refine gnm ?_
    refine ⟨_, rfl, _, rfl, a, c, cs, k, .ref l3, rfl, D3, by omega, .inl ⟨l3, vs3, rfl, SqL.of el3, (fun e => absurd hl3 (by rw [e]; decide)), (by rw [hl3]; decide), (notin nl3).1, (notin nl3).2, fun H7 cs7 x s7 D7 hx => ?_⟩⟩
    obtain ⟨d7, gd7, sd7⟩ := g3.mem hx
    have kp7 : Kp N H3 H7 := (NK.s0 s3).kp D3 s7
    exact q H7 cs7 _ x d7 (s3.nil.trans s7) D7 (by omega) (by omega) (gd7.keep kp7) (sd7.mono (by decide) (by decide))
end
abbrev sPLaw : Stmt := topS 76
abbrev nPLaw : List Str := ["_law_script", "_law_deck_here", "_law_turn", "_law_names_here", "_law_family_here", "_law_other", "_law_at", "_law_bad", "_law_bent", "_law_values", "_law_value_here", "_law_kept", "_law_due", "_law_k", "_law_number_here", "_law_program_here"]
theorem scPLaw : FnScope nPLaw ["_law_script"] (defScope sPLaw) := ⟨rfl, rfl, rfl, by decide +kernel, rfl, by decide +kernel, by decide +kernel⟩
/-! ### families -/
structure InB (ns : List Str) (b : Bk) : Prop where
  ok : b.ok ns 4
  sz : b.sz ≤ 24
  wt : b.wt ≤ 30
  r : b.tn true ≤ 2
  l : b.tn false ≤ 2
theorem InB.nil (ns : List Str) : InB ns .nil := ⟨trivial, by decide, by decide, by decide, by decide⟩
def cF : Int := 3600000
def spFam28 (K : PySem.W.Frag) : Sp := fun vs H Q _ => ∃ (a c : Addr) (cs : List Int) (k : Int) (nm : Addr) (ns : List Str), vs = [.ref a, .ref nm] ∧ Dk H a c cs k ∧ Nms K H nm ns ∧ nm ≠ a ∧ nm ≠ c ∧ k + cF ≤ KB ∧
  ∀ (H' : Hp) (cs' : List Int) (k' : Int) (v : V) (bs : List Bk), Sx [a, c] H H' → Dk H' a c cs' k' → k ≤ k' → k' ≤ k + cF → Tp H' v (.tuple (bs.map bkD)) → (∀ b ∈ bs, InB ns b) → 1 ≤ bs.length → bs.length ≤ 5 → Q v H'
def sgB (x : Int) (b : Bk) : PyData := .int (sgn (b.run 0 (Wd.at x)).1.tot)
def spSA : Sp := fun vs H Q _ => ∃ (v : V) (bs : List Bk) (x : Int), vs = [v, .int x] ∧ Tp H v (.tuple (bs.map bkD)) ∧ (∀ b ∈ bs, ∃ ns, InB ns b) ∧ bs.length ≤ 1000 ∧ ∀ H' r, Sx [] H H' → Tp H' r (.tuple (bs.map (sgB x))) → Q r H'
section
variable {w : World} {P : Program} {K : PySem.W.Frag} {mg : Str → Option Value} {base : Heap}
theorem ok_family {f fD fO fP : Addr} {fd fdD fdO fdP : FuncData} (F_family : Fun K "_law_family" "_law_family" sFamily f fd) (F_draw : Fun K "_law_draw" "_law_draw" sDraw fD fdD) (F_one : Fun K "_law_one" "_law_one" sOne fO fdO) (F_program : Fun K "_law_program" "_law_program" sProgram fP fdP)
    (G_draw : FnOk P w K mg base CX0 1 fD fdD ["_law_deck_here", "_law_many"] spDraw) (G_one : FnOk P w K mg base CX0 2 fO fdO ["_law_deck_here", "_law_items"] (spOne K)) (G_program : FnOk P w K mg base CX0 15 fP fdP ["_law_deck_here", "_law_names_here"] (spProgram K))
    (b_draw : Binds K fdD ["_law_deck_here", "_law_many"] []) (b_one : Binds K fdO ["_law_deck_here", "_law_items"] []) (b_program : Binds K fdP ["_law_deck_here", "_law_names_here"] []) (m_draw : mg "_law_draw" = some (.ref fD)) (m_one : mg "_law_one" = some (.ref fO)) (m_program : mg "_law_program" = some (.ref fP)) (z_range : mg "range" = none) (z_tuple : mg "tuple" = none) : FnOk P w K mg base CX0 16 f fd ["_law_deck_here", "_law_names_here"] (spFam28 K) := by
  refine F_family.ok scFamily (fun vs H Q E h => ?_) (fun cdv A outer s H vs Q E hr h => ?_)
  · obtain ⟨_, _, _, _, _, _, rfl, _⟩ := h
    rfl
  · obtain ⟨a, c, cs, k, nm, ns, rfl, D, NM, na, nc, hk, q⟩ := h
    refine ⟨_, (pss_cons (ps_setLc (i := 2) (own := [("_law_k", 3)]) (g := gName 3) (tt := tYes) rfl scFamily.nd rfl rfl (sw_true rfl rfl rfl (by decide +kernel)) (pi_range1 (by rfl) z_range (pa_cons (pe_op op_add pe_int (pe_call G_draw (hr.mono (by omega)) (by rfl) m_draw F_draw.kp b_draw .nil pass0 (pa_cons (pv 0) (pa_cons pe_int pa_nil)))) pa_nil)) (blkOk_by (N := nFamily) (sc := defScope sFamily) (by decide +kernel)) (fun _ _ _ _ _ => (pg_name (i := 3) scFamily.nd rfl (by first | exact Or.inl rfl | exact Or.inr rfl))) (fun _ _ _ _ _ => pts_nil) (fun _ _ _ _ _ => (pe_call G_program (hr.mono (by omega)) (by rfl) m_program F_program.kp b_program .nil pass0 (pa_cons (pv 0) (pa_cons (pv 1) pa_nil)))))
      (C8.pss_cut (ps_if (pt_cmpR op_eq (pe_call G_draw (hr.mono (by omega)) (by rfl) m_draw F_draw.kp b_draw .nil pass0 (pa_cons (pv 0) (pa_cons pe_int pa_nil))) pe_int (nomark _)) (pss_one (ps_expr (pe_bm PySem.F.plainAttrs_list PySem.F.slot_list_append PySem.F.type_list_append mt_append (pv 2) (pa_cons (pe_call G_one (hr.mono (by omega)) (by rfl) m_one F_one.kp b_one .nil pass0 (pa_cons (pv 0) (pa_cons (pe_op op_cat (pv 2) (pe_lst (pa_cons (pe_tup pa_nil) pa_nil))) pa_nil))) pa_nil)))) pss_nil)
      (pss_one (ps_ret (pe_callTy call_tuple_of (by rfl) z_tuple boot_tuple (pa_cons (pv 2) pa_nil)))))), ?_⟩
    have cFe : cF = 3600000 := rfl
    have cPe : cP = 700000 := rfl
    refine ⟨_, rfl, a, c, cs, k, 4, rfl, D, by decide, by decide, by omega, fun H1 cs1 y s1 D1 y0 y1 => ⟨1, y, rfl, rfl, _, rfl, by omega, by omega, fun Z hZ => lc_range (lo := 0) (n := (1 + y).toNat) (fun i H' => Sx [a, c] H1 H' ∧ (∃ cs' k', Dk H' a c cs' k' ∧ k ≤ k' ∧ k' ≤ k + 1 + 700000 * i) ∧ ∃ (vals : List V) (bs : List Bk), H' Z = some (.lst vals) ∧ TpAll H' vals (bs.map bkD) ∧ bs.length = i ∧ ∀ b ∈ bs, InB ns b) ?_ (fun i H' hi p => ?_) (fun H' p => ?_)⟩⟩
    · exact ⟨(Sx.n0 hZ).nil, ⟨_, _, D1.new hZ, by omega, by omega⟩, [], [], upd_same, .nil, rfl, fun b hb => by cases hb⟩
    · obtain ⟨s2, ⟨cs2, k2, D2, k2a, k2b⟩, vals, bs, eZ, tv, bl, hb⟩ := p
      have NM2 := (NM.keep s1 (by simp [na, nc])).keep s2 (by simp [na, nc])
      refine ⟨rfl, _, rfl, _, rfl, a, c, cs2, k2, nm, ns, rfl, D2, NM2, na, nc, by omega, fun H4 cs4 k4 v es n w' r cc s4 D4 k4a k4b T4 bk hn hw hr4 hc4 => ?_⟩
      obtain ⟨b, rfl, bo, bsz, bwt, bt1, bt2⟩ := Bk.of bk
      obtain ⟨Za, Zc⟩ := D1.nw hZ
      have eZ4 := s4 _ _ (by simp [Za, Zc]) eZ
      have tl := tv.len
      rw [List.length_map] at tl
      refine ⟨vals, eZ4, lt_line (by omega), (s2.trans s4).own hZ, ⟨cs4, k4, D4.sx ((Sx.refl (ex := [Z]) _).put (by simp)) (by simp [Za.symm]) (by simp [Zc.symm]), by omega, by omega⟩, _, bs ++ [b], upd_same, ?_, by rw [List.length_append, bl]; rfl, fun b' hb' => ?_⟩
      · rw [List.map_append]
        exact ((tv.keep (D2.tk s4)).keep (Tk.lst eZ4)).append (.cons (Tp.keep (Tk.lst eZ4) T4) .nil)
      · rcases List.mem_append.1 hb' with h | h
        · exact hb b' h
        · rw [List.mem_singleton.mp h]
          exact ⟨bo, by omega, by omega, by omega, by omega⟩
    · obtain ⟨s2, ⟨cs2, k2, D2, k2a, k2b⟩, vals, bs, eZ, tv, bl, hb⟩ := p
      obtain ⟨Za, Zc⟩ := D1.nw hZ
      have tl := tv.len
      rw [List.length_map] at tl
      refine ⟨fun σ H' => σ = [some (.ref a), some (.ref nm), some (.ref Z), none] ∧ Sx [a, c] H H' ∧ (∃ cs' k', Dk H' a c cs' k' ∧ k ≤ k' ∧ k' ≤ k + cF) ∧ ∃ (vals : List V) (bs : List Bk), H' Z = some (.lst vals) ∧ TpAll H' vals (bs.map bkD) ∧ 1 ≤ bs.length ∧ bs.length ≤ 5 ∧ ∀ b ∈ bs, InB ns b, ?_, ?_⟩
      · refine ⟨_, rfl, a, c, cs2, k2, 2, rfl, D2, by decide, by decide, by omega, fun H3 cs3 z s3 D3 z0 z1 => ⟨rfl, _, rfl, ?_⟩⟩
        have s03 := (s1.trans s2).trans s3
        have eZ3 := s3 _ _ (by simp [Za, Zc]) eZ
        have tv3 := tv.keep (D2.tk s3)
        refine ite2 (fun e => ?_) (fun e => ?_)
        · refine ⟨_, rfl, .inl ⟨rfl, _, SqL.of eZ3⟩, _, rfl, _, rfl, by show 0 ≤ sizeLine; decide, fun p hp => ⟨by show 1 ≤ sizeLine; decide, fun L hL => ⟨Z, L, vals, [.ref p], rfl, rfl, Sx.n0 hL _ _ (by simp) (Sx.n0 hp _ _ (by simp) eZ3), upd_same, le_line (by show vals.length + 1 ≤ 16777216; omega), fun p2 hp2 => ?_⟩⟩⟩
          have sp := Sx.n0 (o := .tup []) hp
          have sL := Sx.n0 (o := .lst [.ref p]) hL
          have s2' := Sx.n0 (o := .lst (vals ++ [.ref p])) hp2
          have ss := (sp.trans sL).trans s2'
          have D4 := D3.same ss
          have n2 := (D3.same (sp.trans sL)).nw hp2
          refine ⟨a, c, cs3, _, .ref p2, rfl, D4, by omega, .inl ⟨p2, _, rfl, SqL.of upd_same, by simp, by rw [List.length_append]; show vals.length + 1 ≤ 100000; omega, n2.1, n2.2, fun H5 cs5 x s5 D5 hx => ?_⟩⟩
          have eZ5 := s5 _ _ (by simp [Za, Zc]) (ss _ _ (by simp) eZ3)
          have k5 : Tk H3 H5 := ss.tk0.trans (D4.tk s5)
          have hxb : ∃ b, InB ns b ∧ Tp H5 x (bkD b) := by
            rcases List.mem_append.1 hx with h | h
            · obtain ⟨i, hi⟩ := List.getElem?_of_mem h
              obtain ⟨d, hd, t⟩ := tv3.get hi
              rw [List.getElem?_map] at hd
              obtain ⟨b, hb2, rfl⟩ := Option.map_eq_some_iff.mp hd
              exact ⟨b, hb b (List.mem_of_getElem? hb2), t.keep k5⟩
            · rw [List.mem_singleton.mp h]
              exact ⟨.nil, .nil ns, .tup (s5.tk (fun b hb => D4.lst b hb) _ _ ((sL.trans s2') _ _ (by simp) upd_same)) .nil⟩
          obtain ⟨b, hbI, tb⟩ := hxb
          refine ⟨Z, _, _, rfl, rfl, eZ5, lt_line (by omega), rfl, ((s03.trans ss.nil).trans s5).own (s1.free (by simp [Za, Zc]) hZ), ⟨cs5, _, D5.sx ((Sx.refl (ex := [Z]) _).put (by simp)) (by simp [Za.symm]) (by simp [Zc.symm]), by omega, by omega⟩, _, bs ++ [b], upd_same, ?_, by rw [List.length_append]; omega, by rw [List.length_append]; show bs.length + 1 ≤ 5; omega, fun b' hb' => ?_⟩
          · rw [List.map_append]
            exact ((tv3.keep k5).keep (Tk.lst eZ5)).append (.cons (tb.keep (Tk.lst eZ5)) .nil)
          · rcases List.mem_append.1 hb' with h | h
            · exact hb b' h
            · rw [List.mem_singleton.mp h]; exact hbI
        · exact ⟨rfl, s03, ⟨cs3, _, D3, by omega, by omega⟩, vals, bs, eZ3, tv3, by omega, by omega, hb⟩
      · rintro _ H3 ⟨rfl, s3, ⟨cs3, k3, D3, k3a, k3b⟩, vals, bs, eZ, tv, b1, b5, hb⟩
        refine ⟨_, rfl, Z, _, rfl, .inl ⟨SqL.of eZ, fun t ht => ?_⟩⟩
        exact q _ cs3 k3 _ bs (s3.new ht) (D3.new ht) k3a k3b (.tup upd_same (tv.new ht)) hb b1 b5
theorem ok_psigns {f fS : Addr} {fd fdS : FuncData} (F_psigns_at : Fun K "signs_at" "signs_at" sPSignsAt f fd) (F_psign : Fun K "sign" "sign" sPSign fS fdS) (G_psign : FnOk P w K mg base CX0 11 fS fdS ["program", "number"] spSignA)
    (b_psign : Binds K fdS ["program", "number"] []) (m_psign : mg "sign" = some (.ref fS)) (z_tuple : mg "tuple" = none) : FnOk P w K mg base CX0 12 f fd ["family", "number"] spSA := by
  refine F_psigns_at.ok scPSignsAt (fun vs H Q E h => ?_) (fun cdv A outer s H vs Q E hr h => ?_)
  · obtain ⟨_, _, _, rfl, _⟩ := h
    rfl
  · obtain ⟨v, bs, x, rfl, t, hb, hbl, q⟩ := h
    refine ⟨_, (pss_one (ps_ret (pe_callTy call_tuple_of (by rfl) z_tuple boot_tuple (pa_cons (pe_lc (own := [("program", 2)]) (g := gName 2) (tt := tYes) rfl scPSignsAt.nd (pi_tup (pv 0)) (blkOk_by (N := nPSignsAt) (sc := defScope sPSignsAt) (by decide +kernel)) (fun _ _ _ _ _ => (pg_name (i := 2) scPSignsAt.nd rfl (by first | exact Or.inl rfl | exact Or.inr rfl))) (fun _ _ _ _ _ => pts_nil) (fun _ _ _ _ _ => (pe_call G_psign (hr.mono (by omega)) (by rfl) m_psign F_psign.kp b_psign .nil pass0 (pa_cons (pv 2) (pa_cons (pv 1) pa_nil))))) pa_nil)))), ?_⟩
    obtain ⟨a, xs, rfl, ha, hx⟩ := t.tuple
    have hl := hx.len
    rw [List.length_map] at hl
    refine ⟨_, rfl, a, rfl, ⟨_, SqT.of ha⟩, fun Z hZ => lc_tup (xs := xs) (fun i H' => Sx [] H H' ∧ ∃ vals, H' Z = some (.lst vals) ∧ TpAll H' vals ((bs.take i).map (sgB x))) ⟨Sx.n0 hZ, [], upd_same, .nil⟩ (fun i H' _ p => SqT.of (p.1 _ _ (by simp) ha)) (fun i y H' hy p => ?_) (fun H' p => ?_)⟩
    · obtain ⟨s1, vals, eZ, tv⟩ := p
      obtain ⟨d, hd, td⟩ := hx.get hy
      rw [List.getElem?_map] at hd
      obtain ⟨b, hb2, rfl⟩ := Option.map_eq_some_iff.mp hd
      obtain ⟨ns, I⟩ := hb b (List.mem_of_getElem? hb2)
      have h1 := I.sz
      have h2 := I.wt
      have tl := tv.len
      rw [List.length_map, List.length_take] at tl
      refine ⟨rfl, _, rfl, _, rfl, ns, y, b, x, rfl, td.keep s1.tk0, I.ok, by omega, by omega, fun H3 s3 => ?_⟩
      have eZ3 := s3 _ _ (by simp) eZ
      refine ⟨vals, eZ3, lt_line (by omega), (s1.trans s3).own hZ, _, upd_same, ?_⟩
      rw [List.take_add_one, hb2, List.map_append]
      exact ((tv.keep s3.tk0).keep (Tk.lst eZ3)).append (.cons (.int _) .nil)
    · obtain ⟨s1, vals, eZ, tv⟩ := p
      rw [hl, List.take_length] at tv
      exact ⟨Z, _, rfl, .inl ⟨SqL.of eZ, fun t ht => q _ _ (s1.new ht) (.tup upd_same (tv.new ht))⟩⟩
end
/-! ### the law on families -/
def GLv (N : List Addr) (H : Hp) (l : List (V × PyData)) : Prop := ∀ p ∈ l, Gd N H p.1 p.2
theorem GLv.keep {N : List Addr} {H H' : Hp} {l : List (V × PyData)} (h : GLv N H l) (k : Kp N H H') : GLv N H' l := fun p hp => (h p hp).keep k
theorem GLv.cons {N : List Addr} {H : Hp} {l : List (V × PyData)} {v : V} {d : PyData} (g : Gd N H v d) (h : GLv N H l) : GLv N H ((v, d) :: l) := fun p hp => (List.mem_cons.1 hp).elim (fun e => by rw [e]; exact g) (h p)
theorem GLv.at {N : List Addr} {H : Hp} {l : List (V × PyData)} (h : GLv N H l) {v : V} {d : PyData} (i : Nat) (e : l[i]? = some (v, d)) : Gd N H v d := h (v, d) (List.mem_of_getElem? e)
theorem plainL_mem {l : List PyData} (h : ∀ d ∈ l, plainD d = true) : plainL l = true := by
  induction l with
  | nil => simp only [plainL]
  | cons x l ih =>
    simp only [plainL]
    rw [h x (List.mem_cons_self ..), ih fun d hd => h d (List.mem_cons_of_mem _ hd)]
    rfl
theorem fam_plain (bs : List Bk) : plainD (.tuple (bs.map bkD)) = true := by
  simp only [plainD]
  refine plainL_mem fun d hd => ?_
  rcases List.mem_map.mp hd with ⟨b, _, rfl⟩
  simp only [bkD, plainD]
  exact Bk.plain b
theorem bk_sh {ns : List Str} (hn : ∀ z ∈ ns, NmOk z) {b : Bk} (h : InB ns b) : ShG 16 7200 (bkD b) := (ShG.tup (Bk.shg hn b 4 h.ok)).mono (by decide) (by have := h.sz; omega)
theorem fam_sh {ns : List Str} (hn : ∀ z ∈ ns, NmOk z) : ∀ {bs : List Bk}, (∀ b ∈ bs, InB ns b) → ShGA 16 (7201 * bs.length) (bs.map bkD)
  | [], _ => .nil _ _
  | b :: bs, h => (ShGA.cons (bk_sh hn (h b (List.mem_cons_self ..))) (fam_sh hn fun x hx => h x (List.mem_cons_of_mem _ hx))).mono (Nat.le_refl _) (by rw [List.length_cons]; omega)
theorem cut_last {xs : List V} {n : Nat} (h : xs.length = n + 1) : cutV xs none (some (-1)) = (xs.drop 0).take n := by
  unfold cutV
  rw [HT.sIx_none]
  have e : HT.sIx xs.length xs.length (some (-1)) = n := by
    unfold HT.sIx
    rw [h]
    show (if (-1 : Int) < 0 then ((-1 : Int) + ((n + 1 : Nat) : Int)).toNat else _) = n
    rw [if_pos (by decide)]
    omega
  rw [e, Nat.sub_zero]
theorem at_last {xs : List V} {x : V} {n : Nat} (h : xs.length = n + 1) (e : xs[n]? = some x) : atI xs (-1) = some x := by
  have e1 : ixN xs.length (-1) = some n := by
    unfold ixN
    rw [if_neg (by decide), if_pos (by rw [h]; omega)]
    congr 1
    rw [h]
    omega
  unfold atI
  rw [e1]
  exact e
theorem rep_gd {N : List Addr} {H : Hp} {x : V} {d : PyData} (g : Gd N H x d) : ∀ n : Nat, GdAll N H (List.replicate n [x]).flatten (List.replicate n d)
  | 0 => .nil
  | n + 1 => by
    rw [List.replicate_succ, List.replicate_succ, List.flatten_cons]
    exact .cons g (rep_gd g n)
theorem rep_sh {k e : Nat} {d : PyData} (h : ShG k e d) : ∀ n : Nat, ShGA k (n * (e + 1)) (List.replicate n d)
  | 0 => .nil _ _
  | n + 1 => by
    rw [List.replicate_succ]
    exact (ShGA.cons h (rep_sh h n)).mono (Nat.le_refl _) (by rw [Nat.succ_mul]; omega)
theorem gLst {t : TA} {σ : L2.St} {H : Hp} {Q : VK} (h : t σ H fun xs H1 => xs.length ≤ sizeLine ∧ ∀ p, H1 p = none → Q (.ref p) (upd H1 p (.lst xs))) : tLst t σ H Q := h
theorem wA_rev : ∀ ds : List PyData, PyData.weightAll ds.reverse = PyData.weightAll ds
  | [] => rfl
  | d :: ds => by
    rw [List.reverse_cons, wA_append, wA_rev ds, wA_cons, wA_cons, wA_nil]
    omega
theorem ShGA.rev {k n : Nat} {ds : List PyData} (h : ShGA k n ds) : ShGA k n ds.reverse := (ShGA.mk' fun d hd => h.mem (List.mem_reverse.mp hd)).mono (Nat.le_refl _) (by rw [wA_rev]; exact h.w)
theorem MkE.revT {K : PySem.W.Frag} {N : List Addr} {σ : L2.St} {H : Hp} {k n m : Nat} {te : TE} (h : MkT N σ H k n m te) : MkE N σ H (k + 1) n (tRevT K te) := fun H1 Q s q =>
  h H1 _ s fun H2 v ds s2 g sh hl => by
    obtain ⟨a, xs, rfl, ha, hx⟩ := g.tuple
    refine ⟨a, xs, rfl, SqT.of ha, fun p hp => q _ _ (.tuple ds.reverse) (s2.new hp) (.tup upd_same (GdAll.rev (hx.new hp))) (ShG.tup (sh.rev))⟩
theorem mk5 {K : PySem.W.Frag} {N : List Addr} {σ : L2.St} {H : Hp} {vF vB : V} {fds : List PyData} {dB : PyData} (hN : ∀ b ∈ N, H b ≠ none) (h4 : σ[4]? = some (some vF)) (h7 : σ[7]? = some (some vB)) (gF : Gd N H vF (.tuple fds)) (gB : Gd N H vB dB)
    (mF : ∀ d ∈ fds, ShG 20 d.weight d) (mB : ShG 20 dB.weight dB) (wF : PyData.weightAll fds ≤ 36005) (wB : dB.weight ≤ 8000) (lF : fds.length ≤ 5) :
    MkB N σ H 60 80000 5 (tCons (tOp (rCatA K) (tTup (tCons (tVar 7) tNil)) (tOp (rRepT K) (tTup (tCons (tTup tNil) tNil)) (tC (.int 5)))) (tCons (tTup (tCons (tVar 4) tNil)) (tCons (tRevT K (tVar 4)) (tCons (tC .non) (tCons tDNewK tNil))))) := by
  have e1 : MkE N σ H 60 80000 (tOp (rCatA K) (tTup (tCons (tVar 7) tNil)) (tOp (rRepT K) (tTup (tCons (tTup tNil) tNil)) (tC (.int 5)))) :=
    (MkT.cat (MkT.tup (MkA.cons (MkE.var h7 gB mB (Nat.le_refl _)) MkA.nil) (by decide)) (MkT.rep (j := 5) (MkA.cons (MkE.tup (k := 19) MkA.nil (by decide)) MkA.nil) (by decide) (by decide)) (by decide)).e.mono (by decide) (by show dB.weight + 1 + 0 + (0 + 1 + 0) * 5 ≤ 80000; omega)
  have e2 : MkE N σ H 60 80000 (tTup (tCons (tVar 4) tNil)) := (MkE.tup (MkA.cons (MkE.var h4 gF (ShG.tup (ShGA.mk' mF)) (Nat.le_refl _)) MkA.nil) (by decide)).mono (by decide) (by omega)
  have e3 : MkE N σ H 60 80000 (tRevT K (tVar 4)) := (MkE.revT (MkT.var (m := 5) h4 gF (ShGA.mk' mF) (Nat.le_refl _) lF)).mono (by decide) (by omega)
  exact .cons e1 (Nat.le_refl _) (.cons e2 (Nat.le_refl _) (.cons e3 (Nat.le_refl _) (.cons MkE.non (by omega) (.cons (MkE.dic0 hN) (by omega) .nil))))
theorem cut_any {xs : List V} {j : Nat} : cutV xs none (some (j : Int)) = (xs.drop 0).take j := by
  unfold cutV
  rw [HT.sIx_none, HT.sIx_nat, Nat.sub_zero, List.drop_zero]
  exact List.take_eq_take_iff.mpr (by omega)
theorem pair_sh {k n : Nat} {d : PyData} (h : ShG k n d) : ShG (k + 1) (2 * n + 2) (.list [d, d]) := (ShG.lst (ShGA.cons h (ShGA.cons h (.nil k 0)))).mono (Nat.le_refl _) (by omega)
theorem sg_sh (x : Int) : ∀ bs : List Bk, ShGA 50 (9 * bs.length) (bs.map (sgB x))
  | [] => .nil _ _
  | b :: bs => (ShGA.cons (n := 8) (ShG.int (by have : -1 ≤ sgn (b.run 0 (Wd.at x)).1.tot ∧ sgn (b.run 0 (Wd.at x)).1.tot ≤ 1 := (by unfold sgn; split; omega; split <;> omega)
                                                show _ < 2 ^ 8; omega) (by decide) (by decide) 50) (sg_sh x bs)).mono (Nat.le_refl _) (by rw [List.length_cons]; omega)
section
variable {w : World} {P : Program} {K : PySem.W.Frag} {mg : Str → Option Value} {base : Heap}
set_option maxHeartbeats 8100000 in
theorem ok_law28 {f fA fB fC fD fE fF fG fH fI fJ fL : Addr} {fd fdA fdB fdC fdD fdE fdF fdG fdH fdI fdJ fdL : FuncData} {Pw Pt : Addr} (F_law : Fun K "law" "law" sPLaw f fd)
    (F_deck : Fun K "_law_deck" "_law_deck" sDeck fA fdA) (F_names : Fun K "_law_names" "_law_names" sNames fB fdB) (F_family : Fun K "_law_family" "_law_family" sFamily fC fdC) (F_wrong : Fun K "_law_wrong" "_law_wrong" sWrong fD fdD) (F_family_error : Fun K "_law_family_error" "_law_family_error" sFamilyError fE fdE) (F_pfamily_error : Fun K "family_error" "family_error" sPFamilyError fF fdF)
    (F_number : Fun K "_law_number" "_law_number" sNumber fG fdG) (F_run : Fun K "_law_run" "_law_run" sRun fH fdH) (F_sign : Fun K "_law_sign" "_law_sign" sSign fI fdI) (F_psigns_at : Fun K "signs_at" "signs_at" sPSignsAt fJ fdJ) (F_draw : Fun K "_law_draw" "_law_draw" sDraw fL fdL)
    (G_deck : FnOk P w K mg base CX0 1 fA fdA ["_law_script"] (spDeck K)) (G_names : FnOk P w K mg base CX0 3 fB fdB ["_law_deck_here"] (spNames K)) (G_family : FnOk P w K mg base CX0 16 fC fdC ["_law_deck_here", "_law_names_here"] (spFam28 K))
    (G_wrong : FnOk P w K mg base CX0 3 fD fdD ["_law_deck_here", "_law_program_here"] (spWrong28 K)) (G_family_error : FnOk P w K mg base CX0 14 fE fdE ["_law_value_here"] spLFE) (G_pfamily_error : FnOk P w K mg base CX0 18 fF fdF ["value"] (spFEG Pw Pt))
    (G_number : FnOk P w K mg base CX0 3 fG fdG ["_law_deck_here"] spNumber) (G_run : FnOk P w K mg base CX0 14 fH fdH ["_law_program_here", "_law_number_here"] spRunA) (G_sign : FnOk P w K mg base CX0 1 fI fdI ["_law_total"] spSign) (G_psigns_at : FnOk P w K mg base CX0 12 fJ fdJ ["family", "number"] spSA) (G_draw : FnOk P w K mg base CX0 1 fL fdL ["_law_deck_here", "_law_many"] spDraw)
    (b_deck : Binds K fdA ["_law_script"] []) (b_names : Binds K fdB ["_law_deck_here"] []) (b_family : Binds K fdC ["_law_deck_here", "_law_names_here"] []) (b_wrong : Binds K fdD ["_law_deck_here", "_law_program_here"] []) (b_family_error : Binds K fdE ["_law_value_here"] []) (b_pfamily_error : Binds K fdF ["value"] [])
    (b_number : Binds K fdG ["_law_deck_here"] []) (b_run : Binds K fdH ["_law_program_here", "_law_number_here"] []) (b_sign : Binds K fdI ["_law_total"] []) (b_psigns_at : Binds K fdJ ["family", "number"] []) (b_draw : Binds K fdL ["_law_deck_here", "_law_many"] [])
    (m_deck : mg "_law_deck" = some (.ref fA)) (m_names : mg "_law_names" = some (.ref fB)) (m_family : mg "_law_family" = some (.ref fC)) (m_wrong : mg "_law_wrong" = some (.ref fD)) (m_family_error : mg "_law_family_error" = some (.ref fE)) (m_pfamily_error : mg "family_error" = some (.ref fF))
    (m_number : mg "_law_number" = some (.ref fG)) (m_run : mg "_law_run" = some (.ref fH)) (m_sign : mg "_law_sign" = some (.ref fI)) (m_psigns_at : mg "signs_at" = some (.ref fJ)) (m_draw : mg "_law_draw" = some (.ref fL)) (z_repr : mg "repr" = none) (z_range : mg "range" = none) (z_list : mg "list" = none) (z_len : mg "len" = none) (z_tuple : mg "tuple" = none) : FnG P w K mg base 20 f fd ["_law_script"] (spLawT K Pw Pt) := by
  refine Fun.okG F_law scPLaw (fun vs H Q E h => ?_) (fun cdv A outer s H vs Q E hr hgd h => ?_)
  · obtain ⟨_, _, rfl, _⟩ := h
    rfl
  · obtain ⟨a, ns, rfl, hS, hlen, hT, q⟩ := h
    have hu := hr.units
    have KBe : KB = 1099511627776 := rfl
    have cFe : cF = 3600000 := rfl
    have WBe : WB = 1000000 := rfl
    refine ⟨_, (pss_cons (ps_set (i := 1) scPLaw.nd rfl (by first | exact Or.inl rfl | exact Or.inr rfl) (pe_call G_deck (hr.mono (by omega)) (by rfl) m_deck F_deck.kp b_deck .nil pass0 (pa_cons (pv 0) pa_nil)))
      (C8.pss_cut (ps_for PassesOwn.never rfl (pi_range1 (by rfl) z_range (pa_cons pe_int pa_nil)) (pg_name (i := 2) scPLaw.nd rfl (by first | exact Or.inl rfl | exact Or.inr rfl)) (pss_cons (ps_set (i := 3) scPLaw.nd rfl (by first | exact Or.inl rfl | exact Or.inr rfl) (pe_call G_names (hr.mono (by omega)) (by rfl) m_names F_names.kp b_names .nil pass0 (pa_cons (pv 1) pa_nil)))
      (pss_cons (ps_par (i := 4) (j := 5) (by rfl) scPLaw.nd rfl rfl (by decide) rfl rfl (pa_cons (pe_call G_family (hr.mono (by omega)) (by rfl) m_family F_family.kp b_family .nil pass0 (pa_cons (pv 1) (pa_cons (pv 3) pa_nil))) (pa_cons (pe_call G_family (hr.mono (by omega)) (by rfl) m_family F_family.kp b_family .nil pass0 (pa_cons (pv 1) (pa_cons (pv 3) pa_nil))) pa_nil)) (by rfl))
      (pss_cons (ps_par (i := 6) (j := 7) (by rfl) scPLaw.nd rfl rfl (by decide) rfl rfl (pa_cons (pe_call G_draw (hr.mono (by omega)) (by rfl) m_draw F_draw.kp b_draw .nil pass0 (pa_cons (pv 1) (pa_cons (pe_callB call_len_seq (by rfl) z_len boot_len (pa_cons (pv 4) pa_nil)) pa_nil))) (pa_cons (pe_call G_wrong (hr.mono (by omega)) (by rfl) m_wrong F_wrong.kp b_wrong .nil pass0 (pa_cons (pv 1) (pa_cons (pe_ix ix_tup (pv 4) pe_int (fun _ _ => rfl)) pa_nil))) pa_nil)) (by rfl))
      (pss_cons (ps_set (i := 8) scPLaw.nd rfl (by first | exact Or.inl rfl | exact Or.inr rfl) (pe_op op_catA (pe_op op_catA (pe_slice sl_tupA (pv 4) po_none (po_some (pv 6))) (pe_tup (pa_cons (pv 7) pa_nil))) (pe_slice sl_tupA (pv 4) (po_some (pe_op op_add (pv 6) pe_int)) po_none)))
      (pss_cons (ps_set (i := 9) scPLaw.nd rfl (by first | exact Or.inl rfl | exact Or.inr rfl) (pe_lst (pa_cons (pv 4) (pa_cons (pv 8) (pa_cons (pe_op op_catA (pe_slice sl_tupA (pv 8) po_none (po_some (pe_un un_neg pe_int))) (pe_tup (pa_cons (pe_call G_wrong (hr.mono (by omega)) (by rfl) m_wrong F_wrong.kp b_wrong .nil pass0 (pa_cons (pv 1) (pa_cons (pe_ix ix_tup (pv 4) (pe_un un_neg pe_int) (fun _ _ => rfl)) pa_nil))) pa_nil))) (pa_cons (pe_callTy call_list_ofB (by rfl) z_list boot_list (pa_cons (pv 4) pa_nil)) (pa_cons (pe_tup (pa_cons (pv 7) pa_nil)) (pa_cons (pv 7) (pa_cons (pe_tup pa_nil) pa_nil)))))))))
      (pss_cons (ps_set (i := 9) scPLaw.nd rfl (by first | exact Or.inl rfl | exact Or.inr rfl) (pe_op op_cat (pv 9) (pe_lst (pa_cons (pe_op op_repT (pe_tup (pa_cons (pe_tup pa_nil) pa_nil)) (pe_op op_add pe_int (pe_call G_draw (hr.mono (by omega)) (by rfl) m_draw F_draw.kp b_draw .nil pass0 (pa_cons (pv 1) (pa_cons pe_int pa_nil))))) (pa_cons (pe_op op_catA (pe_tup (pa_cons (pv 7) pa_nil)) (pe_op op_repT (pe_tup (pa_cons (pe_tup pa_nil) pa_nil)) pe_int)) (pa_cons (pe_tup (pa_cons (pv 4) pa_nil)) (pa_cons (pe_revT (pv 4)) (pa_cons pe_non (pa_cons pe_dnewK pa_nil)))))))))
      (C8.pss_cut (ps_for PassesOwn.never rfl (pi_list (pe_op op_cat (pv 9) (pe_lst (pa_cons (pe_slice sl_tupA (pe_op op_catA (pv 4) (pv 5)) po_none (po_some (pe_op op_add pe_int (pe_call G_draw (hr.mono (by omega)) (by rfl) m_draw F_draw.kp b_draw .nil pass0 (pa_cons (pv 1) (pa_cons pe_int pa_nil)))))) pa_nil)))) (pg_name (i := 10) scPLaw.nd rfl (by first | exact Or.inl rfl | exact Or.inr rfl)) (pss_cons (ps_par (i := 11) (j := 12) (by rfl) scPLaw.nd rfl rfl (by decide) rfl rfl (pa_cons (pe_callB (call_reprG hgd hu) (by rfl) z_repr boot_repr (pa_cons (pv 10) pa_nil)) (pa_cons (pe_callB (call_reprG hgd hu) (by rfl) z_repr boot_repr (pa_cons (pe_call G_family_error (hr.mono (by omega)) (by rfl) m_family_error F_family_error.kp b_family_error .nil pass0 (pa_cons (pv 10) pa_nil)) pa_nil)) pa_nil)) (by rfl))
      (pss_one (ps_if (PW.pt (pw_or (pt_cmpR op_ne (pe_callB (call_reprG hgd hu) (by rfl) z_repr boot_repr (pa_cons (pe_call G_pfamily_error (hr.mono (by omega)) (by rfl) m_pfamily_error F_pfamily_error.kp b_pfamily_error .nil pass0 (pa_cons (pv 10) pa_nil)) pa_nil)) (pv 12) (nomark _)) (pw_or1 (pt_cmpR op_ne (pe_callB (call_reprG hgd hu) (by rfl) z_repr boot_repr (pa_cons (pv 10) pa_nil)) (pv 11) (nomark _))))) (pss_one (ps_ret pe_bl)) pss_nil))))
      (pss_one (ps_for PassesOwn.never rfl (pi_range1 (by rfl) z_range (pa_cons pe_int pa_nil)) (pg_name (i := 13) scPLaw.nd rfl (by first | exact Or.inl rfl | exact Or.inr rfl)) (pss_cons (ps_set (i := 14) scPLaw.nd rfl (by first | exact Or.inl rfl | exact Or.inr rfl) (pe_call G_number (hr.mono (by omega)) (by rfl) m_number F_number.kp b_number .nil pass0 (pa_cons (pv 1) pa_nil)))
      (pss_cons (ps_set (i := 12) scPLaw.nd rfl (by first | exact Or.inl rfl | exact Or.inr rfl) (pe_callTy call_tuple_of (by rfl) z_tuple boot_tuple (pa_cons (pe_lc (own := [("_law_program_here", 15)]) (g := gName 15) (tt := tYes) rfl scPLaw.nd (pi_tup (pv 4)) (blkOk_by (N := nPLaw) (sc := defScope sPLaw) (by decide +kernel)) (fun _ _ _ _ _ => (pg_name (i := 15) scPLaw.nd rfl (by first | exact Or.inl rfl | exact Or.inr rfl))) (fun _ _ _ _ _ => pts_nil) (fun _ _ _ _ _ => (pe_call G_sign (hr.mono (by omega)) (by rfl) m_sign F_sign.kp b_sign .nil pass0 (pa_cons (pe_ix (ix_tupK (K := K) rfl) (pe_call G_run (hr.mono (by omega)) (by rfl) m_run F_run.kp b_run .nil pass0 (pa_cons (pv 15) (pa_cons (pv 14) pa_nil))) pe_int (fun _ _ => rfl)) pa_nil)))) pa_nil)))
      (pss_one (ps_if (pt_cmpR op_ne (pe_callB (call_reprG hgd hu) (by rfl) z_repr boot_repr (pa_cons (pe_lstB (pa_cons (pe_call G_psigns_at (hr.mono (by omega)) (by rfl) m_psigns_at F_psigns_at.kp b_psigns_at .nil pass0 (pa_cons (pv 4) (pa_cons (pv 14) pa_nil))) (pa_cons (pe_call G_psigns_at (hr.mono (by omega)) (by rfl) m_psigns_at F_psigns_at.kp b_psigns_at .nil pass0 (pa_cons (pv 4) (pa_cons (pv 14) pa_nil))) pa_nil))) pa_nil)) (pe_callB (call_reprG hgd hu) (by rfl) z_repr boot_repr (pa_cons (pe_lstB (pa_cons (pv 12) (pa_cons (pv 12) pa_nil))) pa_nil)) (nomark _)) (pss_one (ps_ret pe_bl)) pss_nil))))))))))))))
      (pss_one (ps_ret (pe_cmpR op_eq (pe_callB (call_reprG hgd hu) (by rfl) z_repr boot_repr (pa_cons (pe_call G_psigns_at (hr.mono (by omega)) (by rfl) m_psigns_at F_psigns_at.kp b_psigns_at .nil pass0 (pa_cons (pe_tup (pa_cons (pe_tup pa_nil) (pa_cons (pe_tup (pa_cons (pe_tup (pa_cons pe_str (pa_cons pe_str pa_nil))) pa_nil)) pa_nil))) (pa_cons (pe_un un_neg (pe_op op_pow pe_int pe_int)) pa_nil))) pa_nil)) pe_str (nomark _)))))), ?_⟩
    refine ⟨_, rfl, a, ns, rfl, hS, hlen, fun H1 D c cs s1 _ _ DK => ?_⟩
    have hT1 := Tabs.sx hT s1
    refine ⟨fun _ H' => LamX.Tabs (TL Pw Pt) H', ?_, ?_⟩
    · refine ⟨4, rfl, by decide, by decide, for_range (n := 4) (fun i σ' H' => (∃ o2 o3 o4 o5 o6 o7 o8 o9 o10 o11 o12 o13 o14, σ' = [some (.ref a), some (.ref D), o2, o3, o4, o5, o6, o7, o8, o9, o10, o11, o12, o13, o14, none]) ∧ LamX.Tabs (TL Pw Pt) H' ∧ ∃ cs k, Dk H' D c cs k ∧ k ≤ (i : Int) * 8000000)
        ⟨⟨_, _, _, _, _, _, _, _, _, _, _, _, _, rfl⟩, hT1, _, _, DK, by omega⟩ (fun i σ' H1 hi h => ?_) (fun σ' H' h => h.2.1)⟩
      obtain ⟨⟨o2, o3, o4, o5, o6, o7, o8, o9, o10, o11, o12, o13, o14, rfl⟩, hT1, cs1, k1, DK1, hk1⟩ := h
      refine gnm ?_
      refine ⟨_, rfl, D, c, cs1, k1, rfl, DK1, by omega, fun H2 cs2 k2 nm nms s2 DK2 k2a k2b _ pa pc NM => ?_⟩
      have hT2 := tabs_deck DK1 hT1 s2
      refine ⟨_, rfl, _, rfl, D, c, cs2, k2, nm, nms, rfl, DK2, NM, pa, pc, by omega, fun H3 cs3 k3 vF bs s3 DK3 k3a k3b tF hbs b1 b5 => ?_⟩
      have hT3 := tabs_deck DK2 hT2 s3
      have NM3 := NM.keep s3 (by simp [pa, pc])
      refine ⟨_, rfl, _, rfl, D, c, cs3, k3, nm, nms, rfl, DK3, NM3, pa, pc, by omega, fun H4 cs4 k4 vO bo s4 DK4 k4a k4b tO hbo _ o5' => ⟨_, _, rfl, ?_⟩⟩
      have hT4 := tabs_deck DK3 hT3 s4
      have kp4 := (NOk.of DK3).kp DK3 s4
      have shF := fam_sh NM.ok hbs
      have shO := fam_sh NM.ok hbo
      have plF := fam_plain bs
      have gl : GLv [D, c] H4 [(vF, .tuple (bs.map bkD)), (vO, .tuple (bo.map bkD))] := .cons ((tF.gd).keep kp4) (.cons tO.gd (fun p hp => by cases hp))
      have fl : (bs.map bkD).length = bs.length := List.length_map _
      have ol : (bo.map bkD).length = bo.length := List.length_map _
      clear tF tO
      generalize hfd : bs.map bkD = fds at gl shF plF fl
      generalize hod : bo.map bkD = ods at gl shO ol
      -- at, bad
      obtain ⟨aF, xsF, rfl, haF, hxF⟩ := (gl.at 0 rfl).tuple
      have hlF := hxF.len
      refine ⟨_, rfl, _, rfl, aF, xsF, rfl, .inr (SqT.of haF), D, c, cs4, k4, _, rfl, DK4, by omega, by omega, by omega, fun H5 cs5 r s5 DK5 r0 r1 => ?_⟩
      obtain ⟨j, rfl⟩ := Int.eq_ofNat_of_zero_le r0
      have hT5 := tabs_deck DK4 hT4 s5
      replace gl := gl.keep ((NOk.of DK4).kp DK4 s5)
      have jl : j < fds.length := by omega
      have el : ∀ {Hh : Hp}, GLv [D, c] Hh [(V.ref aF, .tuple fds), (vO, .tuple ods)] → ∃ xs, Hh aF = some (.tup xs) ∧ GdAll [D, c] Hh xs fds := fun gl => by
        obtain ⟨a', xs, e, h1, h2⟩ := (gl.at 0 rfl).tuple
        cases e
        exact ⟨xs, h1, h2⟩
      have item : ∀ {Hh : Hp} {xs : List V} (i : Nat), GdAll [D, c] Hh xs fds → i < fds.length → ∃ x es, xs[i]? = some x ∧ Gd [D, c] Hh x (.tuple es) ∧ ShGA 15 7200 es ∧ es.length ≤ 1000 := fun {Hh xs} i h hi => by
        have hl := h.len
        have hx : xs[i]? = some xs[i] := List.getElem?_eq_getElem (by omega)
        obtain ⟨d, hd, g⟩ := h.get hx
        rw [← hfd, List.getElem?_map] at hd
        obtain ⟨b, hb, rfl⟩ := Option.map_eq_some_iff.mp hd
        have hI := hbs b (List.mem_of_getElem? hb)
        have hz := hI.sz
        have bl := bk_le b
        exact ⟨_, b.ds, hx, g, (Bk.shg NM.ok b 4 hI.ok).mono (by decide) (by omega), by rw [← b.ds_len]; omega⟩
      obtain ⟨xs5, hF5, hx5⟩ := el gl
      obtain ⟨x0, es0, hx0, g0, sh0, l0⟩ := item 0 hx5 (by omega)
      refine ⟨_, rfl, _, rfl, aF, xs5, _, x0, rfl, rfl, SqT.of hF5, atI_nat (j := 0) hx0, [D, c], D, c, cs5, _, x0, es0, rfl, DK5, NOk.of DK5, g0, sh0, l0, by omega, fun H6 cs6 k6 vB dB s6 DK6 k6a k6b gB shB => ⟨_, _, rfl, ?_⟩⟩
      have hT6 := tabs_deck DK5 hT5 s6
      replace gl := gl.keep ((NOk.of DK5).kp DK5 s6)
      replace gl := GLv.cons gB gl
      clear g0 gB
      have wF : PyData.weightAll fds ≤ 36005 := by
        have := shF.w
        omega
      have wO : PyData.weightAll ods ≤ 36005 := by
        have := shO.w
        omega
      have mF : ∀ d ∈ fds, ShG 20 d.weight d := fun d hd => (shF.mem hd).mono (by decide) (Nat.le_refl _)
      have mO : ∀ d ∈ ods, ShG 20 d.weight d := fun d hd => (shO.mem hd).mono (by decide) (Nat.le_refl _)
      have wB := shB.w
      have mB : ShG 20 dB.weight dB := ⟨shB.s, shB.l, shB.dp, Nat.le_refl _⟩
      obtain ⟨dj, hdj⟩ : ∃ dj, fds[j]? = some dj := ⟨_, List.getElem?_eq_getElem jl⟩
      have wj := wA_at hdj
      -- bent
      refine ⟨_, rfl, _, rfl, j, rfl, sl_gd (i := 0) (j := j) (gl.at 1 rfl) (fun ys hy => cut_to (by omega)) (fun H7 z7 s7 g7 => ⟨_, rfl, by show 1 ≤ sizeLine; decide, fun p7 hp7 => ?_⟩)⟩
      have sp7 := Sx.n0 (o := .tup [vB]) hp7
      have gp7 : Gd [D, c] (upd H7 p7 (.tup [vB])) (.ref p7) (.tuple [dB]) := .tup upd_same (.cons (((gl.at 0 rfl).keep s7.kp0).new hp7) .nil)
      refine cat_gd (g7.keep sp7.kp0) gp7 (by simp only [List.length_take, List.length_drop, List.length_cons, List.length_nil]; omega) (fun H8 z8 s8 g8 => ?_)
      have s68 := (s7.trans sp7).trans s8
      refine ⟨_, rfl, _, rfl, j, 1, rfl, rfl, _, rfl, gNoP (sl_gd (i := j + 1) (j := fds.length - (j + 1)) ((gl.at 1 rfl).keep s68.kp0) (fun ys hy => cut_from1 (by omega) hy) (fun H9 z9 s9 g9 => ?_))⟩
      refine cat_gd (g8.keep s9.kp0) g9 (by simp only [List.length_take, List.length_drop, List.length_append, List.length_cons, List.length_nil]; omega) (fun H10 vE s10 gE => ?_)
      rw [List.drop_zero, drop_all] at gE
      have s610 := (s68.trans s9).trans s10
      replace gl := gl.keep (s610.kp0 (N := [D, c]))
      have DK10 := DK6.same s610
      have hT10 := Tabs.sx hT6 s610
      clear g7 gp7 g8 g9
      have eBl : (fds.take j ++ [dB] ++ fds.drop (j + 1)).length = fds.length := by simp only [List.length_append, List.length_take, List.length_drop, List.length_cons, List.length_nil]; omega
      have wE : PyData.weightAll (fds.take j ++ [dB] ++ fds.drop (j + 1)) ≤ 44100 := by rw [wA_append, wA_append, wA_cons, wA_nil]; omega
      have mE : ∀ d ∈ fds.take j ++ [dB] ++ fds.drop (j + 1), ShG 20 d.weight d := fun d hd => by
        rcases List.mem_append.1 hd with h | h
        · rcases List.mem_append.1 h with h | h
          · exact mF d (List.mem_of_mem_take h)
          · rw [List.mem_singleton.mp h]; exact mB
        · exact mF d (List.mem_of_mem_drop h)
      generalize (fds.take j ++ [dB] ++ fds.drop (j + 1)) = eds at gE eBl wE mE
      replace gl := GLv.cons gE gl
      clear gE
      refine gnm ?_
      -- the first values
      obtain ⟨n1, hn1⟩ : ∃ n1, fds.length = n1 + 1 := ⟨fds.length - 1, by omega⟩
      refine ⟨_, rfl, _, rfl, _, rfl, 1, rfl, _, rfl, sl_gd (i := 0) (j := n1) (gl.at 0 rfl) (fun ys hy => cut_last (by omega)) (fun H11 z11 s11 g11 => ?_)⟩
      replace gl := gl.keep (s11.kp0 (N := [D, c]))
      rw [List.drop_zero] at g11
      have wE1 := wA_split n1 eds
      have mE1 : ∀ d ∈ eds.take n1, ShG 20 d.weight d := fun d hd => mE d (List.mem_of_mem_take hd)
      have lE1 : (eds.take n1).length ≤ 5 := by rw [List.length_take]; omega
      have DK11 := DK10.same s11
      have hT11 := Tabs.sx hT10 s11
      generalize eds.take n1 = eds1 at g11 wE1 mE1 lE1
      replace gl := GLv.cons g11 gl
      clear g11
      have el2 : ∀ {Hh : Hp} {l : List (V × PyData)} (i : Nat), GLv [D, c] Hh l → l[i]? = some (V.ref aF, .tuple fds) → ∃ xs, Hh aF = some (.tup xs) ∧ GdAll [D, c] Hh xs fds := fun i gl e => by
        obtain ⟨a', xs, e, h1, h2⟩ := (gl.at i e).tuple
        cases e
        exact ⟨xs, h1, h2⟩
      obtain ⟨xs11, hF11, hx11⟩ := el2 3 gl rfl
      obtain ⟨xn, esn, hxn, gn, shn, ln⟩ := item n1 hx11 (by omega)
      have hl11 := hx11.len
      refine ⟨_, rfl, _, rfl, 1, rfl, aF, xs11, _, xn, rfl, rfl, SqT.of hF11, at_last (by omega) hxn, [D, c], D, c, cs6, k6, xn, esn, rfl, DK11, NOk.of DK11, gn, shn, ln, by omega, fun H12 cs12 k12 vW dW s12 DK12 k12a k12b gW shW => ⟨by show 1 ≤ sizeLine; decide, fun p12 hp12 => ?_⟩⟩
      have hT12 := tabs_deck DK11 hT11 s12
      replace gl := gl.keep ((NOk.of DK11).kp DK11 s12)
      have wW := shW.w
      have mW : ShG 20 dW.weight dW := ⟨shW.s, shW.l, shW.dp, Nat.le_refl _⟩
      have sp12 := Sx.n0 (o := .tup [vW]) hp12
      refine cat_gd ((gl.at 0 rfl).keep sp12.kp0) (ds := eds1) (es := [dW]) (.tup upd_same (.cons (gW.new hp12) .nil)) (by simp only [List.length_cons, List.length_nil]; omega) (fun H13 v3 s13 g3 => ?_)
      have s1213 := sp12.trans s13
      replace gl := GLv.cons g3 (gl.keep (s1213.kp0 (N := [D, c])))
      have DK13 := DK12.same s1213
      have hT13 := Tabs.sx hT12 s1213
      clear g3 gW gn
      -- list(family), (bad,), bad, ()
      obtain ⟨xs13, hF13, hx13⟩ := el2 4 gl rfl
      refine ⟨_, rfl, aF, xs13, rfl, .inr (SqT.of hF13), fun l14 hl14 l141 => ?_⟩
      have s14 := Sx.n0 (o := .lst xs13) hl14
      have g14 : Gd [D, c] (upd H13 l14 (.lst xs13)) (.ref l14) (.list fds) := .lst upd_same (notin_new (NOk.of DK13).nn (Sx.refl _) hl14) l141 (hx13.new hl14)
      replace gl := GLv.cons g14 (gl.keep (s14.kp0 (N := [D, c])))
      refine ⟨_, rfl, by show 1 ≤ sizeLine; decide, fun p15 hp15 => ⟨_, rfl, by show 0 ≤ sizeLine; decide, fun p16 hp16 => ⟨by show 7 ≤ sizeLine; decide, fun L hL => ?_⟩⟩⟩
      have s15 := Sx.n0 (o := .tup [vB]) hp15
      have s16 := Sx.n0 (o := .tup []) hp16
      have sL := Sx.n0 (o := .lst [.ref aF, vE, v3, .ref l14, .ref p15, vB, .ref p16]) hL
      replace gl := GLv.cons (.tup upd_same .nil : Gd [D, c] _ (.ref p16) (.tuple [])) ((GLv.cons (.tup upd_same (.cons ((gl.at 4 rfl).new hp15) .nil) : Gd [D, c] _ (.ref p15) (.tuple [dB])) (gl.keep (s15.kp0 (N := [D, c])))).keep (s16.kp0 (N := [D, c])))
      replace gl := gl.keep (sL.kp0 (N := [D, c]))
      have DKL := DK13.same (((s14.trans s15).trans s16).trans sL)
      have hTL := Tabs.sx hT13 (((s14.trans s15).trans s16).trans sL)
      have LD : L ∉ [D, c] := fun hm => by
        obtain ⟨ys, e⟩ := (DK13.same ((s14.trans s15).trans s16)).lst L hm
        rw [hL] at e
        cases e
      have eL : (upd (upd (upd (upd H13 l14 (.lst xs13)) p15 (.tup [vB])) p16 (.tup [])) L (.lst [.ref aF, vE, v3, .ref l14, .ref p15, vB, .ref p16])) L = some (.lst [.ref aF, vE, v3, .ref l14, .ref p15, vB, .ref p16]) := upd_same
      clear hx13 hF13 hx11 hF11 hx5 hF5 hxF haF hx0 hxn g14 s14 s15 s16 sL
      generalize upd (upd (upd (upd H13 l14 (.lst xs13)) p15 (.tup [vB])) p16 (.tup [])) L (.lst [.ref aF, vE, v3, .ref l14, .ref p15, vB, .ref p16]) = HL at gl DKL hTL eL ⊢
      have shFt : ShG 60 80000 (.tuple fds) := (ShG.tup (ShGA.mk' mF)).mono (by decide) (by omega)
      have hW3 : ShGA 20 80000 (eds1 ++ [dW]) := ((ShGA.mk' mE1).append (ShGA.cons mW (.nil 20 0))).mono (Nat.le_refl _) (by omega)
      have ge7 : GE [D, c] HL 60 80000 [.ref aF, vE, v3, .ref l14, .ref p15, vB, .ref p16] :=
        .cons (gl.at 7 rfl) shFt (.cons (gl.at 5 rfl) ((ShG.tup (ShGA.mk' mE)).mono (by decide) (by omega)) (.cons (gl.at 3 rfl) ((ShG.tup hW3).mono (by decide) (by omega)) (.cons (gl.at 2 rfl) ((ShG.lst (ShGA.mk' mF)).mono (by decide) (by omega))
          (.cons (gl.at 1 rfl) ((ShG.tup (ShGA.cons mB (.nil 20 0))).mono (by decide) (by omega)) (.cons (gl.at 6 rfl) (mB.mono (by decide) (by omega)) (.cons (gl.at 0 rfl) ((ShG.tup (.nil 20 0)).mono (by decide) (by omega)) .nil))))))
      have gF := gl.at 7 rfl
      have gO := gl.at 8 rfl
      have gB := gl.at 6 rfl
      refine gnm ?_
      dsimp only
      refine gSeqAsg ?_
      refine ⟨_, rfl, ?_⟩
      refine gLst (gCons ⟨by show 0 ≤ sizeLine; decide, fun q1 hq1 => ⟨by show 1 ≤ sizeLine; decide, fun q2 hq2 => ?_⟩⟩)
      have sq1 := Sx.n0 (o := .tup []) hq1
      have sq2 := Sx.n0 (o := .tup [.ref q1]) hq2
      have gq1 : Gd [D, c] (upd (upd HL q1 (.tup [])) q2 (.tup [.ref q1])) (.ref q1) (.tuple []) := (Gd.tup upd_same .nil).new hq2
      refine ⟨_, rfl, D, c, cs12, k12, 3, rfl, DKL.same (sq1.trans sq2), by decide, by decide, by omega, fun H17 cs17 r17 s17 DK17 r170 r171 => ⟨5, r17, rfl, rfl, q2, 5 + r17, [.ref q1], rfl, rfl, SqT.of (s17 _ _ (((DKL.same sq1).nw hq2).elim fun a b => by simp [a, b]) upd_same), by simp, by omega, by omega, by show 1 ≤ 1000; decide, fun p17 hp17 => ?_⟩⟩
      have sp17 := Sx.n0 (o := .tup (List.replicate (5 + r17).toNat [V.ref q1]).flatten) hp17
      have kL17 : Kp [D, c] HL (upd H17 p17 (.tup (List.replicate (5 + r17).toNat [V.ref q1]).flatten)) := ((sq1.trans sq2).kp0.trans ((NOk.of (DKL.same (sq1.trans sq2))).kp (DKL.same (sq1.trans sq2)) s17)).trans sp17.kp0
      have g17 : Gd [D, c] (upd H17 p17 (.tup (List.replicate (5 + r17).toNat [V.ref q1]).flatten)) (.ref p17) (.tuple (List.replicate (5 + r17).toNat (.tuple []))) := .tup upd_same ((rep_gd (gq1.keep ((NOk.of (DKL.same (sq1.trans sq2))).kp (DKL.same (sq1.trans sq2)) s17)) _).new hp17)
      have sh17 : ShG 60 80000 (.tuple (List.replicate (5 + r17).toNat (.tuple []))) := (ShG.tup (rep_sh (k := 20) (e := 0) ((ShG.tup (.nil 19 0)).mono (by decide) (by omega)) _)).mono (by decide) (by omega)
      have hT17 := Tabs.sx (tabs_deck (DKL.same (sq1.trans sq2)) (Tabs.sx hTL (sq1.trans sq2)) s17) sp17
      have eL17 := ((sq1.trans sq2).nil.trans (s17.trans sp17.nil)) _ _ LD eL
      replace DK17 := DK17.same sp17
      replace ge7 := ge7.keep kL17
      replace gF := gF.keep kL17
      replace gO := gO.keep kL17
      replace gB := gB.keep kL17
      clear gl eL sp17 kL17 gq1
      generalize upd H17 p17 (.tup (List.replicate (5 + r17).toNat [V.ref q1]).flatten) = HM at ge7 gF gO gB g17 hT17 eL17 DK17 ⊢
      have hN17 : ∀ b ∈ [D, c], HM b ≠ none := (NOk.of DK17).nn
      refine mk5 hN17 rfl rfl gF gB mF mB wF (by omega) (by omega) HM _ (Sx.refl _) fun H18 vs18 s18 ge18 hl18 => ⟨by show vs18.length + 1 ≤ 16777216; omega, fun p18 hp18 => ?_⟩
      have sp18 := Sx.n0 (o := .lst (.ref p17 :: vs18)) hp18
      have s1718 := s18.trans sp18
      refine ⟨L, p18, _, _, rfl, rfl, s1718 _ _ (by simp) eL17, upd_same, le_line (by simp only [List.length_cons, List.length_nil]; omega), fun p19 hp19 => ?_⟩
      have sp19 := Sx.n0 (o := .lst ([.ref aF, vE, v3, .ref l14, .ref p15, vB, .ref p16] ++ .ref p17 :: vs18)) hp19
      have sA := s1718.trans sp19
      have ge13 := (ge7.keep (sA.kp0)).append (.cons (g17.keep sA.kp0) sh17 (ge18.keep (sp18.trans sp19).kp0))
      have al : ([V.ref aF, vE, v3, .ref l14, .ref p15, vB, .ref p16] ++ .ref p17 :: vs18).length = 13 := by simp only [List.length_append, List.length_cons, List.length_nil]; omega
      replace gF := gF.keep (sA.kp0 (N := [D, c]))
      replace gO := gO.keep (sA.kp0 (N := [D, c]))
      have DK19 := DK17.same sA
      have hT19 := Tabs.sx hT17 sA
      have e19 : (upd (upd H18 p18 (.lst (.ref p17 :: vs18))) p19 (.lst ([.ref aF, vE, v3, .ref l14, .ref p15, vB, .ref p16] ++ .ref p17 :: vs18))) p19 = some (.lst ([.ref aF, vE, v3, .ref l14, .ref p15, vB, .ref p16] ++ .ref p17 :: vs18)) := upd_same
      have n19 : p19 ∉ [D, c] := fun hm => by
        obtain ⟨ys, e⟩ := (DK17.same s1718).lst p19 hm
        rw [hp19] at e
        cases e
      clear ge7 ge18 g17 gB sA sp19 sp18 s1718 hp19 eL17
      generalize ([V.ref aF, vE, v3, .ref l14, .ref p15, vB, .ref p16] ++ .ref p17 :: vs18) = all at ge13 al e19 gF gO DK19 hT19 ⊢
      generalize upd (upd H18 p18 (.lst (.ref p17 :: vs18))) p19 (.lst all) = HP at ge13 e19 gF gO DK19 hT19 ⊢
      refine gnm ?_
      refine ⟨fun σ' H' => ∃ u10 u11 u12, σ' = [some (.ref a), some (.ref D), some (.int (0 + (i : Int))), some (.ref nm), some (.ref aF), some vO, some (.int (j : Int)), some vB, some vE, some (.ref p19), u10, u11, u12, o13, o14, none] ∧ LamX.Tabs (TL Pw Pt) H' ∧ Gd [D, c] H' (.ref aF) (.tuple fds) ∧ ∃ cs k, Dk H' D c cs k ∧ k ≤ k12 + 2, ?_, ?_⟩
      · refine ⟨_, rfl, _, rfl, _, rfl, cat_gd gF gO (by omega) (fun H20 z20 s20 g20 => gNoP ?_)⟩
        have DK20 := DK19.same s20
        refine ⟨_, rfl, D, c, cs17, _, 4, rfl, DK20, by decide, by decide, by omega, fun H21 cs21 r21 s21 DK21 r210 r211 => ?_⟩
        obtain ⟨m, rfl⟩ := Int.eq_ofNat_of_zero_le r210
        have k1921 := (s20.kp0 (N := [D, c])).trans ((NOk.of DK20).kp DK20 s21)
        refine ⟨4, (m : Int), rfl, rfl, _, rfl, sl_gd (i := 0) (j := 4 + m) (g20.keep ((NOk.of DK20).kp DK20 s21)) (fun ys hy => by rw [show (4 : Int) + (m : Int) = ((4 + m : Nat) : Int) by omega]; exact cut_any) (fun H22 z22 s22 g22 => ⟨by show 1 ≤ sizeLine; decide, fun p23 hp23 => ?_⟩)⟩
        have sp23 := Sx.n0 (o := .lst [z22]) hp23
        have s2123 := s22.trans sp23
        refine ⟨p19, p23, _, _, rfl, rfl, (s20.nil.trans (s21.trans s2123.nil)) _ _ n19 e19, upd_same, le_line (by rw [al]; show 13 + 1 ≤ 16777216; decide), fun p24 hp24 => ?_⟩
        have sp24 := Sx.n0 (o := .lst (all ++ [z22])) hp24
        rw [List.drop_zero] at g22
        have wS := wA_split (4 + m) (fds ++ ods)
        have wFO := wA_append fds ods
        have sh22 : ShG 60 80000 (.tuple ((fds ++ ods).take (4 + m))) := (ShG.tup (ShGA.mk' fun d hd => (List.mem_append.1 (List.mem_of_mem_take hd)).elim (mF d) (mO d))).mono (by decide) (by omega)
        have geA := (ge13.keep (k1921.trans (s2123.trans sp24).kp0)).append (.cons (g22.keep (sp23.trans sp24).kp0) sh22 .nil)
        have gFA := gF.keep (k1921.trans (s2123.trans sp24).kp0)
        have DKA := DK21.same (s2123.trans sp24)
        have hTA := Tabs.sx (tabs_deck DK20 (Tabs.sx hT19 s20) s21) (s2123.trans sp24)
        have eA : (upd (upd H22 p23 (.lst [z22])) p24 (.lst (all ++ [z22]))) p24 = some (.lst (all ++ [z22])) := upd_same
        generalize (all ++ [z22]) = all2 at geA gFA DKA hTA eA ⊢
        generalize upd (upd H22 p23 (.lst [z22])) p24 (.lst all2) = HQ at geA gFA DKA hTA eA ⊢
        have lne : p24 ∉ [Pw, Pt] := fun hm => by
          obtain ⟨ps, hP⟩ := tab_at hTA p24 hm
          rw [eA] at hP; cases hP
        refine ⟨p24, rfl, ⟨_, SqL.of eA⟩, for_list (xs := all2) (fun q σ' H' => ∃ u10 u11 u12, σ' = [some (.ref a), some (.ref D), some (.int (0 + (i : Int))), some (.ref nm), some (.ref aF), some vO, some (.int (j : Int)), some vB, some vE, some (.ref p19), u10, u11, u12, o13, o14, none] ∧ Sx [Pw, Pt] HQ H' ∧ LamX.Tabs (TL Pw Pt) H')
          ⟨_, _, _, rfl, Sx.refl _, hTA⟩ (fun q σ' H' _ h => by obtain ⟨_, _, _, _, h, _⟩ := h; exact SqL.of (h _ _ lne eA)) (fun q x σ' H' hx h => ?_) (fun σ' H' h => ?_)⟩
        · obtain ⟨u10, u11, u12, rfl, sB, hTB⟩ := h
          obtain ⟨d, g, sh⟩ := (geA.keep (tabs_kp hTA sB)).mem (List.mem_of_getElem? hx)
          have hdw := sh.w
          have shE := famD_sh hdw
          refine gnm ?_
          refine ⟨_, rfl, [D, c], _, _, rfl, g, sh, ?_⟩
          refine ⟨_, rfl, [D, c], x, d, rfl, g, by omega, fun Hc rc sC tC => ⟨[], _, _, rfl, tC.gd, shE, _, _, rfl, ?_⟩⟩
          have gC := g.keep sC.kp0
          have hTC := Tabs.sx hTB sC
          refine ⟨_, rfl, [D, c], x, d, rfl, gC, by omega, hTC, fun Hd rd sD hTD tD => ⟨[], _, _, rfl, tD.gd, shE, _, rfl, rfl, _, rfl, iteNS rfl ?_⟩⟩
          have gD := gC.keep (tabs_kp hTC sD)
          refine ⟨_, rfl, [D, c], _, _, rfl, gD, sh, _, rfl, rfl, _, rfl, iteNS rfl ?_⟩
          exact ⟨_, _, _, rfl, (sB.trans (sC.mono (by simp))).trans sD, hTD⟩
        · obtain ⟨u10, u11, u12, rfl, sB, hTB⟩ := h
          exact ⟨_, _, _, rfl, hTB, gFA.keep (tabs_kp hTA sB), _, _, deck_tabs DKA hTA sB, by omega⟩
      · rintro _ H' ⟨u10, u11, u12, rfl, hTB, gb, cs9, k9, DK9, k9b⟩
        refine ⟨5, rfl, by decide, by decide, for_range (n := 5) (fun q σ' H' => (∃ u10 u11 u12 u13 u14, σ' = [some (.ref a), some (.ref D), some (.int (0 + (i : Int))), some (.ref nm), some (.ref aF), some vO, some (.int (j : Int)), some vB, some vE, some (.ref p19), u10, u11, u12, u13, u14, none]) ∧ LamX.Tabs (TL Pw Pt) H' ∧ Gd [D, c] H' (.ref aF) (.tuple fds) ∧ ∃ cs k, Dk H' D c cs k ∧ k ≤ k9 + 4 * (q : Int))
          ⟨⟨_, _, _, _, _, rfl⟩, hTB, gb, _, _, DK9, by omega⟩ (fun q σ' H' hq h => ?_) (fun σ' H' h => ?_)⟩
        · obtain ⟨⟨v10, v11, v12, v13, v14, rfl⟩, hTC, gC, csC, kC, DKC, hkC⟩ := h
          refine gnm ?_
          refine ⟨_, rfl, D, c, csC, kC, rfl, DKC, by omega, fun HD csD kD xx sD DKD kDa kDb x1 x2 => ?_⟩
          have hTD := tabs_deck DKC hTC sD
          have gD := gC.keep ((NOk.of DKC).kp DKC sD)
          have tD := gD.tp plF
          rw [← hfd] at tD
          have hbE : ∀ b ∈ bs, ∃ ns, InB ns b := fun b hb => ⟨_, hbs b hb⟩
          obtain ⟨a', xsD, e, haD, hxD⟩ := tD.tuple
          cases e
          have hlD := hxD.len
          rw [List.length_map] at hlD
          refine ⟨_, rfl, aF, rfl, ⟨_, SqT.of haD⟩, fun Z hZ => lc_tup (xs := xsD) (fun m H' => Sx [] HD H' ∧ ∃ vals, H' Z = some (.lst vals) ∧ TpAll H' vals ((bs.take m).map (sgB xx))) ⟨Sx.n0 hZ, [], upd_same, .nil⟩ (fun m H' _ p => SqT.of (p.1 _ _ (by simp) haD)) (fun m y H' hy p => ?_) (fun H' p => ?_)⟩
          · obtain ⟨s1, vals, eZ, tv⟩ := p
            obtain ⟨d, hd, td⟩ := hxD.get hy
            rw [List.getElem?_map] at hd
            obtain ⟨b, hb2, rfl⟩ := Option.map_eq_some_iff.mp hd
            have I := hbs b (List.mem_of_getElem? hb2)
            have h1 := I.sz
            have h2 := I.wt
            have tl := tv.len
            rw [List.length_map, List.length_take] at tl
            refine ⟨rfl, _, rfl, _, rfl, _, y, b, xx, rfl, td.keep s1.tk0, I.ok, by omega, by omega, fun H3 r3 s3 tr3 => ?_⟩
            obtain ⟨a3, xs3, rfl, ha3, hx3⟩ := (show Tp H3 r3 (.tuple _) from tr3).tuple
            cases hx3 with
            | cons t0 h0 =>
            cases t0
            refine ⟨a3, _, 0, _, rfl, rfl, SqT.of ha3, atI_nat (j := 0) rfl, _, rfl, ?_⟩
            have eZ3 := s3 _ _ (by simp) eZ
            refine ⟨vals, eZ3, lt_line (by omega), (s1.trans s3).own hZ, _, upd_same, ?_⟩
            rw [List.take_add_one, hb2, List.map_append]
            exact ((tv.keep s3.tk0).keep (Tk.lst eZ3)).append (.cons (.int _) .nil)
          · obtain ⟨s1, vals, eZ, tv⟩ := p
            rw [hlD, List.take_length] at tv
            refine ⟨Z, _, rfl, .inl ⟨SqL.of eZ, fun t ht => ?_⟩⟩
            have sE : Sx [] HD (upd H' t (.tup vals)) := s1.new ht
            have tE : Tp (upd H' t (.tup vals)) (.ref t) (.tuple (bs.map (sgB xx))) := .tup upd_same (tv.new ht)
            have sgs : ShG 51 45 (.tuple (bs.map (sgB xx))) := (ShG.tup (sg_sh xx bs)).mono (by decide) (by omega)
            refine gnm ?_
            refine ⟨_, rfl, _, rfl, .ref aF, bs, xx, rfl, tD.keep sE.tk0, hbE, by omega, fun HF r1 sF t1 => ?_⟩
            refine ⟨_, rfl, _, rfl, .ref aF, bs, xx, rfl, (tD.keep sE.tk0).keep sF.tk0, hbE, by omega, fun HG r2 sG t2 => ⟨by show 2 ≤ sizeLine; decide, fun l1 hl1 l11 => ?_⟩⟩
            refine ⟨[], _, _, rfl, .lst upd_same (by simp) l11 (.cons (((t1.keep sG.tk0).new hl1).gd) (.cons ((t2.new hl1).gd) .nil)), (pair_sh sgs).mono (by decide) (by decide), ?_⟩
            have sL1 := Sx.n0 (o := .lst [r1, r2]) hl1
            have tE2 := tE.keep (((sF.trans sG).trans sL1).tk0)
            refine ⟨_, rfl, _, rfl, by show 2 ≤ sizeLine; decide, fun l2 hl2 l21 => ?_⟩
            refine ⟨[], _, _, rfl, .lst upd_same (by simp) l21 (.cons ((tE2.new hl2).gd) (.cons ((tE2.new hl2).gd) .nil)), (pair_sh sgs).mono (by decide) (by decide), rfl, _, rfl, iteNS rfl ?_⟩
            have sAll : Sx [] HD _ := (((sE.trans sF).trans sG).trans sL1).new (o := .lst [.ref t, .ref t]) hl2
            exact ⟨⟨_, _, _, _, _, rfl⟩, Tabs.sx hTD sAll, gD.keep sAll.kp0, _, _, DKD.same sAll, by omega⟩
        · obtain ⟨⟨v10, v11, v12, v13, v14, rfl⟩, hTC, gC, csC, kC, DKC, hkC⟩ := h
          exact ⟨⟨_, _, _, _, _, _, _, _, _, _, _, _, _, rfl⟩, hTC, _, _, DKC, by omega⟩
    · intro σ' H' hT'
      refine gRet ?_
      refine ⟨by show 0 ≤ sizeLine; decide, fun p1 h1 => ⟨by show 2 ≤ sizeLine; decide, fun p2 h2 => ⟨by show 1 ≤ sizeLine; decide, fun p3 h3 => ⟨by show 2 ≤ sizeLine; decide, fun p4 h4 => ?_⟩⟩⟩⟩
      have s1 := Sx.n0 (o := .tup []) h1
      have tp4 : Tp (upd (upd (upd (upd H' p1 (.tup [])) p2 (.tup [.str "pay", .str "n"])) p3 (.tup [.ref p2])) p4 (.tup [.ref p1, .ref p3])) (.ref p4) (.tuple ([Bk.nil, .cons (.pay (.name "n")) .nil].map bkD)) :=
        .tup upd_same (.cons ((((Tp.tup upd_same .nil).new h2).new h3).new h4) (.cons ((Tp.tup upd_same (.cons ((Tp.tup upd_same (.cons (.str _) (.cons (.str _) .nil))).new h3) .nil)).new h4) .nil))
      have hb : ∀ b ∈ [Bk.nil, .cons (.pay (.name "n")) .nil], ∃ ns, InB ns b := fun b hb => by
        simp only [List.not_mem_nil, List.mem_cons, or_false] at hb
        rcases hb with rfl | rfl
        · exact ⟨[], InB.nil _⟩
        · exact ⟨["n"], by simp [Bk.ok, St.ok, Ex.ok], by decide, by decide, by decide, by decide⟩
      have esh : (PyData.tuple ([Bk.nil, .cons (.pay (.name "n")) .nil].map (sgB (-(10 ^ Int.toNat 59))))).shown = "(0, -1)" := by decide +kernel
      refine ⟨10, 59, rfl, rfl, ⟨by decide, by decide, by decide⟩, _, rfl, .ref p4, [.nil, .cons (.pay (.name "n")) .nil], -(10 ^ Int.toNat 59), rfl, tp4, hb, by decide, fun HF r sF tF => ⟨[], _, _, rfl, tF.gd, ((ShG.tup (sg_sh _ _)).mono (by decide) (by decide) : ShG 60 80000 _), ?_⟩⟩
      rw [esh]
      exact ⟨rfl, q _⟩
end
/-! ### the end where code objects are made within defs -/
/-- an empty table of code objects -/
abbrev tabNil : Obj := { cls := .none, data := .fields #[] }
theorem law_callGT {P : Program} {w : World} {K : PySem.W.Frag} {mg mb : Str → Option Value} {k : Nat} {fa a : Addr} {cs : List (Addr × Addr)} {fd : FuncData} {x : Str} {sp : Sp} {s : Shared} {vs : List Value} {ns : List Int}
    (KX : K.In s.heap) (h1 : s.heap.Ns mainGlobals mg) (h2 : s.heap.Ns builtinsNs mb) (h3 : ∀ x : Str, x ≠ "__name__" → mb x = bootBuiltins x) (h4 : s.heap.NoLimit) (h5 : s.gens = #[])
    (tE : ∀ p ∈ cs, s.heap.get? p.2 = some tabNil) (tO : ∀ p ∈ cs, K.lookup p.2 = none) (tC : ∀ p ∈ cs, PySem.W.CodeHd s.heap p.1 p.2)
    (tM : ∃ (bm : Addr) (o : Obj), mg "__builtins__" = some (.ref bm) ∧ bm ≠ builtinsNs ∧ s.heap.get? bm = some o ∧ o.cls = .type "module" ∧ o.dict = some builtinsNs ∧ o.data = .plain)
    (ha : s.heap.get? a = some { cls := .type "list", data := .seq vs.toArray }) (hi : IntsAre vs ns) (hl : ns.length ≤ sizeLine) (hr : Room k callerA)
    (F : ∀ base : Heap, K.In base → base.Ns mainGlobals mg → (∀ p ∈ cs, LamX.TabB base mg p.1 p.2) → FnG P w K mg base k fa fd [x] sp) (hb : ∀ (s : Shared) (u : Value), BindsTo s fd ⟨[u], []⟩ [(x, u)])
    (hsp : ∀ H : Hp, (∀ p ∈ cs, H p.2 = some (.tbl #[])) → SqL K H a (ns.map V.int) → sp [.ref a] H (fun v _ => v = .bl true) E0) :
    codeAny (model P w) callerA (.call (.ref fa) ⟨[.ref a], []⟩) (fun r s' => r = .ok (.ret (.bool true)) ∧ OldK s.heap s'.heap ∧ s'.os = s.os ∧ AllBare s'.gens) s := by
  obtain ⟨H0, hO, hS0, hok0, hA, hK⟩ := script_hp (P := P) (w := w) KX ha hi hl
  obtain ⟨T, eT⟩ : ∃ T : List Addr, T = cs.map Prod.snd := ⟨_, rfl⟩
  have inT : ∀ p ∈ cs, p.2 ∈ T := fun p hp => by rw [eT]; exact List.mem_map_of_mem hp
  have ofT : ∀ b ∈ T, ∃ p ∈ cs, p.2 = b := fun b h => by rw [eT] at h; exact List.mem_map.mp h
  have atT : ∀ b ∈ T, s.heap.get? b = some tabNil := fun b h => by
    obtain ⟨p, hp, e⟩ := ofT b h
    exact e ▸ tE p hp
  have aT : a ∉ T := fun z => by
    have e := (atT a z).symm.trans ha
    have e2 : Data.fields #[] = Data.seq vs.toArray _ := congrArg Obj.data (Option.some.inj e)
    cases e2
  obtain ⟨H, Hin, Hout⟩ : ∃ H : Hp, (∀ b ∈ T, H b = some (.tbl #[])) ∧ ∀ b, b ∉ T → H b = H0 b := ⟨fun b => if b ∈ T then some (.tbl #[]) else H0 b, fun b h => if_pos h, fun b h => if_neg h⟩
  have hS : SqL K H a (ns.map V.int) := hS0.imp (fun z => z.imp (fun z => (Hout a aT).trans z) fun ⟨o, z⟩ => ⟨o, (Hout a aT).trans z⟩) id
  have hok : HOk P w H s.heap := fun b u z => by
    by_cases h : b ∈ T
    · have e := (Hin b h).symm.trans z
      cases e
      exact atT b h
    · have z2 := (Hout b h).symm.trans z
      obtain z3 | ⟨ob, xs, z3⟩ := hO b
      · rw [z3] at z2; cases z2
      · have z4 := z3.symm.trans z2
        cases z4
        exact (show ObjOk P w H s.heap b (.frz ob (.lst xs)) from hok0 b _ z3)
  have far : ∀ {b : Addr} {o : Obj}, s.heap.get? b = some o → (∀ us n, o.data ≠ .seq us n) → o.data ≠ .fields #[] → H b = none := fun {b o} e n1 n2 => by
    have hbT : b ∉ T := fun z => by
      have q := (atT b z).symm.trans e
      cases q
      exact n2 rfl
    rw [Hout b hbT]
    cases q : H0 b with
    | none => rfl
    | some u =>
      have z := hA b (by simp [q])
      rw [z] at e
      have q2 := ha.symm.trans e
      cases q2
      exact absurd rfl (n1 _ _)
  have keepB : ∀ {b : Addr} {o : Obj}, s.heap.get? b = some o → H b = none → (hidT s.heap H).get? b = some o := fun e n => hidT_get e n
  have nsB : ∀ {b : Addr} {m : Str → Option Value}, s.heap.Ns b m → (hidT s.heap H).Ns b m := fun {b m} ⟨o, es, ep, e, d, r⟩ => ⟨o, es, ep, keepB e (far e (fun us n z => by rw [d] at z; cases z) fun z => by rw [d] at z; cases z), d, r⟩
  have inB : K.In (hidT s.heap H) := fun b o e => by
    refine keepB (KX b o e) ?_
    by_cases h : b ∈ T
    · obtain ⟨p, hp, rfl⟩ := ofT b h
      rw [tO p hp] at e
      cases e
    · rw [Hout b h]
      cases q : H0 b with
      | none => rfl
      | some u =>
        have z := hA b (by simp [q])
        rw [z] at e q
        rw [hK (by simp [q])] at e
        cases e
  have md : Mod K mg (hidT s.heap H) := ⟨inB, nsB h1, ⟨mb, nsB h2, h3⟩, let ⟨mc, y1, y2⟩ := h4; ⟨mc, nsB y1, y2⟩⟩
  have tabs : ∀ p ∈ cs, LamX.TabB (hidT s.heap H) mg p.1 p.2 := fun p hp => by
    refine ⟨?_, ?_, fun z => ?_⟩
    · rcases tC p hp with ⟨o, us, file, tf, fl, tg, inF, txt, tt, e1, q1, q2, q3, q4⟩
      refine ⟨o, us, file, tf, fl, tg, inF, txt, tt, keepB e1 (far e1 (fun us' n z => by rw [q2] at z; cases z) fun z => ?_), q1, q2, q3, q4⟩
      rw [q2] at z
      cases z
      simp at q3
    · rcases tM with ⟨bm, o, m1, m2, m3, m4, m5, m6⟩
      refine ⟨bm, o, m1, m2, fun z => ?_, fun z => ?_, keepB m3 (far m3 (fun us n z => by rw [m6] at z; cases z) fun z => by rw [m6] at z; cases z), m4, m5, m6⟩
      · rcases h1 with ⟨o1, es, ep, e, d, _⟩
        have q := (z ▸ m3 : s.heap.get? mainGlobals = some o).symm.trans e
        cases q
        rw [m6] at d
        cases d
      · have q := (z ▸ m3 : s.heap.get? p.2 = some o).symm.trans (tE p hp)
        cases q
        cases m6
    · rcases h1 with ⟨o1, es, ep, e, d, _⟩
      have q := (z ▸ tE p hp : s.heap.get? mainGlobals = some tabNil).symm.trans e
      cases q
      cases d
  have e0 : Env0 P w K mg (hidT s.heap H) callerA [] s H := ⟨rfl, md, fun b o e => of_hidT e, Nat.le_of_eq (hidT_size _ _), trivial, (fun b z => absurd (show b ∈ ([] : List Addr) from z) (List.not_mem_nil (a := b))), hok, .of_eq h5⟩
  refine codeAny_mono ((F _ inB (nsB h1) tabs).go callerA [] s H ⟨[.ref a], []⟩ [.ref a] [.ref a] _ hr rfl e0 (hb s (.ref a)) (.cons rfl .nil) (hsp H (fun p hp => Hin _ (inT p hp)) hS)) fun r s' h => ?_
  match r, h with
  | .ok (.ret u), h =>
    rcases h with ⟨v, H', os, bare, un, hok', r', q⟩
    have q' : v = .bl true := q
    subst q'
    have eu : u = Value.bool true := r'
    subst eu
    have old : ∀ b o, b ∉ T → s.heap.get? b = some o → s'.heap.get? b = some o := fun b o hbT e => by
      cases q2 : H b with
      | none => exact un.keep b o e q2 (fun z => absurd (show b ∈ ([] : List Addr) from z) (List.not_mem_nil (a := b))) (by simp)
      | some u =>
        have q3 := (Hout b hbT).symm.trans q2
        obtain z | ⟨ob, xs, z⟩ := hO b
        · rw [z] at q3; cases q3
        · have z' := (Hout b hbT).trans z
          obtain ⟨e1, _⟩ := hok b _ z'
          obtain ⟨e2, _⟩ := hok' b _ (un.frzs b ob _ z')
          have e3 := e.symm.trans e1
          cases e3
          exact e2
    have grow : ∀ p ∈ cs, ∃ us : Array Value, s'.heap.get? p.2 = some { cls := .none, data := .fields us } := fun p hp => by
      obtain ⟨us, z⟩ := un.tbls p.2 #[] (Hin _ (inT p hp))
      exact ⟨_, hok' p.2 _ z⟩
    refine (⟨rfl, ⟨fun b o e => ?_, fun b o e => ?_⟩, os, bare⟩)
    · by_cases h : b ∈ T
      · obtain ⟨p, hp, rfl⟩ := ofT b h
        obtain ⟨us, z⟩ := grow p hp
        have e2 := (tE p hp).symm.trans e
        cases e2
        exact .inr (.inl ⟨((tC p hp).tab (tE p hp)).isCodeTable, rfl, #[], us, rfl, z.trans (by simp)⟩)
      · exact .inl (old b o h e)
    · by_cases h : b ∈ T
      · obtain ⟨p, hp, rfl⟩ := ofT b h
        obtain ⟨us, z⟩ := grow p hp
        exact ⟨_, z⟩
      · exact ⟨o, old b o h e⟩
theorem walk_ofEGT {l : PySem.W.OpenLaw} {n k : Nat} {q : Program} {loose : List Str} {XP : (Str → Option Value) → Heap → Prop} {YP : World → Heap → Prop} {d : DefRec} {x : Str}
    (hn : l.most = some n) (hn2 : n ≤ sizeLine) (hr : Room k callerA) (hdf : d.params.defaults = [])
    (F : ∀ (w : World) (mg : Str → Option Value) (fa : Addr) (h : PySem.Heap), YP w h → h.Ns mainGlobals mg → mg d.name = some (.ref fa) →
      ∃ (K : PySem.W.Frag) (cs : List (Addr × Addr)) (fd : FuncData) (sp : Sp), K.In h ∧ (∀ p ∈ cs, h.get? p.2 = some tabNil) ∧ (∀ p ∈ cs, K.lookup p.2 = none) ∧ (∀ p ∈ cs, PySem.W.CodeHd h p.1 p.2) ∧ (∀ (s : Shared) (u : Value), BindsTo s fd ⟨[u], []⟩ [(x, u)]) ∧
        (∀ (H : Hp) (a : Addr) (ns : List Int), ns.length ≤ n → (∀ p ∈ cs, H p.2 = some (.tbl #[])) → SqL K H a (ns.map V.int) → sp [.ref a] H (fun v _ => v = .bl true) E0) ∧ ∀ base : Heap, K.In base → base.Ns mainGlobals mg → (∀ p ∈ cs, LamX.TabB base mg p.1 p.2) → FnG l.prog w K mg base k fa fd [x] sp) :
    PySem.W.WalkO q loose XP YP l.row.toRowW d [] (fun g us => PySem.call g us) := by
  refine Att.attach_call hn hdf fun w s₀ s₁ mg mb fa o pm cd doc a vs ns G Y _ _ _ hmg hobj hints hlen hg => ?_
  obtain ⟨K, cs, fd, sp, KX, tE, tO, tC, hb, hsp, hF⟩ := F w mg fa _ Y G.T.g hmg
  exact law_callGT KX G.T.g G.T.b G.T.builtins G.T.nolimit hg tE tO tC G.T.bmain hobj hints (Nat.le_trans hlen hn2) hr hF hb fun H hH hS => hsp H a ns hlen hH hS
/-! ### the head, with code objects made within defs -/
theorem Fun.of {K : PySem.W.Frag} {x qual : Str} {st : Stmt} {kws : List (Str × V)} {f : Addr} {fd : FuncData} (F : FunD K x qual (defArgs st) (defBody st) (defScope st) [] kws f fd) : Fun K x qual st f fd := by
  rcases F.ex with ⟨oc, od, dV, kV, doc, pm, an, cdv, ct, osl, rfl, lk, hcd, hD, hK⟩
  obtain ⟨_, rfl⟩ | ⟨e, _⟩ := hD
  · exact ⟨⟨oc, od, kV, doc, pm, an, cdv, ct, osl, rfl, lk, hcd⟩, F.kp⟩
  · exact absurd rfl e
theorem FunC.of {K : PySem.W.Frag} {x qual : Str} {st : Stmt} {kws : List (Str × V)} {p : He.Defn} {fd : FuncData} (F : FunD K x qual (defArgs st) (defBody st) (defScope st) [] kws (He.fAd K p) fd) : FunC K x qual st (He.fAd K p) fd (He.cT K p).1 := by
  rcases F.ex with ⟨oc, od, dV, kV, doc, pm, an, cdv, ct, osl, efd, lk, hcd, hD, hK⟩
  rcases hD with ⟨_, e0⟩ | ⟨e, _⟩
  · obtain ⟨c, ec⟩ := He.codeIn_ref hcd
    subst ec e0 efd
    have e2 : (He.cT K p).1 = c := He.codeOf_eq lk rfl
    exact e2.symm ▸ ⟨⟨oc, od, kV, doc, pm, an, ct, osl, rfl, lk, hcd⟩, F.kp⟩
  · exact absurd rfl e
def dPIsInteger : He.DefD := ⟨("is_integer", none), "is_integer", "is_integer", defArgs sPIsInteger, defBody sPIsInteger, defScope sPIsInteger, [], []⟩
def dPIsBetween : He.DefD := ⟨("is_between", none), "is_between", "is_between", defArgs sPIsBetween, defBody sPIsBetween, defScope sPIsBetween, [], []⟩
def dPIsHeaded : He.DefD := ⟨("is_headed", none), "is_headed", "is_headed", defArgs sPIsHeaded, defBody sPIsHeaded, defScope sPIsHeaded, [], []⟩
def dPIsName : He.DefD := ⟨("is_name", none), "is_name", "is_name", defArgs sPIsName, defBody sPIsName, defScope sPIsName, [], []⟩
def dPIsExpression : He.DefD := ⟨("is_expression", none), "is_expression", "is_expression", defArgs sPIsExpression, defBody sPIsExpression, defScope sPIsExpression, [.int 3], []⟩
def dPIsTest : He.DefD := ⟨("is_test", none), "is_test", "is_test", defArgs sPIsTest, defBody sPIsTest, defScope sPIsTest, [.int 2], []⟩
def dPIsStatement : He.DefD := ⟨("is_statement", none), "is_statement", "is_statement", defArgs sPIsStatement, defBody sPIsStatement, defScope sPIsStatement, [], []⟩
def dPBareTest : He.DefD := ⟨("bare_test", none), "bare_test", "bare_test", defArgs sPBareTest, defBody sPBareTest, defScope sPBareTest, [], []⟩
def dPBlocksOf : He.DefD := ⟨("blocks_of", none), "blocks_of", "blocks_of", defArgs sPBlocksOf, defBody sPBlocksOf, defScope sPBlocksOf, [], []⟩
def dPProgramError : He.DefD := ⟨("program_error", none), "program_error", "program_error", defArgs sPProgramError, defBody sPProgramError, defScope sPProgramError, [], []⟩
def dPBoundError : He.DefD := ⟨("bound_error", none), "bound_error", "bound_error", defArgs sPBoundError, defBody sPBoundError, defScope sPBoundError, [], []⟩
def dPEachStatement : He.DefD := ⟨("each_statement", none), "each_statement", "each_statement", defArgs sPEachStatement, defBody sPEachStatement, defScope sPEachStatement, [], []⟩
def dPPlacesIn : He.DefD := ⟨("places_in", none), "places_in", "places_in", defArgs sPPlacesIn, defBody sPPlacesIn, defScope sPPlacesIn, [], []⟩
def dPWeight : He.DefD := ⟨("weight", none), "weight", "weight", defArgs sPWeight, defBody sPWeight, defScope sPWeight, [], []⟩
def dPTestedIn : He.DefD := ⟨("tested_in", none), "tested_in", "tested_in", defArgs sPTestedIn, defBody sPTestedIn, defScope sPTestedIn, [], []⟩
def dPTestsWith : He.DefD := ⟨("tests_with", none), "tests_with", "tests_with", defArgs sPTestsWith, defBody sPTestsWith, defScope sPTestsWith, [], []⟩
def dPSumOver : He.DefD := ⟨("sum_over", none), "sum_over", "sum_over", defArgs sPSumOver, defBody sPSumOver, defScope sPSumOver, [], []⟩
def dPRun : He.DefD := ⟨("run", none), "run", "run", defArgs sPRun, defBody sPRun, defScope sPRun, [], []⟩
def dPSign : He.DefD := ⟨("sign", none), "sign", "sign", defArgs sPSign, defBody sPSign, defScope sPSign, [], []⟩
def dPNumbered : He.DefD := ⟨("numbered", none), "numbered", "numbered", defArgs sPNumbered, defBody sPNumbered, defScope sPNumbered, [], []⟩
def dPEntered : He.DefD := ⟨("entered", none), "entered", "entered", defArgs sPEntered, defBody sPEntered, defScope sPEntered, [], []⟩
def dPValueOf : He.DefD := ⟨("value_of", none), "value_of", "value_of", defArgs sPValueOf, defBody sPValueOf, defScope sPValueOf, [], []⟩
def dPIsTrue : He.DefD := ⟨("is_true", none), "is_true", "is_true", defArgs sPIsTrue, defBody sPIsTrue, defScope sPIsTrue, [], []⟩
def dPFamilyError : He.DefD := ⟨("family_error", none), "family_error", "family_error", defArgs sPFamilyError, defBody sPFamilyError, defScope sPFamilyError, [], []⟩
def dPSignsAt : He.DefD := ⟨("signs_at", none), "signs_at", "signs_at", defArgs sPSignsAt, defBody sPSignsAt, defScope sPSignsAt, [], []⟩
def dDeck : He.DefD := ⟨("_law_deck", none), "_law_deck", "_law_deck", defArgs sDeck, defBody sDeck, defScope sDeck, [], []⟩
def dDraw : He.DefD := ⟨("_law_draw", none), "_law_draw", "_law_draw", defArgs sDraw, defBody sDraw, defScope sDraw, [], []⟩
def dOne : He.DefD := ⟨("_law_one", none), "_law_one", "_law_one", defArgs sOne, defBody sOne, defScope sOne, [], []⟩
def dNames : He.DefD := ⟨("_law_names", none), "_law_names", "_law_names", defArgs sNames, defBody sNames, defScope sNames, [], []⟩
def dExpression : He.DefD := ⟨("_law_expression", none), "_law_expression", "_law_expression", defArgs sExpression, defBody sExpression, defScope sExpression, [], []⟩
def dTest : He.DefD := ⟨("_law_test", none), "_law_test", "_law_test", defArgs sTest, defBody sTest, defScope sTest, [], []⟩
def dPlain : He.DefD := ⟨("_law_plain", none), "_law_plain", "_law_plain", defArgs sPlain, defBody sPlain, defScope sPlain, [], []⟩
def dRow : He.DefD := ⟨("_law_row", none), "_law_row", "_law_row", defArgs sRow, defBody sRow, defScope sRow, [], []⟩
def dBlock : He.DefD := ⟨("_law_block", none), "_law_block", "_law_block", defArgs sBlock, defBody sBlock, defScope sBlock, [], []⟩
def dProgram : He.DefD := ⟨("_law_program", none), "_law_program", "_law_program", defArgs sProgram, defBody sProgram, defScope sProgram, [], []⟩
def dNumber : He.DefD := ⟨("_law_number", none), "_law_number", "_law_number", defArgs sNumber, defBody sNumber, defScope sNumber, [], []⟩
def dParts : He.DefD := ⟨("_law_parts", none), "_law_parts", "_law_parts", defArgs sParts, defBody sParts, defScope sParts, [], []⟩
def dWhole : He.DefD := ⟨("_law_whole", none), "_law_whole", "_law_whole", defArgs sWhole, defBody sWhole, defScope sWhole, [], []⟩
def dIsName : He.DefD := ⟨("_law_is_name", none), "_law_is_name", "_law_is_name", defArgs sIsName, defBody sIsName, defScope sIsName, [], []⟩
def dIsExpression : He.DefD := ⟨("_law_is_expression", none), "_law_is_expression", "_law_is_expression", defArgs sIsExpression, defBody sIsExpression, defScope sIsExpression, [], []⟩
def dIsRest : He.DefD := ⟨("_law_is_rest", none), "_law_is_rest", "_law_is_rest", defArgs sIsRest, defBody sIsRest, defScope sIsRest, [], []⟩
def dIsTest : He.DefD := ⟨("_law_is_test", none), "_law_is_test", "_law_is_test", defArgs sIsTest, defBody sIsTest, defScope sIsTest, [], []⟩
def dIsStatement : He.DefD := ⟨("_law_is_statement", none), "_law_is_statement", "_law_is_statement", defArgs sIsStatement, defBody sIsStatement, defScope sIsStatement, [], []⟩
def dCounts : He.DefD := ⟨("_law_counts", none), "_law_counts", "_law_counts", defArgs sCounts, defBody sCounts, defScope sCounts, [], []⟩
def dError : He.DefD := ⟨("_law_error", none), "_law_error", "_law_error", defArgs sError, defBody sError, defScope sError, [], []⟩
def dValue : He.DefD := ⟨("_law_value", none), "_law_value", "_law_value", defArgs sValue, defBody sValue, defScope sValue, [], []⟩
def dTrue : He.DefD := ⟨("_law_true", none), "_law_true", "_law_true", defArgs sTrue, defBody sTrue, defScope sTrue, [], []⟩
def dSize : He.DefD := ⟨("_law_size", none), "_law_size", "_law_size", defArgs sSize, defBody sSize, defScope sSize, [], []⟩
def dGo : He.DefD := ⟨("_law_go", none), "_law_go", "_law_go", defArgs sGo, defBody sGo, defScope sGo, [], []⟩
def dRun : He.DefD := ⟨("_law_run", none), "_law_run", "_law_run", defArgs sRun, defBody sRun, defScope sRun, [], []⟩
def dSign : He.DefD := ⟨("_law_sign", none), "_law_sign", "_law_sign", defArgs sSign, defBody sSign, defScope sSign, [], []⟩
def dFamily : He.DefD := ⟨("_law_family", none), "_law_family", "_law_family", defArgs sFamily, defBody sFamily, defScope sFamily, [], []⟩
def dWrong : He.DefD := ⟨("_law_wrong", none), "_law_wrong", "_law_wrong", defArgs sWrong, defBody sWrong, defScope sWrong, [], []⟩
def dFamilyError : He.DefD := ⟨("_law_family_error", none), "_law_family_error", "_law_family_error", defArgs sFamilyError, defBody sFamilyError, defScope sFamilyError, [], []⟩
def dPLaw : He.DefD := ⟨("law", none), "law", "law", defArgs sPLaw, defBody sPLaw, defScope sPLaw, [], []⟩
def fn0 : List He.DefD := [dPIsInteger, dPIsBetween, dPIsHeaded, dPIsName, dPIsExpression, dPIsTest, dPIsStatement, dPBareTest, dPBlocksOf, dPProgramError, dPBoundError, dPEachStatement]
def fn1 : List He.DefD := [dPPlacesIn, dPWeight, dPTestedIn, dPTestsWith, dPSumOver, dPRun, dPSign, dPNumbered, dPEntered, dPValueOf, dPIsTrue, dPFamilyError]
def fn2 : List He.DefD := [dPSignsAt, dDeck, dDraw, dOne, dNames, dExpression, dTest, dPlain, dRow, dBlock, dProgram, dNumber]
def fn3 : List He.DefD := [dParts, dWhole, dIsName, dIsExpression, dIsRest, dIsTest, dIsStatement, dCounts, dError, dValue, dTrue, dSize]
def fn4 : List He.DefD := [dGo, dRun, dSign, dFamily, dWrong, dFamilyError, dPLaw]
def fn : List He.DefD := fn0 ++ fn1 ++ fn2 ++ fn3 ++ fn4
def fa0 : List He.Fa := [.glo "is_integer", .glo "is_between", .glo "is_headed", .glo "is_name", .glo "is_expression", .glo "is_test", .glo "is_statement", .glo "bare_test", .glo "blocks_of", .glo "program_error", .glo "bound_error", .glo "each_statement", .glo "places_in", .glo "weight", .glo "tested_in", .glo "tests_with", .glo "sum_over", .glo "run", .glo "sign", .glo "numbered"]
def fa1 : List He.Fa := [.glo "entered", .glo "value_of", .glo "is_true", .glo "family_error", .glo "signs_at", .glo "_law_deck", .glo "_law_draw", .glo "_law_one", .glo "_law_names", .glo "_law_expression", .glo "_law_test", .glo "_law_plain", .glo "_law_row", .glo "_law_block", .glo "_law_program", .glo "_law_number", .glo "_law_parts", .glo "_law_whole", .glo "_law_is_name", .glo "_law_is_expression"]
def fa2 : List He.Fa := [.glo "_law_is_rest", .glo "_law_is_test", .glo "_law_is_statement", .glo "_law_counts", .glo "_law_error", .glo "_law_value", .glo "_law_true", .glo "_law_size", .glo "_law_go", .glo "_law_run", .glo "_law_sign", .glo "_law_family", .glo "_law_wrong", .glo "_law_family_error", .glo "law", .free "abs", .free "all", .free "bool", .free "enumerate", .free "int"]
def fa3 : List He.Fa := [.free "isinstance", .free "len", .free "list", .free "max", .free "range", .free "repr", .free "str", .free "sum", .free "tuple", .int "MAX_NAME" 8, .int "MAX_TIMES" 8, .int "MAX_DEEP" 3, .int "MAX_NOTS" 2, .int "MAX_BY" 6, .int "MAX_PLACES" 24, .int "MAX_WEIGHT" 30, .int "MAX_RESTS" 2, .int "MAX_COMPARINGS" 2, .int "MAX_NEST" 3, .int "MAX_FAMILY" 5]
def fa4 : List He.Fa := [.int "MAX_CONSTANT" 99, .int "MAX_FACTOR" 9, .int "MIN_BY" 2, .str "LETTERS" "abcdefghijklmnopqrstuvwxyz", .str "DIGITS" "0123456789", .glo "WORDS"]
def fa : List He.Fa := fa0 ++ fa1 ++ fa2 ++ fa3 ++ fa4
def loose0 : List PySem.Str := ["is_integer", "is_between", "is_headed", "is_name", "is_expression", "is_test", "is_statement", "bare_test", "blocks_of", "program_error", "bound_error", "each_statement", "places_in", "weight", "tested_in", "tests_with", "sum_over", "run", "sign", "numbered"]
def loose1 : List PySem.Str := ["entered", "value_of", "is_true", "family_error", "signs_at", "_law_deck", "_law_draw", "_law_one", "_law_names", "_law_expression", "_law_test", "_law_plain", "_law_row", "_law_block", "_law_program", "_law_number", "_law_parts", "_law_whole", "_law_is_name", "_law_is_expression"]
def loose2 : List PySem.Str := ["_law_is_rest", "_law_is_test", "_law_is_statement", "_law_counts", "_law_error", "_law_value", "_law_true", "_law_size", "_law_go", "_law_run", "_law_sign", "_law_family", "_law_wrong", "_law_family_error", "MAX_NAME", "MAX_TIMES", "MAX_DEEP", "MAX_NOTS", "MAX_BY", "MAX_PLACES"]
def loose3 : List PySem.Str := ["MAX_WEIGHT", "MAX_RESTS", "MAX_COMPARINGS", "MAX_NEST", "MAX_FAMILY", "MAX_CONSTANT", "MAX_FACTOR", "MIN_BY", "LETTERS", "DIGITS", "WORDS"]
def looseN : List PySem.Str := loose0 ++ loose1 ++ loose2 ++ loose3
def dW : He.Defn := ("weight", none)
def dT : He.Defn := ("tested_in", none)
def wordsD : List He.Dv := [.str "box", .str "set", .str "pay", .str "stop", .str "if", .str "else", .str "repeat", .str "pass", .str "rest", .str "of", .str "not", .str "program"]
def exK (K : PySem.W.Frag) : Bool := He.tupB K "WORDS" wordsD && !decide ((He.cT K dW).2 = (He.cT K dT).2)
abbrev R : PySem.W.OpenRow := PySem.W.OpenLaw.row PySem.Challenge.rw_whichheld_k28_families_and_signs
abbrev hookH : PySem.W.Hook := He.hookX 4 fa fn [] [dW, dT] exK
def obsH (s : PySem.W.SharedT) : He.AlX := He.obsX 4 fa fn [] [dW, dT] exK (HandSHeadRun.getT s)
theorem obsH_eq (s : PySem.W.SharedT) : obsH s = hookH.obs s.abs := He.obsX_eq (HandSHeadRun.getT_eq s)
set_option maxHeartbeats 0 in
theorem run_head (w : World) : HandSHeadRun.RunEq R (PySem.W.view R.prog [76]) hookH obsH 9000 looseN w := by
  intro os; kernel_rfl
def csK (K : PySem.W.Frag) : List (Addr × Addr) := [He.cT K dW, He.cT K dT]
set_option maxHeartbeats 0 in
theorem facts {w : World} {P : Program} {K : PySem.W.Frag} {h : Heap} {mg : Str → Option Value} {f : Addr} (X : K.In h) (G : h.Ns mainGlobals mg) (hfa : mg ("law" : Str) = some (.ref f)) (cX : He.SaysX fa fn [] [dW, dT] exK w h K) :
    ∃ fd : FuncData, (∀ (s : Shared) (v : Value), BindsTo s fd ⟨[v], []⟩ [("_law_script", v)]) ∧ ∀ base : Heap, K.In base → base.Ns mainGlobals mg → (∀ p ∈ csK K, LamX.TabB base mg p.1 p.2) → FnG P w K mg base 20 f fd ["_law_script"] (spLawT K (He.cT K dW).2 (He.cT K dT).2) := by
  have c := cX.t.d
  obtain ⟨ex1, ex2⟩ := He.ba (show (He.tupB K "WORDS" wordsD && !decide ((He.cT K dW).2 = (He.cT K dT).2)) = true from cX.more)
  have hne : (He.cT K dW).2 ≠ (He.cT K dT).2 := fun e => by rw [decide_eq_true e] at ex2; cases ex2
  have h_WORDS : ∀ H : Hp, SqT K H (He.ga K "WORDS") (WordsK.map V.str) := fun H => He.tupB_ok ex1 H
  obtain ⟨fd_pis_integer, D_pis_integer⟩ := c.def_ 0 (d := dPIsInteger) rfl
  obtain ⟨fd_pis_between, D_pis_between⟩ := c.def_ 1 (d := dPIsBetween) rfl
  obtain ⟨fd_pis_headed, D_pis_headed⟩ := c.def_ 2 (d := dPIsHeaded) rfl
  obtain ⟨fd_pis_name, D_pis_name⟩ := c.def_ 3 (d := dPIsName) rfl
  obtain ⟨fd_pis_expression, D_pis_expression⟩ := c.def_ 4 (d := dPIsExpression) rfl
  obtain ⟨fd_pis_test, D_pis_test⟩ := c.def_ 5 (d := dPIsTest) rfl
  obtain ⟨fd_pis_statement, D_pis_statement⟩ := c.def_ 6 (d := dPIsStatement) rfl
  obtain ⟨fd_pbare_test, D_pbare_test⟩ := c.def_ 7 (d := dPBareTest) rfl
  obtain ⟨fd_pblocks_of, D_pblocks_of⟩ := c.def_ 8 (d := dPBlocksOf) rfl
  obtain ⟨fd_pprogram_error, D_pprogram_error⟩ := c.def_ 9 (d := dPProgramError) rfl
  obtain ⟨fd_pbound_error, D_pbound_error⟩ := c.def_ 10 (d := dPBoundError) rfl
  obtain ⟨fd_peach_statement, D_peach_statement⟩ := c.def_ 11 (d := dPEachStatement) rfl
  obtain ⟨fd_pplaces_in, D_pplaces_in⟩ := c.def_ 12 (d := dPPlacesIn) rfl
  obtain ⟨fd_pweight, D_pweight⟩ := c.def_ 13 (d := dPWeight) rfl
  obtain ⟨fd_ptested_in, D_ptested_in⟩ := c.def_ 14 (d := dPTestedIn) rfl
  obtain ⟨fd_ptests_with, D_ptests_with⟩ := c.def_ 15 (d := dPTestsWith) rfl
  obtain ⟨fd_psum_over, D_psum_over⟩ := c.def_ 16 (d := dPSumOver) rfl
  obtain ⟨fd_prun, D_prun⟩ := c.def_ 17 (d := dPRun) rfl
  obtain ⟨fd_psign, D_psign⟩ := c.def_ 18 (d := dPSign) rfl
  obtain ⟨fd_pnumbered, D_pnumbered⟩ := c.def_ 19 (d := dPNumbered) rfl
  obtain ⟨fd_pentered, D_pentered⟩ := c.def_ 20 (d := dPEntered) rfl
  obtain ⟨fd_pvalue_of, D_pvalue_of⟩ := c.def_ 21 (d := dPValueOf) rfl
  obtain ⟨fd_pis_true, D_pis_true⟩ := c.def_ 22 (d := dPIsTrue) rfl
  obtain ⟨fd_pfamily_error, D_pfamily_error⟩ := c.def_ 23 (d := dPFamilyError) rfl
  obtain ⟨fd_psigns_at, D_psigns_at⟩ := c.def_ 24 (d := dPSignsAt) rfl
  obtain ⟨fd_deck, D_deck⟩ := c.def_ 25 (d := dDeck) rfl
  obtain ⟨fd_draw, D_draw⟩ := c.def_ 26 (d := dDraw) rfl
  obtain ⟨fd_one, D_one⟩ := c.def_ 27 (d := dOne) rfl
  obtain ⟨fd_names, D_names⟩ := c.def_ 28 (d := dNames) rfl
  obtain ⟨fd_expression, D_expression⟩ := c.def_ 29 (d := dExpression) rfl
  obtain ⟨fd_test, D_test⟩ := c.def_ 30 (d := dTest) rfl
  obtain ⟨fd_plain, D_plain⟩ := c.def_ 31 (d := dPlain) rfl
  obtain ⟨fd_row, D_row⟩ := c.def_ 32 (d := dRow) rfl
  obtain ⟨fd_block, D_block⟩ := c.def_ 33 (d := dBlock) rfl
  obtain ⟨fd_program, D_program⟩ := c.def_ 34 (d := dProgram) rfl
  obtain ⟨fd_number, D_number⟩ := c.def_ 35 (d := dNumber) rfl
  obtain ⟨fd_parts, D_parts⟩ := c.def_ 36 (d := dParts) rfl
  obtain ⟨fd_whole, D_whole⟩ := c.def_ 37 (d := dWhole) rfl
  obtain ⟨fd_is_name, D_is_name⟩ := c.def_ 38 (d := dIsName) rfl
  obtain ⟨fd_is_expression, D_is_expression⟩ := c.def_ 39 (d := dIsExpression) rfl
  obtain ⟨fd_is_rest, D_is_rest⟩ := c.def_ 40 (d := dIsRest) rfl
  obtain ⟨fd_is_test, D_is_test⟩ := c.def_ 41 (d := dIsTest) rfl
  obtain ⟨fd_is_statement, D_is_statement⟩ := c.def_ 42 (d := dIsStatement) rfl
  obtain ⟨fd_counts, D_counts⟩ := c.def_ 43 (d := dCounts) rfl
  obtain ⟨fd_error, D_error⟩ := c.def_ 44 (d := dError) rfl
  obtain ⟨fd_value, D_value⟩ := c.def_ 45 (d := dValue) rfl
  obtain ⟨fd_true, D_true⟩ := c.def_ 46 (d := dTrue) rfl
  obtain ⟨fd_size, D_size⟩ := c.def_ 47 (d := dSize) rfl
  obtain ⟨fd_go, D_go⟩ := c.def_ 48 (d := dGo) rfl
  obtain ⟨fd_run, D_run⟩ := c.def_ 49 (d := dRun) rfl
  obtain ⟨fd_sign, D_sign⟩ := c.def_ 50 (d := dSign) rfl
  obtain ⟨fd_family, D_family⟩ := c.def_ 51 (d := dFamily) rfl
  obtain ⟨fd_wrong, D_wrong⟩ := c.def_ 52 (d := dWrong) rfl
  obtain ⟨fd_family_error, D_family_error⟩ := c.def_ 53 (d := dFamilyError) rfl
  obtain ⟨fd_law, D_law⟩ := c.def_ 54 (d := dPLaw) rfl
  have e := hfa.symm.trans (He.glo_ok X G (c.fact 54 (f := .glo "law") rfl))
  cases e
  have bl := FunD.bindsA (ps := ["_law_script"]) D_law fun _ _ _ _ _ _ us hl => match us, hl with | [_], _ => rfl
  refine ⟨fd_law, fun s v => bl s [v] rfl, fun base _ _ TB => ?_⟩
  have TB1 : LamX.TabB base mg (He.cT K dW).1 (He.cT K dW).2 := TB _ (List.mem_cons_self ..)
  have TB2 : LamX.TabB base mg (He.cT K dT).1 (He.cT K dT).2 := TB _ (List.mem_cons_of_mem _ (List.mem_cons_self ..))
  have F_pis_integer : Fun K "is_integer" "is_integer" sPIsInteger (He.ga K "is_integer") fd_pis_integer := Fun.of D_pis_integer
  have b_pis_integer : Binds K fd_pis_integer ["value"] [] := F_pis_integer.binds (ps := ["value"]) fun _ _ _ _ _ _ us hl => match us, hl with | [_], _ => rfl
  have F_pis_between : Fun K "is_between" "is_between" sPIsBetween (He.ga K "is_between") fd_pis_between := Fun.of D_pis_between
  have b_pis_between : Binds K fd_pis_between ["value", "low", "high"] [] := F_pis_between.binds (ps := ["value", "low", "high"]) fun _ _ _ _ _ _ us hl => match us, hl with | [_, _, _], _ => rfl
  have F_pis_headed : Fun K "is_headed" "is_headed" sPIsHeaded (He.ga K "is_headed") fd_pis_headed := Fun.of D_pis_headed
  have b_pis_headed : Binds K fd_pis_headed ["value", "word", "size"] [] := F_pis_headed.binds (ps := ["value", "word", "size"]) fun _ _ _ _ _ _ us hl => match us, hl with | [_, _, _], _ => rfl
  have F_pis_name : Fun K "is_name" "is_name" sPIsName (He.ga K "is_name") fd_pis_name := Fun.of D_pis_name
  have b_pis_name : Binds K fd_pis_name ["value"] [] := F_pis_name.binds (ps := ["value"]) fun _ _ _ _ _ _ us hl => match us, hl with | [_], _ => rfl
  have F_pis_expression : FunD K "is_expression" "is_expression" (defArgs sPIsExpression) (defBody sPIsExpression) (defScope sPIsExpression) [.int 3] [] (He.ga K "is_expression") fd_pis_expression := D_pis_expression
  obtain ⟨ds0_pis_expression, v0_pis_expression, b_pis_expression⟩ := FunD.binds1 (ps := ["value", "deep"]) F_pis_expression 2 1 (by simp) rfl fun _ _ _ _ _ _ _ us its hu hi => match us, its, hu, hi with | [_, _], [_], _, _ => ⟨_, rfl, rfl⟩
  cases v0_pis_expression
  obtain ⟨ds1_pis_expression, v1_pis_expression, b_pis_expression1⟩ := FunD.binds1 (ps := ["value", "deep"]) F_pis_expression 1 0 (by simp) rfl fun _ _ _ _ _ _ _ us its hu hi => match us, its, hu, hi with | [_], [_], _, _ => ⟨_, rfl, rfl⟩
  obtain ⟨dv_pis_expression, e1_pis_expression, v_pis_expression⟩ : ∃ dv, ds1_pis_expression = [dv] ∧ RelV (.int 3) dv := by
    cases v1_pis_expression with
    | cons a b => cases b; exact ⟨_, rfl, a⟩
  subst e1_pis_expression
  have F_pis_test : FunD K "is_test" "is_test" (defArgs sPIsTest) (defBody sPIsTest) (defScope sPIsTest) [.int 2] [] (He.ga K "is_test") fd_pis_test := D_pis_test
  obtain ⟨ds0_pis_test, v0_pis_test, b_pis_test⟩ := FunD.binds1 (ps := ["value", "nots"]) F_pis_test 2 1 (by simp) rfl fun _ _ _ _ _ _ _ us its hu hi => match us, its, hu, hi with | [_, _], [_], _, _ => ⟨_, rfl, rfl⟩
  cases v0_pis_test
  obtain ⟨ds1_pis_test, v1_pis_test, b_pis_test1⟩ := FunD.binds1 (ps := ["value", "nots"]) F_pis_test 1 0 (by simp) rfl fun _ _ _ _ _ _ _ us its hu hi => match us, its, hu, hi with | [_], [_], _, _ => ⟨_, rfl, rfl⟩
  obtain ⟨dv_pis_test, e1_pis_test, v_pis_test⟩ : ∃ dv, ds1_pis_test = [dv] ∧ RelV (.int 2) dv := by
    cases v1_pis_test with
    | cons a b => cases b; exact ⟨_, rfl, a⟩
  subst e1_pis_test
  have F_pis_statement : Fun K "is_statement" "is_statement" sPIsStatement (He.ga K "is_statement") fd_pis_statement := Fun.of D_pis_statement
  have b_pis_statement : Binds K fd_pis_statement ["value"] [] := F_pis_statement.binds (ps := ["value"]) fun _ _ _ _ _ _ us hl => match us, hl with | [_], _ => rfl
  have F_pbare_test : Fun K "bare_test" "bare_test" sPBareTest (He.ga K "bare_test") fd_pbare_test := Fun.of D_pbare_test
  have b_pbare_test : Binds K fd_pbare_test ["test"] [] := F_pbare_test.binds (ps := ["test"]) fun _ _ _ _ _ _ us hl => match us, hl with | [_], _ => rfl
  have F_pblocks_of : Fun K "blocks_of" "blocks_of" sPBlocksOf (He.ga K "blocks_of") fd_pblocks_of := Fun.of D_pblocks_of
  have b_pblocks_of : Binds K fd_pblocks_of ["statement"] [] := F_pblocks_of.binds (ps := ["statement"]) fun _ _ _ _ _ _ us hl => match us, hl with | [_], _ => rfl
  have F_pprogram_error : Fun K "program_error" "program_error" sPProgramError (He.ga K "program_error") fd_pprogram_error := Fun.of D_pprogram_error
  have b_pprogram_error : Binds K fd_pprogram_error ["value"] [] := F_pprogram_error.binds (ps := ["value"]) fun _ _ _ _ _ _ us hl => match us, hl with | [_], _ => rfl
  have F_pbound_error : Fun K "bound_error" "bound_error" sPBoundError (He.ga K "bound_error") fd_pbound_error := Fun.of D_pbound_error
  have b_pbound_error : Binds K fd_pbound_error ["program"] [] := F_pbound_error.binds (ps := ["program"]) fun _ _ _ _ _ _ us hl => match us, hl with | [_], _ => rfl
  have F_peach_statement : Fun K "each_statement" "each_statement" sPEachStatement (He.ga K "each_statement") fd_peach_statement := Fun.of D_peach_statement
  have b_peach_statement : Binds K fd_peach_statement ["program"] [] := F_peach_statement.binds (ps := ["program"]) fun _ _ _ _ _ _ us hl => match us, hl with | [_], _ => rfl
  have F_pplaces_in : Fun K "places_in" "places_in" sPPlacesIn (He.ga K "places_in") fd_pplaces_in := Fun.of D_pplaces_in
  have b_pplaces_in : Binds K fd_pplaces_in ["block"] [] := F_pplaces_in.binds (ps := ["block"]) fun _ _ _ _ _ _ us hl => match us, hl with | [_], _ => rfl
  have F_pweight : Fun K "weight" "weight" sPWeight (He.ga K "weight") fd_pweight := Fun.of D_pweight
  have C_pweight : FunC K "weight" "weight" sPWeight (He.ga K "weight") fd_pweight (He.cT K dW).1 := FunC.of (p := dW) D_pweight
  have b_pweight : Binds K fd_pweight ["program"] [] := F_pweight.binds (ps := ["program"]) fun _ _ _ _ _ _ us hl => match us, hl with | [_], _ => rfl
  have F_ptested_in : Fun K "tested_in" "tested_in" sPTestedIn (He.ga K "tested_in") fd_ptested_in := Fun.of D_ptested_in
  have C_ptested_in : FunC K "tested_in" "tested_in" sPTestedIn (He.ga K "tested_in") fd_ptested_in (He.cT K dT).1 := FunC.of (p := dT) D_ptested_in
  have b_ptested_in : Binds K fd_ptested_in ["block", "word"] [] := F_ptested_in.binds (ps := ["block", "word"]) fun _ _ _ _ _ _ us hl => match us, hl with | [_, _], _ => rfl
  have F_ptests_with : Fun K "tests_with" "tests_with" sPTestsWith (He.ga K "tests_with") fd_ptests_with := Fun.of D_ptests_with
  have b_ptests_with : Binds K fd_ptests_with ["statement", "word"] [] := F_ptests_with.binds (ps := ["statement", "word"]) fun _ _ _ _ _ _ us hl => match us, hl with | [_, _], _ => rfl
  have F_psum_over : Fun K "sum_over" "sum_over" sPSumOver (He.ga K "sum_over") fd_psum_over := Fun.of D_psum_over
  have b_psum_over : Binds K fd_psum_over ["block", "own"] [] := F_psum_over.binds (ps := ["block", "own"]) fun _ _ _ _ _ _ us hl => match us, hl with | [_, _], _ => rfl
  have F_prun : Fun K "run" "run" sPRun (He.ga K "run") fd_prun := Fun.of D_prun
  have b_prun : Binds K fd_prun ["program", "number"] [] := F_prun.binds (ps := ["program", "number"]) fun _ _ _ _ _ _ us hl => match us, hl with | [_, _], _ => rfl
  have F_psign : Fun K "sign" "sign" sPSign (He.ga K "sign") fd_psign := Fun.of D_psign
  have b_psign : Binds K fd_psign ["program", "number"] [] := F_psign.binds (ps := ["program", "number"]) fun _ _ _ _ _ _ us hl => match us, hl with | [_, _], _ => rfl
  have F_pnumbered : Fun K "numbered" "numbered" sPNumbered (He.ga K "numbered") fd_pnumbered := Fun.of D_pnumbered
  have b_pnumbered : Binds K fd_pnumbered ["block", "place"] [] := F_pnumbered.binds (ps := ["block", "place"]) fun _ _ _ _ _ _ us hl => match us, hl with | [_, _], _ => rfl
  have F_pentered : Fun K "entered" "entered" sPEntered (He.ga K "entered") fd_pentered := Fun.of D_pentered
  have b_pentered : Binds K fd_pentered ["statement", "place", "names"] [] := F_pentered.binds (ps := ["statement", "place", "names"]) fun _ _ _ _ _ _ us hl => match us, hl with | [_, _, _], _ => rfl
  have F_pvalue_of : Fun K "value_of" "value_of" sPValueOf (He.ga K "value_of") fd_pvalue_of := Fun.of D_pvalue_of
  have b_pvalue_of : Binds K fd_pvalue_of ["expression", "names"] [] := F_pvalue_of.binds (ps := ["expression", "names"]) fun _ _ _ _ _ _ us hl => match us, hl with | [_, _], _ => rfl
  have F_pis_true : Fun K "is_true" "is_true" sPIsTrue (He.ga K "is_true") fd_pis_true := Fun.of D_pis_true
  have b_pis_true : Binds K fd_pis_true ["test", "names"] [] := F_pis_true.binds (ps := ["test", "names"]) fun _ _ _ _ _ _ us hl => match us, hl with | [_, _], _ => rfl
  have F_pfamily_error : Fun K "family_error" "family_error" sPFamilyError (He.ga K "family_error") fd_pfamily_error := Fun.of D_pfamily_error
  have b_pfamily_error : Binds K fd_pfamily_error ["value"] [] := F_pfamily_error.binds (ps := ["value"]) fun _ _ _ _ _ _ us hl => match us, hl with | [_], _ => rfl
  have F_psigns_at : Fun K "signs_at" "signs_at" sPSignsAt (He.ga K "signs_at") fd_psigns_at := Fun.of D_psigns_at
  have b_psigns_at : Binds K fd_psigns_at ["family", "number"] [] := F_psigns_at.binds (ps := ["family", "number"]) fun _ _ _ _ _ _ us hl => match us, hl with | [_, _], _ => rfl
  have F_deck : Fun K "_law_deck" "_law_deck" sDeck (He.ga K "_law_deck") fd_deck := Fun.of D_deck
  have b_deck : Binds K fd_deck ["_law_script"] [] := F_deck.binds (ps := ["_law_script"]) fun _ _ _ _ _ _ us hl => match us, hl with | [_], _ => rfl
  have F_draw : Fun K "_law_draw" "_law_draw" sDraw (He.ga K "_law_draw") fd_draw := Fun.of D_draw
  have b_draw : Binds K fd_draw ["_law_deck_here", "_law_many"] [] := F_draw.binds (ps := ["_law_deck_here", "_law_many"]) fun _ _ _ _ _ _ us hl => match us, hl with | [_, _], _ => rfl
  have F_one : Fun K "_law_one" "_law_one" sOne (He.ga K "_law_one") fd_one := Fun.of D_one
  have b_one : Binds K fd_one ["_law_deck_here", "_law_items"] [] := F_one.binds (ps := ["_law_deck_here", "_law_items"]) fun _ _ _ _ _ _ us hl => match us, hl with | [_, _], _ => rfl
  have F_names : Fun K "_law_names" "_law_names" sNames (He.ga K "_law_names") fd_names := Fun.of D_names
  have b_names : Binds K fd_names ["_law_deck_here"] [] := F_names.binds (ps := ["_law_deck_here"]) fun _ _ _ _ _ _ us hl => match us, hl with | [_], _ => rfl
  have F_expression : Fun K "_law_expression" "_law_expression" sExpression (He.ga K "_law_expression") fd_expression := Fun.of D_expression
  have b_expression : Binds K fd_expression ["_law_deck_here", "_law_names_here", "_law_deep"] [] := F_expression.binds (ps := ["_law_deck_here", "_law_names_here", "_law_deep"]) fun _ _ _ _ _ _ us hl => match us, hl with | [_, _, _], _ => rfl
  have F_test : Fun K "_law_test" "_law_test" sTest (He.ga K "_law_test") fd_test := Fun.of D_test
  have b_test : Binds K fd_test ["_law_deck_here", "_law_names_here", "_law_room", "_law_times"] [] := F_test.binds (ps := ["_law_deck_here", "_law_names_here", "_law_room", "_law_times"]) fun _ _ _ _ _ _ us hl => match us, hl with | [_, _, _, _], _ => rfl
  have F_plain : Fun K "_law_plain" "_law_plain" sPlain (He.ga K "_law_plain") fd_plain := Fun.of D_plain
  have b_plain : Binds K fd_plain ["_law_deck_here", "_law_names_here"] [] := F_plain.binds (ps := ["_law_deck_here", "_law_names_here"]) fun _ _ _ _ _ _ us hl => match us, hl with | [_, _], _ => rfl
  have F_row : Fun K "_law_row" "_law_row" sRow (He.ga K "_law_row") fd_row := Fun.of D_row
  have b_row : Binds K fd_row ["_law_deck_here", "_law_names_here", "_law_room", "_law_times", "_law_depth"] [] := F_row.binds (ps := ["_law_deck_here", "_law_names_here", "_law_room", "_law_times", "_law_depth"]) fun _ _ _ _ _ _ us hl => match us, hl with | [_, _, _, _, _], _ => rfl
  have F_block : Fun K "_law_block" "_law_block" sBlock (He.ga K "_law_block") fd_block := Fun.of D_block
  have b_block : Binds K fd_block ["_law_deck_here", "_law_names_here", "_law_room", "_law_times", "_law_depth"] [] := F_block.binds (ps := ["_law_deck_here", "_law_names_here", "_law_room", "_law_times", "_law_depth"]) fun _ _ _ _ _ _ us hl => match us, hl with | [_, _, _, _, _], _ => rfl
  have F_program : Fun K "_law_program" "_law_program" sProgram (He.ga K "_law_program") fd_program := Fun.of D_program
  have b_program : Binds K fd_program ["_law_deck_here", "_law_names_here"] [] := F_program.binds (ps := ["_law_deck_here", "_law_names_here"]) fun _ _ _ _ _ _ us hl => match us, hl with | [_, _], _ => rfl
  have F_number : Fun K "_law_number" "_law_number" sNumber (He.ga K "_law_number") fd_number := Fun.of D_number
  have b_number : Binds K fd_number ["_law_deck_here"] [] := F_number.binds (ps := ["_law_deck_here"]) fun _ _ _ _ _ _ us hl => match us, hl with | [_], _ => rfl
  have F_parts : Fun K "_law_parts" "_law_parts" sParts (He.ga K "_law_parts") fd_parts := Fun.of D_parts
  have b_parts : Binds K fd_parts ["_law_row_here"] [] := F_parts.binds (ps := ["_law_row_here"]) fun _ _ _ _ _ _ us hl => match us, hl with | [_], _ => rfl
  have F_whole : Fun K "_law_whole" "_law_whole" sWhole (He.ga K "_law_whole") fd_whole := Fun.of D_whole
  have b_whole : Binds K fd_whole ["_law_value_here", "_law_least", "_law_most"] [] := F_whole.binds (ps := ["_law_value_here", "_law_least", "_law_most"]) fun _ _ _ _ _ _ us hl => match us, hl with | [_, _, _], _ => rfl
  have F_is_name : Fun K "_law_is_name" "_law_is_name" sIsName (He.ga K "_law_is_name") fd_is_name := Fun.of D_is_name
  have b_is_name : Binds K fd_is_name ["_law_value_here"] [] := F_is_name.binds (ps := ["_law_value_here"]) fun _ _ _ _ _ _ us hl => match us, hl with | [_], _ => rfl
  have F_is_expression : Fun K "_law_is_expression" "_law_is_expression" sIsExpression (He.ga K "_law_is_expression") fd_is_expression := Fun.of D_is_expression
  have b_is_expression : Binds K fd_is_expression ["_law_value_here", "_law_deep"] [] := F_is_expression.binds (ps := ["_law_value_here", "_law_deep"]) fun _ _ _ _ _ _ us hl => match us, hl with | [_, _], _ => rfl
  have F_is_rest : Fun K "_law_is_rest" "_law_is_rest" sIsRest (He.ga K "_law_is_rest") fd_is_rest := Fun.of D_is_rest
  have b_is_rest : Binds K fd_is_rest ["_law_value_here"] [] := F_is_rest.binds (ps := ["_law_value_here"]) fun _ _ _ _ _ _ us hl => match us, hl with | [_], _ => rfl
  have F_is_test : Fun K "_law_is_test" "_law_is_test" sIsTest (He.ga K "_law_is_test") fd_is_test := Fun.of D_is_test
  have b_is_test : Binds K fd_is_test ["_law_value_here", "_law_nots"] [] := F_is_test.binds (ps := ["_law_value_here", "_law_nots"]) fun _ _ _ _ _ _ us hl => match us, hl with | [_, _], _ => rfl
  have F_is_statement : Fun K "_law_is_statement" "_law_is_statement" sIsStatement (He.ga K "_law_is_statement") fd_is_statement := Fun.of D_is_statement
  have b_is_statement : Binds K fd_is_statement ["_law_value_here"] [] := F_is_statement.binds (ps := ["_law_value_here"]) fun _ _ _ _ _ _ us hl => match us, hl with | [_], _ => rfl
  have F_counts : Fun K "_law_counts" "_law_counts" sCounts (He.ga K "_law_counts") fd_counts := Fun.of D_counts
  have b_counts : Binds K fd_counts ["_law_block_here"] [] := F_counts.binds (ps := ["_law_block_here"]) fun _ _ _ _ _ _ us hl => match us, hl with | [_], _ => rfl
  have F_error : Fun K "_law_error" "_law_error" sError (He.ga K "_law_error") fd_error := Fun.of D_error
  have b_error : Binds K fd_error ["_law_value_here"] [] := F_error.binds (ps := ["_law_value_here"]) fun _ _ _ _ _ _ us hl => match us, hl with | [_], _ => rfl
  have F_value : Fun K "_law_value" "_law_value" sValue (He.ga K "_law_value") fd_value := Fun.of D_value
  have b_value : Binds K fd_value ["_law_expression_here", "_law_names_here"] [] := F_value.binds (ps := ["_law_expression_here", "_law_names_here"]) fun _ _ _ _ _ _ us hl => match us, hl with | [_, _], _ => rfl
  have F_true : Fun K "_law_true" "_law_true" sTrue (He.ga K "_law_true") fd_true := Fun.of D_true
  have b_true : Binds K fd_true ["_law_test_here", "_law_names_here"] [] := F_true.binds (ps := ["_law_test_here", "_law_names_here"]) fun _ _ _ _ _ _ us hl => match us, hl with | [_, _], _ => rfl
  have F_size : Fun K "_law_size" "_law_size" sSize (He.ga K "_law_size") fd_size := Fun.of D_size
  have b_size : Binds K fd_size ["_law_block_here"] [] := F_size.binds (ps := ["_law_block_here"]) fun _ _ _ _ _ _ us hl => match us, hl with | [_], _ => rfl
  have F_go : Fun K "_law_go" "_law_go" sGo (He.ga K "_law_go") fd_go := Fun.of D_go
  have b_go : Binds K fd_go ["_law_world", "_law_block_here", "_law_place"] [] := F_go.binds (ps := ["_law_world", "_law_block_here", "_law_place"]) fun _ _ _ _ _ _ us hl => match us, hl with | [_, _, _], _ => rfl
  have F_run : Fun K "_law_run" "_law_run" sRun (He.ga K "_law_run") fd_run := Fun.of D_run
  have b_run : Binds K fd_run ["_law_program_here", "_law_number_here"] [] := F_run.binds (ps := ["_law_program_here", "_law_number_here"]) fun _ _ _ _ _ _ us hl => match us, hl with | [_, _], _ => rfl
  have F_sign : Fun K "_law_sign" "_law_sign" sSign (He.ga K "_law_sign") fd_sign := Fun.of D_sign
  have b_sign : Binds K fd_sign ["_law_total"] [] := F_sign.binds (ps := ["_law_total"]) fun _ _ _ _ _ _ us hl => match us, hl with | [_], _ => rfl
  have F_family : Fun K "_law_family" "_law_family" sFamily (He.ga K "_law_family") fd_family := Fun.of D_family
  have b_family : Binds K fd_family ["_law_deck_here", "_law_names_here"] [] := F_family.binds (ps := ["_law_deck_here", "_law_names_here"]) fun _ _ _ _ _ _ us hl => match us, hl with | [_, _], _ => rfl
  have F_wrong : Fun K "_law_wrong" "_law_wrong" sWrong (He.ga K "_law_wrong") fd_wrong := Fun.of D_wrong
  have b_wrong : Binds K fd_wrong ["_law_deck_here", "_law_program_here"] [] := F_wrong.binds (ps := ["_law_deck_here", "_law_program_here"]) fun _ _ _ _ _ _ us hl => match us, hl with | [_, _], _ => rfl
  have F_family_error : Fun K "_law_family_error" "_law_family_error" sFamilyError (He.ga K "_law_family_error") fd_family_error := Fun.of D_family_error
  have b_family_error : Binds K fd_family_error ["_law_value_here"] [] := F_family_error.binds (ps := ["_law_value_here"]) fun _ _ _ _ _ _ us hl => match us, hl with | [_], _ => rfl
  have F_law : Fun K "law" "law" sPLaw (He.ga K "law") fd_law := Fun.of D_law
  have m_pis_integer : mg "is_integer" = some (.ref (He.ga K "is_integer")) := He.glo_ok X G (c.fact 0 (f := .glo "is_integer") rfl)
  have m_pis_between : mg "is_between" = some (.ref (He.ga K "is_between")) := He.glo_ok X G (c.fact 1 (f := .glo "is_between") rfl)
  have m_pis_headed : mg "is_headed" = some (.ref (He.ga K "is_headed")) := He.glo_ok X G (c.fact 2 (f := .glo "is_headed") rfl)
  have m_pis_name : mg "is_name" = some (.ref (He.ga K "is_name")) := He.glo_ok X G (c.fact 3 (f := .glo "is_name") rfl)
  have m_pis_expression : mg "is_expression" = some (.ref (He.ga K "is_expression")) := He.glo_ok X G (c.fact 4 (f := .glo "is_expression") rfl)
  have m_pis_test : mg "is_test" = some (.ref (He.ga K "is_test")) := He.glo_ok X G (c.fact 5 (f := .glo "is_test") rfl)
  have m_pis_statement : mg "is_statement" = some (.ref (He.ga K "is_statement")) := He.glo_ok X G (c.fact 6 (f := .glo "is_statement") rfl)
  have m_pbare_test : mg "bare_test" = some (.ref (He.ga K "bare_test")) := He.glo_ok X G (c.fact 7 (f := .glo "bare_test") rfl)
  have m_pblocks_of : mg "blocks_of" = some (.ref (He.ga K "blocks_of")) := He.glo_ok X G (c.fact 8 (f := .glo "blocks_of") rfl)
  have m_pprogram_error : mg "program_error" = some (.ref (He.ga K "program_error")) := He.glo_ok X G (c.fact 9 (f := .glo "program_error") rfl)
  have m_pbound_error : mg "bound_error" = some (.ref (He.ga K "bound_error")) := He.glo_ok X G (c.fact 10 (f := .glo "bound_error") rfl)
  have m_peach_statement : mg "each_statement" = some (.ref (He.ga K "each_statement")) := He.glo_ok X G (c.fact 11 (f := .glo "each_statement") rfl)
  have m_pplaces_in : mg "places_in" = some (.ref (He.ga K "places_in")) := He.glo_ok X G (c.fact 12 (f := .glo "places_in") rfl)
  have m_pweight : mg "weight" = some (.ref (He.ga K "weight")) := He.glo_ok X G (c.fact 13 (f := .glo "weight") rfl)
  have m_ptested_in : mg "tested_in" = some (.ref (He.ga K "tested_in")) := He.glo_ok X G (c.fact 14 (f := .glo "tested_in") rfl)
  have m_ptests_with : mg "tests_with" = some (.ref (He.ga K "tests_with")) := He.glo_ok X G (c.fact 15 (f := .glo "tests_with") rfl)
  have m_psum_over : mg "sum_over" = some (.ref (He.ga K "sum_over")) := He.glo_ok X G (c.fact 16 (f := .glo "sum_over") rfl)
  have m_prun : mg "run" = some (.ref (He.ga K "run")) := He.glo_ok X G (c.fact 17 (f := .glo "run") rfl)
  have m_psign : mg "sign" = some (.ref (He.ga K "sign")) := He.glo_ok X G (c.fact 18 (f := .glo "sign") rfl)
  have m_pnumbered : mg "numbered" = some (.ref (He.ga K "numbered")) := He.glo_ok X G (c.fact 19 (f := .glo "numbered") rfl)
  have m_pentered : mg "entered" = some (.ref (He.ga K "entered")) := He.glo_ok X G (c.fact 20 (f := .glo "entered") rfl)
  have m_pvalue_of : mg "value_of" = some (.ref (He.ga K "value_of")) := He.glo_ok X G (c.fact 21 (f := .glo "value_of") rfl)
  have m_pis_true : mg "is_true" = some (.ref (He.ga K "is_true")) := He.glo_ok X G (c.fact 22 (f := .glo "is_true") rfl)
  have m_pfamily_error : mg "family_error" = some (.ref (He.ga K "family_error")) := He.glo_ok X G (c.fact 23 (f := .glo "family_error") rfl)
  have m_psigns_at : mg "signs_at" = some (.ref (He.ga K "signs_at")) := He.glo_ok X G (c.fact 24 (f := .glo "signs_at") rfl)
  have m_deck : mg "_law_deck" = some (.ref (He.ga K "_law_deck")) := He.glo_ok X G (c.fact 25 (f := .glo "_law_deck") rfl)
  have m_draw : mg "_law_draw" = some (.ref (He.ga K "_law_draw")) := He.glo_ok X G (c.fact 26 (f := .glo "_law_draw") rfl)
  have m_one : mg "_law_one" = some (.ref (He.ga K "_law_one")) := He.glo_ok X G (c.fact 27 (f := .glo "_law_one") rfl)
  have m_names : mg "_law_names" = some (.ref (He.ga K "_law_names")) := He.glo_ok X G (c.fact 28 (f := .glo "_law_names") rfl)
  have m_expression : mg "_law_expression" = some (.ref (He.ga K "_law_expression")) := He.glo_ok X G (c.fact 29 (f := .glo "_law_expression") rfl)
  have m_test : mg "_law_test" = some (.ref (He.ga K "_law_test")) := He.glo_ok X G (c.fact 30 (f := .glo "_law_test") rfl)
  have m_plain : mg "_law_plain" = some (.ref (He.ga K "_law_plain")) := He.glo_ok X G (c.fact 31 (f := .glo "_law_plain") rfl)
  have m_row : mg "_law_row" = some (.ref (He.ga K "_law_row")) := He.glo_ok X G (c.fact 32 (f := .glo "_law_row") rfl)
  have m_block : mg "_law_block" = some (.ref (He.ga K "_law_block")) := He.glo_ok X G (c.fact 33 (f := .glo "_law_block") rfl)
  have m_program : mg "_law_program" = some (.ref (He.ga K "_law_program")) := He.glo_ok X G (c.fact 34 (f := .glo "_law_program") rfl)
  have m_number : mg "_law_number" = some (.ref (He.ga K "_law_number")) := He.glo_ok X G (c.fact 35 (f := .glo "_law_number") rfl)
  have m_parts : mg "_law_parts" = some (.ref (He.ga K "_law_parts")) := He.glo_ok X G (c.fact 36 (f := .glo "_law_parts") rfl)
  have m_whole : mg "_law_whole" = some (.ref (He.ga K "_law_whole")) := He.glo_ok X G (c.fact 37 (f := .glo "_law_whole") rfl)
  have m_is_name : mg "_law_is_name" = some (.ref (He.ga K "_law_is_name")) := He.glo_ok X G (c.fact 38 (f := .glo "_law_is_name") rfl)
  have m_is_expression : mg "_law_is_expression" = some (.ref (He.ga K "_law_is_expression")) := He.glo_ok X G (c.fact 39 (f := .glo "_law_is_expression") rfl)
  have m_is_rest : mg "_law_is_rest" = some (.ref (He.ga K "_law_is_rest")) := He.glo_ok X G (c.fact 40 (f := .glo "_law_is_rest") rfl)
  have m_is_test : mg "_law_is_test" = some (.ref (He.ga K "_law_is_test")) := He.glo_ok X G (c.fact 41 (f := .glo "_law_is_test") rfl)
  have m_is_statement : mg "_law_is_statement" = some (.ref (He.ga K "_law_is_statement")) := He.glo_ok X G (c.fact 42 (f := .glo "_law_is_statement") rfl)
  have m_counts : mg "_law_counts" = some (.ref (He.ga K "_law_counts")) := He.glo_ok X G (c.fact 43 (f := .glo "_law_counts") rfl)
  have m_error : mg "_law_error" = some (.ref (He.ga K "_law_error")) := He.glo_ok X G (c.fact 44 (f := .glo "_law_error") rfl)
  have m_value : mg "_law_value" = some (.ref (He.ga K "_law_value")) := He.glo_ok X G (c.fact 45 (f := .glo "_law_value") rfl)
  have m_true : mg "_law_true" = some (.ref (He.ga K "_law_true")) := He.glo_ok X G (c.fact 46 (f := .glo "_law_true") rfl)
  have m_size : mg "_law_size" = some (.ref (He.ga K "_law_size")) := He.glo_ok X G (c.fact 47 (f := .glo "_law_size") rfl)
  have m_go : mg "_law_go" = some (.ref (He.ga K "_law_go")) := He.glo_ok X G (c.fact 48 (f := .glo "_law_go") rfl)
  have m_run : mg "_law_run" = some (.ref (He.ga K "_law_run")) := He.glo_ok X G (c.fact 49 (f := .glo "_law_run") rfl)
  have m_sign : mg "_law_sign" = some (.ref (He.ga K "_law_sign")) := He.glo_ok X G (c.fact 50 (f := .glo "_law_sign") rfl)
  have m_family : mg "_law_family" = some (.ref (He.ga K "_law_family")) := He.glo_ok X G (c.fact 51 (f := .glo "_law_family") rfl)
  have m_wrong : mg "_law_wrong" = some (.ref (He.ga K "_law_wrong")) := He.glo_ok X G (c.fact 52 (f := .glo "_law_wrong") rfl)
  have m_family_error : mg "_law_family_error" = some (.ref (He.ga K "_law_family_error")) := He.glo_ok X G (c.fact 53 (f := .glo "_law_family_error") rfl)
  have z_abs : mg "abs" = none := He.free_ok X G (c.fact 55 (f := .free "abs") rfl)
  have z_all : mg "all" = none := He.free_ok X G (c.fact 56 (f := .free "all") rfl)
  have z_bool : mg "bool" = none := He.free_ok X G (c.fact 57 (f := .free "bool") rfl)
  have z_enumerate : mg "enumerate" = none := He.free_ok X G (c.fact 58 (f := .free "enumerate") rfl)
  have z_int : mg "int" = none := He.free_ok X G (c.fact 59 (f := .free "int") rfl)
  have z_isinstance : mg "isinstance" = none := He.free_ok X G (c.fact 60 (f := .free "isinstance") rfl)
  have z_len : mg "len" = none := He.free_ok X G (c.fact 61 (f := .free "len") rfl)
  have z_list : mg "list" = none := He.free_ok X G (c.fact 62 (f := .free "list") rfl)
  have z_max : mg "max" = none := He.free_ok X G (c.fact 63 (f := .free "max") rfl)
  have z_range : mg "range" = none := He.free_ok X G (c.fact 64 (f := .free "range") rfl)
  have z_repr : mg "repr" = none := He.free_ok X G (c.fact 65 (f := .free "repr") rfl)
  have z_str : mg "str" = none := He.free_ok X G (c.fact 66 (f := .free "str") rfl)
  have z_sum : mg "sum" = none := He.free_ok X G (c.fact 67 (f := .free "sum") rfl)
  have z_tuple : mg "tuple" = none := He.free_ok X G (c.fact 68 (f := .free "tuple") rfl)
  obtain ⟨t_MAX_NAME, m_MAX_NAME⟩ := He.int_ok X G (c.fact 69 (f := .int "MAX_NAME" 8) rfl)
  obtain ⟨t_MAX_TIMES, m_MAX_TIMES⟩ := He.int_ok X G (c.fact 70 (f := .int "MAX_TIMES" 8) rfl)
  obtain ⟨t_MAX_DEEP, m_MAX_DEEP⟩ := He.int_ok X G (c.fact 71 (f := .int "MAX_DEEP" 3) rfl)
  obtain ⟨t_MAX_NOTS, m_MAX_NOTS⟩ := He.int_ok X G (c.fact 72 (f := .int "MAX_NOTS" 2) rfl)
  obtain ⟨t_MAX_BY, m_MAX_BY⟩ := He.int_ok X G (c.fact 73 (f := .int "MAX_BY" 6) rfl)
  obtain ⟨t_MAX_PLACES, m_MAX_PLACES⟩ := He.int_ok X G (c.fact 74 (f := .int "MAX_PLACES" 24) rfl)
  obtain ⟨t_MAX_WEIGHT, m_MAX_WEIGHT⟩ := He.int_ok X G (c.fact 75 (f := .int "MAX_WEIGHT" 30) rfl)
  obtain ⟨t_MAX_RESTS, m_MAX_RESTS⟩ := He.int_ok X G (c.fact 76 (f := .int "MAX_RESTS" 2) rfl)
  obtain ⟨t_MAX_COMPARINGS, m_MAX_COMPARINGS⟩ := He.int_ok X G (c.fact 77 (f := .int "MAX_COMPARINGS" 2) rfl)
  obtain ⟨t_MAX_NEST, m_MAX_NEST⟩ := He.int_ok X G (c.fact 78 (f := .int "MAX_NEST" 3) rfl)
  obtain ⟨t_MAX_FAMILY, m_MAX_FAMILY⟩ := He.int_ok X G (c.fact 79 (f := .int "MAX_FAMILY" 5) rfl)
  obtain ⟨t_MAX_CONSTANT, m_MAX_CONSTANT⟩ := He.int_ok X G (c.fact 80 (f := .int "MAX_CONSTANT" 99) rfl)
  obtain ⟨t_MAX_FACTOR, m_MAX_FACTOR⟩ := He.int_ok X G (c.fact 81 (f := .int "MAX_FACTOR" 9) rfl)
  obtain ⟨t_MIN_BY, m_MIN_BY⟩ := He.int_ok X G (c.fact 82 (f := .int "MIN_BY" 2) rfl)
  obtain ⟨t_LETTERS, m_LETTERS⟩ := He.str_ok X G (c.fact 83 (f := .str "LETTERS" "abcdefghijklmnopqrstuvwxyz") rfl)
  obtain ⟨t_DIGITS, m_DIGITS⟩ := He.str_ok X G (c.fact 84 (f := .str "DIGITS" "0123456789") rfl)
  have m_WORDS : mg "WORDS" = some (.ref (He.ga K "WORDS")) := He.glo_ok X G (c.fact 85 (f := .glo "WORDS") rfl)
  have G_deck : FnOk P w K mg base CX0 1 (He.ga K "_law_deck") fd_deck ["_law_script"] (spDeck K) := by apply ok_deck (k := 0) <;> assumption
  have G_draw : FnOk P w K mg base CX0 1 (He.ga K "_law_draw") fd_draw ["_law_deck_here", "_law_many"] spDraw := by apply ok_draw (k := 0) <;> assumption
  have G_one : FnOk P w K mg base CX0 2 (He.ga K "_law_one") fd_one ["_law_deck_here", "_law_items"] (spOne K) := by apply ok_one (k := 0) <;> assumption
  have G_expr : ∀ d : Nat, FnOk P w K mg base CX0 (d + 2) (He.ga K "_law_expression") fd_expression ["_law_deck_here", "_law_names_here", "_law_deep"] (spExpr K d) := by apply ok_expr <;> assumption
  have G_expr3 : FnOk P w K mg base CX0 5 (He.ga K "_law_expression") fd_expression ["_law_deck_here", "_law_names_here", "_law_deep"] (spExpr K 3) := G_expr 3
  have G_expr2 : FnOk P w K mg base CX0 4 (He.ga K "_law_expression") fd_expression ["_law_deck_here", "_law_names_here", "_law_deep"] (spExpr K 2) := G_expr 2
  have G_test : FnOk P w K mg base CX0 6 (He.ga K "_law_test") fd_test ["_law_deck_here", "_law_names_here", "_law_room", "_law_times"] (spTest K) := by apply ok_test <;> assumption
  have G_plain : FnOk P w K mg base CX0 6 (He.ga K "_law_plain") fd_plain ["_law_deck_here", "_law_names_here"] (spPlain K) := by apply ok_plain <;> assumption
  have G_block : ∀ d : Nat, d ≤ 4 → FnOk P w K mg base CX0 (6 + 2 * d) (He.ga K "_law_block") fd_block ["_law_deck_here", "_law_names_here", "_law_room", "_law_times", "_law_depth"] (spBlock K d) := by
    intro d
    induction d with
    | zero => exact fun _ => ok_block0 (k := 5) F_block
    | succ d ih =>
      intro hd
      have G_block := ih (by omega)
      have G_row : FnOk P w K mg base CX0 (6 + 2 * d + 1) (He.ga K "_law_row") fd_row ["_law_deck_here", "_law_names_here", "_law_room", "_law_times", "_law_depth"] (spRow K d) := by apply ok_row <;> assumption
      have hd3 : d ≤ 3 := by omega
      exact (show FnOk P w K mg base CX0 (6 + 2 * d + 1 + 1) (He.ga K "_law_block") fd_block _ (spBlock K (d + 1)) by apply ok_block hd3 <;> assumption)
  have G_block4 : FnOk P w K mg base CX0 14 (He.ga K "_law_block") fd_block ["_law_deck_here", "_law_names_here", "_law_room", "_law_times", "_law_depth"] (spBlock K 4) := G_block 4 (by omega)
  have G_program : FnOk P w K mg base CX0 15 (He.ga K "_law_program") fd_program ["_law_deck_here", "_law_names_here"] (spProgram K) := by apply ok_program <;> assumption
  have G_names : FnOk P w K mg base CX0 3 (He.ga K "_law_names") fd_names ["_law_deck_here"] (spNames K) := by apply ok_names (k := 0) <;> assumption
  have G_parts : FnOk P w K mg base CX0 1 (He.ga K "_law_parts") fd_parts ["_law_row_here"] spParts := ok_parts (k := 0) F_parts
  have G_number : FnOk P w K mg base CX0 3 (He.ga K "_law_number") fd_number ["_law_deck_here"] spNumber := by apply ok_number <;> assumption
  have G_sign : FnOk P w K mg base CX0 1 (He.ga K "_law_sign") fd_sign ["_law_total"] spSign := by apply ok_sign (k := 0) <;> assumption
  have G_value : ∀ ns, FnOk P w K mg base CX0 4 (He.ga K "_law_value") fd_value ["_law_expression_here", "_law_names_here"] (spValue ns 3) := fun ns => ok_value F_value b_value m_value z_isinstance z_int z_str 3
  have G_true : ∀ ns, FnOk P w K mg base CX0 7 (He.ga K "_law_true") fd_true ["_law_test_here", "_law_names_here"] (spTrue ns 3) := fun ns => ok_true F_true F_value b_true b_value m_true m_value (G_value ns) z_int 3
  have G_size : ∀ d, FnOk P w K mg base CX0 (d + 1) (He.ga K "_law_size") fd_size ["_law_block_here"] (spSize d) := by apply ok_size <;> assumption
  have G_go : ∀ ns, FnOk P w K mg base CX0 13 (He.ga K "_law_go") fd_go ["_law_world", "_law_block_here", "_law_place"] (spGo ns 5) := fun ns => ok_go F_go F_true F_value F_size b_go b_true b_value b_size m_go m_true m_value m_size (G_true ns) (G_value ns) G_size 5
  have G_run : FnOk P w K mg base CX0 14 (He.ga K "_law_run") fd_run ["_law_program_here", "_law_number_here"] spRunA := FnOk.ex fun ns => ok_run F_run F_go (G_go ns) b_go m_go z_tuple
  -- the program's own
  have G_pis_integer : FnOk P w K mg base CX0 1 (He.ga K "is_integer") fd_pis_integer ["value"] spIsInt := ok_pis_integer (k := 0) F_pis_integer z_isinstance z_int z_bool
  have G_pblocks_of : FnOk P w K mg base CX0 1 (He.ga K "blocks_of") fd_pblocks_of ["statement"] spBlocks := ok_pblocks_of (k := 0) F_pblocks_of
  have G_peach : GFn P w K mg base 2 (He.ga K "each_statement") fd_peach_statement ["program"] spEach := ok_peach F_peach_statement F_pblocks_of G_pblocks_of b_pblocks_of m_pblocks_of
  have G_pplaces : FnOk P w K mg base CX0 6 (He.ga K "places_in") fd_pplaces_in ["block"] spPlaces := ok_pplaces F_pplaces_in F_peach_statement G_peach b_peach_statement m_peach_statement z_len z_list
  have G_pvalue : ∀ ns, FnOk P w K mg base CX0 5 (He.ga K "value_of") fd_pvalue_of ["expression", "names"] (spValue ns 3) := fun ns => ok_pvalue F_pvalue_of F_pis_integer G_pis_integer b_pvalue_of b_pis_integer m_pvalue_of m_pis_integer z_isinstance z_str 3
  have G_ptrue : ∀ ns, FnOk P w K mg base CX0 8 (He.ga K "is_true") fd_pis_true ["test", "names"] (spTrue ns 3) := fun ns => ok_ptrue F_pis_true F_pvalue_of b_pis_true b_pvalue_of m_pis_true m_pvalue_of (G_pvalue ns) 3
  have G_pnumbered : FnOk P w K mg base CX0 7 (He.ga K "numbered") fd_pnumbered ["block", "place"] spNumbered := ok_pnumbered F_pnumbered F_pplaces_in G_pplaces b_pplaces_in m_pplaces_in
  have G_pentered : ∀ ns, FnOk P w K mg base CX0 9 (He.ga K "entered") fd_pentered ["statement", "place", "names"] (spEntered ns) := fun ns => ok_pentered F_pentered F_pnumbered F_pplaces_in F_pis_true G_pnumbered G_pplaces (G_ptrue ns) b_pnumbered b_pplaces_in b_pis_true m_pnumbered m_pplaces_in m_pis_true
  have G_prun : FnOk P w K mg base CX0 10 (He.ga K "run") fd_prun ["program", "number"] spRunA := FnOk.ex fun ns => ok_prun F_prun F_pnumbered F_pvalue_of F_pentered G_pnumbered (G_pvalue ns) (G_pentered ns) b_pnumbered b_pvalue_of b_pentered m_pnumbered m_pvalue_of m_pentered z_tuple
  have G_psign : FnOk P w K mg base CX0 11 (He.ga K "sign") fd_psign ["program", "number"] spSignA := ok_psign F_psign F_prun G_prun b_prun m_prun z_int
  -- what is wrong with a program
  have G_gint : FnOk P w K mg base CX0 1 (He.ga K "is_integer") fd_pis_integer ["value"] spIsIntG := ok_gint (k := 0) F_pis_integer z_isinstance z_int z_bool
  have G_pis_between : FnOk P w K mg base CX0 2 (He.ga K "is_between") fd_pis_between ["value", "low", "high"] spBetG := ok_gbetween (k := 0) F_pis_between F_pis_integer G_gint b_pis_integer m_pis_integer
  have G_pis_headed : FnOk P w K mg base CX0 1 (He.ga K "is_headed") fd_pis_headed ["value", "word", "size"] spHeadG := ok_gheaded (k := 0) F_pis_headed z_isinstance z_tuple z_len
  have G_pis_name : FnOk P w K mg base CX0 1 (He.ga K "is_name") fd_pis_name ["value"] spNameG := ok_gname (k := 0) F_pis_name m_MAX_NAME m_WORDS h_WORDS m_LETTERS m_DIGITS z_isinstance z_str z_len z_all
  have G_pexpr : ∀ m : Nat, FnOk P w K mg base CX0 (m + 3) (He.ga K "is_expression") fd_pis_expression ["value", "deep"] (spExprG m) := by apply ok_gexpr <;> assumption
  have G_pis_expression : FnOk P w K mg base CX0 7 (He.ga K "is_expression") fd_pis_expression ["value", "deep"] (spExprG 4) := G_pexpr 4
  have G_ptest : ∀ m : Nat, FnOk P w K mg base CX0 (m + 7) (He.ga K "is_test") fd_pis_test ["value", "nots"] (spTestG m) := by apply ok_gtest <;> assumption
  have G_pis_test : FnOk P w K mg base CX0 10 (He.ga K "is_test") fd_pis_test ["value", "nots"] (spTestG 3) := G_ptest 3
  have G_pis_statement : FnOk P w K mg base CX0 11 (He.ga K "is_statement") fd_pis_statement ["value"] spStG := by apply ok_gstatement <;> assumption
  have G_pbare_test : FnOk P w K mg base CX0 1 (He.ga K "bare_test") fd_pbare_test ["test"] spBare := ok_pbare (k := 0) F_pbare_test
  have G_ptests_with : FnOk P w K mg base CX0 2 (He.ga K "tests_with") fd_ptests_with ["statement", "word"] spTestsWith := ok_ptests (k := 0) F_ptests_with F_pbare_test G_pbare_test b_pbare_test m_pbare_test
  have G_sum : ∀ (T : Addr → Hp → Prop) (own : St → Int), HeldL P w K mg base 4 T (spOwn own) → ∀ d : Nat, FnOk P w K mg base CX0 (d + 5) (He.ga K "sum_over") fd_psum_over ["block", "own"] (spSum T own d) := fun T own hh => ok_psum F_psum_over F_pblocks_of G_pblocks_of b_psum_over b_pblocks_of m_psum_over m_pblocks_of z_sum hh
  have G_pweight : FnOk P w K mg base CX0 11 (He.ga K "weight") fd_pweight ["program"] (spWeight (He.cT K dW).2 (He.cT K dT).2 5) := ok_pweight (D := 5) C_pweight F_psum_over TB1 hne G_sum b_psum_over m_psum_over
  have G_ptested_in : FnOk P w K mg base CX0 11 (He.ga K "tested_in") fd_ptested_in ["block", "word"] (spTested (He.cT K dW).2 (He.cT K dT).2 5) := ok_ptested (D := 5) C_ptested_in F_psum_over TB2 hne F_ptests_with G_ptests_with b_ptests_with m_ptests_with z_int G_sum b_psum_over m_psum_over
  have G_pbound_error : FnOk P w K mg base CX0 12 (He.ga K "bound_error") fd_pbound_error ["program"] (spBound (He.cT K dW).2 (He.cT K dT).2 5) := ok_pbound (D := 5) F_pbound_error F_pplaces_in C_pweight C_ptested_in G_pplaces G_pweight G_ptested_in b_pplaces_in b_pweight b_ptested_in m_pplaces_in m_pweight m_ptested_in m_MAX_PLACES m_MAX_WEIGHT m_MAX_RESTS m_MAX_COMPARINGS
  have G_pblocksG : FnOk P w K mg base CX0 1 (He.ga K "blocks_of") fd_pblocks_of ["statement"] spBlocksG := ok_gblocks (k := 0) F_pblocks_of
  have G_pprogram_error : FnOk P w K mg base CX0 17 (He.ga K "program_error") fd_pprogram_error ["value"] (spPEG (He.cT K dW).2 (He.cT K dT).2) := ok_gperr F_pprogram_error F_peach_statement F_pblocks_of F_pis_statement F_pbound_error G_pblocksG G_pis_statement G_pbound_error b_peach_statement b_pblocks_of b_pis_statement b_pbound_error m_peach_statement m_pblocks_of m_pis_statement m_pbound_error m_MAX_NEST z_isinstance z_tuple
  -- the law's own reading
  have G_partsG : FnOk P w K mg base CX0 1 (He.ga K "_law_parts") fd_parts ["_law_row_here"] spPartsG := ok_gparts (k := 0) F_parts
  have G_whole : FnOk P w K mg base CX0 1 (He.ga K "_law_whole") fd_whole ["_law_value_here", "_law_least", "_law_most"] spWholeG := ok_gwhole (k := 0) F_whole z_isinstance z_int z_bool
  have G_is_name : FnOk P w K mg base CX0 1 (He.ga K "_law_is_name") fd_is_name ["_law_value_here"] spNameG := ok_glname (k := 0) F_is_name z_isinstance z_str z_len
  have G_is_expression : FnOk P w K mg base CX0 6 (He.ga K "_law_is_expression") fd_is_expression ["_law_value_here", "_law_deep"] (spExprG 4) := ok_glexpr F_is_expression F_is_name F_whole G_is_name G_whole b_is_expression b_is_name b_whole m_is_expression m_is_name m_whole z_isinstance z_tuple z_str z_len 4
  have G_is_rest : FnOk P w K mg base CX0 7 (He.ga K "_law_is_rest") fd_is_rest ["_law_value_here"] spRestG := ok_glrest (k := 6) (by omega) F_is_rest F_is_expression F_whole G_is_expression G_whole b_is_expression b_whole m_is_expression m_whole
  have G_is_test : FnOk P w K mg base CX0 11 (He.ga K "_law_is_test") fd_is_test ["_law_value_here", "_law_nots"] (spTestG 3) := ok_gltest F_is_test F_is_expression F_is_rest G_is_expression G_is_rest b_is_test b_is_expression b_is_rest m_is_test m_is_expression m_is_rest z_isinstance z_tuple z_str z_len 3
  have G_is_statement : FnOk P w K mg base CX0 12 (He.ga K "_law_is_statement") fd_is_statement ["_law_value_here"] spStG := ok_glstat F_is_statement F_is_expression F_is_name F_is_test F_whole F_parts G_is_expression G_is_name G_is_test G_whole G_partsG b_is_expression b_is_name b_is_test b_whole b_parts m_is_expression m_is_name m_is_test m_whole m_parts z_isinstance z_tuple z_str z_len
  have G_counts : FnOk P w K mg base CX0 6 (He.ga K "_law_counts") fd_counts ["_law_block_here"] (spCounts 5) := ok_lcounts F_counts F_parts G_parts b_counts b_parts m_counts m_parts z_int z_range 5
  have G_error : FnOk P w K mg base CX0 13 (He.ga K "_law_error") fd_error ["_law_value_here"] spLErrG := ok_glerr F_error F_is_statement F_parts F_counts G_is_statement G_partsG G_counts b_is_statement b_parts b_counts m_is_statement m_parts m_counts z_isinstance z_tuple z_enumerate
  have G_pfamily_error : FnOk P w K mg base CX0 18 (He.ga K "family_error") fd_pfamily_error ["value"] (spFEG (He.cT K dW).2 (He.cT K dT).2) := ok_pfam F_pfamily_error F_pprogram_error G_pprogram_error b_pprogram_error m_pprogram_error m_MAX_FAMILY z_isinstance z_tuple z_len z_enumerate
  have G_psigns_at : FnOk P w K mg base CX0 12 (He.ga K "signs_at") fd_psigns_at ["family", "number"] spSA := ok_psigns F_psigns_at F_psign G_psign b_psign m_psign z_tuple
  have G_wrong : FnOk P w K mg base CX0 3 (He.ga K "_law_wrong") fd_wrong ["_law_deck_here", "_law_program_here"] (spWrong28 K) := ok_wrong F_wrong F_one G_one b_one m_one z_list
  have G_family : FnOk P w K mg base CX0 16 (He.ga K "_law_family") fd_family ["_law_deck_here", "_law_names_here"] (spFam28 K) := ok_family F_family F_draw F_one F_program G_draw G_one G_program b_draw b_one b_program m_draw m_one m_program z_range z_tuple
  have G_family_error : FnOk P w K mg base CX0 14 (He.ga K "_law_family_error") fd_family_error ["_law_value_here"] spLFE := ok_lfam F_family_error F_error G_error b_error m_error z_isinstance z_tuple z_len z_range
  exact ok_law28 F_law F_deck F_names F_family F_wrong F_family_error F_pfamily_error F_number F_run F_sign F_psigns_at F_draw G_deck G_names G_family G_wrong G_family_error G_pfamily_error G_number G_run G_sign G_psigns_at G_draw b_deck b_names b_family b_wrong b_family_error b_pfamily_error b_number b_run b_sign b_psigns_at b_draw m_deck m_names m_family m_wrong m_family_error m_pfamily_error m_number m_run m_sign m_psigns_at m_draw z_repr z_range z_list z_len z_tuple
end GA
open PyProof.Rows PySem PySem.W PySem.Calls
set_option maxHeartbeats 0 in
set_option maxRecDepth 200000 in
theorem PySem.Challenge.cw_whichheld_k28_families_and_signs_holds : PySem.Challenge.rw_whichheld_k28_families_and_signs.Holds := by
  w_on; o_law
  refine HandSHeadRun.head_any (r := GA.R) (q := view GA.R.prog [76]) (H := GA.hookH) (ob := GA.obsH) (M := 9000) (loose := GA.looseN) (d := HandSHeadRun.topDef GA.R.prog 76) (kwd := []) GA.obsH_eq
    (by kernel_rfl) (fun s => by kernel_rfl) GA.run_head (by kernel_rfl) (by kernel_rfl) (by kernel_rfl) (by rfl) (by first | assumption | decide +kernel) (by decide +kernel) ⟨rfl, rfl, rfl, rfl, rfl, by decide +kernel⟩ ?hw ?hc
  case hw => w_witness2
  case hc =>
    refine GA.walk_ofEGT (l := PySem.Challenge.rw_whichheld_k28_families_and_signs) (n := 63) (k := 20) (x := "_law_script") rfl (by decide) ⟨rfl, by decide, by decide⟩ (by kernel_rfl) ?F
    intro w mg fa h Y G hmg0; obtain ⟨K, KX, c⟩ := Y
    have hmg : mg ("law" : PySem.Str) = some (.ref fa) := (show (HandSHeadRun.topDef GA.R.prog 76).name = ("law" : PySem.Str) by kernel_rfl) ▸ hmg0
    obtain ⟨fd, hb, hF⟩ := GA.facts (P := (PySem.Challenge.rw_whichheld_k28_families_and_signs).prog) (w := w) KX G hmg c
    have two : ∀ {A : PySem.Addr × PySem.Addr → Prop}, (∀ p ∈ [GA.dW, GA.dT], A (He.cT K p)) → ∀ p ∈ GA.csK K, A p := fun {A} z p hp => by
      rcases List.mem_cons.1 hp with rfl | hp
      · exact z _ (List.mem_cons_self ..)
      · rw [List.mem_singleton.1 hp]; exact z _ (List.mem_cons_of_mem _ (List.mem_cons_self ..))
    refine ⟨K, GA.csK K, fd, GA.spLawT K (He.cT K GA.dW).2 (He.cT K GA.dT).2, KX, two c.empty, two c.out, two fun p hp => codeHd_of_K KX (c.hd p hp), hb, fun H a ns hl hT hS => ⟨a, ns, rfl, hS, hl, fun p hp => ?_, fun _ => rfl⟩, hF⟩
    rcases List.mem_cons.1 hp with rfl | hp
    · exact LamX.TabS.nil (hT _ (List.mem_cons_self ..))
    · rw [List.mem_singleton.1 hp]; exact LamX.TabS.nil (hT _ (List.mem_cons_of_mem _ (List.mem_cons_self ..)))
