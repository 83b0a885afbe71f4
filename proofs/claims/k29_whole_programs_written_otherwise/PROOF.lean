import PyProof.Rows.All
import Wide.All
import OpenK.AllK
import Wide.FinOn
import KE.KStateDown
import HandS.ForMost
import HandS.Wide
import HandS.TupAny
import HandS.Codes
import HandS.IsInst
import HandS.Style
import HandS.GenList
import HandS.GenYield
import HandS.Nested
import HandS.Lambda
import HandS.Defaults
import HandS.Walk
import HandS.TupMul
import HandS.EndTab
import HandS.HeadWalk
import HandS.HeadEnd
import HandS.Head0
import HandS.Head1
import HandS.Head2
import HandS.HeadHook1
import HandS.HeadHook2
import HandS.HeadHook3
import HandS.HeadHook4
import PySem.Challenge.RW_whichheld_k29_whole_programs_written_oth
set_option Elab.async false
set_option linter.all false
set_option maxRecDepth 100000
namespace GA
open L2 PySem PySem.Spec PyProof.Rows
def topS (i : Nat) : Stmt := PySem.Challenge.pw_whichheld_k29_whole_programs_written_oth.main.body.getD i (.Pass ⟨0, 0, 0, 0⟩)
abbrev sDeck : Stmt := topS 43
abbrev nDeck : List Str := ["_law_script", "_law_cell"]
theorem scDeck : FnScope nDeck ["_law_script"] (defScope sDeck) := ⟨rfl, rfl, rfl, by decide +kernel, rfl, by decide +kernel, by decide +kernel⟩
abbrev sDraw : Stmt := topS 44
abbrev nDraw : List Str := ["_law_deck_here", "_law_many", "_law_cell", "_law_at", "_law_mixed"]
theorem scDraw : FnScope nDraw ["_law_deck_here", "_law_many"] (defScope sDraw) := ⟨rfl, rfl, rfl, by decide +kernel, rfl, by decide +kernel, by decide +kernel⟩
abbrev sOne : Stmt := topS 45
abbrev nOne : List Str := ["_law_deck_here", "_law_items"]
theorem scOne : FnScope nOne ["_law_deck_here", "_law_items"] (defScope sOne) := ⟨rfl, rfl, rfl, by decide +kernel, rfl, by decide +kernel, by decide +kernel⟩
abbrev sNames : Stmt := topS 46
abbrev nNames : List Str := ["_law_deck_here", "_law_letters", "_law_signs", "_law_words", "_law_at", "_law_size", "_law_before", "_law_behind", "_law_k"]
theorem scNames : FnScope nNames ["_law_deck_here"] (defScope sNames) := ⟨rfl, rfl, rfl, by decide +kernel, rfl, by decide +kernel, by decide +kernel⟩
abbrev sExpression : Stmt := topS 47
abbrev nExpression : List Str := ["_law_deck_here", "_law_names_here", "_law_deep", "_law_way", "_law_factor", "_law_first"]
theorem scExpression : FnScope nExpression ["_law_deck_here", "_law_names_here", "_law_deep"] (defScope sExpression) := ⟨rfl, rfl, rfl, by decide +kernel, rfl, by decide +kernel, by decide +kernel⟩
abbrev sTest : Stmt := topS 48
abbrev nTest : List Str := ["_law_deck_here", "_law_names_here", "_law_room", "_law_times", "_law_nots", "_law_test_here", "_law_by", "_law_first", "_law_k"]
theorem scTest : FnScope nTest ["_law_deck_here", "_law_names_here", "_law_room", "_law_times"] (defScope sTest) := ⟨rfl, rfl, rfl, by decide +kernel, rfl, by decide +kernel, by decide +kernel⟩
abbrev sPlain : Stmt := topS 49
abbrev nPlain : List Str := ["_law_deck_here", "_law_names_here", "_law_way", "_law_name"]
theorem scPlain : FnScope nPlain ["_law_deck_here", "_law_names_here"] (defScope sPlain) := ⟨rfl, rfl, rfl, by decide +kernel, rfl, by decide +kernel, by decide +kernel⟩
abbrev sRow : Stmt := topS 50
abbrev nRow : List Str := ["_law_deck_here", "_law_names_here", "_law_room", "_law_times", "_law_depth", "_law_way", "_law_test_here", "_law_yes", "_law_again"]
theorem scRow : FnScope nRow ["_law_deck_here", "_law_names_here", "_law_room", "_law_times", "_law_depth"] (defScope sRow) := ⟨rfl, rfl, rfl, by decide +kernel, rfl, by decide +kernel, by decide +kernel⟩
abbrev sBlock : Stmt := topS 51
abbrev nBlock : List Str := ["_law_deck_here", "_law_names_here", "_law_room", "_law_times", "_law_depth", "_law_many", "_law_rows", "_law_k", "_law_row_here"]
theorem scBlock : FnScope nBlock ["_law_deck_here", "_law_names_here", "_law_room", "_law_times", "_law_depth"] (defScope sBlock) := ⟨rfl, rfl, rfl, by decide +kernel, rfl, by decide +kernel, by decide +kernel⟩
abbrev sProgram : Stmt := topS 52
abbrev nProgram : List Str := ["_law_deck_here", "_law_names_here", "_law_room", "_law_program_here", "_law_k"]
theorem scProgram : FnScope nProgram ["_law_deck_here", "_law_names_here"] (defScope sProgram) := ⟨rfl, rfl, rfl, by decide +kernel, rfl, by decide +kernel, by decide +kernel⟩
/-! ### heaps: all but some stand as they stood -/
def Sx (ex : List Addr) (H H' : Hp) : Prop := ∀ b o, b ∉ ex → H b = some o → H' b = some o
theorem Sx.refl {ex : List Addr} (H : Hp) : Sx ex H H := fun _ _ _ h => h
theorem Sx.trans {ex : List Addr} {H H1 H2 : Hp} (a : Sx ex H H1) (b : Sx ex H1 H2) : Sx ex H H2 := fun x o n h => b x o n (a x o n h)
theorem Sx.mono {ex fx : List Addr} {H H' : Hp} (a : Sx ex H H') (h : ∀ b ∈ ex, b ∈ fx) : Sx fx H H' := fun x o n e => a x o (fun z => n (h x z)) e
theorem Sx.nil {ex : List Addr} {H H' : Hp} (a : Sx [] H H') : Sx ex H H' := a.mono (fun _ z => by cases z)
theorem Sx.put {ex : List Addr} {H H' : Hp} {p : Addr} {o : HO} (a : Sx ex H H') (h : p ∈ ex) : Sx ex H (upd H' p o) := fun x u n e => by
  rw [upd_ne (fun z => n (by rw [z]; exact h))]
  exact a x u n e
/-- what was not there ahead may change -/
theorem Sx.own {ex : List Addr} {H H' : Hp} {p : Addr} {o : HO} (a : Sx ex H H') (h : H p = none) : Sx ex H (upd H' p o) := fun x u n e => by
  rw [upd_ne (ne_of_none e h)]
  exact a x u n e
theorem Sx.new {ex : List Addr} {H H' : Hp} {p : Addr} {o : HO} (a : Sx ex H H') (h : H' p = none) : Sx ex H (upd H' p o) := fun x u n e => by
  rw [upd_ne (ne_of_none (a x u n e) h)]
  exact a x u n e
theorem Sx.same {H H' : Hp} (a : Sx [] H H') : Same H H' := fun b o e => a b o (fun z => by cases z) e
theorem Sx.of {ex : List Addr} {H H' : Hp} (a : Same H H') : Sx ex H H' := fun b o _ e => a b o e
/-- free behind is free ahead, but for what may go -/
theorem Sx.free {ex : List Addr} {H H' : Hp} {p : Addr} (a : Sx ex H H') (hx : p ∉ ex) (h : H' p = none) : H p = none := by
  cases e : H p with
  | none => rfl
  | some o => rw [a p o hx e] at h; cases h
/-! ### the deck -/
/-- the deck at a: its cells at c, k numbers drawn -/
structure Dk (H : Hp) (a c : Addr) (cs : List Int) (k : Int) : Prop where
  ha : H a = some (.lst [.ref c, .int k])
  hc : H c = some (.lst (cs.map V.int))
  pos : ∀ x ∈ cs, 0 ≤ x
  len : cs.length ≤ 63
  k0 : 0 ≤ k
theorem Dk.ne {H : Hp} {a c : Addr} {cs : List Int} {k : Int} (D : Dk H a c cs k) : a ≠ c := fun e => by
  have h1 := D.ha
  rw [e, D.hc] at h1
  match cs, h1 with
  | [x, y], h1 => simp at h1
theorem Dk.sx {H H' : Hp} {a c : Addr} {cs : List Int} {k : Int} {ex : List Addr} (D : Dk H a c cs k) (s : Sx ex H H') (h1 : a ∉ ex) (h2 : c ∉ ex) : Dk H' a c cs k := ⟨s _ _ h1 D.ha, s _ _ h2 D.hc, D.pos, D.len, D.k0⟩
theorem Dk.same {H H' : Hp} {a c : Addr} {cs : List Int} {k : Int} (D : Dk H a c cs k) (s : Sx [] H H') : Dk H' a c cs k := D.sx s (by simp) (by simp)
/-- so many numbers may be drawn in all -/
abbrev KB : Int := 1099511627776
/-- go on from any heap of which as much is known -/
theorem gh {R F : Hp → Prop} {H1 : Hp} (f : F H1) (h : ∀ H2, F H2 → R H2) : R H1 := h H1 f
theorem lt_line {n : Nat} (h : n < 16777216) : n < sizeLine := h
theorem le_line {n : Nat} (h : n ≤ 16777216) : n ≤ sizeLine := h
theorem ixN_of {n j : Nat} {i : Int} (e : i = (j : Int)) (hj : j < n) : ixN n i = some j := by
  subst e
  unfold ixN
  rw [if_pos (by omega)]; rw [if_pos (by omega)]; simp
theorem Sx.rd {ex : List Addr} {H H' : Hp} {p : Addr} {u : HO} (a : Sx ex H H') (h : p ∉ ex) (r : Rd H p u) : Rd H' p u := by
  rcases r with r | ⟨o, r⟩
  · exact .inl (a _ _ h r)
  · exact .inr ⟨o, a _ _ h r⟩
theorem Sx.seqL {ex : List Addr} {H H' : Hp} {K : PySem.W.Frag} {p : Addr} {xs : List V} (a : Sx ex H H') (h : p ∉ ex) (r : SqL K H p xs) : SqL K H' p xs := r.imp (a.rd h) id
theorem Sx.seqT {ex : List Addr} {H H' : Hp} {K : PySem.W.Frag} {p : Addr} {xs : List V} (a : Sx ex H H') (h : p ∉ ex) (r : SqT K H p xs) : SqT K H' p xs := r.imp (a.rd h) id
theorem ix_or {X : Cx} {r r' : R2} (h : IxR X r) (h' : IxR X r') : IxR X (fun x y H Q => r x y H Q ∨ r' x y H Q) := by
  intro e1 e2 pins s σ H x y v u Q I rx ry q hs
  rcases q with q | q
  · exact h e1 e2 pins s σ H x y v u Q I rx ry q hs
  · exact h' e1 e2 pins s σ H x y v u Q I rx ry q hs
theorem cr_or {X : Cx} {f : Value} {r r' : List V → Hp → VK → Prop} (h : CallR X f r) (h' : CallR X f r') : CallR X f (fun x H Q => r x H Q ∨ r' x H Q) := by
  intro pins s σ H xs us Q I rx q
  rcases q with q | q
  · exact h pins s σ H xs us Q I rx q
  · exact h' pins s σ H xs us Q I rx q
/-! ### data of tuples -/
mutual
/-- v is the data d, tuples of ints and texts within one another -/
inductive Tp (H : Hp) : V → PyData → Prop where
  | non : Tp H .non .none
  | bl (b : Bool) : Tp H (.bl b) (.bool b)
  | int (i : Int) : Tp H (.int i) (.int i)
  | str (x : Str) : Tp H (.str x) (.str x)
  | tup {a : Addr} {xs : List V} {ds : List PyData} : H a = some (.tup xs) → TpAll H xs ds → Tp H (.ref a) (.tuple ds)
inductive TpAll (H : Hp) : List V → List PyData → Prop where
  | nil : TpAll H [] []
  | cons {v : V} {vs : List V} {d : PyData} {ds : List PyData} : Tp H v d → TpAll H vs ds → TpAll H (v :: vs) (d :: ds)
end
/-- the tuples stand as they stood -/
def Tk (H H' : Hp) : Prop := ∀ b xs, H b = some (.tup xs) → H' b = some (.tup xs)
theorem Tk.refl (H : Hp) : Tk H H := fun _ _ h => h
theorem Tk.trans {H H1 H2 : Hp} (a : Tk H H1) (b : Tk H1 H2) : Tk H H2 := fun x o h => b x o (a x o h)
theorem Sx.tk {ex : List Addr} {H H' : Hp} (s : Sx ex H H') (h : ∀ b ∈ ex, ∃ ys, H b = some (.lst ys)) : Tk H H' := fun b xs e => s b _ (fun hb => by
  obtain ⟨ys, e'⟩ := h b hb
  rw [e] at e'
  cases e') e
theorem Sx.tk0 {H H' : Hp} (s : Sx [] H H') : Tk H H' := s.tk (fun _ z => by cases z)
mutual
theorem Tp.keep {H H' : Hp} (s : Tk H H') : ∀ {v : V} {d : PyData}, Tp H v d → Tp H' v d
  | _, _, .non => .non
  | _, _, .bl b => .bl b
  | _, _, .int i => .int i
  | _, _, .str x => .str x
  | _, _, .tup h a => .tup (s _ _ h) (TpAll.keep s a)
theorem TpAll.keep {H H' : Hp} (s : Tk H H') : ∀ {vs : List V} {ds : List PyData}, TpAll H vs ds → TpAll H' vs ds
  | _, _, .nil => .nil
  | _, _, .cons a b => .cons (Tp.keep s a) (TpAll.keep s b)
end
mutual
theorem Tp.dp {K : PySem.W.Frag} {H : Hp} : ∀ {v : V} {d : PyData}, Tp H v d → Dp K H v d
  | _, _, .non => .non
  | _, _, .bl b => .bl b
  | _, _, .int i => .int i
  | _, _, .str x => .str x
  | _, _, .tup h a => .tup (SqT.of h) (TpAll.dp a)
theorem TpAll.dp {K : PySem.W.Frag} {H : Hp} : ∀ {vs : List V} {ds : List PyData}, TpAll H vs ds → DpAll K H vs ds
  | _, _, .nil => .nil
  | _, _, .cons a b => .cons (Tp.dp a) (TpAll.dp b)
end
theorem TpAll.len {H : Hp} : ∀ {vs : List V} {ds : List PyData}, TpAll H vs ds → vs.length = ds.length
  | _, _, .nil => rfl
  | _, _, .cons _ b => by rw [List.length_cons, List.length_cons, TpAll.len b]
theorem TpAll.get {H : Hp} : ∀ {vs : List V} {ds : List PyData} {i : Nat} {v : V}, TpAll H vs ds → vs[i]? = some v → ∃ d, ds[i]? = some d ∧ Tp H v d
  | _, _, 0, _, .cons a _, e => ⟨_, rfl, by cases e; exact a⟩
  | _, _, i + 1, _, .cons _ b, e => TpAll.get (i := i) b e
theorem TpAll.append {H : Hp} : ∀ {vs ws : List V} {ds es : List PyData}, TpAll H vs ds → TpAll H ws es → TpAll H (vs ++ ws) (ds ++ es)
  | _, _, _, _, .nil, h => h
  | _, _, _, _, .cons a b, h => .cons a (TpAll.append b h)
theorem Tp.tuple {H : Hp} {v : V} {ds : List PyData} (h : Tp H v (.tuple ds)) : ∃ a xs, v = .ref a ∧ H a = some (.tup xs) ∧ TpAll H xs ds := by
  cases h with
  | tup h a => exact ⟨_, _, rfl, h, a⟩
theorem Tp.new {H : Hp} {v : V} {d : PyData} {p : Addr} {o : HO} (h : Tp H v d) (n : H p = none) : Tp (upd H p o) v d := h.keep ((Sx.refl _).new n).tk0
theorem TpAll.new {H : Hp} {vs : List V} {ds : List PyData} {p : Addr} {o : HO} (h : TpAll H vs ds) (n : H p = none) : TpAll (upd H p o) vs ds := h.keep ((Sx.refl _).new n).tk0
theorem Dk.new {H : Hp} {a c p : Addr} {cs : List Int} {k : Int} {o : HO} (D : Dk H a c cs k) (n : H p = none) : Dk (upd H p o) a c cs k := D.same ((Sx.refl _).new n)
/-- what is shown once and used on several ways -/
theorem share {B G : Prop} (hB : B) (h : B → G) : G := h hB
theorem Sx.step {ex fx : List Addr} {H H1 H2 : Hp} (a : Sx ex H H1) (b : Sx fx H1 H2) (h : ∀ x ∈ fx, x ∈ ex ∨ H x = none) : Sx ex H H2 := fun x o n e =>
  b x o (fun z => (h x z).elim n (fun y => by rw [e] at y; cases y)) (a x o n e)
theorem gnm {i : Nat} {v : V} {σ : L2.St} {H : Hp} {Qf : L2.St → Hp → Prop} (h : Qf (σ.set i (some v)) H) : gName i v σ H Qf := h
/-! ### what the generator makes -/
/-- expressions over the names, at most so many in one another -/
inductive ExD (ns : List Str) : Nat → PyData → Prop where
  | int {d : Nat} (i : Int) : -99 ≤ i → i ≤ 99 → ExD ns (d + 1) (.int i)
  | name {d : Nat} (z : Str) : z ∈ ns → ExD ns (d + 1) (.str z)
  | plus {d : Nat} {x y : PyData} : ExD ns d x → ExD ns d y → ExD ns (d + 1) (.tuple [.str "plus", x, y])
  | minus {d : Nat} {x y : PyData} : ExD ns d x → ExD ns d y → ExD ns (d + 1) (.tuple [.str "minus", x, y])
  | times {d : Nat} {x : PyData} (f : Int) : -9 ≤ f → f ≤ 9 → ExD ns d x → ExD ns (d + 1) (.tuple [.str "times", .int f, x])
/-- so many draws at most -/
def cE : Nat → Int
  | 0 => 0
  | d + 1 => 2 * cE d + 3
theorem cE_pos : ∀ d, 0 ≤ cE d
  | 0 => Int.le_refl _
  | d + 1 => by have := cE_pos d; show 0 ≤ 2 * cE d + 3; omega
theorem cE_one (d : Nat) : cE (d + 1) = 2 * cE d + 3 := rfl
/-- a name: one to eight small letters and digits, none of the words -/
def WordsK : List Str := ["box", "set", "pay", "stop", "if", "else", "repeat", "pass", "rest", "of", "not", "program"]
structure NmOk (z : Str) : Prop where
  lo : 1 ≤ z.length
  hi : z.length ≤ 8
  sgn : ∀ x ∈ z.cps.toList, (97 ≤ x ∧ x ≤ 122) ∨ (48 ≤ x ∧ x ≤ 57)
  hd : ∀ x, z.cps.toList[0]? = some x → 97 ≤ x
  kw : z ∉ WordsK
theorem NmOk.ok {z : Str} (h : NmOk z) : PyData.strOk z = true := by
  unfold PyData.strOk
  rw [Array.all_eq_true']
  intro x hx
  have := h.sgn x (Array.mem_toList_iff.mpr hx)
  refine decide_eq_true ?_; omega
/-- names at nm -/
structure Nms (K : PySem.W.Frag) (H : Hp) (nm : Addr) (ns : List Str) : Prop where
  tr : H nm = some (.lst (ns.map V.str))
  ne : ns ≠ []
  len : ns.length ≤ 1000
  ok : ∀ z ∈ ns, NmOk z
theorem Nms.keep {K : PySem.W.Frag} {H H' : Hp} {nm : Addr} {ns : List Str} {ex : List Addr} (N : Nms K H nm ns) (s : Sx ex H H') (h : nm ∉ ex) : Nms K H' nm ns := ⟨s _ _ h N.tr, N.ne, N.len, N.ok⟩
theorem Nms.at_ {K : PySem.W.Frag} {H : Hp} {nm : Addr} {ns : List Str} (N : Nms K H nm ns) : SqL K H nm (ns.map V.str) := .inl (.inl N.tr)
theorem Nms.nw {K : PySem.W.Frag} {H : Hp} {nm p : Addr} {ns : List Str} (N : Nms K H nm ns) (h : H p = none) : nm ≠ p := fun z => (by rw [← z, N.tr] at h; cases h)
theorem Dk.lst {H : Hp} {a c : Addr} {cs : List Int} {k : Int} (D : Dk H a c cs k) : ∀ b ∈ [a, c], ∃ ys, H b = some (.lst ys) := fun b hb => by
  rcases List.mem_cons.1 hb with rfl | hb
  · exact ⟨_, D.ha⟩
  · rw [List.mem_singleton.mp hb]; exact ⟨_, D.hc⟩
theorem Dk.tk {H H' : Hp} {a c : Addr} {cs : List Int} {k : Int} (D : Dk H a c cs k) (s : Sx [a, c] H H') : Tk H H' := s.tk D.lst
/-- a new object is none of the deck's -/
theorem Dk.nw {H : Hp} {a c p : Addr} {cs : List Int} {k : Int} (D : Dk H a c cs k) (h : H p = none) : p ≠ a ∧ p ≠ c :=
  ⟨fun e => (by rw [e, D.ha] at h; cases h), fun e => (by rw [e, D.hc] at h; cases h)⟩
/-- tests with at most so many "not"; true: of a rest -/
inductive TsD (ns : List Str) : Nat → Bool → PyData → Prop where
  | rest {n : Nat} {x : PyData} (b r : Int) : ExD ns 3 x → 2 ≤ b → b ≤ 6 → 0 ≤ r → r < b → TsD ns n true (.tuple [.str "rest", x, .int b, .int r])
  | less {n : Nat} {x y : PyData} : ExD ns 3 x → ExD ns 3 y → TsD ns n false (.tuple [.str "less", x, y])
  | not {n : Nat} {b : Bool} {t : PyData} : TsD ns n b t → TsD ns (n + 1) b (.tuple [.str "not", t])
def bI (b : Bool) : Int := if b then 1 else 0
mutual
/-- statements whose blocks lie at most so deep: with its places, weight, rests, comparings -/
inductive StD (ns : List Str) : Nat → Int → Int → Int → Int → PyData → Prop where
  | set {d : Nat} {e : PyData} (z : Str) : z ∈ ns → ExD ns 3 e → StD ns d 1 1 0 0 (.tuple [.str "set", .str z, e])
  | pay {d : Nat} {e : PyData} : ExD ns 3 e → StD ns d 1 1 0 0 (.tuple [.str "pay", e])
  | stop {d : Nat} : StD ns d 1 1 0 0 (.tuple [.str "stop"])
  | ite {d : Nat} {t : PyData} {b : Bool} {n1 w1 r1 c1 n2 w2 r2 c2 : Int} {ys zs : List PyData} : TsD ns 2 b t → BkD ns d n1 w1 r1 c1 ys → BkD ns d n2 w2 r2 c2 zs →
      StD ns d (1 + n1 + n2) (1 + w1 + w2) (bI b + r1 + r2) (bI (!b) + c1 + c2) (.tuple [.str "if", t, .tuple ys, .tuple zs])
  | rep {d : Nat} {n1 w1 r1 c1 : Int} {ys : List PyData} (k : Int) : 1 ≤ k → k ≤ 8 → BkD ns d n1 w1 r1 c1 ys → StD ns d (1 + n1) (1 + k * w1) (k * r1) (k * c1) (.tuple [.str "repeat", .int k, .tuple ys])
inductive BkD (ns : List Str) : Nat → Int → Int → Int → Int → List PyData → Prop where
  | nil {d : Nat} : BkD ns d 0 0 0 0 []
  | cons {d : Nat} {n1 w1 r1 c1 n2 w2 r2 c2 : Int} {s : PyData} {ss : List PyData} : StD ns d n1 w1 r1 c1 s → BkD ns (d + 1) n2 w2 r2 c2 ss → BkD ns (d + 1) (n1 + n2) (w1 + w2) (r1 + r2) (c1 + c2) (s :: ss)
end
/-! ### such data may be compared -/
def Sh (n : Nat) (e : PyData) : Prop := e.canLay0 = true ∧ e.depth ≤ n
def ShA (n : Nat) (es : List PyData) : Prop := PyData.canLayAll0 es = true ∧ PyData.depthAll es ≤ n
theorem ShA.nil {n : Nat} : ShA n [] := ⟨by simp only [PyData.canLayAll0], by simp only [PyData.depthAll]; omega⟩
theorem ShA.cons {n : Nat} {e : PyData} {es : List PyData} (h : Sh n e) (hs : ShA n es) : ShA n (e :: es) :=
  ⟨by simp only [PyData.canLayAll0, h.1, hs.1, Bool.and_self], by simp only [PyData.depthAll]; have := h.2; have := hs.2; omega⟩
theorem Sh.tup {n : Nat} {es : List PyData} (h : ShA n es) : Sh (n + 1) (.tuple es) := ⟨by simp only [PyData.canLay0, h.1], by simp only [PyData.depth]; have := h.2; omega⟩
theorem Sh.int {n : Nat} (i : Int) : Sh n (.int i) := ⟨by simp only [PyData.canLay0], by simp only [PyData.depth]; omega⟩
theorem Sh.str {n : Nat} {z : Str} (h : PyData.strOk z = true) : Sh n (.str z) := ⟨by simp only [PyData.canLay0, h], by simp only [PyData.depth]; omega⟩
theorem Sh.mono {n m : Nat} {e : PyData} (h : Sh n e) (l : n ≤ m) : Sh m e := ⟨h.1, Nat.le_trans h.2 l⟩
theorem ShA.mono {n m : Nat} {e : List PyData} (h : ShA n e) (l : n ≤ m) : ShA m e := ⟨h.1, Nat.le_trans h.2 l⟩
theorem Sh.shaped {n : Nat} {e : PyData} (h : Sh n e) (l : n ≤ 64) : SeqAt.shaped e = true := by
  unfold SeqAt.shaped
  rw [h.1, decide_eq_true (Nat.le_trans h.2 l)]
  rfl
theorem ExD.sh {ns : List Str} (hn : ∀ z ∈ ns, NmOk z) {d : Nat} {e : PyData} (h : ExD ns d e) : Sh d e := by
  induction h with
  | int i _ _ => exact .int i
  | name z hz => exact .str (hn z hz).ok
  | plus _ _ h1 h2 => exact .tup (.cons (.str (by decide +kernel)) (.cons h1 (.cons h2 .nil)))
  | minus _ _ h1 h2 => exact .tup (.cons (.str (by decide +kernel)) (.cons h1 (.cons h2 .nil)))
  | times f _ _ _ h1 => exact .tup (.cons (.str (by decide +kernel)) (.cons (.int f) (.cons h1 .nil)))
theorem TsD.sh {ns : List Str} (hn : ∀ z ∈ ns, NmOk z) {n : Nat} {b : Bool} {e : PyData} (h : TsD ns n b e) : Sh (n + 4) e := by
  induction h with
  | rest b r hx _ _ _ _ => exact (Sh.tup (.cons (.str (by decide +kernel)) (.cons (hx.sh hn) (.cons (.int b) (.cons (.int r) .nil))))).mono (by omega)
  | less hx hy => exact (Sh.tup (.cons (.str (by decide +kernel)) (.cons (hx.sh hn) (.cons (hy.sh hn) .nil)))).mono (by omega)
  | not _ ih => exact .tup (.cons (.str (by decide +kernel)) (.cons ih .nil))
theorem TsD.up {ns : List Str} {n m : Nat} {b : Bool} {e : PyData} (h : TsD ns n b e) (l : n ≤ m) : TsD ns m b e := by
  induction h generalizing m with
  | rest b r h1 h2 h3 h4 h5 => exact .rest b r h1 h2 h3 h4 h5
  | less h1 h2 => exact .less h1 h2
  | not _ ih =>
    obtain ⟨j, rfl⟩ : ∃ j, m = j + 1 := ⟨m - 1, by omega⟩
    exact .not (ih (by omega))
mutual
theorem StD.sh {ns : List Str} (hn : ∀ z ∈ ns, NmOk z) : ∀ {d : Nat} {n w r c : Int} {e : PyData}, StD ns d n w r c e → Sh (2 * d + 9) e
  | _, _, _, _, _, _, .set z hz hx => (Sh.tup (.cons (.str (by decide +kernel)) (.cons (.str (hn z hz).ok) (.cons (hx.sh hn) .nil)))).mono (by omega)
  | _, _, _, _, _, _, .pay hx => (Sh.tup (.cons (.str (by decide +kernel)) (.cons (hx.sh hn) .nil))).mono (by omega)
  | _, _, _, _, _, _, .stop => (Sh.tup (n := 0) (.cons (.str (by decide +kernel)) .nil)).mono (by omega)
  | d, _, _, _, _, _, .ite ht hy hz => (Sh.tup (n := 2 * d + 8) (.cons (.str (by decide +kernel)) (.cons ((ht.sh hn).mono (by omega)) (.cons ((Sh.tup (BkD.sh hn hy)).mono (by omega)) (.cons ((Sh.tup (BkD.sh hn hz)).mono (by omega)) .nil))))).mono (by omega)
  | d, _, _, _, _, _, .rep k _ _ hy => (Sh.tup (n := 2 * d + 8) (.cons (.str (by decide +kernel)) (.cons (.int k) (.cons ((Sh.tup (BkD.sh hn hy)).mono (by omega)) .nil)))).mono (by omega)
theorem BkD.sh {ns : List Str} (hn : ∀ z ∈ ns, NmOk z) : ∀ {d : Nat} {n w r c : Int} {es : List PyData}, BkD ns d n w r c es → ShA (2 * d + 7) es
  | _, _, _, _, _, _, .nil => .nil
  | _, _, _, _, _, _, .cons h hs => .cons ((StD.sh hn h).mono (by omega)) (BkD.sh hn hs)
end
/-- the room at rm -/
structure Rm (H : Hp) (rm : Addr) (r0 r1 r2 r3 : Int) : Prop where
  at_ : H rm = some (.lst [.int r0, .int r1, .int r2, .int r3])
  p0 : 0 ≤ r0
  p1 : 0 ≤ r1
  p2 : 0 ≤ r2
  p3 : 0 ≤ r3
theorem Rm.sx {H H' : Hp} {rm : Addr} {r0 r1 r2 r3 : Int} {ex : List Addr} (R : Rm H rm r0 r1 r2 r3) (s : Sx ex H H') (h : rm ∉ ex) : Rm H' rm r0 r1 r2 r3 := ⟨s _ _ h R.at_, R.p0, R.p1, R.p2, R.p3⟩
theorem Rm.new {H : Hp} {rm p : Addr} {r0 r1 r2 r3 : Int} {o : HO} (R : Rm H rm r0 r1 r2 r3) (n : H p = none) : Rm (upd H p o) rm r0 r1 r2 r3 := R.sx ((Sx.refl (ex := []) _).new n) (by simp)
theorem Rm.nw {H : Hp} {rm p : Addr} {r0 r1 r2 r3 : Int} (R : Rm H rm r0 r1 r2 r3) (n : H p = none) : p ≠ rm := fun e => (by rw [e, R.at_] at n; cases n)
theorem lst3 {H : Hp} {a c rm : Addr} {cs : List Int} {k r0 r1 r2 r3 : Int} (D : Dk H a c cs k) (R : Rm H rm r0 r1 r2 r3) : ∀ b ∈ [a, c, rm], ∃ ys, H b = some (.lst ys) := fun b hb => by
  simp only [List.not_mem_nil, List.mem_cons, or_false] at hb
  obtain rfl | rfl | rfl := hb
  · exact ⟨_, D.ha⟩
  · exact ⟨_, D.hc⟩
  · exact ⟨_, R.at_⟩
theorem Rm.cast {H : Hp} {rm : Addr} {r0 r1 r2 r3 q0 q1 q2 q3 : Int} (R : Rm H rm r0 r1 r2 r3) (e0 : r0 = q0) (e1 : r1 = q1) (e2 : r2 = q2) (e3 : r3 = q3) : Rm H rm q0 q1 q2 q3 := by
  subst e0 e1 e2 e3
  exact R
theorem BkD.snoc {ns : List Str} {d : Nat} {n2 w2 r2 c2 : Int} {s : PyData} (hs : StD ns d n2 w2 r2 c2 s) : ∀ (xs : List PyData) {n w r c : Int}, BkD ns (d + 1) n w r c xs → BkD ns (d + 1) (n + n2) (w + w2) (r + r2) (c + c2) (xs ++ [s])
  | [], _, _, _, _, .nil => by
    have h : BkD ns (d + 1) (n2 + 0) (w2 + 0) (r2 + 0) (c2 + 0) [s] := .cons hs .nil
    have e : ∀ x : Int, x + 0 = 0 + x := fun x => Int.add_comm _ _
    rw [e, e, e, e] at h
    exact h
  | x :: xs, _, _, _, _, .cons (n1 := n1) (w1 := w1) (r1 := r1) (c1 := c1) (n2 := n3) (w2 := w3) (r2 := r3) (c2 := c3) hx hxs => by
    have h := BkD.cons hx (BkD.snoc hs xs hxs)
    rw [← Int.add_assoc, ← Int.add_assoc, ← Int.add_assoc, ← Int.add_assoc] at h
    exact h
/-- not () -/
def ne0 (e : PyData) : Bool := !PyData.eqv e (.tuple [])
theorem StD.ne0 {ns : List Str} {d : Nat} {n w r c : Int} {e : PyData} (h : StD ns d n w r c e) : GA.ne0 e = true := by
  cases h <;> rfl
theorem ne0_nil : ne0 (.tuple []) = false := rfl
theorem ExD.up {ns : List Str} {n m : Nat} {e : PyData} (h : ExD ns n e) (l : n ≤ m) : ExD ns m e := by
  induction h generalizing m with
  | int i h1 h2 => obtain ⟨j, rfl⟩ : ∃ j, m = j + 1 := ⟨m - 1, by omega⟩; exact .int i h1 h2
  | name z h1 => obtain ⟨j, rfl⟩ : ∃ j, m = j + 1 := ⟨m - 1, by omega⟩; exact .name z h1
  | plus _ _ h1 h2 => obtain ⟨j, rfl⟩ : ∃ j, m = j + 1 := ⟨m - 1, by omega⟩; exact .plus (h1 (by omega)) (h2 (by omega))
  | minus _ _ h1 h2 => obtain ⟨j, rfl⟩ : ∃ j, m = j + 1 := ⟨m - 1, by omega⟩; exact .minus (h1 (by omega)) (h2 (by omega))
  | times f a b _ h1 => obtain ⟨j, rfl⟩ : ∃ j, m = j + 1 := ⟨m - 1, by omega⟩; exact .times f a b (h1 (by omega))
theorem bI_nn (b : Bool) : 0 ≤ bI b := by cases b <;> decide
mutual
theorem StD.pos {ns : List Str} : ∀ {d : Nat} {n w r c : Int} {e : PyData}, StD ns d n w r c e → 1 ≤ n ∧ 1 ≤ w ∧ 0 ≤ r ∧ 0 ≤ c
  | _, _, _, _, _, _, .set z hz hx => by omega
  | _, _, _, _, _, _, .pay hx => by omega
  | _, _, _, _, _, _, .stop => by omega
  | _, _, _, _, _, _, .ite (b := b) ht hy hz => by
    have h1 := BkD.pos hy
    have h2 := BkD.pos hz
    have h3 := bI_nn b
    have h4 := bI_nn (!b)
    omega
  | _, _, _, _, _, _, .rep (w1 := w1) (r1 := r1) (c1 := c1) k hk _ hy => by
    have h1 := BkD.pos hy
    have h2 : 0 ≤ k * w1 := Int.mul_nonneg (by omega) (by omega)
    have h3 : 0 ≤ k * r1 := Int.mul_nonneg (by omega) (by omega)
    have h4 : 0 ≤ k * c1 := Int.mul_nonneg (by omega) (by omega)
    omega
theorem BkD.pos {ns : List Str} : ∀ {d : Nat} {n w r c : Int} {es : List PyData}, BkD ns d n w r c es → (es.length : Int) ≤ n ∧ (es.length : Int) ≤ w ∧ 0 ≤ r ∧ 0 ≤ c
  | _, _, _, _, _, _, .nil => by simp
  | _, _, _, _, _, _, .cons h hs => by
    have h1 := StD.pos h
    have h2 := BkD.pos hs
    rw [List.length_cons]
    omega
end
theorem BkD.append {ns : List Str} {d : Nat} {n2 w2 r2 c2 : Int} {ys : List PyData} (hy : BkD ns (d + 1) n2 w2 r2 c2 ys) : ∀ (xs : List PyData) {n w r c : Int}, BkD ns (d + 1) n w r c xs → BkD ns (d + 1) (n + n2) (w + w2) (r + r2) (c + c2) (xs ++ ys)
  | [], _, _, _, _, .nil => by
    rw [Int.zero_add, Int.zero_add, Int.zero_add, Int.zero_add]
    exact hy
  | x :: xs, _, _, _, _, .cons hx hxs => by
    have h := BkD.cons hx (BkD.append hy xs hxs)
    rw [← Int.add_assoc, ← Int.add_assoc, ← Int.add_assoc, ← Int.add_assoc] at h
    exact h
/-- a tuple and a tuple -/
theorem cat_tp {K : PySem.W.Frag} {H : Hp} {v u : V} {ds es : List PyData} {Q : VK} (h1 : Tp H v (.tuple ds)) (h2 : Tp H u (.tuple es)) (hl : ds.length + es.length ≤ 16777216)
    (q : ∀ H' z, Sx [] H H' → (∀ b, H' b = none → H b = none) → Tp H' z (.tuple (ds ++ es)) → Q z H') : rCatA K v u H Q := by
  obtain ⟨a, xs, rfl, ha, hx⟩ := h1.tuple
  obtain ⟨b, ys, rfl, hb, hy⟩ := h2.tuple
  refine ⟨a, b, xs, ys, rfl, rfl, .inl (.inl ha), .inl (.inl hb), by rw [hx.len, hy.len]; exact hl, fun e => ?_, fun _ e => ?_, fun _ _ p hp => ?_⟩
  · subst e
    cases hx
    exact q H _ (Sx.refl _) (fun _ h => h) (.tup hb hy)
  · subst e
    cases hy
    rw [List.append_nil] at q
    exact q H _ (Sx.refl _) (fun _ h => h) (.tup ha hx)
  · refine q _ _ ((Sx.refl _).new hp) (fun z hz => ?_) (.tup upd_same ((hx.append hy).new hp))
    by_cases e : z = p
    · rw [e]; exact hp
    · rw [upd_ne e] at hz; exact hz
def cP : Int := 700000
def spProgram (K : PySem.W.Frag) : Sp := fun vs H Q _ => ∃ (a c : Addr) (cs : List Int) (k : Int) (nm : Addr) (ns : List Str), vs = [.ref a, .ref nm] ∧ Dk H a c cs k ∧ Nms K H nm ns ∧ nm ≠ a ∧ nm ≠ c ∧ k + cP ≤ KB ∧
  ∀ H' cs' k' v es n w r cc, Sx [a, c] H H' → Dk H' a c cs' k' → k ≤ k' → k' ≤ k + cP → Tp H' v (.tuple es) → BkD ns 4 n w r cc es → n ≤ 24 → w ≤ 30 → r ≤ 2 → cc ≤ 2 → Q v H'
def cB : Nat → Int
  | 0 => 0
  | d + 1 => 1 + 4 * (71 + 2 * cB d)
theorem cB_pos : ∀ d, 0 ≤ cB d
  | 0 => Int.le_refl _
  | d + 1 => by have := cB_pos d; show 0 ≤ 1 + 4 * (71 + 2 * cB d); omega
theorem cB_one (d : Nat) : cB (d + 1) = 1 + 4 * (71 + 2 * cB d) := rfl
def spBlock (K : PySem.W.Frag) (d : Nat) : Sp := fun vs H Q _ => ∃ (a c : Addr) (cs : List Int) (k : Int) (nm : Addr) (ns : List Str) (rm : Addr) (r0 r1 r2 r3 t : Int), vs = [.ref a, .ref nm, .ref rm, .int t, .int (4 - (d : Int))] ∧ Dk H a c cs k ∧ Nms K H nm ns ∧ Rm H rm r0 r1 r2 r3 ∧
  nm ≠ a ∧ nm ≠ c ∧ nm ≠ rm ∧ rm ≠ a ∧ rm ≠ c ∧ 1 ≤ t ∧ r1 ≤ 30 ∧ k + cB d ≤ KB ∧
  ∀ H' cs' k' v es n w r cc, Sx [a, c, rm] H H' → Dk H' a c cs' k' → k ≤ k' → k' ≤ k + cB d → Tp H' v (.tuple es) → BkD ns d n w r cc es → Rm H' rm (r0 - n) (r1 - t * w) (r2 - t * r) (r3 - t * cc) → 0 ≤ w → r1 - t * w ≤ r1 → Q v H'
def spRow (K : PySem.W.Frag) (d : Nat) : Sp := fun vs H Q _ => ∃ (a c : Addr) (cs : List Int) (k : Int) (nm : Addr) (ns : List Str) (rm : Addr) (r0 r1 r2 r3 t : Int), vs = [.ref a, .ref nm, .ref rm, .int t, .int (3 - (d : Int))] ∧ Dk H a c cs k ∧ Nms K H nm ns ∧ Rm H rm r0 r1 r2 r3 ∧
  nm ≠ a ∧ nm ≠ c ∧ nm ≠ rm ∧ rm ≠ a ∧ rm ≠ c ∧ 1 ≤ t ∧ r1 ≤ 30 ∧ k + (71 + 2 * cB d) ≤ KB ∧
  ∀ H' cs' k' v e, Sx [a, c, rm] H H' → Dk H' a c cs' k' → k ≤ k' → k' ≤ k + (71 + 2 * cB d) → Tp H' v e →
    ((e = .tuple [] ∧ Rm H' rm r0 r1 r2 r3) ∨ ∃ n w r cc, StD ns d n w r cc e ∧ Rm H' rm (r0 - n) (r1 - t * w) (r2 - t * r) (r3 - t * cc) ∧ 0 ≤ w ∧ r1 - t * w ≤ r1) → Q v H'
def spNames (K : PySem.W.Frag) : Sp := fun vs H Q _ => ∃ (a c : Addr) (cs : List Int) (k : Int), vs = [.ref a] ∧ Dk H a c cs k ∧ k + 20 ≤ KB ∧
  ∀ H' cs' k' p ns, Sx [a, c] H H' → Dk H' a c cs' k' → k ≤ k' → k' ≤ k + 20 → H p = none → p ≠ a → p ≠ c → Nms K H' p ns → Q (.ref p) H'
/-- a text of one sign -/
abbrev s1 (x : Nat) : Str := ⟨#[x]⟩
theorem join_s1 : ∀ ls : List Nat, Txt.join (Str.ofString "") (ls.map s1) = ⟨ls.toArray⟩ := fun ls => by
  have e0 : (Str.ofString "" : Str) = SX.S [] := by decide +kernel
  have e1 : ls.map s1 = (ls.map fun x => [x]).map SX.S := by rw [List.map_map]; rfl
  have e2 : ∀ l : List Nat, TL.joinL [] (l.map fun x => [x]) = l := by
    intro l
    induction l with
    | nil => rfl
    | cons x r ih =>
      cases r with
      | nil => rfl
      | cons y r => show [x] ++ ([] ++ TL.joinL [] ((y :: r).map fun x => [x])) = _; rw [ih]; rfl
  rw [e0, e1, SX.join_S, e2]
theorem sum_s1 (ls : List Nat) : ((ls.map s1).map (·.length)).sum = ls.length := by
  induction ls with
  | nil => rfl
  | cons x r ih => rw [List.map_cons, List.map_cons, List.sum_cons, ih, List.length_cons, Nat.add_comm]; rfl
/-- so many signs of z stand in the list at Z -/
def Pz (H0 : Hp) (a c : Addr) (k : Int) (Z : Addr) (z : Str) (i : Nat) (H' : Hp) : Prop := Sx [a, c] H0 H' ∧ (∃ cs', Dk H' a c cs' (k + i)) ∧ ∃ ls : List Nat, H' Z = some (.lst ((ls.map s1).map V.str)) ∧ ls.length = i ∧ ∀ x ∈ ls, x ∈ z.cps.toList
theorem Pz.zero {H0 : Hp} {a c : Addr} {cs : List Int} {k : Int} {Z : Addr} {z : Str} (D : Dk H0 a c cs k) (h : H0 Z = none) : Pz H0 a c k Z z 0 (upd H0 Z (.lst [])) :=
  ⟨(Sx.refl _).new h, ⟨cs, by have := D.new (o := .lst []) h; rw [show k + ((0 : Nat) : Int) = k by omega]; exact this⟩, [], upd_same, rfl, fun _ z => by simp at z⟩
theorem Pz.step {H0 H' H2 : Hp} {a c : Addr} {cs : List Int} {k : Int} {Z : Addr} {z : Str} {i : Nat} {x : Nat} (h0 : H0 Z = none) (D0 : Dk H0 a c cs k) (p : Pz H0 a c k Z z i H') (s : Sx [a, c] H' H2) {cs2 : List Int} (D : Dk H2 a c cs2 (k + i + 1)) (hx : x ∈ z.cps.toList) (hi : i < 1000) :
    ∃ acc, H2 Z = some (.lst acc) ∧ acc.length < sizeLine ∧ Pz H0 a c k Z z (i + 1) (upd H2 Z (.lst (acc ++ [.str (s1 x)]))) := by
  obtain ⟨p1, _, ls, p3, p4, p5⟩ := p
  obtain ⟨Za, Zc⟩ := D0.nw h0
  refine ⟨_, s _ _ (by simp [Za, Zc]) p3, lt_line (by rw [List.length_map, List.length_map]; omega), (p1.trans s).own h0, ⟨cs2, ?_⟩, ls ++ [x], ?_, by rw [List.length_append, p4]; rfl, fun y hy => ?_⟩
  · rw [show k + ((i + 1 : Nat) : Int) = k + i + 1 by omega]
    exact D.sx ((Sx.refl (ex := [Z]) _).put (by simp)) (by simp [Za.symm]) (by simp [Zc.symm])
  · rw [upd_same, List.map_append, List.map_append]
    rfl
  · rcases List.mem_append.1 hy with w | w
    · exact p5 y w
    · rw [List.mem_singleton.mp w]; exact hx
/-- whether a text is a name -/
def nmOkB (z : Str) : Bool := decide (1 ≤ z.length) && decide (z.length ≤ 8) && z.cps.toList.all (fun x => (decide (97 ≤ x) && decide (x ≤ 122)) || (decide (48 ≤ x) && decide (x ≤ 57))) && (match z.cps.toList with | [] => true | x :: _ => decide (97 ≤ x)) && !WordsK.contains z
theorem nmOk_of {z : Str} (h : nmOkB z = true) : NmOk z := by
  unfold nmOkB at h
  simp only [Bool.and_eq_true, decide_eq_true_eq, Bool.not_eq_true', List.all_eq_true, Bool.or_eq_true] at h
  obtain ⟨⟨⟨⟨h1, h2⟩, h3⟩, h4⟩, h5⟩ := h
  refine ⟨h1, h2, fun x hx => h3 x hx, fun x hx => ?_, fun hm => ?_⟩
  · cases e : z.cps.toList with
    | nil => rw [e] at hx; simp at hx
    | cons y r =>
      rw [e] at hx h4
      have : y = x := Option.some.inj hx
      rw [← this]
      exact of_decide_eq_true h4
  · rw [List.contains_eq_mem, decide_eq_true hm] at h5
    cases h5
theorem words_no : ∀ z ∈ WordsK, ∀ x ∈ z.cps.toList, x ≠ 113 ∧ x ≠ 118 ∧ x ≠ 122 := by decide +kernel
theorem ab_az : ∀ x ∈ (Str.ofString "abcdefghijklmnopqrstuvwxyz").cps.toList, 97 ≤ x ∧ x ≤ 122 := by decide +kernel
theorem ab_09 : ∀ x ∈ (Str.ofString "abcdefghijklmnopqrstuvwxyz" ++ Str.ofString "0123456789").cps.toList, (97 ≤ x ∧ x ≤ 122) ∨ (48 ≤ x ∧ x ≤ 57) := by decide +kernel
theorem nm_made {ls gs : List Nat} {x : Nat} (hl : ∀ y ∈ ls, 97 ≤ y ∧ y ≤ 122) (hg : ∀ y ∈ gs, (97 ≤ y ∧ y ≤ 122) ∨ (48 ≤ y ∧ y ≤ 57)) (hx : x = 113 ∨ x = 118 ∨ x = 122) (hn : ls.length + gs.length ≤ 7) :
    NmOk ((⟨ls.toArray⟩ : Str) ++ s1 x ++ (⟨gs.toArray⟩ : Str)) := by
  have e : ((⟨ls.toArray⟩ : Str) ++ s1 x ++ (⟨gs.toArray⟩ : Str)) = ⟨(ls ++ [x] ++ gs).toArray⟩ := by
    show (⟨ls.toArray ++ #[x] ++ gs.toArray⟩ : Str) = _
    simp
  rw [e]
  have el : (⟨(ls ++ [x] ++ gs).toArray⟩ : Str).length = ls.length + 1 + gs.length := by
    show (ls ++ [x] ++ gs).toArray.size = _
    simp
    omega
  refine ⟨by omega, by omega, fun y hy => ?_, fun y hy => ?_, fun hm => ?_⟩
  · have hy' : y ∈ ls ++ [x] ++ gs := by simpa using hy
    simp only [List.mem_append, List.mem_singleton] at hy'
    rcases hy' with (h | h) | h
    · exact .inl (hl y h)
    · omega
    · exact hg y h
  · have hy' : (ls ++ [x] ++ gs)[0]? = some y := by simpa using hy
    cases ls with
    | nil => have : x = y := Option.some.inj (by simpa using hy'); omega
    | cons u r => have : u = y := Option.some.inj (by simpa using hy'); have := hl u (by simp); omega
  · have := words_no _ hm x (by simp)
    omega
section
variable {w : World} {P : Program} {K : PySem.W.Frag} {mg : Str → Option Value} {base : Heap}
def spDeck (K : PySem.W.Frag) : Sp := fun vs H Q _ => ∃ (a : Addr) (ns : List Int), vs = [.ref a] ∧ SqL K H a (ns.map V.int) ∧ ns.length ≤ 63 ∧
  ∀ H' p c cs, Sx [] H H' → H p = none → H c = none → Dk H' p c cs 0 → Q (.ref p) H'
theorem ok_deck {f : Addr} {fd : FuncData} {k : Nat} (F : Fun K "_law_deck" "_law_deck" sDeck f fd) (ma : mg "abs" = none) : FnOk P w K mg base CX0 (k + 1) f fd ["_law_script"] (spDeck K) := by
  refine F.ok scDeck (fun vs H Q E h => ?_) (fun cdv A outer s H vs Q E hr h => ?_)
  · obtain ⟨a, ns, rfl, _⟩ := h
    rfl
  · rcases h with ⟨a, ns, rfl, hS, hlen, q⟩
    refine ⟨_, pss_one (ps_ret (pe_lst (pa_cons
      (pe_lc (own := [("_law_cell", 1)]) (g := gName 1) (tt := tYes) rfl scDeck.nd (pi_list (pe_slice sl_list (pv 0) po_none (po_some pe_int))) (blkOk_by (N := nDeck) (sc := defScope sDeck) (by decide +kernel))
        (fun _ _ _ _ _ => pg_name (i := 1) scDeck.nd rfl (Or.inl rfl)) (fun _ _ _ _ _ => pts_nil) (fun _ _ _ _ _ => pe_callB call_abs (by rfl) ma (by decide +kernel) (pa_cons (pv 1) pa_nil)))
      (pa_cons pe_int pa_nil)))), ?_⟩
    refine ⟨_, rfl, 63, rfl, a, ns.map V.int, rfl, hS, fun l hl => ?_⟩
    have cut : cutV (ns.map V.int) none (some 63) = ns.map V.int := by
      unfold cutV
      rw [HT.sIx_none, show HT.sIx (ns.map V.int).length (ns.map V.int).length (some 63) = min 63 (ns.map V.int).length from HT.sIx_nat _ _ 63, List.drop_zero, Nat.sub_zero, List.length_map, Nat.min_eq_right hlen]
      exact List.take_of_length_le (by rw [List.length_map]; exact Nat.le_refl _)
    rw [cut]
    have s1 : Sx [] H (upd H l (.lst (ns.map V.int))) := Sx.new (Sx.refl _) hl
    refine ⟨l, rfl, ⟨_, .inl (.inl upd_same)⟩, fun D hD => lc_list (xs := ns.map V.int)
      (fun i H' => Sx [] H H' ∧ H' l = some (.lst (ns.map V.int)) ∧ H' D = some (.lst ((ns.map fun x => V.int (if x < 0 then -x else x)).take i))) ⟨s1.new hD, ?_, upd_same⟩ (fun i H' _ p => .inl (.inl p.2.1)) (fun i x H' hx p => ?_) (fun H' p => ?_)⟩
    · have hlD : l ≠ D := fun e => by
        rw [← e, upd_same] at hD
        cases hD
      rw [upd_ne hlD, upd_same]
    · obtain ⟨p1, p2, p3⟩ := p
      rw [List.getElem?_map] at hx
      obtain ⟨y, hy, rfl⟩ := Option.map_eq_some_iff.mp hx
      refine ⟨rfl, ?_⟩
      refine ⟨.int y, rfl, y, rfl, _, p3, ?_, ?_, ?_, ?_⟩
      · rw [List.length_take, List.length_map]
        have : (63 : Nat) < sizeLine := by decide
        omega
      · exact p1.own (s1.free (by simp) hD)
      · have hlD : l ≠ D := fun e => by
          rw [← e, upd_same] at hD
          cases hD
        rw [upd_ne hlD]
        exact p2
      · rw [upd_same, List.take_add_one, List.getElem?_map, hy]
        rfl
    · obtain ⟨p1, p2, p3⟩ := p
      refine ⟨by (show 2 ≤ sizeLine); decide, fun p hp => ?_⟩
      have hDp : D ≠ p := ne_of_none p3 hp
      rw [List.length_map, List.take_of_length_le (by rw [List.length_map]; exact Nat.le_refl _)] at p3
      refine q _ p D (ns.map fun x => if x < 0 then -x else x) (p1.new hp) (p1.free (by simp) hp) (s1.free (by simp) hD) ⟨upd_same, ?_, ?_, by rw [List.length_map]; exact hlen, Int.le_refl _⟩
      · rw [upd_ne hDp, p3, List.map_map]
        rfl
      · intro x hx
        obtain ⟨y, _, rfl⟩ := List.mem_map.mp hx
        split <;> omega
def spDraw : Sp := fun vs H Q _ => ∃ (a c : Addr) (cs : List Int) (k m : Int), vs = [.ref a, .int m] ∧ Dk H a c cs k ∧ 0 < m ∧ m < 1073741824 ∧ k < KB ∧
  ∀ H' cs' r, Sx [a, c] H H' → Dk H' a c cs' (k + 1) → 0 ≤ r → r < m → Q (.int r) H'
theorem ok_draw {f : Addr} {fd : FuncData} {k : Nat} (F : Fun K "_law_draw" "_law_draw" sDraw f fd) (z_len : mg "len" = none) (z_int : mg "int" = none) : FnOk P w K mg base CX0 (k + 1) f fd ["_law_deck_here", "_law_many"] spDraw := by
  refine F.ok scDraw (fun vs H Q E h => ?_) (fun cdv A outer s H vs Q E hr h => ?_)
  · obtain ⟨a, c, cs, k, m, rfl, _⟩ := h
    rfl
  · obtain ⟨a, c, cs, k, m, rfl, D, hm0, hm1, hk, q⟩ := h
    refine ⟨_, (pss_cons (ps_asg (pe_op op_add (pe_ix ix_list (pv 0) pe_int (fun _ _ => rfl)) pe_int) (pg_sub (pv 0) pe_int set_list))
      (pss_cons (ps_asg (pe_tup (pa_cons pe_int (pa_cons (pe_un un_neg pe_int) pa_nil))) (pg_tup rfl (pgs_cons (pg_name (i := 2) scDraw.nd rfl (by first | exact Or.inl rfl | exact Or.inr rfl)) (pgs_cons (pg_name (i := 3) scDraw.nd rfl (by first | exact Or.inl rfl | exact Or.inr rfl)) pgs_nil))))
      (C8.pss_cut (ps_if (pt_cmpR op_gt (pe_callB call_len_seq (by rfl) z_len boot_len (pa_cons (pe_ix ix_list (pv 0) pe_int (fun _ _ => rfl)) pa_nil)) pe_int (nomark _)) (pss_cons (ps_set (i := 3) scDraw.nd rfl (by first | exact Or.inl rfl | exact Or.inr rfl) (pe_op op_mod (pe_callTy call_int1 (by rfl) z_int boot_int (pa_cons (pe_ix ix_list (pv 0) pe_int (fun _ _ => rfl)) pa_nil)) (pe_callB call_len_seq (by rfl) z_len boot_len (pa_cons (pe_ix ix_list (pv 0) pe_int (fun _ _ => rfl)) pa_nil))))
      (pss_one (ps_set (i := 2) scDraw.nd rfl (by first | exact Or.inl rfl | exact Or.inr rfl) (pe_ix ix_list (pe_ix ix_list (pv 0) pe_int (fun _ _ => rfl)) (pv 3) (fun _ _ => rfl))))) pss_nil)
      (pss_cons (ps_if (pt_cmpR op_ge (pv 2) (pe_op op_pow pe_int pe_int) (nomark _)) (pss_cons (ps_asg (pe_op op_fdiv (pe_callTy call_int1 (by rfl) z_int boot_int (pa_cons (pv 2) pa_nil)) (pv 1)) (pg_sub (pe_ix ix_list (pv 0) pe_int (fun _ _ => rfl)) (pv 3) set_list))
      (pss_one (ps_ret (pe_op op_mod (pe_callTy call_int1 (by rfl) z_int boot_int (pa_cons (pv 2) pa_nil)) (pv 1))))) pss_nil)
      (pss_cons (ps_set (i := 4) scDraw.nd rfl (by first | exact Or.inl rfl | exact Or.inr rfl) (pe_op op_add (pe_op op_add (pe_op op_mod (pe_callTy call_int1 (by rfl) z_int boot_int (pa_cons (pv 2) pa_nil)) pe_int) (pe_op op_mul pe_int (pe_ix ix_list (pv 0) pe_int (fun _ _ => rfl)))) pe_int))
      (pss_one (ps_ret (pe_op op_mod (pe_callTy call_int1 (by rfl) z_int boot_int (pa_cons (pe_op op_mod (pe_callTy call_int1 (by rfl) z_int boot_int (pa_cons (pe_op op_pow (pv 4) pe_int) pa_nil)) pe_int) pa_nil)) (pv 1))))))))), ?_⟩
    refine ⟨.ref a, rfl, a, _, 1, .int k, rfl, rfl, .inl (.inl D.ha), rfl, _, _, rfl, rfl, .ref a, rfl, a, _, 1, 1, rfl, rfl, D.ha, rfl, ?_⟩
    have na := D.ne
    have k0 := D.k0
    refine gh (H1 := upd _ a _) (F := fun H1 => Sx [a, c] H H1 ∧ Dk H1 a c cs (k + 1)) ⟨(Sx.refl H).put (by simp), upd_same, by rw [upd_ne na.symm]; exact D.hc, D.pos, D.len, by omega⟩ (fun H1 ⟨s1, D1⟩ => ?_)
    -- _law_cell, _law_at = 0, -1
    refine ⟨1, rfl, by show 2 ≤ sizeLine; decide, fun t ht => ⟨t, _, rfl, .inl (.inl upd_same), rfl, _, _, rfl, _, _, rfl, rfl, ?_⟩⟩
    refine gh (H1 := upd _ t _) (F := fun H2 => Sx [a, c] H H2 ∧ Dk H2 a c cs (k + 1)) ⟨s1.new ht, D1.same ((Sx.refl _).new ht)⟩ (fun H2 ⟨s2, D2⟩ => ?_)
    -- if len(..) > 0
    refine ⟨fun σ' H' => ∃ x at' : Int, σ' = [some (.ref a), some (.int m), some (.int x), some (.int at'), none] ∧ H' = H2 ∧ 0 ≤ x ∧ (1000000000000000000 ≤ x → ∃ j : Nat, at' = (j : Int) ∧ j < cs.length), ?_, ?_⟩
    · refine ⟨.ref a, rfl, a, _, 0, .ref c, rfl, rfl, .inl (.inl D2.ha), rfl, c, _, rfl, .inl (.inl (.inl D2.hc)), _, _, rfl, rfl, _, rfl, ite2 (fun e => ?_) (fun e => ?_)⟩
      · have e' : (0 : Int) < ((cs.map V.int).length : Int) := of_decide_eq_true e
        rw [List.length_map] at e'
        refine ⟨.ref a, rfl, a, _, 1, .int (k + 1), rfl, rfl, .inl (.inl D2.ha), rfl, .inl ⟨_, rfl, .ref a, rfl, a, _, 0, .ref c, rfl, rfl, .inl (.inl D2.ha), rfl, c, _, rfl, .inl (.inl (.inl D2.hc)), _, _, rfl, rfl, by rw [List.length_map]; exact e', ?_⟩⟩
        have b0 := Int.emod_nonneg (k + 1) (show ((cs.length : Nat) : Int) ≠ 0 by omega)
        have b1 := Int.emod_lt_of_pos (k + 1) e'
        obtain ⟨j, hj⟩ := Int.eq_ofNat_of_zero_le b0
        have hjl : j < cs.length := by omega
        have hj' : (k + 1) % (((cs.map V.int).length : Nat) : Int) = (j : Int) := by rw [List.length_map]; exact hj
        refine ⟨.ref a, rfl, a, _, 0, .ref c, rfl, rfl, .inl (.inl D2.ha), rfl, _, rfl, c, _, _, .int (cs[j]), rfl, rfl, .inl (.inl D2.hc), at_of hj' (by rw [List.getElem?_map, List.getElem?_eq_getElem hjl]; rfl), ?_⟩
        exact ⟨_, _, rfl, rfl, D2.pos _ (List.getElem_mem hjl), fun _ => ⟨j, hj', hjl⟩⟩
      · exact ⟨0, -1, rfl, rfl, Int.le_refl _, fun z => absurd z (by decide)⟩
    -- what follows
    · rintro _ _ ⟨x, at', rfl, rfl, hx, hat⟩
      refine ⟨_, rfl, 10, 18, rfl, rfl, ⟨by decide, by decide, by decide⟩, x, _, rfl, rfl, _, rfl, ite2 (fun e => ?_) (fun e => ?_)⟩
      · have e' : (1000000000000000000 : Int) ≤ x := of_decide_eq_true e
        obtain ⟨j, rfl, hj⟩ := hat e'
        refine ⟨_, rfl, .inl ⟨x, rfl, _, rfl, x, m, rfl, rfl, ⟨hm0, hm1⟩, .ref a, rfl, a, _, 0, .ref c, rfl, rfl, .inl (.inl D2.ha), rfl, _, rfl, c, _, _, j, rfl, rfl, D2.hc, ixN_of rfl (by rw [List.length_map]; exact hj), ?_⟩⟩
        refine ⟨_, rfl, .inl ⟨x, rfl, _, rfl, x, m, rfl, rfl, hm0, ?_⟩⟩
        refine q _ (cs.set j (x / m)) _ (s2.put (by simp)) ⟨by rw [upd_ne na]; exact D2.ha, by rw [upd_same, ← List.map_set], fun y hy => ?_, by rw [List.length_set]; exact D2.len, by omega⟩ (Int.emod_nonneg _ (by omega)) (Int.emod_lt_of_pos _ hm0)
        rcases List.mem_or_eq_of_mem_set hy with z | rfl
        · exact D2.pos y z
        · exact Int.ediv_nonneg hx (by omega)
      · refine ⟨_, rfl, .inl ⟨x, rfl, x, 2147483563, rfl, rfl, (by decide : (0 : Int) < 2147483563), .ref a, rfl, a, _, 1, .int (k + 1), rfl, rfl, .inl (.inl D2.ha), rfl, 8117, k + 1, rfl, rfl, .inl ⟨by decide, by decide⟩, _, _, rfl, rfl, _, 3, rfl, rfl, ?_⟩⟩
        have b0 := Int.emod_nonneg x (by decide : (2147483563 : Int) ≠ 0)
        have b1 := Int.emod_lt_of_pos x (by decide : (0 : Int) < 2147483563)
        refine ⟨_, rfl, _, 5, rfl, rfl, ⟨by decide, by decide, ?_⟩, .inl ⟨_, rfl, _, 2147483629, rfl, rfl, (by decide : (0 : Int) < 2147483629), .inl ⟨_, rfl, _, rfl, _, m, rfl, rfl, hm0, ?_⟩⟩⟩
        · have hk' : k < 1099511627776 := hk
          omega
        · exact q _ cs _ s2 D2 (Int.emod_nonneg _ (by omega)) (Int.emod_lt_of_pos _ hm0)
/-- one of a list's items, or one of a text's signs -/
def spOne (K : PySem.W.Frag) : Sp := fun vs H Q _ => ∃ (a c : Addr) (cs : List Int) (k : Int) (it : V), vs = [.ref a, it] ∧ Dk H a c cs k ∧ k < KB ∧
  ((∃ p xs, it = .ref p ∧ SqL K H p xs ∧ xs ≠ [] ∧ xs.length ≤ 100000 ∧ p ≠ a ∧ p ≠ c ∧ ∀ H' cs' x, Sx [a, c] H H' → Dk H' a c cs' (k + 1) → x ∈ xs → Q x H') ∨
    ∃ z : Str, it = .str z ∧ 0 < z.length ∧ z.length ≤ 100000 ∧ ∀ H' cs' x, Sx [a, c] H H' → Dk H' a c cs' (k + 1) → x ∈ z.cps.toList → Q (.str ⟨#[x]⟩) H')
theorem ok_one {f fD : Addr} {fd fdD : FuncData} {k : Nat} (F : Fun K "_law_one" "_law_one" sOne f fd) (F_draw : Fun K "_law_draw" "_law_draw" sDraw fD fdD) (G_draw : FnOk P w K mg base CX0 (k + 1) fD fdD ["_law_deck_here", "_law_many"] spDraw)
    (b_draw : Binds K fdD ["_law_deck_here", "_law_many"] []) (m_draw : mg "_law_draw" = some (.ref fD)) (z_len : mg "len" = none) : FnOk P w K mg base CX0 (k + 2) f fd ["_law_deck_here", "_law_items"] (spOne K) := by
  refine F.ok scOne (fun vs H Q E h => ?_) (fun cdv A outer s H vs Q E hr h => ?_)
  · obtain ⟨a, c, cs, k, it, rfl, _⟩ := h
    rfl
  · obtain ⟨a, c, cs, k, it, rfl, D, hk, q⟩ := h
    refine ⟨_, (pss_one (ps_ret (pe_ix (ix_or ix_list ix_str) (pv 1) (pe_call G_draw (hr.mono (by omega)) (by rfl) m_draw F_draw.kp b_draw .nil pass0 (pa_cons (pv 0) (pa_cons (pe_callB (cr_or call_len_seq call_len_str) (by rfl) z_len boot_len (pa_cons (pv 1) pa_nil)) pa_nil))) (fun _ _ => rfl)))), ?_⟩
    rcases q with ⟨p, xs, rfl, hp, hne, hlen, pa, pc, q⟩ | ⟨z, rfl, hz0, hz1, q⟩
    · refine ⟨_, rfl, _, rfl, _, rfl, .inl ⟨p, xs, rfl, .inl hp, a, c, cs, k, _, rfl, D, by have : 0 < xs.length := List.length_pos_iff.mpr hne; omega, by omega, hk, fun H' cs' r s1 D1 r0 r1 => ?_⟩⟩
      obtain ⟨j, rfl⟩ := Int.eq_ofNat_of_zero_le r0
      have hj : j < xs.length := by omega
      exact .inl ⟨p, xs, _, xs[j], rfl, rfl, s1.seqL (by simp [pa, pc]) hp, atI_nat (List.getElem?_eq_getElem hj), q H' cs' _ s1 D1 (List.getElem_mem hj)⟩
    · refine ⟨_, rfl, _, rfl, _, rfl, .inr ⟨z, rfl, le_line (by omega), a, c, cs, k, _, rfl, D, by omega, by omega, hk, fun H' cs' r s1 D1 r0 r1 => ?_⟩⟩
      obtain ⟨j, rfl⟩ := Int.eq_ofNat_of_zero_le r0
      have hj : j < z.cps.toList.length := by rw [Array.length_toList]; have : z.length = z.cps.size := rfl; omega
      exact .inr ⟨z, _, z.cps.toList[j], rfl, rfl, le_line (by omega), atI_nat (List.getElem?_eq_getElem hj), q H' cs' _ s1 D1 (List.getElem_mem hj)⟩
def spExpr (K : PySem.W.Frag) (d : Nat) : Sp := fun vs H Q _ => ∃ (a c : Addr) (cs : List Int) (k : Int) (nm : Addr) (ns : List Str), vs = [.ref a, .ref nm, .int (d : Int)] ∧ Dk H a c cs k ∧ Nms K H nm ns ∧ nm ≠ a ∧ nm ≠ c ∧ 1 ≤ d ∧ k + cE d ≤ KB ∧
  ∀ H' cs' k' v e, Sx [a, c] H H' → Dk H' a c cs' k' → k ≤ k' → k' ≤ k + cE d → Tp H' v e → ExD ns d e → Q v H'
theorem ok_expr {f fD fO : Addr} {fd fdD fdO : FuncData} (F_expression : Fun K "_law_expression" "_law_expression" sExpression f fd) (F_draw : Fun K "_law_draw" "_law_draw" sDraw fD fdD) (F_one : Fun K "_law_one" "_law_one" sOne fO fdO)
    (G_draw : FnOk P w K mg base CX0 1 fD fdD ["_law_deck_here", "_law_many"] spDraw) (G_one : FnOk P w K mg base CX0 2 fO fdO ["_law_deck_here", "_law_items"] (spOne K))
    (b_draw : Binds K fdD ["_law_deck_here", "_law_many"] []) (b_one : Binds K fdO ["_law_deck_here", "_law_items"] []) (b_expression : Binds K fd ["_law_deck_here", "_law_names_here", "_law_deep"] [])
    (m_draw : mg "_law_draw" = some (.ref fD)) (m_one : mg "_law_one" = some (.ref fO)) (m_expression : mg "_law_expression" = some (.ref f)) (z_int : mg "int" = none) :
    ∀ d : Nat, FnOk P w K mg base CX0 (d + 2) f fd ["_law_deck_here", "_law_names_here", "_law_deep"] (spExpr K d) := by
  intro d
  induction d with
  | zero => exact ⟨fun vs H Q E h => by obtain ⟨_, _, _, _, _, _, rfl, _⟩ := h; rfl, fun _ _ _ _ _ _ _ _ _ _ _ _ _ h => by obtain ⟨_, _, _, _, _, _, _, _, _, _, _, h, _⟩ := h; omega⟩
  | succ d G_expression =>
    refine F_expression.ok scExpression (fun vs H Q E h => ?_) (fun cdv A outer s H vs Q E hr h => ?_)
    · obtain ⟨a, c, cs, k, nm, ns, rfl, _⟩ := h
      rfl
    · obtain ⟨a, c, cs, k, nm, ns, rfl, D, N, na, nc, hd, hk, q⟩ := h
      refine ⟨_, (C8.pss_cut (ps_set (i := 3) scExpression.nd rfl (by first | exact Or.inl rfl | exact Or.inr rfl) (pe_ifExp (pt_cmpR op_gt (pv 2) pe_int (nomark _)) (pe_call G_draw (hr.mono (by omega)) (by rfl) m_draw F_draw.kp b_draw .nil pass0 (pa_cons (pv 0) (pa_cons pe_int pa_nil))) (pe_call G_draw (hr.mono (by omega)) (by rfl) m_draw F_draw.kp b_draw .nil pass0 (pa_cons (pv 0) (pa_cons pe_int pa_nil)))))
      (pss_cons (ps_if (pt_cmpR op_eq (pv 3) pe_int (nomark _)) (pss_one (ps_ret (pe_call G_one (hr.mono (by omega)) (by rfl) m_one F_one.kp b_one .nil pass0 (pa_cons (pv 0) (pa_cons (pe_lst (pa_cons pe_int (pa_cons pe_int (pa_cons pe_int (pa_cons (pe_un un_neg pe_int) (pa_cons pe_int (pa_cons (pe_un un_neg pe_int) (pa_cons pe_int (pa_cons (pe_un un_neg pe_int) (pa_cons (pe_op op_sub (pe_call G_draw (hr.mono (by omega)) (by rfl) m_draw F_draw.kp b_draw .nil pass0 (pa_cons (pv 0) (pa_cons pe_int pa_nil))) pe_int) pa_nil)))))))))) pa_nil))))) pss_nil)
      (pss_cons (ps_if (pt_cmpR op_lt (pv 3) pe_int (nomark _)) (pss_one (ps_ret (pe_call G_one (hr.mono (by omega)) (by rfl) m_one F_one.kp b_one .nil pass0 (pa_cons (pv 0) (pa_cons (pv 1) pa_nil))))) pss_nil)
      (pss_cons (ps_if (pt_cmpR op_eq (pv 3) pe_int (nomark _)) (pss_cons (ps_set (i := 4) scExpression.nd rfl (by first | exact Or.inl rfl | exact Or.inr rfl) (pe_call G_one (hr.mono (by omega)) (by rfl) m_one F_one.kp b_one .nil pass0 (pa_cons (pv 0) (pa_cons (pe_lst (pa_cons (pe_un un_neg pe_int) (pa_cons (pe_un un_neg pe_int) (pa_cons (pe_un un_neg pe_int) (pa_cons (pe_un un_neg pe_int) (pa_cons (pe_un un_neg pe_int) (pa_cons pe_int (pa_cons pe_int (pa_cons pe_int (pa_cons pe_int pa_nil)))))))))) pa_nil))))
      (pss_one (ps_ret (pe_tup (pa_cons pe_str (pa_cons (pv 4) (pa_cons (pe_call G_expression (hr.mono (by omega)) (by rfl) m_expression F_expression.kp b_expression .nil pass0 (pa_cons (pv 0) (pa_cons (pv 1) (pa_cons (pe_op op_sub (pv 2) pe_int) pa_nil)))) pa_nil))))))) pss_nil)
      (pss_cons (ps_set (i := 5) scExpression.nd rfl (by first | exact Or.inl rfl | exact Or.inr rfl) (pe_call G_expression (hr.mono (by omega)) (by rfl) m_expression F_expression.kp b_expression .nil pass0 (pa_cons (pv 0) (pa_cons (pv 1) (pa_cons (pe_op op_sub (pv 2) pe_int) pa_nil)))))
      (pss_one (ps_ret (pe_tup (pa_cons (pe_ix ix_list (pe_lst (pa_cons pe_str (pa_cons pe_str pa_nil))) (pe_op op_mod (pe_callTy call_int1 (by rfl) z_int boot_int (pa_cons (pv 3) pa_nil)) pe_int) (fun _ _ => rfl)) (pa_cons (pv 5) (pa_cons (pe_call G_expression (hr.mono (by omega)) (by rfl) m_expression F_expression.kp b_expression .nil pass0 (pa_cons (pv 0) (pa_cons (pv 1) (pa_cons (pe_op op_sub (pv 2) pe_int) pa_nil)))) pa_nil))))))))))), ?_⟩
      have e1 := cE_one d
      have e2 := cE_pos d
      have hs : V.int (((d + 1 : Nat) : Int) - 1) = V.int (d : Int) := by rw [show ((d + 1 : Nat) : Int) - 1 = (d : Int) by omega]
      refine ⟨fun σ' H' => ∃ cs1 r, σ' = [some (.ref a), some (.ref nm), some (.int ((d + 1 : Nat) : Int)), some (.int r), none, none] ∧ Sx [a, c] H H' ∧ Dk H' a c cs1 (k + 1) ∧ 0 ≤ r ∧ r < 7 ∧ (d = 0 → r < 4), ?_, ?_⟩
      · refine ⟨_, rfl, _, 1, rfl, rfl, _, rfl, ite2 (fun e => ?_) (fun e => ?_)⟩
        · have e' : (1 : Int) < ((d + 1 : Nat) : Int) := of_decide_eq_true e
          refine ⟨_, rfl, a, c, cs, k, 7, rfl, D, by decide, by decide, by omega, fun H1 cs1 r s1 D1 r0 r1 => ⟨cs1, r, rfl, s1, D1, r0, r1, fun z => by omega⟩⟩
        · refine ⟨_, rfl, a, c, cs, k, 4, rfl, D, by decide, by decide, by omega, fun H1 cs1 r s1 D1 r0 r1 => ⟨cs1, r, rfl, s1, D1, r0, by omega, fun _ => r1⟩⟩
      · rintro _ H1 ⟨cs1, r, rfl, s1, D1, r0, r7, rd⟩
        have N1 := N.keep s1 (by simp [na, nc])
        refine ⟨_, rfl, rfl, _, rfl, ite2 (fun e => ?_) (fun e => ?_)⟩
        -- 0: an integer
        · refine ⟨_, rfl, 1, rfl, 5, rfl, 99, rfl, _, rfl, a, c, cs1, k + 1, 199, rfl, D1, by decide, by decide, by omega, fun H2 cs2 z s2 D2 z0 z1 => ?_⟩
          refine ⟨z, 99, rfl, rfl, by show 9 ≤ sizeLine; decide, fun p hp => ?_⟩
          obtain ⟨pa, pc⟩ := D2.nw hp
          refine ⟨a, c, cs2, _, _, rfl, D2.same ((Sx.refl _).new hp), by omega, .inl ⟨p, _, rfl, .inl (.inl upd_same), by simp, by show 9 ≤ 100000; decide, pa, pc, fun H3 cs3 x s4 D3 hx => ?_⟩⟩
          obtain ⟨i, rfl, i0, i1⟩ : ∃ i : Int, x = .int i ∧ -99 ≤ i ∧ i ≤ 99 := by
            simp only [List.not_mem_nil, List.mem_cons, or_false] at hx
            rcases hx with rfl | rfl | rfl | rfl | rfl | rfl | rfl | rfl | rfl
            all_goals first
              | exact ⟨_, rfl, by decide, by decide⟩
              | exact ⟨_, rfl, by show -99 ≤ z - 99; omega, by show z - 99 ≤ 99; omega⟩
          exact q H3 cs3 _ _ _ (((s1.trans s2).new hp).trans s4) D3 (by omega) (by omega) (.int i) (.int i i0 i1)
        · refine ⟨_, rfl, _, 4, rfl, rfl, _, rfl, ite2 (fun e4 => ?_) (fun e4 => ?_)⟩
          -- below 4: a name
          · refine ⟨_, rfl, _, rfl, a, c, cs1, k + 1, _, rfl, D1, by omega, .inl ⟨nm, _, rfl, N1.at_, by simp [N.ne], by rw [List.length_map]; have := N.len; omega, na, nc, fun H3 cs3 x s4 D3 hx => ?_⟩⟩
            obtain ⟨z, hz, rfl⟩ := List.mem_map.mp hx
            exact q H3 cs3 _ _ _ (s1.trans s4) D3 (by omega) (by omega) (.str z) (.name z hz)
          · have e4' : ¬ r < 4 := fun z => e4 (decide_eq_true z)
            have hd0 : 1 ≤ d := by
              rcases Nat.eq_zero_or_pos d with z | z
              · exact absurd (rd z) e4'
              · exact z
            refine ⟨_, rfl, rfl, _, rfl, ite2 (fun e6 => ?_) (fun e6 => ?_)⟩
            -- 6: times
            · refine ⟨_, rfl, 9, rfl, 4, rfl, 3, rfl, 2, rfl, 1, rfl, by show 9 ≤ sizeLine; decide, fun p hp => ?_⟩
              obtain ⟨pa, pc⟩ := D1.nw hp
              refine ⟨a, c, cs1, _, _, rfl, D1.same ((Sx.refl _).new hp), by omega, .inl ⟨p, _, rfl, .inl (.inl upd_same), by simp, by show 9 ≤ 100000; decide, pa, pc, fun H2 cs2 x s2 D2 hx => ?_⟩⟩
              obtain ⟨i, rfl, i0, i1⟩ : ∃ i : Int, x = .int i ∧ -9 ≤ i ∧ i ≤ 9 := by
                simp only [List.not_mem_nil, List.mem_cons, or_false] at hx
                rcases hx with rfl | rfl | rfl | rfl | rfl | rfl | rfl | rfl | rfl
                all_goals exact ⟨_, rfl, by decide, by decide⟩
              have s12 : Sx [a, c] H1 H2 := ((Sx.refl _).new hp).trans s2
              have N2 := N1.keep s12 (by simp [na, nc])
              refine ⟨_, rfl, _, rfl, _, rfl, _, rfl, _, 1, rfl, rfl, a, c, cs2, k + 1 + 1, nm, ns, congrArg (fun z => [V.ref a, V.ref nm, z]) hs, D2, N2, na, nc, hd0, by omega, fun H3 cs3 k3 v ev s3 D3 k3a k3b t3 x3 => ?_⟩
              refine ⟨by show 3 ≤ sizeLine; decide, fun t ht => ?_⟩
              exact q _ cs3 k3 _ _ (((s1.trans s12).trans s3).new ht) (D3.new ht) (by omega) (by omega) (.tup upd_same (.cons (.str _) (.cons (.int i) (.cons (t3.new ht) .nil)))) (.times i i0 i1 x3)
            -- plus, minus
            · refine ⟨_, rfl, _, rfl, _, rfl, _, 1, rfl, rfl, a, c, cs1, k + 1, nm, ns, congrArg (fun z => [V.ref a, V.ref nm, z]) hs, D1, N1, na, nc, hd0, by omega, fun H2 cs2 k2 v ev s2 D2 k2a k2b t2 x2 => ?_⟩
              refine ⟨by show 2 ≤ sizeLine; decide, fun l hl => ?_⟩
              obtain ⟨la, lc⟩ := D2.nw hl
              have n2 : Sx [] H2 (upd H2 l _) := (Sx.refl _).new (o := .lst [.str "plus", .str "minus"]) hl
              have D2' := D2.same n2
              have N2 := (N1.keep s2 (by simp [na, nc])).keep n2 (by simp)
              have t2' := t2.keep n2.tk0
              obtain ⟨b, hb, hr2⟩ : ∃ b : Str, (b = "plus" ∨ b = "minus") ∧ atI [V.str "plus", V.str "minus"] (r % 2) = some (.str b) := by
                rcases (show r % 2 = 0 ∨ r % 2 = 1 by omega) with z | z
                · exact ⟨_, .inl rfl, by rw [z]; rfl⟩
                · exact ⟨_, .inr rfl, by rw [z]; rfl⟩
              refine ⟨_, rfl, .inl ⟨r, rfl, r, 2, rfl, rfl, (by decide : (0 : Int) < 2), l, _, _, .str b, rfl, rfl, .inl (.inl upd_same), hr2, ?_⟩⟩
              refine ⟨_, rfl, _, rfl, _, rfl, _, rfl, _, 1, rfl, rfl, a, c, cs2, k2, nm, ns, congrArg (fun z => [V.ref a, V.ref nm, z]) hs, D2', N2, na, nc, hd0, by omega, fun H3 cs3 k3 v' ev' s3 D3 k3a k3b t3 x3 => ?_⟩
              refine ⟨by show 3 ≤ sizeLine; decide, fun t ht => ?_⟩
              refine q _ cs3 k3 _ (.tuple [.str b, ev, ev']) ((((s1.trans s2).trans n2.nil).trans s3).new ht) (D3.new ht) (by omega) (by omega) (.tup upd_same (.cons (.str _) (.cons ((t2'.keep (D2'.tk s3)).new ht) (.cons (t3.new ht) .nil)))) ?_
              rcases hb with rfl | rfl
              · exact .plus x2 x3
              · exact .minus x2 x3
def spTest (K : PySem.W.Frag) : Sp := fun vs H Q _ => ∃ (a c : Addr) (cs : List Int) (k : Int) (nm : Addr) (ns : List Str) (rm : Addr) (r0 r1 r2 r3 t : Int), vs = [.ref a, .ref nm, .ref rm, .int t] ∧ Dk H a c cs k ∧ Nms K H nm ns ∧ Rm H rm r0 r1 r2 r3 ∧
  nm ≠ a ∧ nm ≠ c ∧ nm ≠ rm ∧ rm ≠ a ∧ rm ≠ c ∧ 1 ≤ t ∧ k + 46 ≤ KB ∧
  ∀ H' cs' k' v e, Sx [a, c, rm] H H' → Dk H' a c cs' k' → k ≤ k' → k' ≤ k + 46 → Tp H' v e →
    ((e = .tuple [] ∧ Rm H' rm r0 r1 r2 r3) ∨ ∃ b, TsD ns 2 b e ∧ Rm H' rm r0 r1 (r2 - t * bI b) (r3 - t * bI (!b))) → Q v H'
theorem ok_test {f fD fO fE : Addr} {fd fdD fdO fdE : FuncData} (F : Fun K "_law_test" "_law_test" sTest f fd) (F_draw : Fun K "_law_draw" "_law_draw" sDraw fD fdD) (F_one : Fun K "_law_one" "_law_one" sOne fO fdO) (F_expression : Fun K "_law_expression" "_law_expression" sExpression fE fdE)
    (G_draw : FnOk P w K mg base CX0 1 fD fdD ["_law_deck_here", "_law_many"] spDraw) (G_one : FnOk P w K mg base CX0 2 fO fdO ["_law_deck_here", "_law_items"] (spOne K)) (G_expression : FnOk P w K mg base CX0 5 fE fdE ["_law_deck_here", "_law_names_here", "_law_deep"] (spExpr K 3))
    (b_draw : Binds K fdD ["_law_deck_here", "_law_many"] []) (b_one : Binds K fdO ["_law_deck_here", "_law_items"] []) (b_expression : Binds K fdE ["_law_deck_here", "_law_names_here", "_law_deep"] [])
    (m_draw : mg "_law_draw" = some (.ref fD)) (m_one : mg "_law_one" = some (.ref fO)) (m_expression : mg "_law_expression" = some (.ref fE)) (z_max : mg "max" = none) (z_range : mg "range" = none) :
    FnOk P w K mg base CX0 6 f fd ["_law_deck_here", "_law_names_here", "_law_room", "_law_times"] (spTest K) := by
  refine F.ok scTest (fun vs H Q E h => ?_) (fun cdv A outer s H vs Q E hr h => ?_)
  · obtain ⟨a, c, cs, k, nm, ns, rm, r0, r1, r2, r3, t, rfl, _⟩ := h
    rfl
  · obtain ⟨a, c, cs, k, nm, ns, rm, r0, r1, r2, r3, t, rfl, D, N, R, na, nc, nr, ra, rc, ht, hk, q⟩ := h
    have e3 : cE 3 = 21 := by decide
    refine ⟨_, (pss_cons (ps_par (i := 4) (j := 5) (by rfl) scTest.nd rfl rfl (by decide) rfl rfl (pa_cons (pe_op op_sub (pe_call G_draw (hr.mono (by omega)) (by rfl) m_draw F_draw.kp b_draw .nil pass0 (pa_cons (pv 0) (pa_cons pe_int pa_nil))) pe_int) (pa_cons (pe_tup pa_nil) pa_nil)) (by rfl))
      (C8.pss_cut (ps_if (PW.pt (pw_and (pt_cmpR op_eq (pe_call G_draw (hr.mono (by omega)) (by rfl) m_draw F_draw.kp b_draw .nil pass0 (pa_cons (pv 0) (pa_cons pe_int pa_nil))) pe_int (nomark _)) (pw_and1 (pt_cmpR op_ge (pe_ix ix_list (pv 2) pe_int (fun _ _ => rfl)) (pv 3) (nomark _))))) (pss_cons (ps_asg (pe_op op_sub (pe_ix ix_list (pv 2) pe_int (fun _ _ => rfl)) (pv 3)) (pg_sub (pv 2) pe_int set_list))
      (pss_cons (ps_set (i := 6) scTest.nd rfl (by first | exact Or.inl rfl | exact Or.inr rfl) (pe_op op_add pe_int (pe_call G_draw (hr.mono (by omega)) (by rfl) m_draw F_draw.kp b_draw .nil pass0 (pa_cons (pv 0) (pa_cons pe_int pa_nil)))))
      (pss_one (ps_set (i := 5) scTest.nd rfl (by first | exact Or.inl rfl | exact Or.inr rfl) (pe_tup (pa_cons pe_str (pa_cons (pe_call G_expression (hr.mono (by omega)) (by rfl) m_expression F_expression.kp b_expression .nil pass0 (pa_cons (pv 0) (pa_cons (pv 1) (pa_cons pe_int pa_nil)))) (pa_cons (pv 6) (pa_cons (pe_call G_draw (hr.mono (by omega)) (by rfl) m_draw F_draw.kp b_draw .nil pass0 (pa_cons (pv 0) (pa_cons (pv 6) pa_nil))) pa_nil))))))))) (pss_one (ps_if (pt_cmpR op_ge (pe_ix ix_list (pv 2) pe_int (fun _ _ => rfl)) (pv 3) (nomark _)) (pss_cons (ps_asg (pe_op op_sub (pe_ix ix_list (pv 2) pe_int (fun _ _ => rfl)) (pv 3)) (pg_sub (pv 2) pe_int set_list))
      (pss_cons (ps_set (i := 7) scTest.nd rfl (by first | exact Or.inl rfl | exact Or.inr rfl) (pe_call G_expression (hr.mono (by omega)) (by rfl) m_expression F_expression.kp b_expression .nil pass0 (pa_cons (pv 0) (pa_cons (pv 1) (pa_cons pe_int pa_nil)))))
      (pss_one (ps_set (i := 5) scTest.nd rfl (by first | exact Or.inl rfl | exact Or.inr rfl) (pe_tup (pa_cons pe_str (pa_cons (pv 7) (pa_cons (pe_call G_one (hr.mono (by omega)) (by rfl) m_one F_one.kp b_one .nil pass0 (pa_cons (pv 0) (pa_cons (pe_lst (pa_cons (pe_op op_sub (pe_call G_draw (hr.mono (by omega)) (by rfl) m_draw F_draw.kp b_draw .nil pass0 (pa_cons (pv 0) (pa_cons pe_int pa_nil))) pe_int) (pa_cons (pe_call G_expression (hr.mono (by omega)) (by rfl) m_expression F_expression.kp b_expression .nil pass0 (pa_cons (pv 0) (pa_cons (pv 1) (pa_cons pe_int pa_nil)))) pa_nil))) pa_nil))) pa_nil)))))))) pss_nil)))
      (C8.pss_cut (ps_for PassesOwn.never rfl (pi_range1 (by rfl) z_range (pa_cons (pe_ifExp (pt_cmpR (op_neD hr.units) (pv 5) (pe_tup pa_nil) (nomark _)) (pe_callB (call_max2 rfl) (by rfl) z_max boot_max (pa_cons pe_int (pa_cons (pv 4) pa_nil))) pe_int) pa_nil)) (pg_name (i := 8) scTest.nd rfl (by first | exact Or.inl rfl | exact Or.inr rfl)) (pss_one (ps_set (i := 5) scTest.nd rfl (by first | exact Or.inl rfl | exact Or.inr rfl) (pe_tup (pa_cons pe_str (pa_cons (pv 5) pa_nil))))))
      (pss_one (ps_ret (pv 5)))))), ?_⟩
    -- _law_nots, _law_test_here = .. - 2, ()
    refine ⟨_, rfl, a, c, cs, k, 5, rfl, D, by decide, by decide, by omega, fun H1 cs1 z s1 D1 z0 z1 => ⟨z, 2, rfl, rfl, Nat.zero_le _, fun p hp => ⟨_, _, rfl, ?_⟩⟩⟩
    refine gh (H1 := upd _ p _) (F := fun H2 => Sx [a, c, rm] H H2 ∧ Dk H2 a c cs1 (k + 1) ∧ Nms K H2 nm ns ∧ Rm H2 rm r0 r1 r2 r3 ∧ Tp H2 (.ref p) (.tuple []))
      ⟨(s1.mono (by simp)).new hp, D1.new hp, (N.keep s1 (by simp [na, nc])).keep ((Sx.refl (ex := []) _).new hp) (by simp), (R.sx s1 (by simp [ra, rc])).new hp, .tup upd_same .nil⟩ (fun H2 ⟨s2, D2, N2, R2, T2⟩ => ?_)
    -- the test made
    refine ⟨fun σ' H' => ∃ (cs' : List Int) (k' : Int) (v : V) (e : PyData) (y6 y7 : Option V), σ' = [some (.ref a), some (.ref nm), some (.ref rm), some (.int t), some (.int (z - 2)), some v, y6, y7, none] ∧ Sx [a, c, rm] H H' ∧ Dk H' a c cs' k' ∧ k ≤ k' ∧ k' ≤ k + 46 ∧ Tp H' v e ∧
      ((e = .tuple [] ∧ Rm H' rm r0 r1 r2 r3) ∨ ∃ b, TsD ns 0 b e ∧ Rm H' rm r0 r1 (r2 - t * bI b) (r3 - t * bI (!b))), ?_, ?_⟩
    · refine ⟨_, rfl, a, c, cs1, k + 1, 2, rfl, D2, by decide, by decide, by omega, fun H3 cs3 y s3 D3 y0 y1 => ?_⟩
      have N3 := N2.keep s3 (by simp [na, nc])
      have R3 := R2.sx s3 (by simp [ra, rc])
      have s03 : Sx [a, c, rm] H H3 := s2.trans (s3.mono (by simp))
      have T3 := T2.keep (D2.tk s3)
      refine ⟨rfl, _, rfl, ite2 (fun e => ⟨.ref rm, rfl, rm, _, 2, .int r2, rfl, rfl, .inl (.inl R3.at_), rfl, _, rfl, r2, t, rfl, rfl, _, rfl, ite2 (fun e2 => ?main) (fun e2 => ?els)⟩) (fun e => ?els2)⟩
      case main =>
        have e2' : t ≤ r2 := of_decide_eq_true e2
        -- _law_room[2] = ..
        refine ⟨.ref rm, rfl, rm, _, 2, .int r2, rfl, rfl, .inl (.inl R3.at_), rfl, _, rfl, r2, t, rfl, rfl, _, rfl, rm, _, 2, 2, rfl, rfl, R3.at_, rfl, ?_⟩
        refine gh (H1 := upd _ rm _) (F := fun H4 => Sx [a, c, rm] H H4 ∧ Dk H4 a c cs3 (k + 1 + 1) ∧ Nms K H4 nm ns ∧ Rm H4 rm r0 r1 (r2 - t) r3)
          ⟨s03.put (by simp), D3.sx ((Sx.refl (ex := [rm]) _).put (by simp)) (by simp [ra.symm]) (by simp [rc.symm]), N3.keep ((Sx.refl (ex := [rm]) _).put (by simp)) (by simp [nr]), upd_same, R3.p0, R3.p1, by omega, R3.p3⟩ (fun H4 ⟨s4, D4, N4, R4⟩ => ?_)
        -- _law_by
        refine ⟨_, rfl, a, c, cs3, _, 5, rfl, D4, by decide, by decide, by omega, fun H5 cs5 b s5 D5 b0 b1 => ⟨2, b, rfl, rfl, ?_⟩⟩
        have N5 := N4.keep s5 (by simp [na, nc])
        have R5 := R4.sx s5 (by simp [ra, rc])
        -- the tuple
        refine ⟨_, rfl, _, rfl, a, c, cs5, _, nm, ns, rfl, D5, N5, na, nc, by decide, by omega, fun H6 cs6 k6 v6 x6 s6 D6 k6a k6b T6 X6 => ?_⟩
        refine ⟨_, rfl, _, rfl, _, rfl, a, c, cs6, k6, _, rfl, D6, by show (0 : Int) < 2 + b; omega, by show 2 + b < 1073741824; omega, by omega, fun H7 cs7 y7 s7 D7 y70 y71 => ?_⟩
        refine ⟨by show 4 ≤ sizeLine; decide, fun u hu => ?_⟩
        have R7 := (R5.sx s6 (by simp [ra, rc])).sx s7 (by simp [ra, rc])
        refine ⟨cs7, k6 + 1, .ref u, .tuple [.str "rest", x6, .int (2 + b), .int y7], _, _, rfl, (((s4.trans (s5.mono (by simp))).trans (s6.mono (by simp))).trans (s7.mono (by simp))).new hu, D7.new hu, by omega, by omega,
          .tup upd_same (.cons (.str _) (.cons ((T6.keep (D6.tk s7)).new hu) (.cons (.int _) (.cons (.int _) .nil)))), .inr ⟨true, .rest _ _ X6 (by omega) (by omega) y70 y71, ?_⟩⟩
        have R8 := R7.new (o := .tup [.str "rest", v6, .int (2 + b), .int y7]) hu
        simpa [bI] using R8
      all_goals
        refine ⟨.ref rm, rfl, rm, _, 3, .int r3, rfl, rfl, .inl (.inl R3.at_), rfl, _, rfl, r3, t, rfl, rfl, _, rfl, ite2 (fun e2 => ?_) (fun e2 => ?_)⟩
        · have e2' : t ≤ r3 := of_decide_eq_true e2
          refine ⟨.ref rm, rfl, rm, _, 3, .int r3, rfl, rfl, .inl (.inl R3.at_), rfl, _, rfl, r3, t, rfl, rfl, _, rfl, rm, _, 3, 3, rfl, rfl, R3.at_, rfl, ?_⟩
          refine gh (H1 := upd _ rm _) (F := fun H4 => Sx [a, c, rm] H H4 ∧ Dk H4 a c cs3 (k + 1 + 1) ∧ Nms K H4 nm ns ∧ Rm H4 rm r0 r1 r2 (r3 - t))
            ⟨s03.put (by simp), D3.sx ((Sx.refl (ex := [rm]) _).put (by simp)) (by simp [ra.symm]) (by simp [rc.symm]), N3.keep ((Sx.refl (ex := [rm]) _).put (by simp)) (by simp [nr]), upd_same, R3.p0, R3.p1, R3.p2, by omega⟩ (fun H4 ⟨s4, D4, N4, R4⟩ => ?_)
          -- _law_first
          refine ⟨_, rfl, _, rfl, a, c, cs3, _, nm, ns, rfl, D4, N4, na, nc, by decide, by omega, fun H6 cs6 k6 v6 x6 s6 D6 k6a k6b T6 X6 => ?_⟩
          have N6 := N4.keep s6 (by simp [na, nc])
          -- the second side
          refine ⟨_, rfl, _, rfl, _, rfl, a, c, cs6, k6, 41, rfl, D6, by decide, by decide, by omega, fun H7 cs7 y7 s7 D7 y70 y71 => ⟨y7, 20, rfl, rfl, ?_⟩⟩
          have N7 := N6.keep s7 (by simp [na, nc])
          refine ⟨_, rfl, _, rfl, a, c, cs7, _, nm, ns, rfl, D7, N7, na, nc, by decide, by omega, fun H8 cs8 k8 v8 x8 s8 D8 k8a k8b T8 X8 => ?_⟩
          refine ⟨by show 2 ≤ sizeLine; decide, fun l hl => ?_⟩
          obtain ⟨la, lc⟩ := D8.nw hl
          refine ⟨a, c, cs8, k8, _, rfl, D8.new hl, by omega, .inl ⟨l, _, rfl, .inl (.inl upd_same), by simp, by show 2 ≤ 100000; decide, la, lc, fun H9 cs9 v9 s9 D9 hv => ?_⟩⟩
          have k9 : Tk H8 H9 := ((Sx.refl (ex := []) _).new hl).tk0.trans ((D8.new hl).tk s9)
          obtain ⟨x9, T9, X9⟩ : ∃ x9, Tp H9 v9 x9 ∧ ExD ns 3 x9 := by
            simp only [List.not_mem_nil, List.mem_cons, or_false] at hv
            rcases hv with rfl | rfl
            · exact ⟨_, .int _, .int _ (by show -99 ≤ y7 - 20; omega) (by show y7 - 20 ≤ 99; omega)⟩
            · exact ⟨x8, T8.keep k9, X8⟩
          refine ⟨by show 3 ≤ sizeLine; decide, fun u hu => ?_⟩
          have s89 : Sx [a, c] H8 H9 := ((Sx.refl _).new hl).trans s9
          have R9 := (((R4.sx s6 (by simp [ra, rc])).sx s7 (by simp [ra, rc])).sx s8 (by simp [ra, rc])).sx s89 (by simp [ra, rc])
          refine ⟨cs9, k8 + 1, .ref u, .tuple [.str "less", x6, x9], _, _, rfl, ((((s4.trans (s6.mono (by simp))).trans (s7.mono (by simp))).trans (s8.mono (by simp))).trans (s89.mono (by simp))).new hu, D9.new hu, by omega, by omega,
            .tup upd_same (.cons (.str _) (.cons ((((T6.keep (D6.tk s7)).keep (D7.tk s8)).keep k9).new hu) (.cons (T9.new hu) .nil))), .inr ⟨false, .less X6 X9, ?_⟩⟩
          have R10 := R9.new (o := .tup [.str "less", v6, v9]) hu
          simpa [bI] using R10
        · exact ⟨cs3, _, .ref p, .tuple [], _, _, rfl, s03, D3, by omega, by omega, T3, .inl ⟨rfl, R3⟩⟩
    -- the nots
    · rintro _ H3 ⟨cs3, k3, v, e, y6, y7, rfl, s3, D3, k3a, k3b, T3, h3⟩
      have sh : SeqAt.shaped e = true := by
        rcases h3 with ⟨rfl, _⟩ | ⟨b, hb, _⟩
        · exact (Sh.tup (n := 0) .nil).shaped (by decide)
        · exact (hb.sh N.ok).shaped (by decide)
      refine ⟨fun σ' H' => ∃ v', σ'[5]? = some (some v') ∧ Q v' H', ?_, fun _ _ h => h⟩
      refine ⟨_, rfl, Nat.zero_le _, fun u hu => ⟨e, .tuple [], (T3.new hu).dp, .tup (SqT.of upd_same) .nil, sh, (Sh.tup (n := 0) .nil).shaped (by decide), _, rfl, ?_⟩⟩
      rcases h3 with ⟨rfl, R3⟩ | ⟨b, hb, R3⟩
      · -- no test
        refine iteF ⟨0, rfl, by decide, by decide, ?_⟩
        refine for_range (lo := 0) (n := 0) (fun i σ' H' => σ'[5]? = some (some v) ∧ Sx [a, c, rm] H H' ∧ Dk H' a c cs3 k3 ∧ Tp H' v (.tuple []) ∧ Rm H' rm r0 r1 r2 r3) ⟨rfl, s3.new hu, D3.new hu, T3.new hu, R3.new hu⟩ (fun i σ' H' hi _ => absurd hi (Nat.not_lt_zero _)) (fun σ' H' ⟨p1, p2, p3, p4, p5⟩ => ?_)
        exact ⟨v, p1, q _ cs3 k3 v _ p2 p3 k3a k3b p4 (.inl ⟨rfl, p5⟩)⟩
      · have hne : (!PyData.eqv e (.tuple [])) = true := by
          cases hb <;> rfl
        refine (show ∀ {c : Bool} {A B : Prop}, c = true → A → (if c = true then A else B) from fun h1 h2 => by rw [if_pos h1]; exact h2) hne ?_
        refine ⟨_, rfl, 0, z - 2, rfl, ?_⟩
        have hm : (if z - 2 > 0 then z - 2 else 0) = (((z - 2).toNat : Nat) : Int) := by
          split <;> omega
        refine ⟨_, congrArg (fun y => [V.int y]) hm, by omega, by omega, ?_⟩
        refine for_range (lo := 0) (fun i σ' H' => ∃ v' e' y8, σ' = [some (.ref a), some (.ref nm), some (.ref rm), some (.int t), some (.int (z - 2)), some v', y6, y7, y8] ∧ Sx [a, c, rm] H H' ∧ Dk H' a c cs3 k3 ∧ Tp H' v' e' ∧ TsD ns i b e' ∧ Rm H' rm r0 r1 (r2 - t * bI b) (r3 - t * bI (!b)))
          ⟨v, e, _, rfl, s3.new hu, D3.new hu, T3.new hu, hb, R3.new hu⟩ (fun i σ' H' hi hp => ?_) (fun σ' H' hp => ?_)
        · obtain ⟨v', e', y8, rfl, p1, p2, p3, p4, p5⟩ := hp
          refine ⟨_, rfl, by show 2 ≤ sizeLine; decide, fun x hx => ?_⟩
          exact ⟨.ref x, .tuple [.str "not", e'], _, rfl, p1.new hx, p2.new hx, .tup upd_same (.cons (.str _) (.cons (p3.new hx) .nil)), .not p4, p5.new hx⟩
        · obtain ⟨v', e', y8, rfl, p1, p2, p3, p4, p5⟩ := hp
          exact ⟨v', rfl, q _ cs3 k3 v' e' p1 p2 k3a k3b p3 (.inr ⟨b, p4.up (by omega), p5⟩)⟩
def spPlain (K : PySem.W.Frag) : Sp := fun vs H Q _ => ∃ (a c : Addr) (cs : List Int) (k : Int) (nm : Addr) (ns : List Str), vs = [.ref a, .ref nm] ∧ Dk H a c cs k ∧ Nms K H nm ns ∧ nm ≠ a ∧ nm ≠ c ∧ k + 24 ≤ KB ∧
  ∀ H' cs' k' v e, Sx [a, c] H H' → Dk H' a c cs' k' → k ≤ k' → k' ≤ k + 24 → Tp H' v e → (∀ d, StD ns d 1 1 0 0 e) → Q v H'
theorem ok_plain {f fD fO fE : Addr} {fd fdD fdO fdE : FuncData} (F : Fun K "_law_plain" "_law_plain" sPlain f fd) (F_draw : Fun K "_law_draw" "_law_draw" sDraw fD fdD) (F_one : Fun K "_law_one" "_law_one" sOne fO fdO) (F_expression : Fun K "_law_expression" "_law_expression" sExpression fE fdE)
    (G_draw : FnOk P w K mg base CX0 1 fD fdD ["_law_deck_here", "_law_many"] spDraw) (G_one : FnOk P w K mg base CX0 2 fO fdO ["_law_deck_here", "_law_items"] (spOne K)) (G_expression : FnOk P w K mg base CX0 5 fE fdE ["_law_deck_here", "_law_names_here", "_law_deep"] (spExpr K 3))
    (b_draw : Binds K fdD ["_law_deck_here", "_law_many"] []) (b_one : Binds K fdO ["_law_deck_here", "_law_items"] []) (b_expression : Binds K fdE ["_law_deck_here", "_law_names_here", "_law_deep"] [])
    (m_draw : mg "_law_draw" = some (.ref fD)) (m_one : mg "_law_one" = some (.ref fO)) (m_expression : mg "_law_expression" = some (.ref fE)) :
    FnOk P w K mg base CX0 6 f fd ["_law_deck_here", "_law_names_here"] (spPlain K) := by
  refine F.ok scPlain (fun vs H Q E h => ?_) (fun cdv A outer s H vs Q E hr h => ?_)
  · obtain ⟨a, c, cs, k, nm, ns, rfl, _⟩ := h
    rfl
  · obtain ⟨a, c, cs, k, nm, ns, rfl, D, N, na, nc, hk, q⟩ := h
    have e3 : cE 3 = 21 := by decide
    refine ⟨_, (pss_cons (ps_par (i := 2) (j := 3) (by rfl) scPlain.nd rfl rfl (by decide) rfl rfl (pa_cons (pe_call G_draw (hr.mono (by omega)) (by rfl) m_draw F_draw.kp b_draw .nil pass0 (pa_cons (pv 0) (pa_cons pe_int pa_nil))) (pa_cons (pe_call G_one (hr.mono (by omega)) (by rfl) m_one F_one.kp b_one .nil pass0 (pa_cons (pv 0) (pa_cons (pv 1) pa_nil))) pa_nil)) (by rfl))
      (pss_cons (ps_if (pt_cmpR op_lt (pv 2) pe_int (nomark _)) (pss_one (ps_ret (pe_tup (pa_cons pe_str (pa_cons (pv 3) (pa_cons (pe_call G_expression (hr.mono (by omega)) (by rfl) m_expression F_expression.kp b_expression .nil pass0 (pa_cons (pv 0) (pa_cons (pv 1) (pa_cons pe_int pa_nil)))) pa_nil)))))) pss_nil)
      (pss_cons (ps_if (pt_cmpR op_eq (pv 2) pe_int (nomark _)) (pss_one (ps_ret (pe_tup (pa_cons pe_str (pa_cons (pv 3) (pa_cons (pv 3) pa_nil)))))) pss_nil)
      (pss_cons (ps_if (PW.pt (pw_and (pt_cmpR op_eq (pv 2) pe_int (nomark _)) (pw_and1 (pt_cmpR op_eq (pe_call G_draw (hr.mono (by omega)) (by rfl) m_draw F_draw.kp b_draw .nil pass0 (pa_cons (pv 0) (pa_cons pe_int pa_nil))) pe_int (nomark _))))) (pss_one (ps_ret (pe_tup (pa_cons pe_str pa_nil)))) pss_nil)
      (pss_one (ps_ret (pe_tup (pa_cons pe_str (pa_cons (pe_call G_expression (hr.mono (by omega)) (by rfl) m_expression F_expression.kp b_expression .nil pass0 (pa_cons (pv 0) (pa_cons (pv 1) (pa_cons pe_int pa_nil)))) pa_nil))))))))), ?_⟩
    refine ⟨_, rfl, a, c, cs, k, 12, rfl, D, by decide, by decide, by omega, fun H1 cs1 r s1 D1 r0 r1 => ?_⟩
    have N1 := N.keep s1 (by simp [na, nc])
    refine ⟨_, rfl, _, rfl, a, c, cs1, k + 1, _, rfl, D1, by omega, .inl ⟨nm, _, rfl, N1.at_, by simp [N.ne], by rw [List.length_map]; have := N.len; omega, na, nc, fun H2 cs2 x s2 D2 hx => ?_⟩⟩
    obtain ⟨z, hz, rfl⟩ := List.mem_map.mp hx
    have N2 := N1.keep s2 (by simp [na, nc])
    have s02 := s1.trans s2
    refine ⟨_, _, rfl, ?_⟩
    refine ⟨_, rfl, _, 4, rfl, rfl, _, rfl, ite2 (fun e => ?_) (fun e => ?_)⟩
    · refine ⟨_, rfl, _, rfl, _, rfl, a, c, cs2, _, nm, ns, rfl, D2, N2, na, nc, by decide, by omega, fun H3 cs3 k3 v x s3 D3 k3a k3b T3 X3 => ?_⟩
      refine ⟨by show 3 ≤ sizeLine; decide, fun t ht => ?_⟩
      exact q _ cs3 k3 _ _ ((s02.trans s3).new ht) (D3.new ht) (by omega) (by omega) (.tup upd_same (.cons (.str _) (.cons (.str z) (.cons (T3.new ht) .nil)))) (fun d => .set z hz X3)
    · refine ⟨_, rfl, rfl, _, rfl, ite2 (fun e4 => ?_) (fun e4 => ?_)⟩
      · refine ⟨_, rfl, _, rfl, by show 3 ≤ sizeLine; decide, fun t ht => ?_⟩
        exact q _ cs2 _ _ _ (s02.new ht) (D2.new ht) (by omega) (by omega) (.tup upd_same (.cons (.str _) (.cons (.str z) (.cons (.str z) .nil)))) (fun d => .set z hz (.name z hz))
      · refine ⟨_, rfl, rfl, _, rfl, ite2 (fun e5 => ⟨_, rfl, a, c, cs2, _, 2, rfl, D2, by decide, by decide, by omega, fun H3 cs3 y s3 D3 y0 y1 => ⟨rfl, _, rfl, ite2 (fun e6 => ?stop) (fun e6 => ?pay)⟩⟩) (fun e5 => ?pay2)⟩
        case stop =>
          refine ⟨by show 1 ≤ sizeLine; decide, fun t ht => ?_⟩
          exact q _ cs3 _ _ _ ((s02.trans s3).new ht) (D3.new ht) (by omega) (by omega) (.tup upd_same (.cons (.str _) .nil)) (fun d => .stop)
        case pay =>
          refine ⟨_, rfl, _, rfl, a, c, cs3, _, nm, ns, rfl, D3, N2.keep s3 (by simp [na, nc]), na, nc, by decide, by omega, fun H4 cs4 k4 v x s4 D4 k4a k4b T4 X4 => ?_⟩
          refine ⟨by show 2 ≤ sizeLine; decide, fun t ht => ?_⟩
          exact q _ cs4 k4 _ _ (((s02.trans s3).trans s4).new ht) (D4.new ht) (by omega) (by omega) (.tup upd_same (.cons (.str _) (.cons (T4.new ht) .nil))) (fun d => .pay X4)
        case pay2 =>
          refine ⟨_, rfl, _, rfl, a, c, cs2, _, nm, ns, rfl, D2, N2, na, nc, by decide, by omega, fun H4 cs4 k4 v x s4 D4 k4a k4b T4 X4 => ?_⟩
          refine ⟨by show 2 ≤ sizeLine; decide, fun t ht => ?_⟩
          exact q _ cs4 k4 _ _ ((s02.trans s4).new ht) (D4.new ht) (by omega) (by omega) (.tup upd_same (.cons (.str _) (.cons (T4.new ht) .nil))) (fun d => .pay X4)
theorem ok_row {f fD fO fT fP fB : Addr} {fd fdD fdO fdT fdP fdB : FuncData} {d : Nat} (F : Fun K "_law_row" "_law_row" sRow f fd) (F_draw : Fun K "_law_draw" "_law_draw" sDraw fD fdD) (F_one : Fun K "_law_one" "_law_one" sOne fO fdO) (F_test : Fun K "_law_test" "_law_test" sTest fT fdT) (F_plain : Fun K "_law_plain" "_law_plain" sPlain fP fdP) (F_block : Fun K "_law_block" "_law_block" sBlock fB fdB)
    (G_draw : FnOk P w K mg base CX0 1 fD fdD ["_law_deck_here", "_law_many"] spDraw) (G_one : FnOk P w K mg base CX0 2 fO fdO ["_law_deck_here", "_law_items"] (spOne K)) (G_test : FnOk P w K mg base CX0 6 fT fdT ["_law_deck_here", "_law_names_here", "_law_room", "_law_times"] (spTest K))
    (G_plain : FnOk P w K mg base CX0 6 fP fdP ["_law_deck_here", "_law_names_here"] (spPlain K)) (G_block : FnOk P w K mg base CX0 (6 + 2 * d) fB fdB ["_law_deck_here", "_law_names_here", "_law_room", "_law_times", "_law_depth"] (spBlock K d))
    (b_draw : Binds K fdD ["_law_deck_here", "_law_many"] []) (b_one : Binds K fdO ["_law_deck_here", "_law_items"] []) (b_test : Binds K fdT ["_law_deck_here", "_law_names_here", "_law_room", "_law_times"] []) (b_plain : Binds K fdP ["_law_deck_here", "_law_names_here"] []) (b_block : Binds K fdB ["_law_deck_here", "_law_names_here", "_law_room", "_law_times", "_law_depth"] [])
    (m_draw : mg "_law_draw" = some (.ref fD)) (m_one : mg "_law_one" = some (.ref fO)) (m_test : mg "_law_test" = some (.ref fT)) (m_plain : mg "_law_plain" = some (.ref fP)) (m_block : mg "_law_block" = some (.ref fB)) :
    FnOk P w K mg base CX0 (6 + 2 * d + 1) f fd ["_law_deck_here", "_law_names_here", "_law_room", "_law_times", "_law_depth"] (spRow K d) := by
  refine F.ok scRow (fun vs H Q E h => ?_) (fun cdv A outer s H vs Q E hr h => ?_)
  · obtain ⟨a, c, cs, k, nm, ns, rm, r0, r1, r2, r3, t, rfl, _⟩ := h
    rfl
  · obtain ⟨a, c, cs, k, nm, ns, rm, r0, r1, r2, r3, t, rfl, D, N, R, na, nc, nr, ra, rc, ht, h30, hk, q⟩ := h
    have eB := cB_pos d
    refine ⟨_, (pss_cons (ps_if (PW.pt (pw_or (pt_cmpR op_lt (pe_ix ix_list (pv 2) pe_int (fun _ _ => rfl)) pe_int (nomark _)) (pw_or1 (pt_cmpR op_lt (pe_ix ix_list (pv 2) pe_int (fun _ _ => rfl)) (pv 3) (nomark _))))) (pss_one (ps_ret (pe_tup pa_nil))) pss_nil)
      (pss_cons (ps_asg (pe_tup (pa_cons (pe_op op_sub (pe_ix ix_list (pv 2) pe_int (fun _ _ => rfl)) pe_int) (pa_cons (pe_op op_sub (pe_ix ix_list (pv 2) pe_int (fun _ _ => rfl)) (pv 3)) pa_nil))) (pg_tup rfl (pgs_cons (pg_sub (pv 2) pe_int set_list) (pgs_cons (pg_sub (pv 2) pe_int set_list) pgs_nil))))
      (pss_cons (ps_set (i := 5) scRow.nd rfl (by first | exact Or.inl rfl | exact Or.inr rfl) (pe_call G_draw (hr.mono (by omega)) (by rfl) m_draw F_draw.kp b_draw .nil pass0 (pa_cons (pv 0) (pa_cons pe_int pa_nil))))
      (C8.pss_cut (ps_set (i := 6) scRow.nd rfl (by first | exact Or.inl rfl | exact Or.inr rfl) (pe_ifExp (pt_cmpR op_lt (pv 5) pe_int (nomark _)) (pe_call G_test (hr.mono (by omega)) (by rfl) m_test F_test.kp b_test .nil pass0 (pa_cons (pv 0) (pa_cons (pv 1) (pa_cons (pv 2) (pa_cons (pv 3) pa_nil))))) (pe_tup pa_nil)))
      (pss_cons (ps_if (pt_cmpR (op_neD hr.units) (pv 6) (pe_tup pa_nil) (nomark _)) (pss_cons (ps_set (i := 7) scRow.nd rfl (by first | exact Or.inl rfl | exact Or.inr rfl) (pe_call G_block (hr.mono (by omega)) (by rfl) m_block F_block.kp b_block .nil pass0 (pa_cons (pv 0) (pa_cons (pv 1) (pa_cons (pv 2) (pa_cons (pv 3) (pa_cons (pe_op op_add (pv 4) pe_int) pa_nil)))))))
      (pss_one (ps_ret (pe_tup (pa_cons pe_str (pa_cons (pv 6) (pa_cons (pv 7) (pa_cons (pe_call G_block (hr.mono (by omega)) (by rfl) m_block F_block.kp b_block .nil pass0 (pa_cons (pv 0) (pa_cons (pv 1) (pa_cons (pv 2) (pa_cons (pv 3) (pa_cons (pe_op op_add (pv 4) pe_int) pa_nil)))))) pa_nil)))))))) pss_nil)
      (pss_cons (ps_if (PW.pt (pw_or (pt_cmpR op_eq (pv 5) pe_int (nomark _)) (pw_or1 (pt_cmpR op_eq (pv 5) pe_int (nomark _))))) (pss_cons (ps_set (i := 8) scRow.nd rfl (by first | exact Or.inl rfl | exact Or.inr rfl) (pe_call G_one (hr.mono (by omega)) (by rfl) m_one F_one.kp b_one .nil pass0 (pa_cons (pv 0) (pa_cons (pe_lst (pa_cons pe_int (pa_cons pe_int (pa_cons pe_int (pa_cons pe_int (pa_cons pe_int (pa_cons pe_int (pa_cons pe_int pa_nil)))))))) pa_nil))))
      (pss_one (ps_ret (pe_tup (pa_cons pe_str (pa_cons (pv 8) (pa_cons (pe_call G_block (hr.mono (by omega)) (by rfl) m_block F_block.kp b_block .nil pass0 (pa_cons (pv 0) (pa_cons (pv 1) (pa_cons (pv 2) (pa_cons (pe_op op_mul (pv 3) (pv 8)) (pa_cons (pe_op op_add (pv 4) pe_int) pa_nil)))))) pa_nil))))))) pss_nil)
      (pss_one (ps_ret (pe_call G_plain (hr.mono (by omega)) (by rfl) m_plain F_plain.kp b_plain .nil pass0 (pa_cons (pv 0) (pa_cons (pv 1) pa_nil))))))))))), ?_⟩
    refine ⟨.ref rm, rfl, rm, _, 0, .int r0, rfl, rfl, .inl (.inl R.at_), rfl, _, 1, rfl, rfl, _, rfl, ite2 (fun e => ⟨Nat.zero_le _, fun p hp => ?_⟩)
      (fun e => ⟨.ref rm, rfl, rm, _, 1, .int r1, rfl, rfl, .inl (.inl R.at_), rfl, _, rfl, _, _, rfl, rfl, _, rfl, ite2 (fun e1 => ⟨Nat.zero_le _, fun p hp => ?_⟩) (fun e1 => ?_)⟩)⟩
    · exact q _ cs k _ (.tuple []) ((Sx.refl _).new hp) (D.new hp) (Int.le_refl _) (by omega) (.tup upd_same .nil) (.inl ⟨rfl, R.new hp⟩)
    · exact q _ cs k _ (.tuple []) ((Sx.refl _).new hp) (D.new hp) (Int.le_refl _) (by omega) (.tup upd_same .nil) (.inl ⟨rfl, R.new hp⟩)
    have g0 : 1 ≤ r0 := by
      have : ¬ r0 < 1 := fun z => e (decide_eq_true z)
      omega
    have g1 : t ≤ r1 := by
      have : ¬ r1 < t := fun z => e1 (decide_eq_true z)
      omega
    -- the room shrinks
    refine ⟨.ref rm, rfl, rm, _, 0, .int r0, rfl, rfl, .inl (.inl R.at_), rfl, _, 1, rfl, rfl, .ref rm, rfl, rm, _, 1, .int r1, rfl, rfl, .inl (.inl R.at_), rfl, _, rfl, _, _, rfl, rfl, by show 2 ≤ sizeLine; decide, fun p hp => ?_⟩
    refine ⟨p, _, rfl, .inl (.inl upd_same), rfl, _, _, rfl, .ref rm, rfl, rm, _, 0, 0, rfl, rfl, (R.new hp).at_, rfl, _, _, rfl, .ref rm, rfl, rm, _, 1, 1, rfl, rfl, upd_same, rfl, rfl, ?_⟩
    refine gh (H1 := upd (upd (upd H p _) rm _) rm _) (F := fun H2 => Sx [a, c, rm] H H2 ∧ Dk H2 a c cs k ∧ Nms K H2 nm ns ∧ Rm H2 rm (r0 - 1) (r1 - t) r2 r3)
      ⟨(((Sx.refl _).new hp).put (by simp)).put (by simp), (D.new hp).sx (((Sx.refl (ex := [rm]) _).put (by simp)).put (by simp)) (by simp [ra.symm]) (by simp [rc.symm]), N.keep ((((Sx.refl (ex := [rm]) _).new hp).put (by simp)).put (by simp)) (by simp [nr]),
        ⟨by rw [upd_upd]; exact upd_same, by omega, by omega, R.p2, R.p3⟩⟩ (fun H2 ⟨s2, D2, N2, R2⟩ => ?_)
    refine ⟨_, rfl, a, c, cs, k, 9, rfl, D2, by decide, by decide, by omega, fun H3 cs3 y s3 D3 y0 y1 => ?_⟩
    have N3 := N2.keep s3 (by simp [na, nc])
    have R3 := R2.sx s3 (by simp [ra, rc])
    have s03 : Sx [a, c, rm] H H3 := s2.trans (s3.mono (by simp))
    -- the test
    refine ⟨fun σ' H' => ∃ (cs' : List Int) (k' : Int) (v : V) (e : PyData), σ' = [some (.ref a), some (.ref nm), some (.ref rm), some (.int t), some (.int (3 - (d : Int))), some (.int y), some v, none, none] ∧ Sx [a, c, rm] H H' ∧ Dk H' a c cs' k' ∧ k ≤ k' ∧ k' ≤ k + 47 ∧ Nms K H' nm ns ∧ Tp H' v e ∧
      ((e = .tuple [] ∧ Rm H' rm (r0 - 1) (r1 - t) r2 r3) ∨ ∃ b, TsD ns 2 b e ∧ Rm H' rm (r0 - 1) (r1 - t) (r2 - t * bI b) (r3 - t * bI (!b))), ?_, ?_⟩
    · refine ⟨_, rfl, _, 3, rfl, rfl, _, rfl, ite2 (fun e3 => ?_) (fun e3 => ?_)⟩
      · refine ⟨_, rfl, _, rfl, _, rfl, _, rfl, a, c, cs3, k + 1, nm, ns, rm, _, _, _, _, t, rfl, D3, N3, R3, na, nc, nr, ra, rc, ht, by omega, fun H4 cs4 k4 v x s4 D4 k4a k4b T4 h4 => ?_⟩
        exact ⟨cs4, k4, v, x, rfl, s03.trans s4, D4, by omega, by omega, N3.keep s4 (by simp [na, nc, nr]), T4, h4⟩
      · refine ⟨Nat.zero_le _, fun u hu => ?_⟩
        exact ⟨cs3, k + 1, .ref u, .tuple [], rfl, s03.new hu, D3.new hu, by omega, by omega, N3.keep ((Sx.refl (ex := []) _).new hu) (by simp), .tup upd_same .nil, .inl ⟨rfl, R3.new hu⟩⟩
    rintro _ H4 ⟨cs4, k4, v, e, rfl, s4, D4, k4a, k4b, N4, T4, h4⟩
    have sh : SeqAt.shaped e = true := by
      rcases h4 with ⟨rfl, _⟩ | ⟨b, hb, _⟩
      · exact (Sh.tup (n := 0) .nil).shaped (by decide)
      · exact (hb.sh N.ok).shaped (by decide)
    refine ⟨_, rfl, Nat.zero_le _, fun u hu => ⟨e, .tuple [], (T4.new hu).dp, .tup (SqT.of upd_same) .nil, sh, (Sh.tup (n := 0) .nil).shaped (by decide), _, rfl, ?_⟩⟩
    have eb := cB_pos d
    rcases h4 with ⟨rfl, R4⟩ | ⟨b, hb, R4⟩
    · refine iteF ?_
      refine gh (H1 := upd H4 u _) (F := fun H5 => Sx [a, c, rm] H H5 ∧ Dk H5 a c cs4 k4 ∧ Nms K H5 nm ns ∧ Rm H5 rm (r0 - 1) (r1 - t) r2 r3) ⟨s4.new hu, D4.new hu, N4.keep ((Sx.refl (ex := []) _).new hu) (by simp), R4.new hu⟩ (fun H5 ⟨s5, D5, N5, R5⟩ => ?_)
      have elsP : ∀ (H6 : Hp), H6 = H5 → True := fun _ _ => trivial
      refine ⟨_, rfl, rfl, _, rfl, ite2 (fun e3 => ?rep) (fun e3 => ⟨_, rfl, rfl, _, rfl, ite2 (fun e4 => ?rep2) (fun e4 => ?plain)⟩)⟩
      case plain =>
        refine ⟨_, rfl, _, rfl, a, c, cs4, k4, nm, ns, rfl, D5, N5, na, nc, by omega, fun H6 cs6 k6 v6 x6 s6 D6 k6a k6b T6 X6 => ?_⟩
        have R6 := R5.sx s6 (by simp [ra, rc])
        refine q _ cs6 k6 _ x6 (s5.trans (s6.mono (by simp))) D6 (by omega) (by omega) T6 (.inr ⟨1, 1, 0, 0, X6 d, R6.cast ?_ ?_ ?_ ?_, by omega, ?_⟩)
        all_goals omega
      all_goals
        refine ⟨_, rfl, by show 7 ≤ sizeLine; decide, fun l hl => ?_⟩
        obtain ⟨la, lc⟩ := D5.nw hl
        have lr := R5.nw hl
        refine ⟨a, c, cs4, k4, _, rfl, D5.new hl, by omega, .inl ⟨l, _, rfl, .inl (.inl upd_same), by simp, by show 7 ≤ 100000; decide, la, lc, fun H6 cs6 v6 s6 D6 hv => ?_⟩⟩
        have s56 : Sx [a, c] H5 H6 := ((Sx.refl _).new hl).trans s6
        have R6 := R5.sx s56 (by simp [ra, rc])
        have N6 := N5.keep s56 (by simp [na, nc])
        obtain ⟨g, rfl, ga, gb⟩ : ∃ g : Int, v6 = .int g ∧ 1 ≤ g ∧ g ≤ 8 := by
          simp only [List.not_mem_nil, List.mem_cons, or_false] at hv
          rcases hv with rfl | rfl | rfl | rfl | rfl | rfl | rfl
          all_goals exact ⟨_, rfl, by decide, by decide⟩
        have hs : (3 - (d : Int)) + 1 = 4 - (d : Int) := by omega
        have tg : 1 ≤ t * g := by
          have := Int.mul_le_mul ht ga (by decide) (by omega)
          omega
        refine ⟨_, rfl, _, rfl, _, rfl, _, rfl, _, rfl, _, rfl, t, g, rfl, rfl, .inl ⟨by omega, by omega⟩, _, rfl, _, 1, rfl, rfl, a, c, cs6, k4 + 1, nm, ns, rm, _, _, _, _, t * g, congrArg (fun z => [V.ref a, V.ref nm, V.ref rm, V.int (t * g), V.int z]) hs, D6, N6, R6, na, nc, nr, ra, rc, tg, by omega, by omega, fun H7 cs7 k7 v7 es7 n7 w7 q7 c7 s7 D7 k7a k7b T7 B7 R7 w70 w7l => ?_⟩
        refine ⟨by show 3 ≤ sizeLine; decide, fun u hu => ?_⟩
        have m1 : ∀ x y : Int, t * (x + g * y) = t * x + t * g * y := fun x y => by rw [Int.mul_add, Int.mul_assoc]
        have m2 : ∀ y : Int, t * (g * y) = t * g * y := fun y => by rw [Int.mul_assoc]
        have gw : 0 ≤ g * w7 := Int.mul_nonneg (by omega) w70
        refine q _ cs7 k7 _ (.tuple [.str "repeat", .int g, .tuple es7]) (((s5.trans (s56.mono (by simp))).trans s7).new hu) (D7.new hu) (by omega) (by omega)
          (.tup upd_same (.cons (.str _) (.cons (.int g) (.cons (T7.new hu) .nil)))) (.inr ⟨_, _, _, _, .rep g ga gb B7, (R7.new hu).cast ?_ ?_ ?_ ?_, by omega, ?_⟩)
        all_goals (first | rw [m1] | rw [m2] | skip)
        all_goals omega
    · have hne : (!PyData.eqv e (.tuple [])) = true := by
        cases hb <;> rfl
      refine (show ∀ {c : Bool} {A B : Prop}, c = true → A → (if c = true then A else B) from fun h1 h2 => by rw [if_pos h1]; exact h2) hne ?_
      refine gh (H1 := upd H4 u _) (F := fun H5 => Sx [a, c, rm] H H5 ∧ Dk H5 a c cs4 k4 ∧ Nms K H5 nm ns ∧ Tp H5 v e ∧ Rm H5 rm (r0 - 1) (r1 - t) (r2 - t * bI b) (r3 - t * bI (!b))) ⟨s4.new hu, D4.new hu, N4.keep ((Sx.refl (ex := []) _).new hu) (by simp), T4.new hu, R4.new hu⟩ (fun H5 ⟨s5, D5, N5, T5, R5⟩ => ?_)
      have hs : (3 - (d : Int)) + 1 = 4 - (d : Int) := by omega
      refine ⟨_, rfl, _, rfl, _, rfl, _, rfl, _, rfl, _, 1, rfl, rfl, a, c, cs4, k4, nm, ns, rm, _, _, _, _, t, congrArg (fun z => [V.ref a, V.ref nm, V.ref rm, V.int t, V.int z]) hs, D5, N5, R5, na, nc, nr, ra, rc, ht, by omega, by omega, fun H6 cs6 k6 v6 es6 n6 w6 q6 c6 s6 D6 k6a k6b T6 B6 R6 w60 w6l => ?_⟩
      have N6 := N5.keep s6 (by simp [na, nc, nr])
      refine ⟨_, rfl, _, rfl, _, rfl, _, rfl, _, rfl, _, rfl, _, rfl, _, 1, rfl, rfl, a, c, cs6, k6, nm, ns, rm, _, _, _, _, t, congrArg (fun z => [V.ref a, V.ref nm, V.ref rm, V.int t, V.int z]) hs, D6, N6, R6, na, nc, nr, ra, rc, ht, by omega, by omega, fun H7 cs7 k7 v7 es7 n7 w7 q7 c7 s7 D7 k7a k7b T7 B7 R7 w70 w7l => ?_⟩
      refine ⟨by show 4 ≤ sizeLine; decide, fun u hu => ?_⟩
      have t6 : Tk H5 H6 := s6.tk (lst3 D5 R5)
      have t7 : Tk H6 H7 := s7.tk (lst3 D6 R6)
      have m1 : ∀ x y z : Int, t * (x + y + z) = t * x + t * y + t * z := fun x y z => by rw [Int.mul_add, Int.mul_add]
      refine q _ cs7 k7 _ (.tuple [.str "if", e, .tuple es6, .tuple es7]) (((s5.trans s6).trans s7).new hu) (D7.new hu) (by omega) (by omega)
        (.tup upd_same (.cons (.str _) (.cons (((T5.keep t6).keep t7).new hu) (.cons ((T6.keep t7).new hu) (.cons (T7.new hu) .nil))))) (.inr ⟨_, _, _, _, .ite hb B6 B7, (R7.new hu).cast ?_ ?_ ?_ ?_, by omega, ?_⟩)
      all_goals (first | rw [m1] | skip)
      all_goals omega
theorem ok_block0 {f : Addr} {fd : FuncData} {k : Nat} (F : Fun K "_law_block" "_law_block" sBlock f fd) : FnOk P w K mg base CX0 (k + 1) f fd ["_law_deck_here", "_law_names_here", "_law_room", "_law_times", "_law_depth"] (spBlock K 0) := by
  refine F.ok scBlock (fun vs H Q E h => ?_) (fun cdv A outer s H vs Q E hr h => ?_)
  · obtain ⟨a, c, cs, k, nm, ns, rm, r0, r1, r2, r3, t, rfl, _⟩ := h
    rfl
  · obtain ⟨a, c, cs, k, nm, ns, rm, r0, r1, r2, r3, t, rfl, D, N, R, na, nc, nr, ra, rc, ht, h30, hk, q⟩ := h
    refine ⟨_, pss_cons (ps_if (pt_cmpR op_gt (pv 4) pe_int (nomark _)) (pss_one (ps_ret (pe_tup pa_nil))) pss_nil) pss_never, ?_⟩
    refine ⟨_, rfl, _, 3, rfl, rfl, _, rfl, ite2 (fun e => ⟨Nat.zero_le _, fun p hp => ?_⟩) (fun e => ?_)⟩
    · have e0 : ∀ x y : Int, x - y * 0 = x := fun x y => by omega
      have e1 : ∀ x : Int, x - 0 = x := fun x => by omega
      refine q _ cs k _ [] 0 0 0 0 ((Sx.refl _).new hp) (D.new hp) (Int.le_refl _) (by have := cB_pos 0; omega) (.tup upd_same .nil) .nil ((R.new hp).cast ?_ ?_ ?_ ?_) (Int.le_refl _) ?_
      all_goals omega
    · exact absurd (decide_eq_true (by decide : (3 : Int) < 4 - ((0 : Nat) : Int))) e
theorem ok_block {f fD fR : Addr} {fd fdD fdR : FuncData} {d : Nat} (hd3 : d ≤ 3) (F : Fun K "_law_block" "_law_block" sBlock f fd) (F_draw : Fun K "_law_draw" "_law_draw" sDraw fD fdD) (F_row : Fun K "_law_row" "_law_row" sRow fR fdR)
    (G_draw : FnOk P w K mg base CX0 1 fD fdD ["_law_deck_here", "_law_many"] spDraw) (G_row : FnOk P w K mg base CX0 (6 + 2 * d + 1) fR fdR ["_law_deck_here", "_law_names_here", "_law_room", "_law_times", "_law_depth"] (spRow K d))
    (b_draw : Binds K fdD ["_law_deck_here", "_law_many"] []) (b_row : Binds K fdR ["_law_deck_here", "_law_names_here", "_law_room", "_law_times", "_law_depth"] [])
    (m_draw : mg "_law_draw" = some (.ref fD)) (m_row : mg "_law_row" = some (.ref fR)) (z_int : mg "int" = none) (z_range : mg "range" = none) (z_tuple : mg "tuple" = none) :
    FnOk P w K mg base CX0 (6 + 2 * d + 1 + 1) f fd ["_law_deck_here", "_law_names_here", "_law_room", "_law_times", "_law_depth"] (spBlock K (d + 1)) := by
  refine F.ok scBlock (fun vs H Q E h => ?_) (fun cdv A outer s H vs Q E hr h => ?_)
  · obtain ⟨a, c, cs, k, nm, ns, rm, r0, r1, r2, r3, t, rfl, _⟩ := h
    rfl
  · obtain ⟨a, c, cs, k, nm, ns, rm, r0, r1, r2, r3, t, rfl, D, N, R, na, nc, nr, ra, rc, ht, h30, hk, q⟩ := h
    have eB := cB_pos d
    have eB1 := cB_one d
    have hdep : (4 - ((d + 1 : Nat) : Int)) = 3 - (d : Int) := by omega
    refine ⟨_, (pss_cons (ps_if (pt_cmpR op_gt (pv 4) pe_int (nomark _)) (pss_one (ps_ret (pe_tup pa_nil))) pss_nil)
      (pss_cons (ps_par (i := 5) (j := 6) (by rfl) scBlock.nd rfl rfl (by decide) rfl rfl (pa_cons (pe_op op_add (pe_call G_draw (hr.mono (by omega)) (by rfl) m_draw F_draw.kp b_draw .nil pass0 (pa_cons (pv 0) (pa_cons pe_int pa_nil))) (pe_callTy call_int1 (by rfl) z_int boot_int (pa_cons (pe_cmpR op_eq (pv 4) pe_int (nomark _)) pa_nil))) (pa_cons (pe_lst pa_nil) pa_nil)) (by rfl))
      (C8.pss_cut (ps_for PassesOwn.never rfl (pi_range1 (by rfl) z_range (pa_cons (pv 5) pa_nil)) (pg_name (i := 7) scBlock.nd rfl (by first | exact Or.inl rfl | exact Or.inr rfl)) (pss_one (ps_expr (pe_bm PySem.F.plainAttrs_list PySem.F.slot_list_append PySem.F.type_list_append mt_append (pv 6) (pa_cons (pe_call G_row (hr.mono (by omega)) (by rfl) m_row F_row.kp b_row .nil pass0 (pa_cons (pv 0) (pa_cons (pv 1) (pa_cons (pv 2) (pa_cons (pv 3) (pa_cons (pv 4) pa_nil)))))) pa_nil)))))
      (pss_one (ps_ret (pe_callTy call_tuple_of (by rfl) z_tuple boot_tuple (pa_cons (pe_lc (own := [("_law_row_here", 8)]) (g := gName 8) (tt := _) rfl scBlock.nd (pi_list (pv 6)) (blkOk_by (N := nBlock) (sc := defScope sBlock) (by decide +kernel)) (fun _ _ _ _ _ => (pg_name (i := 8) scBlock.nd rfl (by first | exact Or.inl rfl | exact Or.inr rfl))) (fun _ _ _ _ _ => pts_one (pt_cmpR (show OpR _ _ (rNeD K) from op_neD hr.units) (pv 8) (pe_tup pa_nil) (nomark _))) (fun _ _ _ _ _ => (pv 8))) pa_nil))))))), ?_⟩
    refine ⟨_, rfl, _, 3, rfl, rfl, _, rfl, ite2 (fun e => ?_) (fun e => ?_)⟩
    · have : (3 : Int) < 4 - ((d + 1 : Nat) : Int) := of_decide_eq_true e
      omega
    refine ⟨_, rfl, a, c, cs, k, 4, rfl, D, by decide, by decide, by omega, fun H1 cs1 y s1 D1 y0 y1 => ?_⟩
    refine ⟨_, rfl, rfl, .inr ⟨_, rfl, _, _, rfl, rfl, Nat.zero_le _, fun L hL => ⟨_, _, rfl, ?_⟩⟩⟩
    obtain ⟨La, Lc⟩ := D1.nw hL
    have R1 := R.sx s1 (by simp [ra, rc])
    have Lr := R1.nw hL
    have HL : H L = none := s1.free (by simp [La, Lc]) hL
    have N1 := N.keep s1 (by simp [na, nc])
    have nL : nm ≠ L := N1.nw hL
    generalize hm : (y + if decide (V.int (4 - ((d + 1 : Nat) : Int)) = V.int 0) = true then (1 : Int) else 0) = m
    have m0 : 0 ≤ m ∧ m ≤ 4 := by
      rw [← hm]
      split <;> omega
    refine ⟨fun σ' H' => ∃ (cs' : List Int) (k' : Int) (es : List PyData) (vs : List V) (n w' rr cc : Int) (y7 : Option V), σ' = [some (.ref a), some (.ref nm), some (.ref rm), some (.int t), some (.int (4 - ((d + 1 : Nat) : Int))), some (.int m), some (.ref L), y7, none] ∧ Sx [a, c, rm] H H' ∧ Dk H' a c cs' k' ∧ k ≤ k' ∧ k' ≤ k + cB (d + 1) ∧
      H' L = some (.lst vs) ∧ TpAll H' vs es ∧ (∀ e ∈ es, SeqAt.shaped e = true) ∧ es.length ≤ 4 ∧ BkD ns (d + 1) n w' rr cc (es.filter ne0) ∧ Rm H' rm (r0 - n) (r1 - t * w') (r2 - t * rr) (r3 - t * cc) ∧ 0 ≤ w' ∧ r1 - t * w' ≤ r1, ?_, ?_⟩
    · refine ⟨_, rfl, m, congrArg (fun z => [V.int z]) hm, by omega, by omega, ?_⟩
      have hmul : ∀ i : Nat, (i : Int) ≤ 4 → (i : Int) * (71 + 2 * cB d) ≤ 4 * (71 + 2 * cB d) := fun i hi => Int.mul_le_mul_of_nonneg_right hi (by omega)
      refine for_range (lo := 0) (n := m.toNat) (fun i σ' H' => ∃ (cs' : List Int) (k' : Int) (es : List PyData) (vs : List V) (n w' rr cc : Int) (y7 : Option V), σ' = [some (.ref a), some (.ref nm), some (.ref rm), some (.int t), some (.int (4 - ((d + 1 : Nat) : Int))), some (.int m), some (.ref L), y7, none] ∧ Sx [a, c, rm] H H' ∧ Dk H' a c cs' k' ∧ k ≤ k' ∧ k' ≤ k + 1 + (i : Int) * (71 + 2 * cB d) ∧
        H' L = some (.lst vs) ∧ TpAll H' vs es ∧ (∀ e ∈ es, SeqAt.shaped e = true) ∧ es.length = i ∧ BkD ns (d + 1) n w' rr cc (es.filter ne0) ∧ Rm H' rm (r0 - n) (r1 - t * w') (r2 - t * rr) (r3 - t * cc) ∧ 0 ≤ w' ∧ r1 - t * w' ≤ r1) ?_ (fun i σ' H' hi hp => ?_) (fun σ' H' hp => ?_)
      · refine ⟨cs1, k + 1, [], [], 0, 0, 0, 0, none, by rw [← hm]; rfl, (s1.mono (by simp)).new hL, D1.new hL, by omega, by omega, upd_same, .nil, fun _ z => by simp at z, rfl, .nil, (R1.new hL).cast ?_ ?_ ?_ ?_, Int.le_refl _, ?_⟩
        all_goals omega
      · obtain ⟨cs2, k2, es, vs, n, w', rr, cc, y7, rfl, s2, D2, k2a, k2b, hLv, TA, hsh, hlen, B2, R2, w0, wl⟩ := hp
        have hi4 : i < 4 := by omega
        have hm1 := hmul (i + 1) (by omega)
        have hm2 : ((i + 1 : Nat) : Int) * (71 + 2 * cB d) = (i : Int) * (71 + 2 * cB d) + (71 + 2 * cB d) := by
          rw [show ((i + 1 : Nat) : Int) = (i : Int) + 1 from by omega, Int.add_mul, Int.one_mul]
        have N2 := N.keep s2 (by simp [na, nc, nr])
        refine ⟨_, rfl, .inl ⟨rfl, _, .inl (.inl hLv)⟩, _, rfl, _, rfl, _, rfl, _, rfl, _, rfl, a, c, cs2, k2, nm, ns, rm, _, _, _, _, t, congrArg (fun z => [V.ref a, V.ref nm, V.ref rm, V.int t, V.int z]) hdep, D2, N2, R2, na, nc, nr, ra, rc, ht, by omega, by omega, fun H3 cs3 k3 v e s3 D3 k3a k3b T3 h3 => ?_⟩
        have hL3 : H3 L = some (.lst vs) := s3 _ _ (by simp [La, Lc, Lr]) hLv
        have t3 : Tk _ H3 := s3.tk (lst3 D2 R2)
        have vl : vs.length = i := by rw [TA.len, hlen]
        refine ⟨L, vs, v, rfl, rfl, hL3, lt_line (by omega), ?_⟩
        have tL : Tk H3 (upd H3 L (.lst (vs ++ [v]))) := ((Sx.refl (ex := [L]) _).put (by simp)).tk (fun b hb => by rw [List.mem_singleton.mp hb]; exact ⟨_, hL3⟩)
        have sL : Sx [L] H3 (upd H3 L (.lst (vs ++ [v]))) := (Sx.refl (ex := [L]) _).put (by simp)
        have common : Sx [a, c, rm] H (upd H3 L (.lst (vs ++ [v]))) ∧ Dk (upd H3 L (.lst (vs ++ [v]))) a c cs3 k3 ∧ TpAll (upd H3 L (.lst (vs ++ [v]))) (vs ++ [v]) (es ++ [e]) :=
          ⟨(s2.trans s3).own HL, D3.sx sL (by simp [La.symm]) (by simp [Lc.symm]), ((TA.keep t3).keep tL).append (.cons (T3.keep tL) .nil)⟩
        obtain ⟨q1, q2, q3⟩ := common
        rcases h3 with ⟨rfl, R3⟩ | ⟨n3, w3, rr3, cc3, S3, R3, w30, w3l⟩
        · refine ⟨cs3, k3, es ++ [.tuple []], vs ++ [v], n, w', rr, cc, _, rfl, q1, q2, by omega, by omega, upd_same, q3, fun x hx => ?_, by rw [List.length_append, hlen]; rfl, ?_, R3.sx sL (by simp [Lr.symm]), w0, wl⟩
          · rcases List.mem_append.1 hx with z | z
            · exact hsh x z
            · rw [List.mem_singleton.mp z]; exact (Sh.tup (n := 0) .nil).shaped (by decide)
          · rw [List.filter_append, show List.filter ne0 [PyData.tuple []] = [] from rfl, List.append_nil]
            exact B2
        · have ma : ∀ x z : Int, t * (x + z) = t * x + t * z := fun x z => Int.mul_add _ _ _
          refine ⟨cs3, k3, es ++ [e], vs ++ [v], n + n3, w' + w3, rr + rr3, cc + cc3, _, rfl, q1, q2, by omega, by omega, upd_same, q3, fun x hx => ?_, by rw [List.length_append, hlen]; rfl, ?_, (R3.sx sL (by simp [Lr.symm])).cast ?_ ?_ ?_ ?_, by omega, ?_⟩
          · rcases List.mem_append.1 hx with z | z
            · exact hsh x z
            · rw [List.mem_singleton.mp z]; exact (S3.sh N.ok).shaped (by omega)
          · rw [List.filter_append, show List.filter ne0 [e] = [e] by rw [List.filter_cons, if_pos S3.ne0]; rfl]
            exact BkD.snoc S3 _ B2
          all_goals (first | rw [ma] | skip)
          all_goals omega
      · obtain ⟨cs2, k2, es, vs, n, w', rr, cc, y7, rfl, s2, D2, k2a, k2b, hLv, TA, hsh, hlen, B2, R2, w0, wl⟩ := hp
        have := hmul m.toNat (by omega)
        exact ⟨cs2, k2, es, vs, n, w', rr, cc, y7, rfl, s2, D2, k2a, by omega, hLv, TA, hsh, by omega, B2, R2, w0, wl⟩
    · rintro _ H2 ⟨cs2, k2, es, vs, n, w', rr, cc, y7, rfl, s2, D2, k2a, k2b, hLv, TA, hsh, hlen, B2, R2, w0, wl⟩
      have vl : vs.length = es.length := TA.len
      refine ⟨_, rfl, L, rfl, ⟨_, .inl (.inl hLv)⟩, fun Z hZ => ?_⟩
      obtain ⟨Za, Zc⟩ := D2.nw hZ
      have Zr := R2.nw hZ
      have ZL : L ≠ Z := ne_of_none hLv hZ
      have HZ : H Z = none := s2.free (by simp [Za, Zc, Zr]) hZ
      refine lc_list (xs := vs) (fun i H' => Sx [a, c, rm] H H' ∧ Dk H' a c cs2 k2 ∧ Rm H' rm (r0 - n) (r1 - t * w') (r2 - t * rr) (r3 - t * cc) ∧ H' L = some (.lst vs) ∧ TpAll H' vs es ∧ ∃ acc, H' Z = some (.lst acc) ∧ TpAll H' acc ((es.take i).filter ne0) ∧ acc.length ≤ i)
        ⟨s2.own HZ, D2.new hZ, R2.new hZ, by rw [upd_ne ZL]; exact hLv, TA.new hZ, [], upd_same, .nil, Nat.le_refl _⟩ (fun i H' _ p => .inl (.inl p.2.2.2.1)) (fun i x H' hx p => ?_) (fun H' p => ?_)
      · obtain ⟨p1, p2, p3, p4, p5, acc, p6, p7, p8⟩ := p
        obtain ⟨e, he, T⟩ := p5.get hx
        have hi : i < es.length := (List.getElem?_eq_some_iff.mp he).1
        have hse := hsh e (List.mem_of_getElem? he)
        refine ⟨rfl, _, rfl, Nat.zero_le _, fun u hu => ⟨e, .tuple [], (T.new hu).dp, .tup (SqT.of upd_same) .nil, hse, (Sh.tup (n := 0) .nil).shaped (by decide), _, rfl, ?_⟩⟩
        have pu1 := p1.new (o := .tup []) hu
        have pu2 := p2.new (o := .tup []) hu
        have pu3 := p3.new (o := .tup []) hu
        have pu4 : (upd H' u (.tup [])) L = some (.lst vs) := (Sx.refl (ex := []) _).new hu _ _ (by simp) p4
        have pu5 := p5.new (o := .tup []) hu
        have pu6 : (upd H' u (.tup [])) Z = some (.lst acc) := (Sx.refl (ex := []) _).new hu _ _ (by simp) p6
        have pu7 := p7.new (o := .tup []) hu
        have T' := T.new (o := .tup []) hu
        have tk : (es.take (i + 1)).filter ne0 = (es.take i).filter ne0 ++ (if ne0 e = true then [e] else []) := by
          rw [List.take_add_one, he, Option.toList_some, List.filter_append, List.filter_cons, List.filter_nil]
        cases hne : ne0 e with
        | false =>
          have hne' : (!PyData.eqv e (.tuple [])) = false := hne
          rw [hne, if_neg Bool.false_ne_true, List.append_nil] at tk
          refine (show ∀ {c : Bool} {A B : Prop}, c = false → B → (if c = true then A else B) from fun h1 h2 => by rw [h1, if_neg Bool.false_ne_true]; exact h2) hne' ?_
          exact ⟨pu1, pu2, pu3, pu4, pu5, acc, pu6, by rw [tk]; exact pu7, by omega⟩
        | true =>
          have hne' : (!PyData.eqv e (.tuple [])) = true := hne
          rw [hne, if_pos rfl] at tk
          refine (show ∀ {c : Bool} {A B : Prop}, c = true → A → (if c = true then A else B) from fun h1 h2 => by rw [h1, if_pos rfl]; exact h2) hne' ?_
          refine ⟨x, rfl, acc, pu6, lt_line (by omega), ?_⟩
          have sZ : Sx [Z] (upd H' u (.tup [])) (upd (upd H' u (.tup [])) Z (.lst (acc ++ [x]))) := (Sx.refl (ex := [Z]) _).put (by simp)
          have tZ : Tk (upd H' u (.tup [])) (upd (upd H' u (.tup [])) Z (.lst (acc ++ [x]))) := sZ.tk (fun b hb => by rw [List.mem_singleton.mp hb]; exact ⟨_, pu6⟩)
          exact ⟨pu1.own HZ, pu2.sx sZ (by simp [Za.symm]) (by simp [Zc.symm]), pu3.sx sZ (by simp [Zr.symm]), by rw [upd_ne ZL]; exact pu4, pu5.keep tZ, acc ++ [x], upd_same, by rw [tk]; exact (pu7.keep tZ).append (.cons (T'.keep tZ) .nil), by rw [List.length_append]; show acc.length + 1 ≤ i + 1; omega⟩
      · obtain ⟨p1, p2, p3, p4, p5, acc, p6, p7, p8⟩ := p
        rw [vl, List.take_length] at p7
        refine ⟨Z, acc, rfl, .inl ⟨.inl (.inl p6), fun l hl => ?_⟩⟩
        exact q _ cs2 k2 _ (es.filter ne0) n w' rr cc (p1.new hl) (p2.new hl) k2a k2b (.tup upd_same (p7.new hl)) B2 (p3.new hl) w0 wl
theorem ok_program {f fD fE fB : Addr} {fd fdD fdE fdB : FuncData} (F : Fun K "_law_program" "_law_program" sProgram f fd) (F_draw : Fun K "_law_draw" "_law_draw" sDraw fD fdD) (F_expression : Fun K "_law_expression" "_law_expression" sExpression fE fdE) (F_block : Fun K "_law_block" "_law_block" sBlock fB fdB)
    (G_draw : FnOk P w K mg base CX0 1 fD fdD ["_law_deck_here", "_law_many"] spDraw) (G_expression : FnOk P w K mg base CX0 4 fE fdE ["_law_deck_here", "_law_names_here", "_law_deep"] (spExpr K 2)) (G_block : FnOk P w K mg base CX0 14 fB fdB ["_law_deck_here", "_law_names_here", "_law_room", "_law_times", "_law_depth"] (spBlock K 4))
    (b_draw : Binds K fdD ["_law_deck_here", "_law_many"] []) (b_expression : Binds K fdE ["_law_deck_here", "_law_names_here", "_law_deep"] []) (b_block : Binds K fdB ["_law_deck_here", "_law_names_here", "_law_room", "_law_times", "_law_depth"] [])
    (m_draw : mg "_law_draw" = some (.ref fD)) (m_expression : mg "_law_expression" = some (.ref fE)) (m_block : mg "_law_block" = some (.ref fB)) (z_range : mg "range" = none) :
    FnOk P w K mg base CX0 15 f fd ["_law_deck_here", "_law_names_here"] (spProgram K) := by
  refine F.ok scProgram (fun vs H Q E h => ?_) (fun cdv A outer s H vs Q E hr h => ?_)
  · obtain ⟨a, c, cs, k, nm, ns, rfl, _⟩ := h
    rfl
  · obtain ⟨a, c, cs, k, nm, ns, rfl, D, N, na, nc, hk, q⟩ := h
    have e4 : cB 4 = 166725 := by decide
    have e2 : cE 2 = 9 := by decide
    have eP : cP = 700000 := rfl
    refine ⟨_, (pss_cons (ps_par (i := 2) (j := 3) (by rfl) scProgram.nd rfl rfl (by decide) rfl rfl (pa_cons (pe_lst (pa_cons pe_int (pa_cons pe_int (pa_cons pe_int (pa_cons pe_int pa_nil))))) (pa_cons (pe_tup pa_nil) pa_nil)) (by rfl))
      (C8.pss_cut (ps_for PassesOwn.never rfl (pi_range1 (by rfl) z_range (pa_cons (pe_op op_add pe_int (pe_call G_draw (hr.mono (by omega)) (by rfl) m_draw F_draw.kp b_draw .nil pass0 (pa_cons (pv 0) (pa_cons pe_int pa_nil)))) pa_nil)) (pg_name (i := 4) scProgram.nd rfl (by first | exact Or.inl rfl | exact Or.inr rfl)) (pss_one (ps_set (i := 3) scProgram.nd rfl (by first | exact Or.inl rfl | exact Or.inr rfl) (pe_op op_catA (pv 3) (pe_call G_block (hr.mono (by omega)) (by rfl) m_block F_block.kp b_block .nil pass0 (pa_cons (pv 0) (pa_cons (pv 1) (pa_cons (pv 2) (pa_cons pe_int (pa_cons pe_int pa_nil))))))))))
      (pss_cons (ps_if (PW.pt (pw_or (pt_cmpR op_lt (pe_ix ix_list (pv 2) pe_int (fun _ _ => rfl)) pe_int (nomark _)) (pw_or (pt_cmpR op_lt (pe_ix ix_list (pv 2) pe_int (fun _ _ => rfl)) pe_int (nomark _)) (pw_or1 (pt_cmpR op_eq (pe_call G_draw (hr.mono (by omega)) (by rfl) m_draw F_draw.kp b_draw .nil pass0 (pa_cons (pv 0) (pa_cons pe_int pa_nil))) pe_int (nomark _)))))) (pss_one (ps_ret (pv 3))) pss_nil)
      (pss_one (ps_ret (pe_op op_catA (pv 3) (pe_tup (pa_cons (pe_tup (pa_cons pe_str (pa_cons (pe_call G_expression (hr.mono (by omega)) (by rfl) m_expression F_expression.kp b_expression .nil pass0 (pa_cons (pv 0) (pa_cons (pv 1) (pa_cons pe_int pa_nil)))) pa_nil))) pa_nil)))))))), ?_⟩
    refine ⟨by show 4 ≤ sizeLine; decide, fun rm hrm => ⟨Nat.zero_le _, fun p hp => ⟨_, _, rfl, ?_⟩⟩⟩
    obtain ⟨ra, rc⟩ := D.nw hrm
    have nr := N.nw hrm
    have n0 : Sx [a, c] H (upd (upd H rm (.lst [.int 24, .int 30, .int 2, .int 2])) p (.tup [])) := ((Sx.refl _).new hrm).new hp
    refine gh (H1 := upd (upd H rm _) p _) (F := fun H2 => Sx [a, c] H H2 ∧ Dk H2 a c cs k ∧ Nms K H2 nm ns ∧ Rm H2 rm 24 30 2 2 ∧ Tp H2 (.ref p) (.tuple []))
      ⟨n0, (D.new hrm).new hp, N.keep n0 (by simp [na, nc]), Rm.new ⟨upd_same, by decide, by decide, by decide, by decide⟩ hp, .tup upd_same .nil⟩ (fun H2 ⟨s2, D2, N2, R2, T2⟩ => ?_)
    refine ⟨fun σ' H' => ∃ (cs' : List Int) (k' : Int) (v : V) (es : List PyData) (n w' rr cc : Int) (y4 : Option V), σ' = [some (.ref a), some (.ref nm), some (.ref rm), some v, y4] ∧ Sx [a, c] H H' ∧ Dk H' a c cs' k' ∧ k ≤ k' ∧ k' ≤ k + 666901 ∧ Nms K H' nm ns ∧ Tp H' v (.tuple es) ∧ BkD ns 4 n w' rr cc es ∧ Rm H' rm (24 - n) (30 - w') (2 - rr) (2 - cc), ?_, ?_⟩
    · refine ⟨_, rfl, a, c, cs, k, 4, rfl, D2, by decide, by decide, by omega, fun H3 cs3 y s3 D3 y0 y1 => ⟨1, y, rfl, rfl, _, rfl, by omega, by omega, ?_⟩⟩
      refine for_range (lo := 0) (n := (1 + y).toNat) (fun i σ' H' => ∃ (cs' : List Int) (k' : Int) (v : V) (es : List PyData) (n w' rr cc : Int) (y4 : Option V), σ' = [some (.ref a), some (.ref nm), some (.ref rm), some v, y4] ∧ Sx [a, c] H H' ∧ Dk H' a c cs' k' ∧ k ≤ k' ∧ k' ≤ k + 1 + (i : Int) * 166725 ∧ Nms K H' nm ns ∧ Tp H' v (.tuple es) ∧ BkD ns 4 n w' rr cc es ∧ Rm H' rm (24 - n) (30 - w') (2 - rr) (2 - cc)) ?_ (fun i σ' H' hi hp => ?_) (fun σ' H' hp => ?_)
      · exact ⟨cs3, k + 1, .ref p, [], 0, 0, 0, 0, none, rfl, s2.trans s3, D3, by omega, by omega, N2.keep s3 (by simp [na, nc]), T2.keep (D2.tk s3), .nil, R2.sx s3 (by simp [ra, rc])⟩
      · obtain ⟨cs4, k4, v, es, n, w', rr, cc, y4, rfl, s4, D4, k4a, k4b, N4, T4, B4, R4⟩ := hp
        have hp4 := B4.pos
        refine ⟨_, rfl, _, rfl, _, rfl, _, rfl, a, c, cs4, k4, nm, ns, rm, _, _, _, _, 1, rfl, D4, N4, R4, na, nc, nr, ra, rc, by decide, by omega, by omega, fun H5 cs5 k5 v5 es5 n5 w5 q5 c5 s5 D5 k5a k5b T5 B5 R5 w50 w5l => ?_⟩
        have t5 : Tk H' H5 := s5.tk (lst3 D4 R4)
        have hp5 := B5.pos
        have g4 := R4.p0
        have g5 := R5.p0
        have s45 : Sx [a, c] H H5 := s4.step s5 (fun x hx => by
          simp only [List.not_mem_nil, List.mem_cons, or_false] at hx
          rcases hx with rfl | rfl | rfl
          · exact .inl (by simp)
          · exact .inl (by simp)
          · exact .inr hrm)
        refine cat_tp (T4.keep t5) T5 (by omega) (fun H6 z s6 _ T6 => ?_)
        refine ⟨cs5, k5, z, es ++ es5, n + n5, w' + w5, rr + q5, cc + c5, _, rfl, s45.trans s6.nil, D5.same s6, by omega, by omega, (N4.keep s5 (by simp [na, nc, nr])).keep s6 (by simp), T6, BkD.append B5 _ B4, (R5.sx s6 (by simp)).cast ?_ ?_ ?_ ?_⟩
        all_goals omega
      · obtain ⟨cs4, k4, v, es, n, w', rr, cc, y4, rfl, s4, D4, k4a, k4b, N4, T4, B4, R4⟩ := hp
        exact ⟨cs4, k4, v, es, n, w', rr, cc, y4, rfl, s4, D4, k4a, by omega, N4, T4, B4, R4⟩
    · rintro _ H4 ⟨cs4, k4, v, es, n, w', rr, cc, y4, rfl, s4, D4, k4a, k4b, N4, T4, B4, R4⟩
      have p0 := R4.p0
      have p1 := R4.p1
      have p2 := R4.p2
      have p3 := R4.p3
      have hpos := B4.pos
      refine ⟨.ref rm, rfl, rm, _, 0, _, rfl, rfl, .inl (.inl R4.at_), rfl, _, 1, rfl, rfl, _, rfl, ite2 (fun e => ?_) (fun e => ⟨.ref rm, rfl, rm, _, 1, _, rfl, rfl, .inl (.inl R4.at_), rfl, _, 1, rfl, rfl, _, rfl, ite2 (fun e1 => ?_) (fun e1 => ?_)⟩)⟩
      · exact ⟨v, rfl, q H4 cs4 k4 v es n w' rr cc s4 D4 k4a (by omega) T4 B4 (by omega) (by omega) (by omega) (by omega)⟩
      · exact ⟨v, rfl, q H4 cs4 k4 v es n w' rr cc s4 D4 k4a (by omega) T4 B4 (by omega) (by omega) (by omega) (by omega)⟩
      have g0 : 1 ≤ 24 - n := by
        have : ¬ 24 - n < 1 := fun z => e (decide_eq_true z)
        omega
      have g1 : 1 ≤ 30 - w' := by
        have : ¬ 30 - w' < 1 := fun z => e1 (decide_eq_true z)
        omega
      refine ⟨_, rfl, a, c, cs4, k4, 4, rfl, D4, by decide, by decide, by omega, fun H5 cs5 y s5 D5 y0 y1 => ⟨rfl, _, rfl, ite2 (fun e2 => ?_) (fun e2 => ?_)⟩⟩
      · exact ⟨v, rfl, q H5 cs5 _ v es n w' rr cc (s4.trans s5) D5 (by omega) (by omega) (T4.keep (D4.tk s5)) B4 (by omega) (by omega) (by omega) (by omega)⟩
      · refine ⟨_, rfl, _, rfl, _, rfl, a, c, cs5, _, nm, ns, rfl, D5, N4.keep s5 (by simp [na, nc]), na, nc, by decide, by omega, fun H6 cs6 k6 v6 x6 s6 D6 k6a k6b T6 X6 => ?_⟩
        refine ⟨by show 2 ≤ sizeLine; decide, fun t ht => ⟨by show 1 ≤ sizeLine; decide, fun u hu => ?_⟩⟩
        have t46 : Tk H4 (upd (upd H6 t (.tup [.str "pay", v6])) u (.tup [.ref t])) := ((D4.tk s5).trans (D5.tk s6)).trans ((((Sx.refl (ex := []) _).new ht).new hu).tk0)
        have Tu : Tp (upd (upd H6 t (.tup [.str "pay", v6])) u (.tup [.ref t])) (.ref u) (.tuple [.tuple [.str "pay", x6]]) :=
          .tup upd_same (.cons (Tp.new (.tup upd_same (.cons (.str _) (.cons (T6.new ht) .nil))) hu) .nil)
        refine cat_tp (T4.keep t46) Tu (by show es.length + 1 ≤ 16777216; omega) (fun H7 z s7 _ T7 => ?_)
        have BB : BkD ns 4 (1 + 0) (1 + 0) (0 + 0) (0 + 0) [.tuple [.str "pay", x6]] := .cons (.pay (X6.up (by decide))) .nil
        refine q H7 cs6 k6 z _ _ _ _ _ (((((s4.trans s5).trans s6).new ht).new hu).trans s7.nil) (((D6.new ht).new hu).same s7) (by omega) (by omega) T7 (BkD.append BB _ B4) ?_ ?_ ?_ ?_
        all_goals omega
end
/-! ### defs called where no repr is under way -/
/-- a def's promise where nothing guards the stack -/
structure FnG (P : Program) (w : World) (K : PySem.W.Frag) (mg : Str → Option Value) (base : Heap) (k : Nat) (f : Addr) (fd : FuncData) (ps : List Str) (sp : Sp) : Prop where
  len : ∀ (as : List V) (H : Hp) (Q : VK) (E : XK), sp as H Q E → as.length = ps.length
  go : ∀ (A : Around) (callers : List Env) (s : Shared) (H : Hp) (ar : Args) (us : List Value) (vs : List V) (Q : VK), Room k A → A.guards = some [] → Env0 P w K mg base A callers s H → BindsTo s fd ar (ps.zip us) → Vals vs us → sp vs H Q E0 →
    codeAny (model P w) A (.call (.ref f) ar) (CR CX0 callers P w H s Q E0) s
theorem FnG.of {P : Program} {w : World} {K : PySem.W.Frag} {mg : Str → Option Value} {base : Heap} {k : Nat} {f : Addr} {fd : FuncData} {ps : List Str} {sp : Sp} (F : FnOk P w K mg base CX0 k f fd ps sp) : FnG P w K mg base k f fd ps sp :=
  ⟨F.len, fun A o s H ar us vs Q hr _ e b r h => F.run A o s H ar us vs Q E0 hr e b r h⟩
theorem FnG.up {P : Program} {w : World} {K : PySem.W.Frag} {mg : Str → Option Value} {base : Heap} {j k : Nat} {f : Addr} {fd : FuncData} {ps : List Str} {sp : Sp} (F : FnG P w K mg base j f fd ps sp) (h : j ≤ k) : FnG P w K mg base k f fd ps sp :=
  ⟨F.len, fun A o s H ar us vs Q hr => F.go A o s H ar us vs Q (hr.mono h)⟩
theorem Fun.okG {P : Program} {w : World} {K : PySem.W.Frag} {mg : Str → Option Value} {base : Heap} {x qual : Str} {st : Stmt} {f : Addr} {fd : FuncData} {N ps : List Str} {k : Nat} {sp : Sp} (F : Fun K x qual st f fd) (S : FnScope N ps (defScope st))
    (len : ∀ (as : List V) (H : Hp) (Q : VK) (E : XK), sp as H Q E → as.length = ps.length)
    (hbody : ∀ (cdv : Value) (A : Around) (outer : List Env) (s : Shared) (H : Hp) (vs : List V) (Q : VK) (E : XK), Room k (A.deeper (envOfC qual (defScope st) s.heap.objs.size f cdv)) → A.guards = some [] → sp vs H Q E →
      ∃ t, PSs (cxOf CX0 P w K mg base N qual (defScope st) f cdv A outer s H E).nox (defBody st) t ∧ t { nx := fun _ H' => Q .non H', rt := Q } (start N vs) H) : FnG P w K mg base (k + 1) f fd ps sp := by
  rcases F.ex with ⟨oc, od, kV, doc, pm, an, cdv, ct, osl, rfl, lk, hcd⟩
  refine ⟨len, fun A callers s H ar us vs Q hr hg e0 hb rv hsp => ?_⟩
  have inK : K.In s.heap := e0.mod.kin.keeps fun b o e => (e0.bs b o e).1
  have knd : ∀ y ∈ ps.zip us, (defScope st).names.lookup y.1 = some .local ∨ ((defScope st).names.lookup y.1 = some .cell ∧ ((cellsFrom (s.heap.objs.size + 1) (defScope st).names []).lookup y.1).isSome = true) := by
    rintro ⟨n, v⟩ hy
    exact (S.par n (List.of_mem_zip hy).1).imp id fun q => ⟨q, PySem.W.cellsFrom_some _ _ _ (.inl q)⟩
  refine codeAny_call_function hr.depth (inK _ _ lk) rfl S.co S.gen rfl (PySem.W.codeRec_of inK hcd) (hb _ _ _ _ (wpAny_newFunctionEnv_cells S.kind knd fun env he s1 x => ?_))
  subst he
  refine ⟨(e0.mod.nolimit.keeps fun b o e => (e0.bs b o e).1).keeps x.toInCall.keep, codeAny_func ?_⟩
  obtain ⟨t, ht, hq⟩ := hbody cdv A callers s H vs Q E0 (hr.deeper _) hg hsp
  have I0 := inv_start (CX := CX0) (E := E0) S hr.hd e0 (len _ _ _ _ hsp) rv x
  refine wpAny_mono (ht.nox.run [] s1 (start N vs) H _ I0 hq) (fun fl s' hs => ?_) fun e s' hs => hs
  cases fl with
  | ret u =>
    obtain ⟨v, σ', H', J, r1, q1⟩ := hs
    exact ⟨v, H', J.os, J.bare, J.base, J.hok, r1, q1⟩
  | next =>
    obtain ⟨σ', H', J, q1⟩ := hs
    exact ⟨.non, H', J.os, J.bare, J.base, J.hok, rfl, q1⟩
  | brk => exact absurd hs (by rintro ⟨_, _, _, q1⟩; exact q1)
  | cont => exact absurd hs (by rintro ⟨_, _, _, q1⟩; exact q1)
theorem pe_callG {X : Cx} {x : Str} {p pos : Pos} {e : Expr} {es : List Expr} {t : TA} {k : Nat} {f : Addr} {fd : FuncData} {ps : List Str} {sp : Sp} {ds : List Value} {dvs : List V} (F : FnG X.prog X.w X.K X.mg X.base k f fd ps sp) (hr : Room k X.A) (hgd : X.A.guards = some []) (hg : Gl X x) (hm : X.mg x = some (.ref f)) (hk : PySem.W.keepIn X.K (.ref f) = true)
    (hb : Binds X.K fd ps ds) (hd : Vals dvs ds) (ha : PA X (e :: es) t) (hdb : (x == ("__debug__" : Str)) = false := by decide) (he : starEach (e :: es) X.env = (false, eval e X.env) :: starEach es X.env := by rfl) (hpl : (backTo pos (starEach es X.env)).any (·.1) = false := by rfl) :
    PE X (Expr.Call (.Name x p) (e :: es) [] pos) (tCall sp dvs E0 t) := by
  refine ⟨fun pins s σ H Q I h => wpAny_Call_Name_kw (ld_glob I hg hm ?_ hdb)⟩
  refine PySem.W.callWith_K (h₀ := X.base) I.ok.mod.kin hk (thn (ha.run pos pins s σ H _ I h) fun us s1 ⟨vs, H1, I1, r, q⟩ => And.intro I1.kIn ?_) he hpl
  have rr : Vals (vs ++ dvs) (us ++ ds) := r.append hd
  have ll : (us ++ ds).length = ps.length := rr.length.symm.trans (F.len _ _ _ _ q)
  refine wpAny_call (codeAny_mono (F.go X.A X.stack s1 H1 ⟨us, []⟩ (us ++ ds) (vs ++ dvs) Q hr hgd I1.env0 (hb s1 us I1.kIn ll) rr q) fun rs s' hq => ?_)
  match rs, hq with
  | .ok (.ret u), hq => exact I1.after hq
/-! ### repr of data -/
/-- repr(x), x a list or a tuple of data -/
def rRepr (K : PySem.W.Frag) : List V → Hp → VK → Prop := fun xs H Q => ∃ x d, xs = [x] ∧ Dp K H x d ∧ d.showable = true ∧ d.hasDict = false ∧ d.depth ≤ 60 ∧ d.shown.length ≤ 16777216 ∧ (∀ z, d ≠ .str z) ∧ (∀ b, d ≠ .bool b) ∧ d ≠ .none ∧ Q (.str d.shown) H
theorem call_reprD {X : Cx} (hgd : X.A.guards = some []) (hu : X.A.units + 64 < cLine) : CallR X (.builtin "repr") (rRepr X.K) := by
  intro pins s σ H xs us Q I r h0; have h := h0
  obtain ⟨x, d, rfl, hd, hs, hnd, hdp, hz, n1, n2, n3, q⟩ := h
  rcases vals1 r with ⟨u, rfl, rx⟩
  have fin : ∀ {as : List Addr} {a : Addr}, Reads s.heap (.ref a) d as → wpAny (model X.prog X.w) X.A (call (.builtin "repr") [.ref a]) (EP X pins σ Q) X.xe s := fun {as a} rd =>
    repr_of_reads' rd hs (fun h => by rw [hnd] at h; cases h) hgd (by omega) (fun _ _ e => e) (fun h' u' tk hk => ⟨.str d.shown, H, I.kept hk, ⟨u', rfl⟩, q⟩) hz
  obtain ⟨as, rd⟩ := Dp.reads I d x u hd rx
  cases hd with
  | non => exact absurd rfl n3
  | bl b => exact absurd rfl (n2 b)
  | int i =>
    obtain ⟨t, rfl⟩ := rx
    have hi : i.natAbs.log2 < 1920 := by
      have : (PyData.int i).showable = true := hs
      simpa only [PyData.showable, decide_eq_true_eq] using this
    have e : (PyData.int i).shown = (toString i : String) := by simp only [PyData.shown]
    rw [e] at q
    exact PySem.P.repr_of_int hi ⟨.str _, H, I.tok _, ⟨_, rfl⟩, q⟩
  | str z => exact absurd rfl (n1 z)
  | lst hq ha => cases rx; exact fin rd
  | tup hq ha => cases rx; exact fin rd
/-! ### the law's end -/
/-- the script, as the heap tells it -/
theorem script_hp {P : Program} {w : World} {K : PySem.W.Frag} {s : Shared} {a : Addr} {vs : List Value} {ns : List Int} (KX : K.In s.heap) (ha : s.heap.get? a = some { cls := .type "list", data := .seq vs.toArray }) (hi : IntsAre vs ns) (hl : ns.length ≤ sizeLine) :
    ∃ H : Hp, Only H ∧ SqL K H a (ns.map V.int) ∧ HOk P w H s.heap ∧ (∀ b, H b ≠ none → b = a) ∧ (H a ≠ none → K.lookup a = none) := by
  have rv := vals_ints hi
  cases e : K.lookup a with
  | some o =>
    have h := KX a o e
    rw [ha] at h
    cases h
    refine ⟨fun _ => none, fun _ => .inl rfl, .inr ⟨_, vs.toArray, _, e, rfl, rfl, rfl, by rw [List.size_toArray, hi.length]; exact hl, by simpa using rv⟩, fun b u z => (by cases z), fun b z => absurd rfl z, fun z => absurd rfl z⟩
  | none =>
    have at_a : (fun b : Addr => if b = a then some (HO.frz { cls := .type "list", data := .seq vs.toArray } (.lst (ns.map V.int))) else none) a = some (HO.frz { cls := .type "list", data := .seq vs.toArray } (.lst (ns.map V.int))) := if_pos rfl
    refine ⟨fun b => if b = a then some (.frz { cls := .type "list", data := .seq vs.toArray } (.lst (ns.map V.int))) else none, fun b => ?_, .inl (.inr ⟨_, at_a⟩), fun b u z => ?_, fun b z => ?_, fun _ => rfl⟩
    · by_cases h : b = a
      · exact .inr ⟨_, _, if_pos h⟩
      · exact .inl (if_neg h)
    · by_cases h : b = a
      · have z2 := (if_pos h).symm.trans z
        cases z2
        subst h
        exact ⟨ha, by simpa using hl, vs, _, rv, ha⟩
      · have z2 := (if_neg h).symm.trans z
        cases z2
    · by_cases h : b = a
      · exact h
      · exact absurd (if_neg h) z
theorem law_callG {P : Program} {w : World} {K : PySem.W.Frag} {mg mb : Str → Option Value} {k : Nat} {fa a : Addr} {fd : FuncData} {x : Str} {sp : Sp} {s : Shared} {vs : List Value} {ns : List Int}
    (KX : K.In s.heap) (h1 : s.heap.Ns mainGlobals mg) (h2 : s.heap.Ns builtinsNs mb) (h3 : ∀ x : Str, x ≠ "__name__" → mb x = bootBuiltins x) (h4 : s.heap.NoLimit) (h5 : s.gens = #[])
    (ha : s.heap.get? a = some { cls := .type "list", data := .seq vs.toArray }) (hi : IntsAre vs ns) (hl : ns.length ≤ sizeLine) (hr : Room k callerA)
    (F : ∀ base : Heap, K.In base → base.Ns mainGlobals mg → FnG P w K mg base k fa fd [x] sp) (hb : ∀ (s : Shared) (u : Value), BindsTo s fd ⟨[u], []⟩ [(x, u)])
    (hsp : ∀ H : Hp, Only H → SqL K H a (ns.map V.int) → sp [.ref a] H (fun v _ => v = .bl true) E0) :
    codeAny (model P w) callerA (.call (.ref fa) ⟨[.ref a], []⟩) (fun r s' => r = .ok (.ret (.bool true)) ∧ OldK s.heap s'.heap ∧ s'.os = s.os ∧ AllBare s'.gens) s := by
  obtain ⟨H, hO, hS, hok, hA, hK⟩ := script_hp (P := P) (w := w) KX ha hi hl
  have only_a : ∀ {b : Addr} {u : HO}, H b = some u → b = a := fun e => hA _ (by rw [e]; simp)
  have unseen : ∀ {b : Addr} {o : Obj} {es : Array DictEntry} {ep : Nat}, s.heap.get? b = some o → o.data = .dict es ep → H b = none := fun {b o es ep} e d => by
    cases q : H b with
    | none => rfl
    | some u =>
      have z := only_a q
      subst z
      rw [ha] at e
      cases e
      cases d
  have ns_of : ∀ {b : Addr} {m : Str → Option Value}, s.heap.Ns b m → (hidT s.heap H).Ns b m := fun {b m} ⟨o, es, ep, e, d, r⟩ => ⟨o, es, ep, hidT_get e (unseen e d), d, r⟩
  have inB : K.In (hidT s.heap H) := fun b o e => hidT_get (KX b o e) (by
    cases q : H b with
    | none => rfl
    | some u =>
      have z := only_a q
      subst z
      rw [hK (by simp [q])] at e
      cases e)
  have md : Mod K mg (hidT s.heap H) := ⟨inB, ns_of h1, ⟨mb, ns_of h2, h3⟩, let ⟨mc, y1, y2⟩ := h4; ⟨mc, ns_of y1, y2⟩⟩
  have e0 : Env0 P w K mg (hidT s.heap H) callerA [] s H := ⟨rfl, md, fun b o e => of_hidT e, Nat.le_of_eq (hidT_size _ _), trivial, fun b hb => absurd (show b ∈ ([] : List Addr) from hb) (by simp), hok, .of_eq h5⟩
  refine codeAny_mono ((F _ inB (ns_of h1)).go callerA [] s H ⟨[.ref a], []⟩ [.ref a] [.ref a] _ hr rfl e0 (hb s (.ref a)) (.cons rfl .nil) (hsp H hO hS)) fun r s' h => ?_
  match r, h with
  | .ok (.ret u), h =>
    rcases h with ⟨v, H', os, bare, un, hok', r', q⟩
    have q' : v = .bl true := q
    subst q'
    have eu : u = Value.bool true := r'; subst eu
    refine ⟨rfl, .of_keep fun b o e => ?_, os, bare⟩
    cases q2 : H b with
    | none => exact un.keep b o e q2 (fun z => absurd (show b ∈ ([] : List Addr) from z) (by simp)) (by simp)
    | some u =>
      obtain z | ⟨ob, xs, z⟩ := hO b
      · rw [q2] at z; cases z
      · obtain ⟨e1, _⟩ := hok b _ z
        obtain ⟨e2, _⟩ := hok' b _ (un.frzs b ob _ z)
        rw [e] at e1
        cases e1
        exact e2
/-! ### programs, typed -/
inductive Ex where
  | int (i : Int)
  | name (z : Str)
  | plus (x y : Ex)
  | minus (x y : Ex)
  | times (f : Int) (x : Ex)
namespace Ex
def d : Ex → PyData
  | .int i => .int i
  | .name z => .str z
  | .plus x y => .tuple [.str "plus", x.d, y.d]
  | .minus x y => .tuple [.str "minus", x.d, y.d]
  | .times f x => .tuple [.str "times", .int f, x.d]
def ok (ns : List Str) : Ex → Nat → Prop
  | .int i, n => 1 ≤ n ∧ -99 ≤ i ∧ i ≤ 99
  | .name z, n => 1 ≤ n ∧ z ∈ ns
  | .plus x y, n => 1 ≤ n ∧ ok ns x (n - 1) ∧ ok ns y (n - 1)
  | .minus x y, n => 1 ≤ n ∧ ok ns x (n - 1) ∧ ok ns y (n - 1)
  | .times f x, n => 1 ≤ n ∧ -9 ≤ f ∧ f ≤ 9 ∧ ok ns x (n - 1)
def ev (ρ : Str → Int) : Ex → Int
  | .int i => i
  | .name z => ρ z
  | .plus x y => x.ev ρ + y.ev ρ
  | .minus x y => x.ev ρ - y.ev ρ
  | .times f x => f * x.ev ρ
theorem of {ns : List Str} {n : Nat} {e : PyData} (h : ExD ns n e) : ∃ x : Ex, x.d = e ∧ x.ok ns n := by
  induction h with
  | int i a b => exact ⟨.int i, rfl, by omega, a, b⟩
  | name z a => exact ⟨.name z, rfl, by omega, a⟩
  | plus _ _ a b => obtain ⟨x, rfl, hx⟩ := a; obtain ⟨y, rfl, hy⟩ := b; exact ⟨.plus x y, rfl, by omega, hx, hy⟩
  | minus _ _ a b => obtain ⟨x, rfl, hx⟩ := a; obtain ⟨y, rfl, hy⟩ := b; exact ⟨.minus x y, rfl, by omega, hx, hy⟩
  | times f a b _ c => obtain ⟨x, rfl, hx⟩ := c; exact ⟨.times f x, rfl, by omega, a, b, hx⟩
/-- no name has a value above B, so no expression has one above 9 ^ n times that -/
theorem ev_le {ns : List Str} {ρ : Str → Int} {B : Int} (hB : 99 ≤ B) (h : ∀ z, -B ≤ ρ z ∧ ρ z ≤ B) : ∀ (x : Ex) (n : Nat), x.ok ns n → -((9 : Int) ^ n * B) ≤ x.ev ρ * 9 ∧ x.ev ρ * 9 ≤ (9 : Int) ^ n * B
  | .int i, n, ⟨h1, h2, h3⟩ => by
    obtain ⟨m, rfl⟩ : ∃ m : Nat, n = m + 1 := ⟨n - 1, by omega⟩
    have p : (1 : Int) ≤ 9 ^ m := Int.pow_pos (by decide)
    have q : B ≤ 9 ^ m * B := by have := Int.mul_le_mul_of_nonneg_right p (show 0 ≤ B by omega); omega
    have e : (9 : Int) ^ (m + 1) * B = 9 * (9 ^ m * B) := by rw [Int.pow_succ, Int.mul_comm (9 ^ m) 9, Int.mul_assoc]
    rw [e]
    show -_ ≤ i * 9 ∧ i * 9 ≤ _
    omega
  | .name z, n, ⟨h1, h2⟩ => by
    obtain ⟨m, rfl⟩ : ∃ m : Nat, n = m + 1 := ⟨n - 1, by omega⟩
    have p : (1 : Int) ≤ 9 ^ m := Int.pow_pos (by decide)
    have q : B ≤ 9 ^ m * B := by have := Int.mul_le_mul_of_nonneg_right p (show 0 ≤ B by omega); omega
    have e : (9 : Int) ^ (m + 1) * B = 9 * (9 ^ m * B) := by rw [Int.pow_succ, Int.mul_comm (9 ^ m) 9, Int.mul_assoc]
    rw [e]
    have := h z
    show -_ ≤ ρ z * 9 ∧ ρ z * 9 ≤ _
    omega
  | .plus x y, n, ⟨h1, h2, h3⟩ => by
    obtain ⟨m, rfl⟩ : ∃ m : Nat, n = m + 1 := ⟨n - 1, by omega⟩
    have a := ev_le hB h x m h2
    have b := ev_le hB h y m h3
    have e : (9 : Int) ^ (m + 1) * B = 9 * (9 ^ m * B) := by rw [Int.pow_succ, Int.mul_comm (9 ^ m) 9, Int.mul_assoc]
    rw [e]
    show -_ ≤ (x.ev ρ + y.ev ρ) * 9 ∧ (x.ev ρ + y.ev ρ) * 9 ≤ _
    omega
  | .minus x y, n, ⟨h1, h2, h3⟩ => by
    obtain ⟨m, rfl⟩ : ∃ m : Nat, n = m + 1 := ⟨n - 1, by omega⟩
    have a := ev_le hB h x m h2
    have b := ev_le hB h y m h3
    have e : (9 : Int) ^ (m + 1) * B = 9 * (9 ^ m * B) := by rw [Int.pow_succ, Int.mul_comm (9 ^ m) 9, Int.mul_assoc]
    rw [e]
    show -_ ≤ (x.ev ρ - y.ev ρ) * 9 ∧ (x.ev ρ - y.ev ρ) * 9 ≤ _
    omega
  | .times f x, n, ⟨h1, h2, h3, h4⟩ => by
    obtain ⟨m, rfl⟩ : ∃ m : Nat, n = m + 1 := ⟨n - 1, by omega⟩
    have a := ev_le hB h x m h4
    have e : (9 : Int) ^ (m + 1) * B = 9 * (9 ^ m * B) := by rw [Int.pow_succ, Int.mul_comm (9 ^ m) 9, Int.mul_assoc]
    rw [e]
    show -_ ≤ f * x.ev ρ * 9 ∧ f * x.ev ρ * 9 ≤ _
    have c : ∀ v C : Int, -C ≤ v * 9 → v * 9 ≤ C → -(9 * C) ≤ f * v * 9 ∧ f * v * 9 ≤ 9 * C := fun v C u1 u2 => by
      rcases (show f = -9 ∨ f = -8 ∨ f = -7 ∨ f = -6 ∨ f = -5 ∨ f = -4 ∨ f = -3 ∨ f = -2 ∨ f = -1 ∨ f = 0 ∨ f = 1 ∨ f = 2 ∨ f = 3 ∨ f = 4 ∨ f = 5 ∨ f = 6 ∨ f = 7 ∨ f = 8 ∨ f = 9 by omega) with
        rfl | rfl | rfl | rfl | rfl | rfl | rfl | rfl | rfl | rfl | rfl | rfl | rfl | rfl | rfl | rfl | rfl | rfl | rfl <;> omega
    exact c _ _ a.1 a.2
end Ex
inductive Ts where
  | rest (x : Ex) (b r : Int)
  | less (x y : Ex)
  | not (t : Ts)
namespace Ts
def d : Ts → PyData
  | .rest x b r => .tuple [.str "rest", x.d, .int b, .int r]
  | .less x y => .tuple [.str "less", x.d, y.d]
  | .not t => .tuple [.str "not", t.d]
def ok (ns : List Str) : Ts → Nat → Prop
  | .rest x b r, _ => x.ok ns 3 ∧ 2 ≤ b ∧ b ≤ 6 ∧ 0 ≤ r ∧ r < b
  | .less x y, _ => x.ok ns 3 ∧ y.ok ns 3
  | .not t, n => 1 ≤ n ∧ ok ns t (n - 1)
def ev (ρ : Str → Int) : Ts → Bool
  | .rest x b r => decide ((x.ev ρ - r) % b = 0)
  | .less x y => decide (x.ev ρ < y.ev ρ)
  | .not t => !t.ev ρ
/-- of a rest -/
def isR : Ts → Bool
  | .rest _ _ _ => true
  | .less _ _ => false
  | .not t => t.isR
theorem of {ns : List Str} {n : Nat} {b : Bool} {e : PyData} (h : TsD ns n b e) : ∃ x : Ts, x.d = e ∧ x.ok ns n ∧ x.isR = b := by
  induction h with
  | rest b r a h1 h2 h3 h4 => obtain ⟨x, rfl, hx⟩ := Ex.of a; exact ⟨.rest x b r, rfl, ⟨hx, h1, h2, h3, h4⟩, rfl⟩
  | less a b => obtain ⟨x, rfl, hx⟩ := Ex.of a; obtain ⟨y, rfl, hy⟩ := Ex.of b; exact ⟨.less x y, rfl, ⟨hx, hy⟩, rfl⟩
  | not _ ih => obtain ⟨x, rfl, hx, hr⟩ := ih; exact ⟨.not x, rfl, ⟨by omega, hx⟩, hr⟩
end Ts
mutual
inductive St where
  | set (z : Str) (e : Ex)
  | pay (e : Ex)
  | stop
  | ite (t : Ts) (y n : Bk)
  | rep (k : Int) (y : Bk)
inductive Bk where
  | nil
  | cons (s : St) (b : Bk)
end
mutual
def St.d : St → PyData
  | .set z e => .tuple [.str "set", .str z, e.d]
  | .pay e => .tuple [.str "pay", e.d]
  | .stop => .tuple [.str "stop"]
  | .ite t y n => .tuple [.str "if", t.d, .tuple y.ds, .tuple n.ds]
  | .rep k y => .tuple [.str "repeat", .int k, .tuple y.ds]
def Bk.ds : Bk → List PyData
  | .nil => []
  | .cons s b => s.d :: b.ds
end
mutual
def St.ok (ns : List Str) : St → Nat → Prop
  | .set z e, _ => z ∈ ns ∧ e.ok ns 3
  | .pay e, _ => e.ok ns 3
  | .stop, _ => True
  | .ite t y n, d => t.ok ns 2 ∧ Bk.ok ns y d ∧ Bk.ok ns n d
  | .rep k y, d => 1 ≤ k ∧ k ≤ 8 ∧ Bk.ok ns y d
def Bk.ok (ns : List Str) : Bk → Nat → Prop
  | .nil, _ => True
  | .cons s b, d => 1 ≤ d ∧ St.ok ns s (d - 1) ∧ Bk.ok ns b d
end
mutual
/-- places -/
def St.sz : St → Nat
  | .set _ _ => 1
  | .pay _ => 1
  | .stop => 1
  | .ite _ y n => 1 + y.sz + n.sz
  | .rep _ y => 1 + y.sz
def Bk.sz : Bk → Nat
  | .nil => 0
  | .cons s b => s.sz + b.sz
end
mutual
def St.wt : St → Nat
  | .set _ _ => 1
  | .pay _ => 1
  | .stop => 1
  | .ite _ y n => 1 + y.wt + n.wt
  | .rep k y => 1 + k.toNat * y.wt
def Bk.wt : Bk → Nat
  | .nil => 0
  | .cons s b => s.wt + b.wt
end
mutual
/-- rests (true), comparings (false) -/
def St.tn (q : Bool) : St → Nat
  | .set _ _ => 0
  | .pay _ => 0
  | .stop => 0
  | .ite t y n => (if t.isR = q then 1 else 0) + y.tn q + n.tn q
  | .rep k y => k.toNat * y.tn q
def Bk.tn (q : Bool) : Bk → Nat
  | .nil => 0
  | .cons s b => s.tn q + b.tn q
end
mutual
theorem St.of {ns : List Str} : ∀ {d : Nat} {n w r c : Int} {e : PyData}, StD ns d n w r c e → ∃ s : St, s.d = e ∧ s.ok ns d ∧ (s.sz : Int) = n ∧ (s.wt : Int) = w ∧ (s.tn true : Int) = r ∧ (s.tn false : Int) = c
  | _, _, _, _, _, _, .set z hz hx => by
    obtain ⟨x, rfl, h⟩ := Ex.of hx
    exact ⟨.set z x, rfl, ⟨hz, h⟩, rfl, rfl, rfl, rfl⟩
  | _, _, _, _, _, _, .pay hx => by
    obtain ⟨x, rfl, h⟩ := Ex.of hx
    exact ⟨.pay x, rfl, h, rfl, rfl, rfl, rfl⟩
  | _, _, _, _, _, _, .stop => ⟨.stop, rfl, trivial, rfl, rfl, rfl, rfl⟩
  | _, _, _, _, _, _, .ite (b := b) ht hy hz => by
    obtain ⟨t, rfl, h, hb⟩ := Ts.of ht
    obtain ⟨y, hyd, y1, y2, y3, y4, y5⟩ := Bk.of hy
    obtain ⟨z, hzd, z1, z2, z3, z4, z5⟩ := Bk.of hz
    refine ⟨.ite t y z, by rw [St.d, hyd, hzd], ⟨h, y1, z1⟩, ?_, ?_, ?_, ?_⟩
    · simp only [St.sz]; omega
    · simp only [St.wt]; omega
    · simp only [St.tn, hb]; cases b <;> simp [bI] <;> omega
    · simp only [St.tn, hb]; cases b <;> simp [bI] <;> omega
  | _, _, _, _, _, _, .rep k h1 h2 hy => by
    obtain ⟨y, hyd, y1, y2, y3, y4, y5⟩ := Bk.of hy
    refine ⟨.rep k y, by rw [St.d, hyd], ⟨h1, h2, y1⟩, ?_, ?_, ?_, ?_⟩
    · simp only [St.sz]; omega
    · simp only [St.wt]; rw [← y3, Int.natCast_add, Int.natCast_mul, Int.toNat_of_nonneg (by omega)]; rfl
    · simp only [St.tn]; rw [← y4, Int.natCast_mul, Int.toNat_of_nonneg (by omega)]
    · simp only [St.tn]; rw [← y5, Int.natCast_mul, Int.toNat_of_nonneg (by omega)]
theorem Bk.of {ns : List Str} : ∀ {d : Nat} {n w r c : Int} {es : List PyData}, BkD ns d n w r c es → ∃ b : Bk, b.ds = es ∧ b.ok ns d ∧ (b.sz : Int) = n ∧ (b.wt : Int) = w ∧ (b.tn true : Int) = r ∧ (b.tn false : Int) = c
  | _, _, _, _, _, _, .nil => ⟨.nil, rfl, trivial, rfl, rfl, rfl, rfl⟩
  | _, _, _, _, _, _, .cons h hs => by
    obtain ⟨s, hsd, s1, s2, s3, s4, s5⟩ := St.of h
    obtain ⟨b, hbd, b1, b2, b3, b4, b5⟩ := Bk.of hs
    refine ⟨.cons s b, by rw [Bk.ds, hsd, hbd], ⟨by omega, s1, b1⟩, ?_, ?_, ?_, ?_⟩
    · simp only [Bk.sz]; omega
    · simp only [Bk.wt]; omega
    · simp only [Bk.tn]; omega
    · simp only [Bk.tn]; omega
end
/-! ### runs -/
structure Wd where
  en : Str → Int
  tot : Int
  pl : List Int
/-- so often, until it stops -/
def itr (f : Wd → Wd × Bool) : Nat → Wd → Wd × Bool
  | 0, w => (w, false)
  | n + 1, w => if (f w).2 = true then f w else itr f n (f w).1
mutual
def St.run : St → Int → Wd → Wd × Bool
  | .set z e, p, w => (⟨fun y => if y = z then e.ev w.en else w.en y, w.tot, w.pl ++ [p]⟩, false)
  | .pay e, p, w => (⟨w.en, w.tot + e.ev w.en, w.pl ++ [p]⟩, false)
  | .stop, p, w => (⟨w.en, w.tot, w.pl ++ [p]⟩, true)
  | .ite t y n, p, w => if t.ev w.en = true then y.run (p + 1) ⟨w.en, w.tot, w.pl ++ [p]⟩ else n.run (p + 1 + y.sz) ⟨w.en, w.tot, w.pl ++ [p]⟩
  | .rep k y, p, w => itr (y.run (p + 1)) k.toNat ⟨w.en, w.tot, w.pl ++ [p]⟩
def Bk.run : Bk → Int → Wd → Wd × Bool
  | .nil, _, w => (w, false)
  | .cons s b, p, w => if (s.run p w).2 = true then s.run p w else b.run (p + s.sz) (s.run p w).1
end

/-- the names' values, in a dict -/
def En (H : Hp) (N : Addr) (ρ : Str → Int) : Prop := ∃ kvs : List (Key × V), H N = some (.dK kvs) ∧ ∀ z, (valV kvs (.inr z)).getD (.int 0) = .int (ρ z)
def spValue (ns : List Str) (d : Nat) : Sp := fun vs H Q _ => ∃ (v : V) (N : Addr) (e : Ex) (ρ : Str → Int), vs = [v, .ref N] ∧ Tp H v e.d ∧ e.ok ns d ∧ En H N ρ ∧ Q (.int (e.ev ρ)) H
theorem tp3 {H : Hp} {v : V} {x y z : PyData} (h : Tp H v (.tuple [x, y, z])) : ∃ a p q r, v = .ref a ∧ H a = some (.tup [p, q, r]) ∧ Tp H p x ∧ Tp H q y ∧ Tp H r z := by
  obtain ⟨a, xs, rfl, ha, hx⟩ := h.tuple
  cases hx with | cons h1 hx => cases hx with | cons h2 hx => cases hx with | cons h3 hx => cases hx with | nil => exact ⟨a, _, _, _, rfl, ha, h1, h2, h3⟩
theorem tp2 {H : Hp} {v : V} {x y : PyData} (h : Tp H v (.tuple [x, y])) : ∃ a p q, v = .ref a ∧ H a = some (.tup [p, q]) ∧ Tp H p x ∧ Tp H q y := by
  obtain ⟨a, xs, rfl, ha, hx⟩ := h.tuple
  cases hx with | cons h1 hx => cases hx with | cons h2 hx => cases hx with | nil => exact ⟨a, _, _, rfl, ha, h1, h2⟩
theorem tp1 {H : Hp} {v : V} {x : PyData} (h : Tp H v (.tuple [x])) : ∃ a p, v = .ref a ∧ H a = some (.tup [p]) ∧ Tp H p x := by
  obtain ⟨a, xs, rfl, ha, hx⟩ := h.tuple
  cases hx with | cons h1 hx => cases hx with | nil => exact ⟨a, _, rfl, ha, h1⟩
theorem tp4 {H : Hp} {v : V} {x y z u : PyData} (h : Tp H v (.tuple [x, y, z, u])) : ∃ a p q r s, v = .ref a ∧ H a = some (.tup [p, q, r, s]) ∧ Tp H p x ∧ Tp H q y ∧ Tp H r z ∧ Tp H s u := by
  obtain ⟨a, xs, rfl, ha, hx⟩ := h.tuple
  cases hx with | cons h1 hx => cases hx with | cons h2 hx => cases hx with | cons h3 hx => cases hx with | cons h4 hx => cases hx with | nil => exact ⟨a, _, _, _, _, rfl, ha, h1, h2, h3, h4⟩
theorem tpI {H : Hp} {v : V} {i : Int} (h : Tp H v (.int i)) : v = .int i := by cases h; rfl
theorem tpS {H : Hp} {v : V} {z : Str} (h : Tp H v (.str z)) : v = .str z := by cases h; rfl
theorem iteP {c A B : Prop} [Decidable c] (hc : c) (h : A) : if c then A else B := by rw [if_pos hc]; exact h
theorem iteN {c A B : Prop} [Decidable c] (hc : ¬ c) (h : B) : if c then A else B := by rw [if_neg hc]; exact h
section
variable {w : World} {P : Program} {K : PySem.W.Frag} {mg : Str → Option Value} {base : Heap}
end
def spTrue (ns : List Str) (n : Nat) : Sp := fun vs H Q _ => ∃ (v : V) (N : Addr) (t : Ts) (ρ : Str → Int), vs = [v, .ref N] ∧ Tp H v t.d ∧ 1 ≤ n ∧ t.ok ns (n - 1) ∧ En H N ρ ∧ Q (.bl (t.ev ρ)) H
section
variable {w : World} {P : Program} {K : PySem.W.Frag} {mg : Str → Option Value} {base : Heap}
end

/-- the scope of the comprehension that a def returns within a call -/
def cScopeOf (st : Stmt) : Scope := match defBody st with
  | [.Return (some (.Call _ [.ListComp _ _ sc _] _ _)) _] => sc
  | _ => defScope st
def St.parts : St → List PyData
  | .ite _ y n => [.tuple y.ds, .tuple n.ds]
  | .rep _ y => [.tuple y.ds]
  | _ => []
def St.blks : St → List Bk
  | .ite _ y n => [y, n]
  | .rep _ y => [y]
  | _ => []
theorem St.parts_blks (s : St) : s.parts = s.blks.map fun b => .tuple b.ds := by cases s <;> rfl
def spParts : Sp := fun vs H Q _ => ∃ (v : V) (s : St), vs = [v] ∧ Tp H v s.d ∧ ∀ H' v', Sx [] H H' → Tp H' v' (.tuple s.parts) → Q v' H'
def Bk.lst : Bk → List St
  | .nil => []
  | .cons s b => s :: b.lst
theorem Bk.ds_lst : ∀ b : Bk, b.ds = b.lst.map St.d
  | .nil => rfl
  | .cons s b => by rw [Bk.ds, Bk.lst, List.map_cons, Bk.ds_lst b]
theorem Bk.sz_lst : ∀ b : Bk, b.sz = (b.lst.map St.sz).sum
  | .nil => rfl
  | .cons s b => by rw [Bk.sz, Bk.lst, List.map_cons, List.sum_cons, Bk.sz_lst b]
theorem St.sz_blks (s : St) : s.sz = 1 + (s.blks.map Bk.sz).sum := by
  cases s <;> simp [St.sz, St.blks] <;> omega
/-- blocks lie at most so deep -/
theorem Bk.ok_mem {ns : List Str} {d : Nat} : ∀ {b : Bk} {s : St}, b.ok ns d → s ∈ b.lst → 1 ≤ d ∧ s.ok ns (d - 1)
  | .cons s b, t, h, hm => by
    rcases List.mem_cons.1 hm with rfl | hm
    · exact ⟨h.1, h.2.1⟩
    · exact Bk.ok_mem (b := b) h.2.2 hm
theorem St.ok_mem {ns : List Str} {d : Nat} {s : St} {b : Bk} (h : s.ok ns d) (hm : b ∈ s.blks) : b.ok ns d := by
  cases s with
  | ite t y n =>
    simp only [St.blks, List.mem_cons, List.not_mem_nil, or_false] at hm
    rcases hm with rfl | rfl
    · exact h.2.1
    · exact h.2.2
  | rep k y =>
    simp only [St.blks, List.mem_cons, List.not_mem_nil, or_false] at hm
    subst hm
    exact h.2.2
  | _ => simp [St.blks] at hm
theorem pi_tupK {X : Cx} {K : PySem.W.Frag} {l tg : Expr} {tl : TE} (h : X.K = K) (hl : PE X l tl) : PI X tg l (iTup K tl) := h ▸ pi_tup hl
theorem cr_sumK {X : Cx} {K : PySem.W.Frag} (h : X.K = K) (hc : X.calm = true) : CallR X (.builtin "sum") (rSum K) := h ▸ cr_sum hc
theorem sum_mem {l : List Nat} {x : Nat} (h : x ∈ l) : x ≤ l.sum := by
  induction l with
  | nil => cases h
  | cons y l ih =>
    rw [List.sum_cons]
    rcases List.mem_cons.1 h with rfl | h
    · omega
    · have := ih h; omega
theorem cast_sum (l : List Nat) : ((l.sum : Nat) : Int) = (l.map fun x : Nat => (x : Int)).sum := by
  induction l with
  | nil => rfl
  | cons y l ih => rw [List.sum_cons, List.map_cons, List.sum_cons, Int.natCast_add, ih]
section
variable {w : World} {P : Program} {K : PySem.W.Frag} {mg : Str → Option Value} {base : Heap}
/-- so deep lie the blocks of a block -/
def spSize (d : Nat) : Sp := fun vs H Q _ => ∃ (v : V) (b : Bk) (ns : List Str), vs = [v] ∧ Tp H v (.tuple b.ds) ∧ b.ok ns (d - 1) ∧ 1 ≤ d ∧ b.sz < 16777216 ∧ ∀ H', Sx [] H H' → Q (.int b.sz) H'
theorem TpAll.lst {H : Hp} {α : Type} (g : α → PyData) : ∀ {xs : List V} {as : List α}, TpAll H xs (as.map g) → xs.length = as.length ∧ ∀ (i : Nat) (x : V), xs[i]? = some x → ∃ a, as[i]? = some a ∧ Tp H x (g a)
  | [], [], .nil => ⟨rfl, fun _ _ h => by simp at h⟩
  | x :: xs, a :: as, .cons h hs => by
    have r := TpAll.lst g (as := as) hs
    refine ⟨by rw [List.length_cons, List.length_cons, r.1], fun i y hy => ?_⟩
    cases i with
    | zero => exact ⟨a, rfl, by cases hy; exact h⟩
    | succ i => exact r.2 i y hy
end

/-- the world's dict -/
def wk (N : Addr) (t : Int) (L : Addr) : List (Key × V) := [(.inr "names", .ref N), (.inr "total", .int t), (.inr "places", .ref L)]
theorem k_nt : ¬ ((.inr "names" : Key) = .inr "total") := by decide +kernel
theorem k_np : ¬ ((.inr "names" : Key) = .inr "places") := by decide +kernel
theorem k_tp : ¬ ((.inr "total" : Key) = .inr "places") := by decide +kernel
theorem k_pt : ¬ ((.inr "places" : Key) = .inr "total") := by decide +kernel
theorem wk_n (N : Addr) (t : Int) (L : Addr) : valV (wk N t L) (.inr "names") = some (.ref N) := by
  simp [valV, wk]
theorem wk_t (N : Addr) (t : Int) (L : Addr) : valV (wk N t L) (.inr "total") = some (.int t) := by
  unfold valV wk
  rw [List.find?_cons_of_neg (by simpa using k_nt), List.find?_cons_of_pos (by simp)]
  rfl
theorem wk_p (N : Addr) (t : Int) (L : Addr) : valV (wk N t L) (.inr "places") = some (.ref L) := by
  unfold valV wk
  rw [List.find?_cons_of_neg (by simpa using k_np), List.find?_cons_of_neg (by simpa using k_tp), List.find?_cons_of_pos (by simp)]
  rfl
theorem wk_put (N : Addr) (t t' : Int) (L : Addr) : putK (wk N t L) (.inr "total") (.int t') = wk N t' L := by
  have h : ((wk N t L).any fun kv => decide (kv.1 = .inr "total")) = true := by simp [wk]
  rw [putK, if_pos h]
  simp only [wk, List.map_cons, List.map_nil]
  rw [if_neg k_nt, if_pos trivial, if_neg k_pt]
/-- the world at W: the names' dict at N, the places at L; c more names fit in -/
structure Wr (H : Hp) (W N L : Addr) (w : Wd) (c : Nat) : Prop where
  hw : H W = some (.dK (wk N w.tot L))
  hn : ∃ kvs : List (Key × V), H N = some (.dK kvs) ∧ kvs.length + c ≤ w.pl.length + 1 ∧ ∀ z, (valV kvs (.inr z)).getD (.int 0) = .int (w.en z)
  hl : H L = some (.lst (w.pl.map V.int))
  ne : W ≠ N
namespace Wr
variable {H H' : Hp} {W N L p : Addr} {w : Wd} {c : Nat} {o : HO}
theorem wl (R : Wr H W N L w c) : W ≠ L := fun e => by
  have h := R.hw
  rw [e, R.hl] at h
  cases h
theorem nl (R : Wr H W N L w c) : N ≠ L := fun e => by
  obtain ⟨kvs, h, _⟩ := R.hn
  rw [e, R.hl] at h
  cases h
theorem en (R : Wr H W N L w c) : En H N w.en := by
  obtain ⟨kvs, h1, _, h2⟩ := R.hn
  exact ⟨kvs, h1, h2⟩
theorem sx (R : Wr H W N L w c) (s : Sx [] H H') : Wr H' W N L w c := by
  obtain ⟨kvs, h1, h2, h3⟩ := R.hn
  exact ⟨s _ _ (by simp) R.hw, ⟨kvs, s _ _ (by simp) h1, h2, h3⟩, s _ _ (by simp) R.hl, R.ne⟩
theorem less (R : Wr H W N L w (c + 1)) : Wr H W N L w c := by
  obtain ⟨kvs, h1, h2, h3⟩ := R.hn
  exact ⟨R.hw, ⟨kvs, h1, by omega, h3⟩, R.hl, R.ne⟩
theorem nw (R : Wr H W N L w c) (h : H p = none) : p ∉ [W, N, L] := by
  obtain ⟨kvs, h1, _, _⟩ := R.hn
  intro hm
  simp only [List.not_mem_nil, List.mem_cons, or_false] at hm
  rcases hm with rfl | rfl | rfl
  · rw [R.hw] at h; cases h
  · rw [h1] at h; cases h
  · rw [R.hl] at h; cases h
theorem nt {xs : List V} (R : Wr H W N L w c) (h : H p = some (.tup xs)) : p ∉ [W, N, L] := by
  obtain ⟨kvs, h1, _, _⟩ := R.hn
  intro hm
  simp only [List.not_mem_nil, List.mem_cons, or_false] at hm
  rcases hm with rfl | rfl | rfl
  · rw [R.hw] at h; cases h
  · rw [h1] at h; cases h
  · rw [R.hl] at h; cases h
theorem place (R : Wr H W N L w 0) (i : Int) : Wr (upd H L (.lst (w.pl.map V.int ++ [.int i]))) W N L ⟨w.en, w.tot, w.pl ++ [i]⟩ 1 := by
  obtain ⟨kvs, h1, h2, h3⟩ := R.hn
  refine ⟨by rw [upd_ne R.wl]; exact R.hw, ⟨kvs, by rw [upd_ne R.nl]; exact h1, ?_, h3⟩, by rw [upd_same, List.map_append]; rfl, R.ne⟩
  show kvs.length + 1 ≤ (w.pl ++ [i]).length + 1
  rw [List.length_append]
  have : [i].length = 1 := rfl
  omega
theorem pay (R : Wr H W N L w c) (t : Int) : Wr (upd H W (.dK (wk N t L))) W N L ⟨w.en, t, w.pl⟩ c := by
  obtain ⟨kvs, h1, h2, h3⟩ := R.hn
  exact ⟨upd_same, ⟨kvs, by rw [upd_ne R.ne.symm]; exact h1, h2, h3⟩, by rw [upd_ne R.wl.symm]; exact R.hl, R.ne⟩
theorem set {kvs : List (Key × V)} (R : Wr H W N L w 1) (h : H N = some (.dK kvs)) (z : Str) (v : Int) : kvs.length < w.pl.length + 1 ∧ Wr (upd H N (.dK (putK kvs (.inr z) (.int v)))) W N L ⟨fun y => if y = z then v else w.en y, w.tot, w.pl⟩ 0 := by
  obtain ⟨kvs', h1, h2, h3⟩ := R.hn
  rw [h1] at h
  cases h
  refine ⟨by omega, by rw [upd_ne R.ne]; exact R.hw, ⟨_, upd_same, ?_, fun y => ?_⟩, by rw [upd_ne R.nl.symm]; exact R.hl, R.ne⟩
  · have : (putK kvs (.inr z) (.int v)).length ≤ kvs.length + 1 := by
      unfold putK
      split
      · rw [List.length_map]; omega
      · rw [List.length_append]; exact Nat.le_refl _
    show (putK kvs (.inr z) (.int v)).length + 0 ≤ w.pl.length + 1
    omega
  · rw [valV_put]
    by_cases e : y = z
    · rw [if_pos (by rw [e]), e]
      show V.int v = V.int (if z = z then v else w.en z)
      rw [if_pos rfl]
    · rw [if_neg (fun q => e (Sum.inr.inj q)), h3 y]
      show V.int (w.en y) = V.int (if y = z then v else w.en y)
      rw [if_neg e]
theorem gN (R : Wr H W N L w c) : DGet H W (.str "names") (some (.ref N)) := wk_n N w.tot L ▸ DGet.k (k := .inr "names") R.hw
theorem gT (R : Wr H W N L w c) : DGet H W (.str "total") (some (.int w.tot)) := wk_t N w.tot L ▸ DGet.k (k := .inr "total") R.hw
theorem gP (R : Wr H W N L w c) : DGet H W (.str "places") (some (.ref L)) := wk_p N w.tot L ▸ DGet.k (k := .inr "places") R.hw
theorem pT (R : Wr H W N L w c) (t : Int) : DPut H W (.str "total") (.int t) (upd H W (.dK (wk N t L))) := wk_put N w.tot t L ▸ DPut.k (k := .inr "total") R.hw (by show (3 : Nat) < sizeLine; decide)
theorem tk (R : Wr H W N L w c) (s : Sx [W, N, L] H H') : Tk H H' := fun b xs e => s b _ (R.nt e) e
end Wr
theorem itr_len {f : Wd → Wd × Bool} {c : Nat} (hf : ∀ w, (f w).1.pl.length ≤ w.pl.length + c) : ∀ (n : Nat) (w : Wd), (itr f n w).1.pl.length ≤ w.pl.length + n * c
  | 0, w => by show w.pl.length ≤ _; omega
  | n + 1, w => by
    unfold itr
    have h1 := hf w
    have h2 := itr_len hf n (f w).1
    have e : (n + 1) * c = n * c + c := Nat.succ_mul n c
    split
    · omega
    · omega
mutual
theorem St.run_len : ∀ (s : St) (p : Int) (w : Wd), (s.run p w).1.pl.length ≤ w.pl.length + s.wt
  | .set z e, p, w => by simp [St.run, St.wt]
  | .pay e, p, w => by simp [St.run, St.wt]
  | .stop, p, w => by simp [St.run, St.wt]
  | .ite t y n, p, w => by
    have h1 := Bk.run_len y (p + 1) ⟨w.en, w.tot, w.pl ++ [p]⟩
    have h2 := Bk.run_len n (p + 1 + y.sz) ⟨w.en, w.tot, w.pl ++ [p]⟩
    simp only [List.length_append, List.length_cons, List.length_nil] at h1 h2
    simp only [St.run, St.wt]
    split <;> omega
  | .rep k y, p, w => by
    have h1 := itr_len (Bk.run_len y (p + 1)) k.toNat ⟨w.en, w.tot, w.pl ++ [p]⟩
    simp only [List.length_append, List.length_cons, List.length_nil] at h1
    simp only [St.run, St.wt]
    omega
theorem Bk.run_len : ∀ (b : Bk) (p : Int) (w : Wd), (b.run p w).1.pl.length ≤ w.pl.length + b.wt
  | .nil, p, w => by simp [Bk.run, Bk.wt]
  | .cons s b, p, w => by
    have h1 := St.run_len s p w
    have h2 := Bk.run_len b (p + s.sz) (s.run p w).1
    simp only [Bk.run, Bk.wt]
    split <;> omega
end
theorem itr_one (f : Wd → Wd × Bool) (w : Wd) : itr f 1 w = f w := by
  show (if (f w).2 = true then f w else ((f w).1, false)) = f w
  by_cases h : (f w).2 = true
  · rw [if_pos h]
  · rw [if_neg h]
    have : (f w).2 = false := by simpa using h
    rw [← this]
theorem flat_rep (n : Nat) (x : V) : (List.replicate n [x]).flatten = List.replicate n x := by
  induction n with
  | zero => rfl
  | succ n ih => rw [List.replicate_succ, List.flatten_cons, ih, List.replicate_succ]; rfl
/-- a statement's word -/
def St.hd : St → Str
  | .set _ _ => "set"
  | .pay _ => "pay"
  | .stop => "stop"
  | .ite _ _ _ => "if"
  | .rep _ _ => "repeat"
theorem St.at_ {H : Hp} {x : V} {s : St} (t : Tp H x s.d) : ∃ a xs, x = .ref a ∧ H a = some (.tup (.str s.hd :: xs)) := by
  have h : ∃ ds, s.d = .tuple (.str s.hd :: ds) := by cases s <;> exact ⟨_, rfl⟩
  obtain ⟨ds, e⟩ := h
  rw [e] at t
  obtain ⟨a, xs, rfl, ha, hx⟩ := t.tuple
  cases hx with
  | cons h hs =>
    obtain rfl := tpS h
    exact ⟨a, _, rfl, ha⟩
theorem at0 (v : V) (xs : List V) : atI (v :: xs) 0 = some v := atI_nat (j := 0) rfl
theorem Sx.n0 {H : Hp} {p : Addr} {o : HO} (h : H p = none) : Sx [] H (upd H p o) := (Sx.refl _).new h
def spGo (ns : List Str) (d : Nat) : Sp := fun vs H Q _ => ∃ (W N L : Addr) (v : V) (b : Bk) (p : Int) (w : Wd), vs = [.ref W, v, .int p] ∧ Tp H v (.tuple b.ds) ∧ 1 ≤ d ∧ b.ok ns (d - 1) ∧ Wr H W N L w 0 ∧ b.sz < 16777216 ∧ w.pl.length + b.wt ≤ 1000000 ∧
  ∀ H', Sx [W, N, L] H H' → Wr H' W N L (b.run p w).1 0 → Q (.bl (b.run p w).2) H'
abbrev sNumber : Stmt := topS 53
abbrev nNumber : List Str := ["_law_deck_here", "_law_way", "_law_side"]
theorem scNumber : FnScope nNumber ["_law_deck_here"] (defScope sNumber) := ⟨rfl, rfl, rfl, by decide +kernel, rfl, by decide +kernel, by decide +kernel⟩
def spNumber : Sp := fun vs H Q _ => ∃ (a c : Addr) (cs : List Int) (k : Int), vs = [.ref a] ∧ Dk H a c cs k ∧ k + 4 ≤ KB ∧
  ∀ H' cs' k' i, Sx [a, c] H H' → Dk H' a c cs' k' → k ≤ k' → k' ≤ k + 4 → -1000000000000000000000000000000000000000000000000000000000000 ≤ i → i ≤ 1000000000000000000000000000000000000000000000000000000000000 → Q (.int i) H'
/-- where a run begins -/
def Wd.at (x : Int) : Wd := ⟨fun y => if y = "n" then x else 0, 0, []⟩
/-- what a run tells -/
def Bk.told (b : Bk) (x : Int) : PyData := .tuple [.int (b.run 0 (Wd.at x)).1.tot, .tuple ((b.run 0 (Wd.at x)).1.pl.map .int)]
def spRun (ns : List Str) : Sp := fun vs H Q _ => ∃ (v : V) (b : Bk) (x : Int), vs = [v, .int x] ∧ Tp H v (.tuple b.ds) ∧ b.ok ns 4 ∧ b.sz < 16777216 ∧ b.wt ≤ 1000000 ∧ ∀ H' r, Sx [] H H' → Tp H' r (b.told x) → Q r H'
def sgn (t : Int) : Int := if t < 0 then -1 else if 0 < t then 1 else 0
def spSign : Sp := fun vs H Q _ => ∃ t : Int, vs = [.int t] ∧ Q (.int (sgn t)) H
theorem putK_new {kvs : List (Key × V)} {k : Key} {v : V} (h : ∀ kv ∈ kvs, ¬ kv.1 = k) : putK kvs k v = kvs ++ [(k, v)] := by
  rw [putK, if_neg]
  intro z
  rw [List.any_eq_true] at z
  obtain ⟨kv, hm, hd⟩ := z
  exact h kv hm (of_decide_eq_true hd)
theorem wk_made (N L : Addr) : mergeK [] [((.inr "names" : Key), V.ref N), (.inr "total", .int 0), (.inr "places", .ref L)] = wk N 0 L := by
  show putK (putK (putK [] (.inr "names" : Key) (V.ref N)) (.inr "total" : Key) (.int 0)) (.inr "places" : Key) (.ref L) = _
  rw [putK_new (kvs := []) (fun kv h => by cases h), putK_new (kvs := [] ++ _) (fun kv h => by rw [List.mem_singleton.mp h]; exact k_nt), putK_new (fun kv h => ?_)]
  · rfl
  · simp only [List.nil_append, List.cons_append, List.mem_cons, List.not_mem_nil, or_false] at h
    rcases h with rfl | rfl
    · exact k_np
    · exact k_tp
theorem Dk.none_ne {H : Hp} {a p : Addr} {o : HO} (h : H a = some o) (n : H p = none) : p ≠ a := fun e => by rw [e, h] at n; cases n
theorem TpAll.ints {H : Hp} : ∀ l : List Int, TpAll H (l.map V.int) (l.map PyData.int)
  | [] => .nil
  | i :: l => .cons (.int i) (TpAll.ints l)
section
variable {w : World} {P : Program} {K : PySem.W.Frag} {mg : Str → Option Value} {base : Heap}
theorem ok_number {f fD fO : Addr} {fd fdD fdO : FuncData} (F_number : Fun K "_law_number" "_law_number" sNumber f fd) (F_draw : Fun K "_law_draw" "_law_draw" sDraw fD fdD) (F_one : Fun K "_law_one" "_law_one" sOne fO fdO)
    (G_draw : FnOk P w K mg base CX0 1 fD fdD ["_law_deck_here", "_law_many"] spDraw) (G_one : FnOk P w K mg base CX0 2 fO fdO ["_law_deck_here", "_law_items"] (spOne K))
    (b_draw : Binds K fdD ["_law_deck_here", "_law_many"] []) (b_one : Binds K fdO ["_law_deck_here", "_law_items"] [])
    (m_draw : mg "_law_draw" = some (.ref fD)) (m_one : mg "_law_one" = some (.ref fO)) : FnOk P w K mg base CX0 3 f fd ["_law_deck_here"] spNumber := by
  refine F_number.ok scNumber (fun vs H Q E h => ?_) (fun cdv A outer s H vs Q E hr h => ?_)
  · obtain ⟨a, c, cs, k, rfl, _⟩ := h
    rfl
  · obtain ⟨a, c, cs, k, rfl, D, hk, q⟩ := h
    refine ⟨_, (pss_cons (ps_par (i := 1) (j := 2) (by rfl) scNumber.nd rfl rfl (by decide) rfl rfl (pa_cons (pe_call G_draw (hr.mono (by omega)) (by rfl) m_draw F_draw.kp b_draw .nil pass0 (pa_cons (pv 0) (pa_cons pe_int pa_nil))) (pa_cons (pe_call G_one (hr.mono (by omega)) (by rfl) m_one F_one.kp b_one .nil pass0 (pa_cons (pv 0) (pa_cons (pe_lst (pa_cons pe_int (pa_cons (pe_un un_neg pe_int) pa_nil))) pa_nil))) pa_nil)) (by rfl))
      (pss_cons (ps_if (pt_cmpR op_lt (pv 1) pe_int (nomark _)) (pss_one (ps_ret (pe_op op_mul (pv 2) (pe_call G_draw (hr.mono (by omega)) (by rfl) m_draw F_draw.kp b_draw .nil pass0 (pa_cons (pv 0) (pa_cons pe_int pa_nil)))))) pss_nil)
      (pss_one (ps_ret (pe_op op_mul (pv 2) (pe_op op_add (pe_op op_mul (pe_op op_pow pe_int pe_int) (pe_call G_draw (hr.mono (by omega)) (by rfl) m_draw F_draw.kp b_draw .nil pass0 (pa_cons (pv 0) (pa_cons (pe_op op_pow pe_int pe_int) pa_nil)))) (pe_call G_draw (hr.mono (by omega)) (by rfl) m_draw F_draw.kp b_draw .nil pass0 (pa_cons (pv 0) (pa_cons (pe_op op_pow pe_int pe_int) pa_nil))))))))), ?_⟩
    refine ⟨_, rfl, a, c, cs, k, 5, rfl, D, by decide, by decide, by omega, fun H1 cs1 r s1 D1 r0 r1 => ?_⟩
    refine ⟨_, rfl, 1, rfl, by show 2 ≤ sizeLine; decide, fun l hl => ?_⟩
    obtain ⟨la, lc⟩ := D1.nw hl
    refine ⟨a, c, cs1, _, _, rfl, D1.same (Sx.n0 hl), by omega, .inl ⟨l, _, rfl, .inl (.inl upd_same), by simp, by show 2 ≤ 100000; decide, la, lc, fun H2 cs2 x s2 D2 hx => ?_⟩⟩
    have s12 : Sx [a, c] H H2 := (s1.new hl).trans s2
    obtain ⟨i, rfl, hi⟩ : ∃ i : Int, x = .int i ∧ (i = 1 ∨ i = -1) := by
      simp only [List.not_mem_nil, List.mem_cons, or_false] at hx
      rcases hx with rfl | rfl
      · exact ⟨_, rfl, .inl rfl⟩
      · exact ⟨_, rfl, .inr rfl⟩
    refine ⟨_, _, rfl, ?_⟩
    refine ⟨_, rfl, _, 4, rfl, rfl, _, rfl, ite2 (fun e => ?_) (fun e => ?_)⟩
    · refine ⟨_, rfl, _, rfl, a, c, cs2, _, 40, rfl, D2, by decide, by decide, by omega, fun H3 cs3 z s3 D3 z0 z1 => ?_⟩
      refine ⟨i, z, rfl, rfl, .inl ⟨by omega, by omega⟩, ?_⟩
      refine q H3 cs3 _ _ (s12.trans s3) D3 (by omega) (by omega) ?_ ?_ <;> rcases hi with rfl | rfl <;> omega
    · refine ⟨_, rfl, 10, 50, rfl, rfl, ⟨by decide, by decide, by decide⟩, _, rfl, 10, 9, rfl, rfl, ⟨by decide, by decide, by decide⟩, a, c, cs2, _, _, rfl, D2, by decide, by decide, by omega, fun H3 cs3 z s3 D3 z0 z1 => ?_⟩
      have ez : ((10 : Int) ^ Int.toNat 9) = 1000000000 := by decide
      rw [ez] at z1
      refine ⟨_, z, rfl, rfl, .inr ⟨by omega, by omega⟩, _, rfl, 10, 9, rfl, rfl, ⟨by decide, by decide, by decide⟩, a, c, cs3, _, _, rfl, D3, by decide, by decide, by omega, fun H4 cs4 y s4 D4 y0 y1 => ?_⟩
      rw [ez] at y1
      have e50 : ((10 : Int) ^ Int.toNat 50) = 100000000000000000000000000000000000000000000000000 := by decide
      refine ⟨_, _, rfl, rfl, i, _, rfl, rfl, .inl ⟨by omega, by omega⟩, ?_⟩
      rw [e50]
      refine q H4 cs4 _ _ ((s12.trans s3).trans s4) D4 (by omega) (by omega) ?_ ?_ <;> rcases hi with rfl | rfl <;> omega
end
/-! ### data that repr shows -/
structure Shw (k n : Nat) (d : PyData) : Prop where
  s : d.showable = true
  h : d.hasDict = false
  l : d.leavesShort 1921 = true
  dp : d.depth ≤ k
  w : d.weight ≤ n
structure ShwA (k n : Nat) (ds : List PyData) : Prop where
  s : PyData.showableAll ds = true
  h : PyData.hasDictAll ds = false
  l : PyData.leavesShortAll 1921 ds = true
  dp : PyData.depthAll ds ≤ k
  w : PyData.weightAll ds ≤ n
namespace Shw
theorem mono {k n k' n' : Nat} {d : PyData} (h : Shw k n d) (hk : k ≤ k') (hn : n ≤ n') : Shw k' n' d := ⟨h.s, h.h, h.l, Nat.le_trans h.dp hk, Nat.le_trans h.w hn⟩
theorem int {i : Int} {n : Nat} (h : i.natAbs < 2 ^ n) (h0 : 0 < n) (hn : n ≤ 1920) (k : Nat) : Shw k n (.int i) := by
  have l := PySem.Flt.log2_lt_of h0 h
  have l' : i.natAbs.log2 < 1920 := by omega
  refine ⟨by simp only [PyData.showable, decide_eq_true_eq]; exact l', by simp only [PyData.hasDict], ?_, by simp only [PyData.depth]; omega, ?_⟩
  · simp only [PyData.leavesShort, decide_eq_true_eq, PyData.shown]
    exact decide_eq_true (int_text_len_1921 l')
  · simp only [PyData.weight]
    split <;> omega
theorem str {z : Str} (h : PyData.strOk z = true) (k n : Nat) (hn : z.length ≤ n) : Shw k n (.str z) := by
  refine ⟨by simp only [PyData.showable], by simp only [PyData.hasDict], ?_, by simp only [PyData.depth]; omega, by simp only [PyData.weight]; exact hn⟩
  simp only [PyData.leavesShort]
  rw [List.all_eq_true]
  intro c hc
  unfold PyData.strOk at h
  rw [Array.all_eq_true'] at h
  have := of_decide_eq_true (h c (Array.mem_toList_iff.mp hc))
  have e : (16 : Nat) ^ 8 = 4294967296 := rfl
  refine decide_eq_true ?_; omega
theorem tup {k n : Nat} {ds : List PyData} (h : ShwA k n ds) : Shw (k + 1) n (.tuple ds) :=
  ⟨by simp only [PyData.showable]; exact h.s, by simp only [PyData.hasDict]; exact h.h, by simp only [PyData.leavesShort]; exact h.l, by simp only [PyData.depth]; have := h.dp; omega, by simp only [PyData.weight]; exact h.w⟩
theorem lst {k n : Nat} {ds : List PyData} (h : ShwA k n ds) : Shw (k + 1) n (.list ds) :=
  ⟨by simp only [PyData.showable]; exact h.s, by simp only [PyData.hasDict]; exact h.h, by simp only [PyData.leavesShort]; exact h.l, by simp only [PyData.depth]; have := h.dp; omega, by simp only [PyData.weight]; exact h.w⟩
/-- what repr asks -/
theorem len {k n : Nat} {d : PyData} (h : Shw k n d) (hn : n ≤ 8000) : d.shown.length ≤ 16777216 := by
  have := PyData.shown_le 1921 (by decide) d h.l
  have := h.w
  omega
end Shw
namespace ShwA
theorem nil (k n : Nat) : ShwA k n [] := ⟨by simp only [PyData.showableAll], by simp only [PyData.hasDictAll], by simp only [PyData.leavesShortAll], by simp only [PyData.depthAll]; omega, by simp only [PyData.weightAll]; omega⟩
theorem cons {k n m : Nat} {d : PyData} {ds : List PyData} (h : Shw k n d) (hs : ShwA k m ds) : ShwA k (n + 1 + m) (d :: ds) := by
  refine ⟨?_, ?_, ?_, ?_, ?_⟩
  · simp only [PyData.showableAll, h.s, hs.s, Bool.and_self]
  · simp only [PyData.hasDictAll, h.h, hs.h, Bool.or_self]
  · simp only [PyData.leavesShortAll, h.l, hs.l, Bool.and_self]
  · simp only [PyData.depthAll]; have := h.dp; have := hs.dp; omega
  · simp only [PyData.weightAll]; have := h.w; have := hs.w; omega
theorem mono {k n k' n' : Nat} {d : List PyData} (h : ShwA k n d) (hk : k ≤ k') (hn : n ≤ n') : ShwA k' n' d := ⟨h.s, h.h, h.l, Nat.le_trans h.dp hk, Nat.le_trans h.w hn⟩
theorem allInt {l : List Int} {n : Nat} (h0 : 0 < n) (hn : n ≤ 1920) (h : ∀ i ∈ l, i.natAbs < 2 ^ n) (k : Nat) : ShwA k ((n + 1) * l.length) (l.map PyData.int) := by
  induction l with
  | nil => exact .nil _ _
  | cons i l ih =>
    refine (ShwA.cons (Shw.int (h i (by simp)) h0 hn k) (ih fun j hj => h j (List.mem_cons_of_mem _ hj))).mono (Nat.le_refl _) ?_
    rw [List.length_cons, Nat.mul_succ]
    omega
end ShwA
theorem sm {i : Int} (h1 : -120 ≤ i) (h2 : i ≤ 120) (k : Nat) : Shw k 7 (.int i) := by
  have e : (2 : Nat) ^ 7 = 128 := by decide
  exact Shw.int (by omega) (by decide) (by decide) k
def wE : Nat → Nat
  | 0 => 0
  | n + 1 => 2 * wE n + 16
theorem Ex.shw {ns : List Str} (hn : ∀ z ∈ ns, NmOk z) : ∀ (e : Ex) (n : Nat), e.ok ns n → Shw n (wE n) e.d
  | .int i, n, ⟨h1, h2, h3⟩ => by
    obtain ⟨m, rfl⟩ : ∃ m : Nat, n = m + 1 := ⟨n - 1, by omega⟩
    exact (sm (by omega) (by omega) _).mono (Nat.le_refl _) (by simp only [wE]; omega)
  | .name z, n, ⟨h1, h2⟩ => by
    obtain ⟨m, rfl⟩ : ∃ m : Nat, n = m + 1 := ⟨n - 1, by omega⟩
    exact Shw.str (hn z h2).ok _ _ (by have := (hn z h2).hi; simp only [wE]; omega)
  | .plus x y, n, ⟨h1, h2, h3⟩ => by
    obtain ⟨m, rfl⟩ : ∃ m : Nat, n = m + 1 := ⟨n - 1, by omega⟩
    exact (Shw.tup (.cons (Shw.str (n := 4) (by decide +kernel) m (by decide)) (.cons (Ex.shw hn x m h2) (.cons (Ex.shw hn y m h3) (.nil m 0))))).mono (Nat.le_refl _) (by simp only [wE]; omega)
  | .minus x y, n, ⟨h1, h2, h3⟩ => by
    obtain ⟨m, rfl⟩ : ∃ m : Nat, n = m + 1 := ⟨n - 1, by omega⟩
    exact (Shw.tup (.cons (Shw.str (n := 5) (by decide +kernel) m (by decide)) (.cons (Ex.shw hn x m h2) (.cons (Ex.shw hn y m h3) (.nil m 0))))).mono (Nat.le_refl _) (by simp only [wE]; omega)
  | .times f x, n, ⟨h1, h2, h3, h4⟩ => by
    obtain ⟨m, rfl⟩ : ∃ m : Nat, n = m + 1 := ⟨n - 1, by omega⟩
    exact (Shw.tup (.cons (Shw.str (n := 5) (by decide +kernel) m (by decide)) (.cons (sm (by omega) (by omega) m) (.cons (Ex.shw hn x m h4) (.nil m 0))))).mono (Nat.le_refl _) (by simp only [wE]; omega)
theorem Ts.shw {ns : List Str} (hn : ∀ z ∈ ns, NmOk z) : ∀ (t : Ts) (n : Nat), t.ok ns n → Shw (n + 4) (5 * n + 240) t.d
  | .rest x b r, n, ⟨h1, h2, h3, h4, h5⟩ => (Shw.tup (.cons (Shw.str (n := 4) (by decide +kernel) 3 (by decide)) (.cons (Ex.shw hn x 3 h1) (.cons (sm (by omega) (by omega) 3) (.cons (sm (by omega) (by omega) 3) (.nil 3 0)))))).mono (by omega) (by simp only [wE]; omega)
  | .less x y, n, ⟨h1, h2⟩ => (Shw.tup (.cons (Shw.str (n := 4) (by decide +kernel) 3 (by decide)) (.cons (Ex.shw hn x 3 h1) (.cons (Ex.shw hn y 3 h2) (.nil 3 0))))).mono (by omega) (by simp only [wE]; omega)
  | .not t, n, ⟨h1, h2⟩ => by
    obtain ⟨m, rfl⟩ : ∃ m : Nat, n = m + 1 := ⟨n - 1, by omega⟩
    exact (Shw.tup (.cons (Shw.str (n := 3) (by decide +kernel) _ (by decide)) (.cons (Ts.shw hn t m h2) (.nil _ 0)))).mono (by omega) (by omega)
mutual
theorem St.shw {ns : List Str} (hn : ∀ z ∈ ns, NmOk z) : ∀ (s : St) (d : Nat), s.ok ns d → Shw (2 * d + 9) (300 * s.sz - 1) s.d
  | .set z e, d, ⟨h1, h2⟩ => (Shw.tup (.cons (Shw.str (n := 3) (by decide +kernel) 3 (by decide)) (.cons (Shw.str (n := 8) (hn z h1).ok 3 (hn z h1).hi) (.cons (Ex.shw hn e 3 h2) (.nil 3 0))))).mono (by omega) (by simp only [wE, St.sz]; omega)
  | .pay e, d, h => (Shw.tup (.cons (Shw.str (n := 3) (by decide +kernel) 3 (by decide)) (.cons (Ex.shw hn e 3 h) (.nil 3 0)))).mono (by omega) (by simp only [wE, St.sz]; omega)
  | .stop, d, h => (Shw.tup (.cons (Shw.str (n := 4) (by decide +kernel) 3 (by decide)) (.nil 3 0))).mono (by omega) (by simp only [St.sz]; omega)
  | .ite t y n, d, ⟨h1, h2, h3⟩ => (Shw.tup (.cons (Shw.str (n := 2) (by decide +kernel) (2 * d + 8) (by decide)) (.cons ((Ts.shw hn t 2 h1).mono (by omega) (Nat.le_refl _)) (.cons ((Shw.tup (Bk.shw hn y d h2)).mono (by omega) (Nat.le_refl _)) (.cons ((Shw.tup (Bk.shw hn n d h3)).mono (by omega) (Nat.le_refl _)) (.nil _ 0)))))).mono (by omega) (by simp only [St.sz]; omega)
  | .rep k y, d, ⟨h1, h2, h3⟩ => (Shw.tup (.cons (Shw.str (n := 6) (by decide +kernel) (2 * d + 8) (by decide)) (.cons (sm (by omega) (by omega) _) (.cons ((Shw.tup (Bk.shw hn y d h3)).mono (by omega) (Nat.le_refl _)) (.nil _ 0))))).mono (by omega) (by simp only [St.sz]; omega)
theorem Bk.shw {ns : List Str} (hn : ∀ z ∈ ns, NmOk z) : ∀ (b : Bk) (d : Nat), b.ok ns d → ShwA (2 * d + 7) (300 * b.sz) b.ds
  | .nil, d, _ => .nil _ _
  | .cons s b, d, ⟨h1, h2, h3⟩ => by
    have p : 1 ≤ s.sz := by rw [s.sz_blks]; omega
    exact (ShwA.cons ((St.shw hn s (d - 1) h2).mono (by omega) (Nat.le_refl _)) (Bk.shw hn b d h3)).mono (Nat.le_refl _) (by simp only [Bk.sz]; omega)
end
/-! ### how far a run gets -/
structure Bd (B : Int) (w : Wd) : Prop where
  h : 99 ≤ B
  en : ∀ z, -B ≤ w.en z ∧ w.en z ≤ B
  t1 : -B ≤ w.tot
  t2 : w.tot ≤ B
theorem Bd.mono {B C : Int} {w : Wd} (h : Bd B w) (l : B ≤ C) : Bd C w := ⟨Int.le_trans h.h l, fun z => by have := h.en z; omega, by have := h.t1; omega, by have := h.t2; omega⟩
theorem Bd.pl {B : Int} {e : Str → Int} {t : Int} {l l' : List Int} (h : Bd B ⟨e, t, l⟩) : Bd B ⟨e, t, l'⟩ := ⟨h.h, h.en, h.t1, h.t2⟩
theorem p128 (n : Nat) : (1 : Int) ≤ 128 ^ n := Int.pow_pos (by decide)
theorem p128_le {B : Int} (h : 0 ≤ B) {m n : Nat} (l : m ≤ n) : (128 : Int) ^ m * B ≤ 128 ^ n * B := by
  refine Int.mul_le_mul_of_nonneg_right ?_ h
  obtain ⟨k, rfl⟩ : ∃ k, n = m + k := ⟨n - m, by omega⟩
  rw [Int.pow_add]
  have a := p128 m
  have b := p128 k
  have := Int.mul_le_mul_of_nonneg_left b (show (0 : Int) ≤ 128 ^ m by omega)
  omega
theorem Bd.up {B : Int} {w : Wd} {m n : Nat} (h : Bd (128 ^ m * B) w) (hB : 0 ≤ B) (l : m ≤ n) : Bd (128 ^ n * B) w := h.mono (p128_le hB l)
theorem ev81 {ns : List Str} {ρ : Str → Int} {B : Int} (hB : 99 ≤ B) (h : ∀ z, -B ≤ ρ z ∧ ρ z ≤ B) {e : Ex} (ho : e.ok ns 3) : -(81 * B) ≤ e.ev ρ ∧ e.ev ρ ≤ 81 * B := by
  have := Ex.ev_le hB h e 3 ho
  have e9 : (9 : Int) ^ 3 = 729 := by decide
  rw [e9] at this
  omega
theorem itr_bd {f : Wd → Wd × Bool} {c : Nat} (hf : ∀ w B, Bd B w → Bd (128 ^ c * B) (f w).1) : ∀ (n : Nat) (w : Wd) (B : Int), Bd B w → Bd (128 ^ (n * c) * B) (itr f n w).1
  | 0, w, B, h => by
    rw [Nat.zero_mul, Int.pow_zero, Int.one_mul]
    exact h
  | n + 1, w, B, h => by
    have h1 := hf w B h
    have h2 := itr_bd hf n (f w).1 _ h1
    have hB : 0 ≤ B := by have := h.h; omega
    rw [← Int.mul_assoc, ← Int.pow_add, ← Nat.succ_mul] at h2
    unfold itr
    split
    · exact h1.up hB (by rw [Nat.succ_mul]; omega)
    · exact h2
mutual
theorem St.run_bd {ns : List Str} : ∀ (s : St) (d : Nat) (p : Int) (w : Wd) (B : Int), s.ok ns d → Bd B w → Bd (128 ^ s.wt * B) (s.run p w).1
  | .set z e, d, p, w, B, ⟨h1, h2⟩, h => by
    have v := ev81 h.h h.en h2
    have hB := h.h
    rw [show St.wt (.set z e) = 1 from rfl, Int.pow_one]
    refine ⟨by omega, fun y => ?_, by have := h.t1; show -(128 * B) ≤ w.tot; omega, by have := h.t2; show w.tot ≤ 128 * B; omega⟩
    show -(128 * B) ≤ (if y = z then e.ev w.en else w.en y) ∧ (if y = z then e.ev w.en else w.en y) ≤ 128 * B
    have := h.en y
    split <;> omega
  | .pay e, d, p, w, B, h2, h => by
    have v := ev81 h.h h.en h2
    have hB := h.h
    rw [show St.wt (.pay e) = 1 from rfl, Int.pow_one]
    refine ⟨by omega, fun y => by have := h.en y; show -(128 * B) ≤ w.en y ∧ w.en y ≤ 128 * B; omega, ?_, ?_⟩
    · have := h.t1; show -(128 * B) ≤ w.tot + e.ev w.en; omega
    · have := h.t2; show w.tot + e.ev w.en ≤ 128 * B; omega
  | .stop, d, p, w, B, _, h => by
    have hB := h.h
    rw [show St.wt .stop = 1 from rfl, Int.pow_one]
    exact (Bd.pl h : Bd B ⟨w.en, w.tot, w.pl ++ [p]⟩).mono (by omega)
  | .ite t y n, d, p, w, B, ⟨h1, h2, h3⟩, h => by
    have hB := h.h
    have h' : Bd B ⟨w.en, w.tot, w.pl ++ [p]⟩ := Bd.pl h
    simp only [St.run, St.wt]
    split
    · exact (Bk.run_bd y d _ _ B h2 h').up (by omega) (by omega)
    · exact (Bk.run_bd n d _ _ B h3 h').up (by omega) (by omega)
  | .rep k y, d, p, w, B, ⟨h1, h2, h3⟩, h => by
    have hB := h.h
    have h' : Bd B ⟨w.en, w.tot, w.pl ++ [p]⟩ := Bd.pl h
    simp only [St.run, St.wt]
    exact (itr_bd (fun w B h => Bk.run_bd y d (p + 1) w B h3 h) k.toNat _ B h').up (by omega) (by omega)
theorem Bk.run_bd {ns : List Str} : ∀ (b : Bk) (d : Nat) (p : Int) (w : Wd) (B : Int), b.ok ns d → Bd B w → Bd (128 ^ b.wt * B) (b.run p w).1
  | .nil, d, p, w, B, _, h => by
    rw [show Bk.wt .nil = 0 from rfl, Int.pow_zero, Int.one_mul]
    exact h
  | .cons s b, d, p, w, B, ⟨h1, h2, h3⟩, h => by
    have hB : 0 ≤ B := by have := h.h; omega
    have a := St.run_bd s (d - 1) p w B h2 h
    have c := Bk.run_bd b d (p + s.sz) (s.run p w).1 _ h3 a
    rw [← Int.mul_assoc, ← Int.pow_add, Nat.add_comm] at c
    simp only [Bk.run, Bk.wt]
    split
    · exact a.up hB (by omega)
    · exact c
end
/-- places are places -/
def Pl (lo hi : Int) (l l' : List Int) : Prop := ∀ x ∈ l', x ∈ l ∨ (lo ≤ x ∧ x < hi)
theorem Pl.trans {lo hi : Int} {l l1 l2 : List Int} (a : Pl lo hi l l1) (b : Pl lo hi l1 l2) : Pl lo hi l l2 := fun x hx => (b x hx).elim (a x) .inr
theorem Pl.mono {lo hi lo' hi' : Int} {l l1 : List Int} (a : Pl lo hi l l1) (h1 : lo' ≤ lo) (h2 : hi ≤ hi') : Pl lo' hi' l l1 := fun x hx => (a x hx).imp id (fun z => by omega)
theorem Pl.refl (lo hi : Int) (l : List Int) : Pl lo hi l l := fun _ hx => .inl hx
theorem Pl.one {lo hi p : Int} (l : List Int) (h1 : lo ≤ p) (h2 : p < hi) : Pl lo hi l (l ++ [p]) := fun x hx => by
  rcases List.mem_append.1 hx with z | z
  · exact .inl z
  · rw [List.mem_singleton.mp z]; exact .inr ⟨h1, h2⟩
theorem itr_pl {f : Wd → Wd × Bool} {lo hi : Int} (hf : ∀ w, Pl lo hi w.pl (f w).1.pl) : ∀ (n : Nat) (w : Wd), Pl lo hi w.pl (itr f n w).1.pl
  | 0, w => .refl _ _ _
  | n + 1, w => by
    unfold itr
    split
    · exact hf w
    · exact (hf w).trans (itr_pl hf n _)
mutual
theorem St.run_pl : ∀ (s : St) (p : Int) (w : Wd), Pl p (p + s.sz) w.pl (s.run p w).1.pl
  | .set z e, p, w => .one _ (Int.le_refl _) (by simp [St.sz]; omega)
  | .pay e, p, w => .one _ (Int.le_refl _) (by simp [St.sz]; omega)
  | .stop, p, w => .one _ (Int.le_refl _) (by simp [St.sz]; omega)
  | .ite t y n, p, w => by
    simp only [St.run, St.sz]
    have z : Pl p (p + ((1 + y.sz + n.sz : Nat) : Int)) w.pl (w.pl ++ [p]) := .one _ (Int.le_refl _) (by omega)
    split
    · exact z.trans ((Bk.run_pl y (p + 1) ⟨w.en, w.tot, w.pl ++ [p]⟩).mono (by omega) (by omega))
    · exact z.trans ((Bk.run_pl n (p + 1 + y.sz) ⟨w.en, w.tot, w.pl ++ [p]⟩).mono (by omega) (by omega))
  | .rep k y, p, w => by
    simp only [St.run, St.sz]
    have z : Pl p (p + ((1 + y.sz : Nat) : Int)) w.pl (w.pl ++ [p]) := .one _ (Int.le_refl _) (by omega)
    exact z.trans ((itr_pl (Bk.run_pl y (p + 1)) k.toNat ⟨w.en, w.tot, w.pl ++ [p]⟩).mono (by omega) (by omega))
theorem Bk.run_pl : ∀ (b : Bk) (p : Int) (w : Wd), Pl p (p + b.sz) w.pl (b.run p w).1.pl
  | .nil, p, w => .refl _ _ _
  | .cons s b, p, w => by
    simp only [Bk.run, Bk.sz]
    have a := St.run_pl s p w
    have c := Bk.run_pl b (p + s.sz) (s.run p w).1
    split
    · exact a.mono (Int.le_refl _) (by omega)
    · exact (a.mono (Int.le_refl _) (by omega)).trans (c.mono (by omega) (by omega))
end
set_option exponentiation.threshold 2000 in
/-- what a run tells can be shown -/
theorem Bk.told_shw {ns : List Str} {b : Bk} {d : Nat} {x : Int} (ho : b.ok ns d) (hw : b.wt ≤ 30) (hs : b.sz ≤ 24) (h1 : -1000000000000000000000000000000000000000000000000000000000000 ≤ x) (h2 : x ≤ 1000000000000000000000000000000000000000000000000000000000000) : Shw 2 800 (b.told x) := by
  have h0 : Bd 1000000000000000000000000000000000000000000000000000000000000 (Wd.at x) := ⟨by decide, fun z => by
    show _ ≤ (if z = "n" then x else 0) ∧ (if z = "n" then x else 0) ≤ _
    split <;> omega, by show _ ≤ (0 : Int); decide, by show (0 : Int) ≤ _; decide⟩
  have h := (Bk.run_bd b d 0 _ _ ho h0).up (by decide) hw
  have e : (128 : Int) ^ 30 * 1000000000000000000000000000000000000000000000000000000000000 = 1645504557321206042154969182557350504982735865633579863348609024000000000000000000000000000000000000000000000000000000000000 := by decide
  rw [e] at h
  have p1 := Bk.run_pl b 0 (Wd.at x)
  have p2 := Bk.run_len b 0 (Wd.at x)
  have p3 : (b.run 0 (Wd.at x)).1.pl.length ≤ 30 := by
    have : (Wd.at x).pl.length = 0 := rfl
    omega
  have t1 := h.t1
  have t2 := h.t2
  have e2 : (2 : Nat) ^ 450 > 1645504557321206042154969182557350504982735865633579863348609024000000000000000000000000000000000000000000000000000000000000 := by decide
  have z : ShwA 0 ((7 + 1) * (b.run 0 (Wd.at x)).1.pl.length) ((b.run 0 (Wd.at x)).1.pl.map PyData.int) := .allInt (by decide) (by decide) (fun i hi => by
    have e7 : (2 : Nat) ^ 7 = 128 := by decide
    rcases p1 i hi with z | z
    · cases z
    · omega) 0
  exact (Shw.tup (.cons (Shw.int (n := 450) (by omega) (by decide) (by decide) 1) (.cons (Shw.tup z) (.nil 1 0)))).mono (Nat.le_refl _) (by omega)
/-! ### t[::-1] of a tuple -/
theorem places_back (n : Nat) : Builtin.Slice.slicePlaces ((n : Int) - 1) (-1) (-1) = n := by
  unfold Builtin.Slice.slicePlaces;
  rw [if_neg (by omega)]
  by_cases h : n = 0
  · subst h; rfl
  · rw [if_pos (by omega), show ((n : Int) - 1 - -1 - 1) = (n : Int) - 1 by omega, show (- -1 : Int) = 1 from rfl, Int.ediv_one]
    omega
theorem pick_back (xs : Array Value) : ((List.range xs.size).filterMap fun (m : Nat) => xs[((xs.size : Int) - 1 + (m : Int) * -1).toNat]?).toArray = xs.toList.reverse.toArray := by
  congr 1
  apply List.ext_getElem?
  intro i
  have hlen : ∀ l : List Nat, (∀ m ∈ l, m < xs.size) → (l.filterMap fun (m : Nat) => xs[((xs.size : Int) - 1 + (m : Int) * -1).toNat]?) = l.map fun m => xs.toList.reverse.getD m .none := by
    intro l
    induction l with
    | nil => intro _; rfl
    | cons m l ih =>
      intro h
      have hm := h m (by simp)
      have e : ((xs.size : Int) - 1 + (m : Int) * -1).toNat = xs.size - 1 - m := by omega
      have e2 : xs[xs.size - 1 - m]? = some (xs.toList.reverse.getD m .none) := by
        rw [List.getD_eq_getElem?_getD, List.getElem?_reverse (by simpa using hm), Array.length_toList]
        rw [Array.getElem?_toList]
        rw [Array.getElem?_eq_getElem (by omega)]
        rfl
      rw [List.filterMap_cons, e, e2, List.map_cons, ih fun k hk => h k (List.mem_cons_of_mem _ hk)]
  rw [hlen _ fun m hm => List.mem_range.mp hm, List.getElem?_map]
  by_cases hi : i < xs.size
  · rw [List.getElem?_range hi, Option.map_some, List.getD_eq_getElem?_getD, List.getElem?_eq_getElem (by simpa using hi)]
    rfl
  · rw [List.getElem?_eq_none (by simp; omega), List.getElem?_eq_none (by simp; omega)]
    rfl
theorem getItem_tuple_back {P : Program} {w : World} {A : Around} {E : Value → Shared → Prop} {s : Shared} {t sl : Addr} {items : Array Value} {vl vu vs : Value} {Q : Value → Shared → Prop} (ht : IsTup s.heap t items) (hs : s.heap.IsSliceOf sl vl vu vs) (pl : IsPart vl none) (pu : IsPart vu none) (ps : IsPart vs (some (-1)))
    (h : Q (.ref s.heap.objs.size) { s with heap := s.heap.push { cls := .type "tuple", data := .seq items.toList.reverse.toArray } }) (hz : items.size ≤ sizeLine) : wpAny (model P w) A (getItem (.ref t) (.ref sl)) Q E s := by
  have hfit : sizeOk (.seq items.toList.reverse.toArray) := by
    show items.toList.reverse.toArray.size ≤ sizeLine
    simpa using hz
  rcases id hs with ⟨os, hos, hcs, hds⟩
  have isSl : s.TypeIs (.ref sl) "slice" := ⟨os, hos, hcs⟩
  unfold getItem; try with_reducible refine wpAny_holding ?_
  try (refine wpAny_bind (wpAny_pure ?_))
  refine wpAny_bind (wpAny_sequenceKey ht.typeIs (by decide) (wpAny_bind (wpAny_callSpecial?_slot (name := Str.ofString "__getitem__") ht.typeIs PyProof.Rows.slot_tuple_getitem (wpAny_call_entry PyProof.Rows.slot_tuple_getitem ht.typeIs entry_tuple_getitem ?_ (args_tuple_getitem _ _)))))
  show wpAny _ _ (Builtin.Tuple.tupleItemsOf (.ref t) >>= fun xs => _) _ _ s
  refine wpAny_bind (tupleItemsOf_ ht (wpAny_bind (wpAny_typeOf isSl ?_))); rw [if_pos (by decide)]
  refine wpAny_bind ?_; unfold Builtin.Slice.sliceApplied Builtin.Slice.sliceFields
  refine wpAny_bind (wpAny_bind (wpAny_field hos hds (x := vl) rfl (wpAny_bind (wpAny_field hos hds (x := vu) rfl (wpAny_bind (wpAny_field hos hds (x := vs) rfl (wpAny_pure ?_))))))); refine wpAny_bind (HT.slicePart_ ps ?_)
  show wpAny _ _ (if ((-1 : Int) == 0) = true then _ else _) _ _ s; rw [if_neg (by decide)]
  refine wpAny_bind (HT.slicePart_ pl (wpAny_bind (HT.slicePart_ pu (wpAny_bind (wpAny_pure (wpAny_pure ?_))))))
  show wpAny _ _ (if (((items.size : Int) - 1) == 0 && (-1 : Int) == 1 && (Builtin.Slice.slicePlaces ((items.size : Int) - 1) (-1) (-1)) == items.size) = true then _ else _) _ _ s
  rw [if_neg (by rw [show ((-1 : Int) == 1) = false from rfl, Bool.and_false, Bool.false_and]; exact Bool.false_ne_true)]
  show wpAny _ _ (Builtin.Tuple.tupleExact ((List.range (Builtin.Slice.slicePlaces ((items.size : Int) - 1) (-1) (-1))).filterMap fun (k : Nat) => items[((items.size : Int) - 1 + (k : Int) * -1).toNat]?).toArray >>= _) _ _ s
  rw [places_back, pick_back]
  exact wpAny_bind (m := Builtin.Tuple.tupleExact _) (wpAny_newObj_type (wpAny_pure ⟨_, rfl, wpAny_pure h⟩) hfit)
section
variable {X : Cx}
/-- t[::-1]: a new tuple -/
def tRevT (K : PySem.W.Frag) (te : TE) : TE := fun σ H Q => te σ H fun x H1 => ∃ a xs, x = .ref a ∧ SqT K H1 a xs ∧ ∀ p, H1 p = none → Q (.ref p) (upd H1 p (.tup xs.reverse))
theorem pe_revT {e : Expr} {te : TE} {k : Nat} {p1 p2 p3 pos : Pos} (he : PE X e te) : PE X (.Subscript e (.Slice none none (some (.UnaryOp .USub (.Constant (.int 1) k p1) p2)) p3) pos) (tRevT X.K te) := by
  refine ⟨fun pins s σ H Q I h => Subscript_ (thn (he.run pins s σ H _ I h) fun v s1 ⟨x, H1, I1, r1, a, xs, ex, hx, q⟩ => ?_)⟩
  subst ex; cases r1
  have hst : PO X (some (.UnaryOp .USub (.Constant (.int 1) k p1) p2)) (tPart (tUn (rU fun i => .int (-i)) (tC (.int 1)))) := po_some (pe_un un_neg pe_int); refine wpAny_Slice (thn (po_none.run pins s1 σ H1 (fun o H2 => o = none ∧ H2 = H1) I1 ⟨rfl, rfl⟩) fun vl s2 ⟨l, H2, I2, pl, el, e2⟩ => ?_)
  subst el e2; refine thn (po_none.run pins s2 σ H2 (fun o H3 => o = none ∧ H3 = H2) I2 ⟨rfl, rfl⟩) fun vu s3 ⟨u, H3, I3, pu, eu, e3⟩ => ?_
  subst eu e3; refine thn (hst.run pins s3 σ H3 (fun o H4 => o = some (-1) ∧ H4 = H3) I3 ⟨1, rfl, -1, rfl, rfl, rfl⟩) fun vs s4 ⟨o, H4, I4, ps, eo, e4⟩ => ?_
  subst eo e4
  have I5 : Inv X pins σ H4 { s4 with heap := s4.heap.push { cls := .type "slice", data := .fields #[vl, vu, vs] } } := I4.kept (t' := s4.toks) fun b ob z => Heap.get?_push_of_some _ z
  obtain ⟨its, r, ht, hz⟩ := I5.tuple hx
  have hlen := r.length
  show wpAny (model X.prog X.w) X.A (subscriptTail e (.Slice none none (some (.UnaryOp .USub (.Constant (.int 1) k p1) p2)) p3) (.ref a) (.ref s4.heap.objs.size)) (EP X pins σ Q) X.xe { s4 with heap := s4.heap.push ⟨.type "slice", none, .fields #[vl, vu, vs], #[]⟩ }
  refine tail_any (ops := [.ref a, .ref s4.heap.objs.size]) ht.typeIs PyProof.Rows.slot_tuple_getitem.lookup ?_ (by with_unfolding_all rfl)
  refine getItem_tuple_back ht (Heap.IsSliceOf.new _ vl vu vs) pl pu ps ?_ (by rw [List.size_toArray]; omega)
  refine ⟨.ref _, _, I5.laid (t' := s4.toks) (o := .tup xs.reverse) (fun b ob z => Heap.get?_push_of_some _ z) (Nat.le_refl _) ?_, rfl, q _ (I5.hok.fresh (Nat.le_refl _))⟩
  exact ⟨by rw [List.length_reverse]; exact hz, _, by simpa using r.reverse, IsTup.new _ _⟩
end
abbrev sPIsInteger : Stmt := topS 17
abbrev nPIsInteger : List Str := ["value"]
theorem scPIsInteger : FnScope nPIsInteger ["value"] (defScope sPIsInteger) := ⟨rfl, rfl, rfl, by decide +kernel, rfl, by decide +kernel, by decide +kernel⟩
abbrev sPBlocksOf : Stmt := topS 25
abbrev nPBlocksOf : List Str := ["statement"]
theorem scPBlocksOf : FnScope nPBlocksOf ["statement"] (defScope sPBlocksOf) := ⟨rfl, rfl, rfl, by decide +kernel, rfl, by decide +kernel, by decide +kernel⟩
abbrev sPEachStatement : Stmt := topS 29
abbrev nPEachStatement : List Str := ["program", "waiting", "place", "depth", "statement", "block", "inner"]
theorem scPEachStatement : GScope nPEachStatement ["program"] (defScope sPEachStatement) := ⟨rfl, rfl, rfl, by decide +kernel, rfl, by decide +kernel, by decide +kernel⟩
abbrev sPPlacesIn : Stmt := topS 30
abbrev nPPlacesIn : List Str := ["block"]
theorem scPPlacesIn : FnScope nPPlacesIn ["block"] (defScope sPPlacesIn) := ⟨rfl, rfl, rfl, by decide +kernel, rfl, by decide +kernel, by decide +kernel⟩
/-! ### the program's walk over statements -/
/-- a row that is handed out: place, depth, statement -/
abbrev Rw := Int × Int × St
def rwD (r : Rw) : PyData := .tuple [.int r.1, .int r.2.1, r.2.2.d]
def prD (x : Int × St) : PyData := .tuple [.int x.1, x.2.d]
mutual
def St.rws : St → Int → Int → List Rw
  | .set z e, d, p => [(p, d, .set z e)]
  | .pay e, d, p => [(p, d, .pay e)]
  | .stop, d, p => [(p, d, .stop)]
  | .ite t y n, d, p => (p, d, .ite t y n) :: (y.rws (d + 1) (p + 1) ++ n.rws (d + 1) (p + 1 + y.sz))
  | .rep k y, d, p => (p, d, .rep k y) :: y.rws (d + 1) (p + 1)
def Bk.rws : Bk → Int → Int → List Rw
  | .nil, _, _ => []
  | .cons s b, d, p => s.rws d p ++ b.rws d (p + s.sz)
end
mutual
theorem St.rws_len : ∀ (s : St) (d p : Int), (s.rws d p).length = s.sz
  | .set _ _, _, _ => rfl
  | .pay _, _, _ => rfl
  | .stop, _, _ => rfl
  | .ite t y n, d, p => by simp only [St.rws, St.sz, List.length_cons, List.length_append, Bk.rws_len y, Bk.rws_len n]; omega
  | .rep k y, d, p => by simp only [St.rws, St.sz, List.length_cons, Bk.rws_len y]; omega
theorem Bk.rws_len : ∀ (b : Bk) (d p : Int), (b.rws d p).length = b.sz
  | .nil, _, _ => rfl
  | .cons s b, d, p => by simp only [Bk.rws, Bk.sz, List.length_append, St.rws_len s, Bk.rws_len b]
end
def stkRws : List (Int × St) → Int → List Rw
  | [], _ => []
  | (d, s) :: r, p => s.rws d p ++ stkRws r (p + s.sz)
def stkSz (l : List (Int × St)) : Nat := (l.map fun x => x.2.sz).sum
theorem stkSz_cons (x : Int × St) (l : List (Int × St)) : stkSz (x :: l) = x.2.sz + stkSz l := rfl
theorem stkSz_append (l m : List (Int × St)) : stkSz (l ++ m) = stkSz l + stkSz m := by unfold stkSz; rw [List.map_append, List.sum_append]
theorem stk_append : ∀ (l m : List (Int × St)) (p : Int), stkRws (l ++ m) p = stkRws l p ++ stkRws m (p + stkSz l)
  | [], m, p => by show stkRws m p = stkRws m (p + 0); rw [Int.add_zero]
  | (d, s) :: l, m, p => by
    show s.rws d p ++ stkRws (l ++ m) (p + s.sz) = (s.rws d p ++ stkRws l (p + s.sz)) ++ _
    rw [stk_append l m, List.append_assoc, stkSz_cons, Int.natCast_add, Int.add_assoc]
theorem stkRws_len : ∀ (l : List (Int × St)) (p : Int), (stkRws l p).length = stkSz l
  | [], _ => rfl
  | (d, s) :: l, p => by
    show (s.rws d p ++ stkRws l (p + s.sz)).length = _
    rw [List.length_append, St.rws_len, stkRws_len l, stkSz_cons]
theorem St.sz_pos (s : St) : 1 ≤ s.sz := by rw [s.sz_blks]; omega
theorem stk_le : ∀ l : List (Int × St), l.length ≤ stkSz l
  | [] => Nat.le_refl _
  | x :: l => by
    rw [List.length_cons, stkSz_cons]
    have := stk_le l
    have := x.2.sz_pos
    omega
def Bk.stk (b : Bk) (d : Int) : List (Int × St) := b.lst.map fun s => (d, s)
theorem stk_bk : ∀ (b : Bk) (d p : Int), stkRws (b.stk d) p = b.rws d p
  | .nil, _, _ => rfl
  | .cons s b, d, p => by
    show s.rws d p ++ stkRws (b.stk d) (p + s.sz) = s.rws d p ++ b.rws d (p + s.sz)
    rw [stk_bk b]
theorem stkSz_bk : ∀ (b : Bk) (d : Int), stkSz (b.stk d) = b.sz
  | .nil, _ => rfl
  | .cons s b, d => by
    show stkSz ((d, s) :: b.stk d) = s.sz + b.sz
    rw [stkSz_cons, stkSz_bk b]
/-- what lies right in a statement -/
def kidsOf (l : List Bk) (d : Int) : List (Int × St) := (l.map fun b => b.stk d).flatten
theorem St.rws_kids (s : St) (d p : Int) : s.rws d p = (p, d, s) :: stkRws (kidsOf s.blks (d + 1)) (p + 1) := by
  cases s with
  | ite t y n =>
    show (p, d, St.ite t y n) :: (y.rws (d + 1) (p + 1) ++ n.rws (d + 1) (p + 1 + y.sz)) = _ :: stkRws (y.stk (d + 1) ++ (n.stk (d + 1) ++ [])) (p + 1)
    rw [List.append_nil, stk_append, stk_bk, stk_bk, stkSz_bk]
  | rep k y =>
    show (p, d, St.rep k y) :: y.rws (d + 1) (p + 1) = _ :: stkRws (y.stk (d + 1) ++ []) (p + 1)
    rw [List.append_nil, stk_bk]
  | _ => rfl
theorem kidsSz : ∀ (l : List Bk) (d : Int), stkSz (kidsOf l d) = (l.map Bk.sz).sum
  | [], _ => rfl
  | b :: l, d => by
    show stkSz (b.stk d ++ kidsOf l d) = b.sz + (l.map Bk.sz).sum
    rw [stkSz_append, stkSz_bk, kidsSz l]
theorem rev_get {α : Type} {xs : List α} {i : Nat} {x : α} (h : xs.reverse[i]? = some x) : i < xs.length ∧ xs[xs.length - 1 - i]? = some x := by
  have hi : i < xs.length := by
    have := (List.getElem?_eq_some_iff.mp h).1
    simpa using this
  rw [List.getElem?_reverse hi] at h
  exact ⟨hi, h⟩
theorem drop_back {α : Type} {l : List α} {i : Nat} {s : α} (hi : i < l.length) (h : l[l.length - 1 - i]? = some s) : l.drop (l.length - (i + 1)) = s :: l.drop (l.length - i) := by
  obtain ⟨hlt, hge⟩ := List.getElem?_eq_some_iff.mp h
  have e : l.length - (i + 1) = l.length - 1 - i := by omega
  rw [e, List.drop_eq_getElem_cons hlt, hge]
  congr 2
  omega
theorem tpPair {H : Hp} {a : Addr} {i : Int} {x : V} {s : St} (h : H a = some (.tup [.int i, x])) (t : Tp H x s.d) : Tp H (.ref a) (prD (i, s)) := .tup h (.cons (.int i) (.cons t .nil))
theorem passCX0 {X : Cx} : Passes (CX X.prog X.w) X E0 := fun _ _ _ _ _ _ _ c => by
  obtain ⟨_, _, _, _, _, _, _, _, _, _, _, _, z⟩ := c
  exact z.elim
theorem noStop0 {K : PySem.W.Frag} : NoStop K E0 := fun _ _ _ z => z.elim
theorem bk_le (b : Bk) : b.lst.length ≤ b.sz := by
  have h := stk_le (b.stk 0)
  rw [stkSz_bk] at h
  unfold Bk.stk at h
  rwa [List.length_map] at h
theorem Tk.lst {H : Hp} {p : Addr} {ys : List V} {o : HO} (h : H p = some (.lst ys)) : Tk H (upd H p o) := fun b xs e => by
  rw [upd_ne (fun z => by rw [z, h] at e; cases e)]
  exact e
/-- an int that is no bool -/
def isIntV (H : Hp) (v : V) (b : Bool) : Prop := (∃ i, v = .int i ∧ b = true) ∨ (∃ z, v = .str z ∧ b = false) ∨ (∃ a xs, v = .ref a ∧ H a = some (.tup xs) ∧ b = false)
def spIsInt : Sp := fun vs H Q _ => ∃ v b, vs = [v] ∧ isIntV H v b ∧ Q (.bl b) H
def spBlocks : Sp := fun vs H Q _ => ∃ (v : V) (s : St), vs = [v] ∧ Tp H v s.d ∧ ∀ H' v', Sx [] H H' → Tp H' v' (.tuple s.parts) → Q v' H'
def spEach : SpG := fun vs H Q _ => ∃ (v : V) (b : Bk), vs = [v] ∧ Tp H v (.tuple b.ds) ∧ b.sz < 16777216 ∧ ∀ ys H', Sx [] H H' → TpAll H' ys ((b.rws 0 0).map rwD) → Q ys H'
def spPlaces : Sp := fun vs H Q _ => ∃ (v : V) (b : Bk), vs = [v] ∧ Tp H v (.tuple b.ds) ∧ b.sz < 16777216 ∧ ∀ H', Sx [] H H' → Q (.int b.sz) H'
section
variable {w : World} {P : Program} {K : PySem.W.Frag} {mg : Str → Option Value} {base : Heap}
theorem ok_pis_integer {f : Addr} {fd : FuncData} {k : Nat} (F_pis_integer : Fun K "is_integer" "is_integer" sPIsInteger f fd) (z_isinstance : mg "isinstance" = none) (z_int : mg "int" = none) (z_bool : mg "bool" = none) : FnOk P w K mg base CX0 (k + 1) f fd ["value"] spIsInt := by
  refine F_pis_integer.ok scPIsInteger (fun vs H Q E h => ?_) (fun cdv A outer s H vs Q E hr h => ?_)
  · obtain ⟨_, _, rfl, _⟩ := h
    rfl
  · obtain ⟨v, b, rfl, iv, q⟩ := h
    refine ⟨_, (pss_one (ps_ret (pe_and (pe_callB call_isi (by rfl) z_isinstance (by decide +kernel) (pa_cons (pv 0) (pa_cons (pe_bltn (v := .ty "int") (by rfl) z_int (by decide +kernel) rfl) pa_nil))) (pe_one (pe_not (pe_callB call_isi (by rfl) z_isinstance (by decide +kernel) (pa_cons (pv 0) (pa_cons (pe_bltn (v := .ty "bool") (by rfl) z_bool (by decide +kernel) rfl) pa_nil)))))))), ?_⟩
    rcases iv with ⟨i, rfl, rfl⟩ | ⟨z, rfl, rfl⟩ | ⟨a, xs, rfl, ha, rfl⟩
    · exact ⟨_, rfl, _, _, _, _, _, rfl, .ty _, .base (.int i), kit_ty (r := true) (by decide +kernel), _, rfl, iteT ⟨_, rfl, _, _, _, _, _, rfl, .ty _, .base (.int i), kit_ty (r := false) (by decide +kernel), _, rfl, q⟩⟩
    · exact ⟨_, rfl, _, _, _, _, _, rfl, .ty _, .base (.str z), kit_ty (r := false) (by decide +kernel), _, rfl, iteF q⟩
    · exact ⟨_, rfl, _, _, _, _, _, rfl, .ty _, .base (.tup ha), kit_ty (r := false) (by decide +kernel), _, rfl, iteF q⟩
theorem ok_pblocks_of {f : Addr} {fd : FuncData} {k : Nat} (F_pblocks_of : Fun K "blocks_of" "blocks_of" sPBlocksOf f fd) : FnOk P w K mg base CX0 (k + 1) f fd ["statement"] spBlocks := by
  refine F_pblocks_of.ok scPBlocksOf (fun vs H Q E h => ?_) (fun cdv A outer s H vs Q E hr h => ?_)
  · obtain ⟨_, _, rfl, _⟩ := h
    rfl
  · obtain ⟨v, s, rfl, t, q⟩ := h
    refine ⟨_, (pss_cons (ps_if (pt_cmpR op_eq (pe_ix ix_tup (pv 0) pe_int (fun _ _ => rfl)) pe_str (nomark _)) (pss_one (ps_ret (pe_tup (pa_cons (pe_ix ix_tup (pv 0) pe_int (fun _ _ => rfl)) (pa_cons (pe_ix ix_tup (pv 0) pe_int (fun _ _ => rfl)) pa_nil))))) pss_nil)
      (pss_cons (ps_if (pt_cmpR op_eq (pe_ix ix_tup (pv 0) pe_int (fun _ _ => rfl)) pe_str (nomark _)) (pss_one (ps_ret (pe_tup (pa_cons (pe_ix ix_tup (pv 0) pe_int (fun _ _ => rfl)) pa_nil)))) pss_nil)
      (pss_one (ps_ret (pe_tup pa_nil))))), ?_⟩
    cases s with
    | set z e =>
      obtain ⟨a, p, u, y, rfl, ha, t1, _, _⟩ := tp3 t
      obtain rfl := tpS t1
      refine ⟨_, rfl, a, _, _, _, rfl, rfl, SqT.of ha, rfl, rfl, _, rfl, iteN (by decide +kernel) ⟨_, rfl, a, _, _, _, rfl, rfl, SqT.of ha, rfl, rfl, _, rfl, iteN (by decide +kernel) ⟨by show 0 ≤ sizeLine; decide, fun p' hp' => ?_⟩⟩⟩
      exact q _ _ (Sx.n0 hp') (.tup upd_same .nil)
    | pay e =>
      obtain ⟨a, p, u, rfl, ha, t1, _⟩ := tp2 t
      obtain rfl := tpS t1
      refine ⟨_, rfl, a, _, _, _, rfl, rfl, SqT.of ha, rfl, rfl, _, rfl, iteN (by decide +kernel) ⟨_, rfl, a, _, _, _, rfl, rfl, SqT.of ha, rfl, rfl, _, rfl, iteN (by decide +kernel) ⟨by show 0 ≤ sizeLine; decide, fun p' hp' => ?_⟩⟩⟩
      exact q _ _ (Sx.n0 hp') (.tup upd_same .nil)
    | stop =>
      obtain ⟨a, p, rfl, ha, t1⟩ := tp1 t
      obtain rfl := tpS t1
      refine ⟨_, rfl, a, _, _, _, rfl, rfl, SqT.of ha, rfl, rfl, _, rfl, iteN (by decide +kernel) ⟨_, rfl, a, _, _, _, rfl, rfl, SqT.of ha, rfl, rfl, _, rfl, iteN (by decide +kernel) ⟨by show 0 ≤ sizeLine; decide, fun p' hp' => ?_⟩⟩⟩
      exact q _ _ (Sx.n0 hp') (.tup upd_same .nil)
    | ite ts y n =>
      obtain ⟨a, p, u, y', n', rfl, ha, t1, _, t3, t4⟩ := tp4 t
      obtain rfl := tpS t1
      refine ⟨_, rfl, a, _, _, _, rfl, rfl, SqT.of ha, rfl, rfl, _, rfl, iteP (by decide +kernel) ⟨_, rfl, a, _, _, y', rfl, rfl, SqT.of ha, rfl, _, rfl, a, _, _, n', rfl, rfl, SqT.of ha, rfl, by show 2 ≤ sizeLine; decide, fun p' hp' => ?_⟩⟩
      exact q _ _ (Sx.n0 hp') (.tup upd_same (.cons (t3.new hp') (.cons (t4.new hp') .nil)))
    | rep k y =>
      obtain ⟨a, p, u, y', rfl, ha, t1, _, t3⟩ := tp3 t
      obtain rfl := tpS t1
      refine ⟨_, rfl, a, _, _, _, rfl, rfl, SqT.of ha, rfl, rfl, _, rfl, iteN (by decide +kernel) ⟨_, rfl, a, _, _, _, rfl, rfl, SqT.of ha, rfl, rfl, _, rfl, iteP (by decide +kernel) ⟨_, rfl, a, _, _, y', rfl, rfl, SqT.of ha, rfl, by show 1 ≤ sizeLine; decide, fun p' hp' => ?_⟩⟩⟩
      exact q _ _ (Sx.n0 hp') (.tup upd_same (.cons (t3.new hp') .nil))
end
/-- the pieces on a stack, the top first -/
def Stk (H : Hp) (L : Addr) (ws : List (Int × St)) : Prop := ∃ vals : List V, H L = some (.lst vals.reverse) ∧ TpAll H vals (ws.map prD)
theorem Stk.keep {H H' : Hp} {L : Addr} {ws : List (Int × St)} (h : Stk H L ws) (s : Sx [] H H') : Stk H' L ws := by
  obtain ⟨vals, h1, h2⟩ := h
  exact ⟨vals, s _ _ (by simp) h1, h2.keep s.tk0⟩
theorem Stk.push {H : Hp} {L : Addr} {ws : List (Int × St)} {x : V} {y : Int × St} (h : Stk H L ws) (t : Tp H x (prD y)) : ∃ acc, H L = some (.lst acc) ∧ acc.length = ws.length ∧ Stk (upd H L (.lst (acc ++ [x]))) L (y :: ws) := by
  obtain ⟨vals, h1, h2⟩ := h
  have e := h2.len
  rw [List.length_map] at e
  refine ⟨_, h1, by rw [List.length_reverse, e], x :: vals, by rw [upd_same, List.reverse_cons], ?_⟩
  exact .cons (t.keep (Tk.lst h1)) (h2.keep (Tk.lst h1))
theorem Stk.pop {H : Hp} {L : Addr} {ws : List (Int × St)} {y : Int × St} (h : Stk H L (y :: ws)) : ∃ (acc : List V) (a : Addr) (x : V), H L = some (.lst acc) ∧ acc[acc.length - 1]? = some (.ref a) ∧ H a = some (.tup [.int y.1, x]) ∧ Tp H x y.2.d ∧ Stk (upd H L (.lst acc.dropLast)) L ws ∧ acc.length = ws.length + 1 := by
  obtain ⟨vals, h1, h2⟩ := h
  cases h2 with
  | cons h3 h4 =>
    rename_i v vs
    obtain ⟨a, xs, rfl, ha, hx⟩ := h3.tuple
    cases hx with | cons h5 hx => cases hx with | cons h6 hx => cases hx with | nil =>
    obtain rfl := tpI h5
    have e := h4.len
    rw [List.length_map] at e
    refine ⟨_, a, _, h1, ?_, ha, h6, ⟨vs, by rw [upd_same, List.reverse_cons, List.dropLast_concat], h4.keep (Tk.lst h1)⟩, by rw [List.length_reverse, List.length_cons, e]⟩
    rw [List.reverse_cons, List.length_append]
    simp
theorem Stk.nil_ {H : Hp} {L : Addr} (h : Stk H L []) : H L = some (.lst []) := by
  obtain ⟨vals, h1, h2⟩ := h
  cases h2
  exact h1
section
variable {w : World} {P : Program} {K : PySem.W.Frag} {mg : Str → Option Value} {base : Heap}
theorem ok_peach {f fB : Addr} {fd fdB : FuncData} (F_peach_statement : Fun K "each_statement" "each_statement" sPEachStatement f fd) (F_pblocks_of : Fun K "blocks_of" "blocks_of" sPBlocksOf fB fdB) (G_pblocks_of : FnOk P w K mg base CX0 1 fB fdB ["statement"] spBlocks)
    (b_pblocks_of : Binds K fdB ["statement"] []) (m_pblocks_of : mg "blocks_of" = some (.ref fB)) : GFn P w K mg base 2 f fd ["program"] spEach := by
  obtain ⟨oc, od, kV, doc, pm, an, cdv, ct, osl, rfl, lk, hcd⟩ := F_peach_statement.ex
  refine gfn_of lk hcd scPEachStatement (fun vs H Q E h => ?_) (fun A outer s H vs Q E pn hr h => ?_)
  · obtain ⟨_, _, rfl, _⟩ := h
    rfl
  · obtain ⟨v, b, rfl, t, hz, q⟩ := h
    refine ⟨_, (gss_cons (gs_ps (ps_setLc (i := 1) (own := [("statement", 4)]) (g := gName 4) (tt := tYes) rfl scPEachStatement.nd rfl rfl (sw_true rfl rfl rfl (by decide +kernel)) (pi_tup (pe_revT (pv 0))) (blkOk_by (N := nPEachStatement) (sc := defScope sPEachStatement) (by decide +kernel)) (fun _ _ _ _ _ => (pg_name (i := 4) scPEachStatement.nd rfl (by first | exact Or.inl rfl | exact Or.inr rfl))) (fun _ _ _ _ _ => pts_nil) (fun _ _ _ _ _ => (pe_tup (pa_cons pe_int (pa_cons (pv 4) pa_nil))))))
      (gss_cons (gs_ps (ps_set (i := 2) scPEachStatement.nd rfl (by first | exact Or.inl rfl | exact Or.inr rfl) pe_int))
      (gss_cons (gs_while owns_gcx (pt_truth (pv 1) (fun _ => rfl)) (gss_cons (gs_ps (ps_asg (pe_bm0 PySem.F.plainAttrs_list PySem.F.slot_list_pop PySem.F.type_list_pop mt_pop (pv 1)) (pg_tup rfl (pgs_cons (pg_name (i := 3) scPEachStatement.nd rfl (by first | exact Or.inl rfl | exact Or.inr rfl)) (pgs_cons (pg_name (i := 4) scPEachStatement.nd rfl (by first | exact Or.inl rfl | exact Or.inr rfl)) pgs_nil)))))
      (gss_cons (gs_yield (pe_tup (pa_cons (pv 2) (pa_cons (pv 3) (pa_cons (pv 4) pa_nil)))))
      (gss_pss (pss_cons (ps_aug (i := 2) scPEachStatement.nd rfl (.inl rfl) pe_int ip_add)
      (pss_one (ps_for owns_gcx rfl (pi_tup (pe_revT (pe_call G_pblocks_of (hr.mono (by omega)) (by rfl) m_pblocks_of F_pblocks_of.kp b_pblocks_of .nil pass0 (pa_cons (pv 4) pa_nil)))) (pg_name (i := 5) scPEachStatement.nd rfl (by first | exact Or.inl rfl | exact Or.inr rfl)) (pss_one (ps_for owns_gcx rfl (pi_tup (pe_revT (pv 5))) (pg_name (i := 6) scPEachStatement.nd rfl (by first | exact Or.inl rfl | exact Or.inr rfl)) (pss_one (ps_expr (pe_bm PySem.F.plainAttrs_list PySem.F.slot_list_append PySem.F.type_list_append mt_append (pv 1) (pa_cons (pe_tup (pa_cons (pe_op op_add (pv 3) pe_int) (pa_cons (pv 6) pa_nil))) pa_nil)))))))))))))
      gss_nil))), ?_⟩
    obtain ⟨a, xs, rfl, ha, hx⟩ := t.tuple
    rw [b.ds_lst] at hx
    obtain ⟨hl, hg⟩ := hx.lst
    -- the first stack
    refine ⟨_, rfl, a, xs, rfl, SqT.of ha, fun p hp => ⟨p, rfl, ⟨_, SqT.of upd_same⟩, fun D hD => lc_tup (xs := xs.reverse)
      (fun i H1 => Sx [] H H1 ∧ H1 p = some (.tup xs.reverse) ∧ Stk H1 D ((b.lst.drop (b.lst.length - i)).map fun s => (0, s)))
      ⟨(Sx.n0 hp).trans (Sx.n0 hD), by rw [upd_ne (ne_of_none upd_same hD)]; exact upd_same, [], upd_same, by rw [Nat.sub_zero, List.drop_length]; exact .nil⟩ (fun i H1 _ z => SqT.of z.2.1) (fun i x H1 hi z => ?_) (fun H1 z => ?_)⟩⟩
    · obtain ⟨s1, hp1, hv⟩ := z
      obtain ⟨hi1, hi2⟩ := rev_get hi
      rw [hl] at hi1 hi2
      obtain ⟨st, hst, tst⟩ := hg _ x hi2
      refine ⟨rfl, ?_⟩
      refine ⟨_, rfl, by show 2 ≤ sizeLine; decide, fun u hu => ?_⟩
      have hDn : H D = none := by
        cases e : H D with
        | none => rfl
        | some o => have := Sx.n0 (o := .tup xs.reverse) hp D o (by simp) e; rw [hD] at this; cases this
      have bl := bk_le b
      obtain ⟨acc, e1, e2, e3⟩ := (hv.keep (Sx.n0 hu)).push (x := .ref u) (y := (0, st)) (tpPair upd_same ((tst.keep s1.tk0).new hu))
      have npD : p ≠ D := ne_of_none upd_same hD
      refine ⟨acc, e1, lt_line (by rw [e2, List.length_map, List.length_drop]; omega), (s1.new hu).own hDn, ?_, ?_⟩
      · rw [upd_ne npD]; exact Sx.n0 hu _ _ (by simp) hp1
      · rw [drop_back hi1 hst]; exact e3
    · obtain ⟨s1, _, hv⟩ := z
      have hDn : H D = none := by
        cases e : H D with
        | none => rfl
        | some o => have := Sx.n0 (o := .tup xs.reverse) hp D o (by simp) e; rw [hD] at this; cases this
      rw [List.length_reverse, hl, Nat.sub_self, List.drop_zero] at hv
      refine ⟨fun m ys σ H' => ∃ (ws : List (Int × St)) (dn : List Rw) (o3 o4 o5 o6 : Option V), σ = [some (.ref a), some (.ref D), some (.int dn.length), o3, o4, o5, o6] ∧ Sx [] H H' ∧ Stk H' D ws ∧ TpAll H' ys (dn.map rwD) ∧ dn ++ stkRws ws dn.length = b.rws 0 0 ∧ m = stkSz ws,
        ⟨_, b.stk 0, [], _, _, _, _, rfl, s1, hv, .nil, stk_bk b 0 0, rfl⟩, ?_⟩
      rintro m ys σ H' ⟨ws, dn, o3, o4, o5, o6, rfl, s2, hs, hy, hrows, rfl⟩
      have total := congrArg List.length hrows
      rw [List.length_append, stkRws_len, Bk.rws_len] at total
      cases ws with
      | nil =>
        refine ⟨_, rfl, false, .inl ⟨_, SqL.of hs.nil_, rfl⟩, iteF ?_⟩
        rw [show stkRws [] (dn.length : Int) = [] from rfl, List.append_nil] at hrows
        exact q ys H' s2 (by rw [← hrows]; exact hy)
      | cons y ws =>
        obtain ⟨d, st⟩ := y
        obtain ⟨acc, c, x, e1, e2, e3, e4, e5, e6⟩ := hs.pop
        have ylen := hy.len
        rw [List.length_map] at ylen
        rw [stkSz_cons] at total
        have stp := st.sz_pos
        have wle := stk_le ws
        refine ⟨_, rfl, true, .inl ⟨_, SqL.of e1, ?_⟩, iteT ⟨fun ys' σ' H2 => ∃ m', m' < stkSz ((d, st) :: ws) ∧ ∃ (ws' : List (Int × St)) (dn : List Rw) (o3 o4 o5 o6 : Option V), σ' = [some (.ref a), some (.ref D), some (.int dn.length), o3, o4, o5, o6] ∧ Sx [] H H2 ∧ Stk H2 D ws' ∧ TpAll H2 ys' (dn.map rwD) ∧ dn ++ stkRws ws' dn.length = b.rws 0 0 ∧ m' = stkSz ws', fun _ _ _ z => z, ?_⟩⟩
        · cases acc with
          | nil => simp at e6
          | cons _ _ => rfl
        -- the top is taken
        refine ⟨_, rfl, .inl ⟨rfl, _, SqL.of e1⟩, D, _, _, rfl, rfl, e1, e2, ?_⟩
        have Dc : c ≠ D := fun z => by rw [z, e1] at e3; cases e3
        have k1 : Tk H' (upd H' D (.lst acc.dropLast)) := Tk.lst e1
        refine gh (H1 := upd H' D (.lst acc.dropLast)) (F := fun H2 => Sx [] H H2 ∧ Tk H' H2 ∧ Stk H2 D ws) ⟨s2.own hDn, k1, e5⟩ (fun H2 ⟨s3, k1, e5⟩ => ?_)
        refine ⟨c, _, rfl, SqT.of (k1 _ _ e3), rfl, _, _, rfl, gnm ⟨_, _, rfl, gnm ⟨rfl, ?_⟩⟩⟩
        -- it is handed out
        refine ⟨lt_line (by omega), _, rfl, _, rfl, _, rfl, by show 3 ≤ sizeLine; decide, fun u hu => ?_⟩
        have hy2 : TpAll (upd H2 u (.tup [.int dn.length, .int d, x])) (ys ++ [.ref u]) ((dn ++ [((dn.length : Int), d, st)]).map rwD) := by
          rw [List.map_append]
          exact ((hy.keep k1).new hu).append (.cons (.tup upd_same (.cons (.int _) (.cons (.int _) (.cons ((e4.keep k1).new hu) .nil)))) .nil)
        refine gh (H1 := upd H2 u _) (F := fun H3 => Sx [] H H3 ∧ Stk H3 D ws ∧ Tp H3 x st.d ∧ TpAll H3 (ys ++ [.ref u]) ((dn ++ [((dn.length : Int), d, st)]).map rwD)) ⟨s3.new hu, e5.keep (Sx.n0 hu), (e4.keep k1).new hu, hy2⟩ (fun H3 ⟨s4, e7, e8, hy3⟩ => ?_)
        -- what lies in it
        refine Exists.intro _ ⟨rfl, _, _, rfl, rfl, ?_⟩
        refine ⟨_, rfl, x, st, rfl, e8, fun H4 v4 s5 t4 => ?_⟩
        obtain ⟨a4, xs4, rfl, ha4, hx4⟩ := t4.tuple
        rw [st.parts_blks] at hx4
        obtain ⟨hl4, hg4⟩ := hx4.lst
        have okk : dn ++ [((dn.length : Int), d, st)] ++ stkRws (kidsOf st.blks (d + 1) ++ ws) (dn.length + 1) = b.rws 0 0 := by
          rw [← hrows, stk_append, kidsSz, List.append_assoc]
          show dn ++ ((↑dn.length, d, st) :: (stkRws (kidsOf st.blks (d + 1)) (↑dn.length + 1) ++ stkRws ws _)) = dn ++ (st.rws d dn.length ++ stkRws ws (dn.length + st.sz))
          rw [st.rws_kids, st.sz_blks, List.cons_append]
          congr 4
          omega
        have blk2 : st.blks.length ≤ 2 := by cases st <;> simp [St.blks]
        refine ⟨a4, xs4, rfl, SqT.of ha4, fun p4 hp4 => ⟨p4, rfl, ⟨_, SqT.of upd_same⟩, for_tup (xs := xs4.reverse)
          (fun i σ H5 => ∃ o5 o6, σ = [some (.ref a), some (.ref D), some (.int (dn.length + 1)), some (.int d), some x, o5, o6] ∧ Sx [] H H5 ∧ H5 p4 = some (.tup xs4.reverse) ∧ Tk H4 H5 ∧ Stk H5 D (kidsOf (st.blks.drop (st.blks.length - i)) (d + 1) ++ ws) ∧ TpAll H5 (ys ++ [.ref u]) ((dn ++ [((dn.length : Int), d, st)]).map rwD))
          ⟨_, _, rfl, (s4.trans s5).new hp4, upd_same, (Sx.n0 hp4).tk0, by rw [Nat.sub_zero, List.drop_length]; exact (e7.keep s5).keep (Sx.n0 hp4), (hy3.keep s5.tk0).new hp4⟩ (fun i σ H5 _ z => by obtain ⟨_, _, _, _, z, _⟩ := z; exact SqT.of z) (fun i y σ H5 hi z => ?_) (fun σ H5 z => ?_)⟩⟩
        · obtain ⟨o5, o6, rfl, s6, hp5, k5, hs5, hy5⟩ := z
          obtain ⟨hi1, hi2⟩ := rev_get hi
          rw [hl4] at hi1 hi2
          obtain ⟨bk, hbk, tbk⟩ := hg4 _ y hi2
          have hmem : bk ∈ st.blks := List.mem_of_getElem? hbk
          refine gnm ?_
          obtain ⟨a6, xs6, rfl, ha6, hx6⟩ := (tbk.keep k5).tuple
          rw [bk.ds_lst] at hx6
          obtain ⟨hl6, hg6⟩ := hx6.lst
          rw [drop_back hi1 hbk]
          have szb : bk.sz ≤ st.sz := by
            rw [st.sz_blks]
            have := sum_mem (List.mem_map_of_mem (f := Bk.sz) hmem)
            omega
          have bl := bk_le bk
          have kl : (kidsOf (st.blks.drop (st.blks.length - i)) (d + 1)).length + bk.sz ≤ st.sz := by
            have h1 := stk_le (kidsOf (st.blks.drop (st.blks.length - i)) (d + 1))
            have h2 : ∀ (l : List Bk) (n : Nat), ((l.drop n).map Bk.sz).sum ≤ (l.map Bk.sz).sum := fun l n => by
              have e := congrArg (fun l => (l.map Bk.sz).sum) (List.take_append_drop n l)
              simp only [List.map_append, List.sum_append] at e
              omega
            have h3 := h2 st.blks (st.blks.length - (i + 1))
            rw [drop_back hi1 hbk, List.map_cons, List.sum_cons] at h3
            rw [kidsSz] at h1
            rw [st.sz_blks]
            omega
          have total' : dn.length + (st.sz + stkSz ws) = b.sz := total
          refine ⟨_, rfl, a6, xs6, rfl, SqT.of ha6, fun p6 hp6 => ⟨p6, rfl, ⟨_, SqT.of upd_same⟩, for_tup (xs := xs6.reverse)
            (fun j σ H6 => ∃ o6, σ = [some (.ref a), some (.ref D), some (.int (dn.length + 1)), some (.int d), some x, some (.ref a6), o6] ∧ Sx [] H H6 ∧ H6 p4 = some (.tup xs4.reverse) ∧ H6 p6 = some (.tup xs6.reverse) ∧ Tk H5 H6 ∧ Stk H6 D ((bk.lst.drop (bk.lst.length - j)).map (fun s => (d + 1, s)) ++ (kidsOf (st.blks.drop (st.blks.length - i)) (d + 1) ++ ws)) ∧ TpAll H6 (ys ++ [.ref u]) ((dn ++ [((dn.length : Int), d, st)]).map rwD))
            ⟨_, rfl, s6.new hp6, Sx.n0 hp6 _ _ (by simp) hp5, upd_same, (Sx.n0 hp6).tk0, by rw [Nat.sub_zero, List.drop_length]; exact hs5.keep (Sx.n0 hp6), hy5.new hp6⟩ (fun j σ H6 _ z => by obtain ⟨_, _, _, _, z, _⟩ := z; exact SqT.of z) (fun j y2 σ H6 hj z => ?_) (fun σ H6 z => ?_)⟩⟩
          · obtain ⟨o6, rfl, s7, hp6a, hp6b, k6, hs6, hy6⟩ := z
            obtain ⟨hj1, hj2⟩ := rev_get hj
            rw [hl6] at hj1 hj2
            obtain ⟨st2, hst2, tst2⟩ := hg6 _ y2 hj2
            refine gnm ?_
            obtain ⟨L6, hL6, _⟩ := id hs6
            refine ⟨_, rfl, .inl ⟨rfl, _, SqL.of hL6⟩, _, rfl, d, 1, rfl, rfl, _, rfl, by show 2 ≤ sizeLine; decide, fun u2 hu2 => ?_⟩
            obtain ⟨acc2, g1, g2, g3⟩ := (hs6.keep (Sx.n0 hu2)).push (x := .ref u2) (y := (d + 1, st2)) (tpPair upd_same ((tst2.keep k6).new hu2))
            refine ⟨D, _, _, rfl, rfl, g1, lt_line (by rw [g2, List.length_append, List.length_map, List.length_drop, List.length_append]; omega), ?_⟩
            refine ⟨_, rfl, (s7.new hu2).own hDn, ?_, ?_, (k6.trans (Sx.n0 hu2).tk0).trans (Tk.lst g1), ?_, (hy6.new hu2).keep (Tk.lst g1)⟩
            · exact ((Sx.n0 hu2).tk0.trans (Tk.lst g1)) _ _ hp6a
            · exact ((Sx.n0 hu2).tk0.trans (Tk.lst g1)) _ _ hp6b
            · rw [drop_back hj1 hst2]; exact g3
          · obtain ⟨o6, rfl, s7, hp6a, hp6b, k6, hs6, hy6⟩ := z
            rw [List.length_reverse, hl6, Nat.sub_self, List.drop_zero] at hs6
            refine ⟨_, _, rfl, s7, hp6a, k5.trans k6, ?_, hy6⟩
            show Stk H6 D ((bk.stk (d + 1) ++ kidsOf (st.blks.drop (st.blks.length - i)) (d + 1)) ++ ws)
            rw [List.append_assoc]
            exact hs6
        · obtain ⟨o5, o6, rfl, s6, hp5, k5, hs5, hy5⟩ := z
          rw [List.length_reverse, hl4, Nat.sub_self, List.drop_zero] at hs5
          have e9 : ((dn ++ [((dn.length : Int), d, st)]).length : Int) = dn.length + 1 := by simp
          refine ⟨_, ?_, kidsOf st.blks (d + 1) ++ ws, dn ++ [((dn.length : Int), d, st)], _, _, _, _, by rw [e9], s6, hs5, hy5, by rw [e9]; exact okk, rfl⟩
          rw [stkSz_append, kidsSz, stkSz_cons, st.sz_blks]
          omega
theorem ok_pplaces {f fE : Addr} {fd fdE : FuncData} (F_pplaces_in : Fun K "places_in" "places_in" sPPlacesIn f fd) (F_peach_statement : Fun K "each_statement" "each_statement" sPEachStatement fE fdE) (G_peach_statement : GFn P w K mg base 2 fE fdE ["program"] spEach)
    (b_peach_statement : Binds K fdE ["program"] []) (m_peach_statement : mg "each_statement" = some (.ref fE)) (z_len : mg "len" = none) (z_list : mg "list" = none) : FnOk P w K mg base CX0 6 f fd ["block"] spPlaces := by
  refine F_pplaces_in.ok scPPlacesIn (fun vs H Q E h => ?_) (fun cdv A outer s H vs Q E hr h => ?_)
  · obtain ⟨_, _, rfl, _⟩ := h
    rfl
  · obtain ⟨v, b, rfl, t, hz, q⟩ := h
    have hr2 := hr.mono (show 2 ≤ 5 by omega)
    refine ⟨_, (pss_one (ps_ret (pe_callB call_len_seq (by rfl) z_len boot_len (pa_cons (pe_listG (pgen_call G_peach_statement hr2 (by rfl) m_peach_statement F_peach_statement.kp b_peach_statement .nil (pa_cons (pv 0) pa_nil)) passCX0 noStop0 hr (by rfl) z_list (by decide +kernel)) pa_nil)))), ?_⟩
    refine ⟨_, rfl, v, b, rfl, t, hz, fun ys H' s1 hy => fun p hp => ?_⟩
    refine ⟨p, _, rfl, .inl (SqL.of upd_same), ?_⟩
    rw [hy.len, List.length_map, Bk.rws_len]
    exact q _ (s1.new hp)
end
abbrev sPNumbered : Stmt := topS 38
abbrev nPNumbered : List Str := ["block", "place", "rows", "statement"]
theorem scPNumbered : FnScope nPNumbered ["block", "place"] (defScope sPNumbered) := ⟨rfl, rfl, rfl, by decide +kernel, rfl, by decide +kernel, by decide +kernel⟩
abbrev sPEntered : Stmt := topS 39
abbrev nPEntered : List Str := ["statement", "place", "names"]
theorem scPEntered : FnScope nPEntered ["statement", "place", "names"] (defScope sPEntered) := ⟨rfl, rfl, rfl, by decide +kernel, rfl, by decide +kernel, by decide +kernel⟩
abbrev sPValueOf : Stmt := topS 40
abbrev nPValueOf : List Str := ["expression", "names"]
theorem scPValueOf : FnScope nPValueOf ["expression", "names"] (defScope sPValueOf) := ⟨rfl, rfl, rfl, by decide +kernel, rfl, by decide +kernel, by decide +kernel⟩
abbrev sPIsTrue : Stmt := topS 41
abbrev nPIsTrue : List Str := ["test", "names"]
theorem scPIsTrue : FnScope nPIsTrue ["test", "names"] (defScope sPIsTrue) := ⟨rfl, rfl, rfl, by decide +kernel, rfl, by decide +kernel, by decide +kernel⟩
theorem Ex.isIntV {H : Hp} {v : V} {e : Ex} (t : Tp H v e.d) : GA.isIntV H v (match e with | .int _ => true | _ => false) := by
  cases e with
  | int i => exact .inl ⟨i, tpI t, rfl⟩
  | name z => exact .inr (.inl ⟨z, tpS t, rfl⟩)
  | plus x y => obtain ⟨a, p, q, r, rfl, ha, _⟩ := tp3 t; exact .inr (.inr ⟨a, _, rfl, ha, rfl⟩)
  | minus x y => obtain ⟨a, p, q, r, rfl, ha, _⟩ := tp3 t; exact .inr (.inr ⟨a, _, rfl, ha, rfl⟩)
  | times f x => obtain ⟨a, p, q, r, rfl, ha, _⟩ := tp3 t; exact .inr (.inr ⟨a, _, rfl, ha, rfl⟩)
theorem mod_is {x b r : Int} (h0 : 0 ≤ r) (h1 : r < b) : (x % b = r) ↔ ((x - r) % b = 0) := by
  constructor
  · intro h
    rw [Int.sub_emod, h, Int.emod_eq_of_lt h0 h1, Int.sub_self, Int.zero_emod]
  · intro h
    obtain ⟨k, hk⟩ := Int.dvd_of_emod_eq_zero h
    have e : x = r + b * k := by omega
    rw [e, Int.add_mul_emod_self_left, Int.emod_eq_of_lt h0 h1]
/-- places and statements of a block -/
def Bk.nums : Bk → Int → List (Int × St)
  | .nil, _ => []
  | .cons s b, p => (p, s) :: b.nums (p + s.sz)
def St.ent (ρ : Str → Int) : St → Int → List (Int × St)
  | .ite t y n, p => if t.ev ρ = true then y.nums (p + 1) else n.nums (p + 1 + y.sz)
  | .rep k y, p => (List.replicate k.toNat (y.nums (p + 1))).flatten
  | _, _ => []
def spNumbered : Sp := fun vs H Q _ => ∃ (v : V) (b : Bk) (p : Int), vs = [v, .int p] ∧ Tp H v (.tuple b.ds) ∧ b.sz < 16777216 ∧ ∀ H' l ys, Sx [] H H' → H l = none → H' l = some (.lst ys) → TpAll H' ys ((b.nums p).map prD) → Q (.ref l) H'
def spEntered (ns : List Str) : Sp := fun vs H Q _ => ∃ (v : V) (s : St) (p : Int) (N : Addr) (ρ : Str → Int) (d : Nat), vs = [v, .int p, .ref N] ∧ Tp H v s.d ∧ s.ok ns d ∧ s.sz < 16777216 ∧ s.wt ≤ 1000000 ∧ En H N ρ ∧ ((∃ t y n, s = .ite t y n) ∨ ∃ k y, s = .rep k y) ∧
  ∀ H' l ys, Sx [] H H' → H l = none → H' l = some (.lst ys) → TpAll H' ys ((s.ent ρ p).map prD) → Q (.ref l) H'
theorem nums_len : ∀ (b : Bk) (p : Int), (b.nums p).length = b.lst.length
  | .nil, _ => rfl
  | .cons s b, p => by
    show (b.nums (p + s.sz)).length + 1 = b.lst.length + 1
    rw [nums_len b]
theorem TpAll.flat {H : Hp} {ys : List V} {ds : List PyData} (h : TpAll H ys ds) : ∀ n : Nat, TpAll H (List.replicate n ys).flatten (List.replicate n ds).flatten
  | 0 => .nil
  | n + 1 => by
    simp only [List.replicate_succ, List.flatten_cons]
    exact h.append (TpAll.flat h n)
theorem map_flat {α β : Type} (f : α → β) (n : Nat) (l : List α) : (List.replicate n l).flatten.map f = (List.replicate n (l.map f)).flatten := by
  induction n with
  | zero => rfl
  | succ n ih => rw [List.replicate_succ, List.replicate_succ, List.flatten_cons, List.flatten_cons, List.map_append, ih]
theorem flat_len {α : Type} (n : Nat) (l : List α) : (List.replicate n l).flatten.length = n * l.length := by
  induction n with
  | zero => simp
  | succ n ih => rw [List.replicate_succ, List.flatten_cons, List.length_append, ih, Nat.succ_mul, Nat.add_comm]
mutual
theorem St.sz_wt {ns : List Str} : ∀ {s : St} {d : Nat}, s.ok ns d → s.sz ≤ s.wt
  | .set _ _, _, _ => Nat.le_refl _
  | .pay _, _, _ => Nat.le_refl _
  | .stop, _, _ => Nat.le_refl _
  | .ite t y n, d, ⟨h1, h2, h3⟩ => by
    have a := Bk.sz_wt h2
    have b := Bk.sz_wt h3
    simp only [St.sz, St.wt]
    omega
  | .rep k y, d, ⟨h1, h2, h3⟩ => by
    have a := Bk.sz_wt h3
    simp only [St.sz, St.wt]
    have := Nat.le_mul_of_pos_left y.wt (show 0 < k.toNat by omega)
    omega
theorem Bk.sz_wt {ns : List Str} : ∀ {b : Bk} {d : Nat}, b.ok ns d → b.sz ≤ b.wt
  | .nil, _, _ => Nat.le_refl _
  | .cons s b, d, ⟨h1, h2, h3⟩ => by
    have a := St.sz_wt h2
    have c := Bk.sz_wt h3
    simp only [Bk.sz, Bk.wt]
    omega
end
section
variable {w : World} {P : Program} {K : PySem.W.Frag} {mg : Str → Option Value} {base : Heap}
theorem ok_pvalue {f fI : Addr} {fd fdI : FuncData} {ns : List Str} (F_pvalue_of : Fun K "value_of" "value_of" sPValueOf f fd) (F_pis_integer : Fun K "is_integer" "is_integer" sPIsInteger fI fdI) (G_pis_integer : FnOk P w K mg base CX0 1 fI fdI ["value"] spIsInt)
    (b_pvalue_of : Binds K fd ["expression", "names"] []) (b_pis_integer : Binds K fdI ["value"] []) (m_pvalue_of : mg "value_of" = some (.ref f)) (m_pis_integer : mg "is_integer" = some (.ref fI)) (z_isinstance : mg "isinstance" = none) (z_str : mg "str" = none) :
    ∀ d : Nat, FnOk P w K mg base CX0 (d + 2) f fd ["expression", "names"] (spValue ns d) := by
  intro d
  induction d with
  | zero => exact ⟨fun vs H Q E h => by obtain ⟨_, _, _, _, rfl, _⟩ := h; rfl, fun _ _ _ _ _ _ _ _ _ _ _ _ _ h => by
      obtain ⟨_, _, e, _, _, _, h, _⟩ := h
      cases e <;> exact absurd h.1 (by decide)⟩
  | succ d G_pvalue_of =>
    refine F_pvalue_of.ok scPValueOf (fun vs H Q E h => ?_) (fun cdv A outer s H vs Q E hr h => ?_)
    · obtain ⟨_, _, _, _, rfl, _⟩ := h
      rfl
    · obtain ⟨v, N, e, ρ, rfl, t, ho, ⟨kvs, hN, hv⟩, q⟩ := h
      refine ⟨_, (pss_cons (ps_if (pt_val (pe_call G_pis_integer (hr.mono (by omega)) (by rfl) m_pis_integer F_pis_integer.kp b_pis_integer .nil pass0 (pa_cons (pv 0) pa_nil))) (pss_one (ps_ret (pv 0))) pss_nil)
      (pss_cons (ps_if (pt_val (pe_callB call_isi (by rfl) z_isinstance (by decide +kernel) (pa_cons (pv 0) (pa_cons (pe_bltn (v := .ty "str") (by rfl) z_str (by decide +kernel) rfl) pa_nil)))) (pss_one (ps_ret (pe_dget2 (hu_of hr) (pv 1) (pv 0) pe_int ⟨rfl, rfl, rfl, rfl⟩))) pss_nil)
      (pss_cons (ps_if (pt_cmpR op_eq (pe_ix ix_tup (pv 0) pe_int (fun _ _ => rfl)) pe_str (nomark _)) (pss_one (ps_ret (pe_op op_mul (pe_ix ix_tup (pv 0) pe_int (fun _ _ => rfl)) (pe_call G_pvalue_of (hr.mono (by omega)) (by rfl) m_pvalue_of F_pvalue_of.kp b_pvalue_of .nil pass0 (pa_cons (pe_ix ix_tup (pv 0) pe_int (fun _ _ => rfl)) (pa_cons (pv 1) pa_nil)))))) pss_nil)
      (pss_cons (ps_if (pt_cmpR op_eq (pe_ix ix_tup (pv 0) pe_int (fun _ _ => rfl)) pe_str (nomark _)) (pss_one (ps_ret (pe_op op_add (pe_call G_pvalue_of (hr.mono (by omega)) (by rfl) m_pvalue_of F_pvalue_of.kp b_pvalue_of .nil pass0 (pa_cons (pe_ix ix_tup (pv 0) pe_int (fun _ _ => rfl)) (pa_cons (pv 1) pa_nil))) (pe_call G_pvalue_of (hr.mono (by omega)) (by rfl) m_pvalue_of F_pvalue_of.kp b_pvalue_of .nil pass0 (pa_cons (pe_ix ix_tup (pv 0) pe_int (fun _ _ => rfl)) (pa_cons (pv 1) pa_nil)))))) pss_nil)
      (pss_one (ps_ret (pe_op op_sub (pe_call G_pvalue_of (hr.mono (by omega)) (by rfl) m_pvalue_of F_pvalue_of.kp b_pvalue_of .nil pass0 (pa_cons (pe_ix ix_tup (pv 0) pe_int (fun _ _ => rfl)) (pa_cons (pv 1) pa_nil))) (pe_call G_pvalue_of (hr.mono (by omega)) (by rfl) m_pvalue_of F_pvalue_of.kp b_pvalue_of .nil pass0 (pa_cons (pe_ix ix_tup (pv 0) pe_int (fun _ _ => rfl)) (pa_cons (pv 1) pa_nil)))))))))), ?_⟩
      refine ⟨_, rfl, v, _, rfl, e.isIntV t, ?_⟩
      cases e with
      | int i =>
        obtain rfl := tpI t
        exact ⟨_, rfl, iteT ⟨_, rfl, q⟩⟩
      | name z =>
        obtain rfl := tpS t
        refine ⟨_, rfl, iteF ⟨_, rfl, _, _, _, _, _, rfl, .ty _, .base (.str z), kit_ty (r := true) (by decide +kernel), _, rfl, iteT ⟨_, rfl, N, rfl, .inl ⟨kvs, .inl hN⟩, _, rfl, _, DGet.k (k := .inr z) hN, ?_⟩⟩⟩
        rw [hv z]
        exact q
      | plus x y =>
        obtain ⟨a, p, u, r, rfl, ha, t1, t2, t3⟩ := tp3 t
        obtain rfl := tpS t1
        refine ⟨_, rfl, iteF ⟨_, rfl, _, _, _, _, _, rfl, .ty _, .base (.tup ha), kit_ty (r := false) (by decide +kernel), _, rfl, iteF ?_⟩⟩
        refine ⟨_, rfl, a, _, _, _, rfl, rfl, SqT.of ha, rfl, rfl, _, rfl, iteN (by decide +kernel) ?_⟩
        refine ⟨_, rfl, a, _, _, _, rfl, rfl, SqT.of ha, rfl, rfl, _, rfl, iteP (by decide +kernel) ?_⟩
        refine ⟨_, rfl, a, _, _, u, rfl, rfl, SqT.of ha, rfl, _, rfl, u, N, x, ρ, rfl, t2, ho.2.1, ⟨kvs, hN, hv⟩, ?_⟩
        refine ⟨_, rfl, a, _, _, r, rfl, rfl, SqT.of ha, rfl, _, rfl, r, N, y, ρ, rfl, t3, ho.2.2, ⟨kvs, hN, hv⟩, ?_⟩
        exact ⟨_, _, rfl, rfl, q⟩
      | minus x y =>
        obtain ⟨a, p, u, r, rfl, ha, t1, t2, t3⟩ := tp3 t
        obtain rfl := tpS t1
        refine ⟨_, rfl, iteF ⟨_, rfl, _, _, _, _, _, rfl, .ty _, .base (.tup ha), kit_ty (r := false) (by decide +kernel), _, rfl, iteF ?_⟩⟩
        refine ⟨_, rfl, a, _, _, _, rfl, rfl, SqT.of ha, rfl, rfl, _, rfl, iteN (by decide +kernel) ?_⟩
        refine ⟨_, rfl, a, _, _, _, rfl, rfl, SqT.of ha, rfl, rfl, _, rfl, iteN (by decide +kernel) ?_⟩
        refine ⟨_, rfl, a, _, _, u, rfl, rfl, SqT.of ha, rfl, _, rfl, u, N, x, ρ, rfl, t2, ho.2.1, ⟨kvs, hN, hv⟩, ?_⟩
        refine ⟨_, rfl, a, _, _, r, rfl, rfl, SqT.of ha, rfl, _, rfl, r, N, y, ρ, rfl, t3, ho.2.2, ⟨kvs, hN, hv⟩, ?_⟩
        exact ⟨_, _, rfl, rfl, q⟩
      | times f x =>
        obtain ⟨a, p, u, r, rfl, ha, t1, t2, t3⟩ := tp3 t
        obtain rfl := tpS t1
        obtain rfl := tpI t2
        refine ⟨_, rfl, iteF ⟨_, rfl, _, _, _, _, _, rfl, .ty _, .base (.tup ha), kit_ty (r := false) (by decide +kernel), _, rfl, iteF ?_⟩⟩
        refine ⟨_, rfl, a, _, _, _, rfl, rfl, SqT.of ha, rfl, rfl, _, rfl, iteP (by decide +kernel) ?_⟩
        have h1 : -9 ≤ f := ho.2.1
        have h2 : f ≤ 9 := ho.2.2.1
        refine ⟨_, rfl, a, _, _, _, rfl, rfl, SqT.of ha, rfl, _, rfl, a, _, _, r, rfl, rfl, SqT.of ha, rfl, _, rfl, r, N, x, ρ, rfl, t3, ho.2.2.2, ⟨kvs, hN, hv⟩, ?_⟩
        exact ⟨_, _, rfl, rfl, .inl ⟨by omega, by omega⟩, q⟩
theorem ok_ptrue {f fV : Addr} {fd fdV : FuncData} {ns : List Str} (F_pis_true : Fun K "is_true" "is_true" sPIsTrue f fd) (F_pvalue_of : Fun K "value_of" "value_of" sPValueOf fV fdV)
    (b_pis_true : Binds K fd ["test", "names"] []) (b_pvalue_of : Binds K fdV ["expression", "names"] []) (m_pis_true : mg "is_true" = some (.ref f)) (m_pvalue_of : mg "value_of" = some (.ref fV))
    (G_pvalue_of : FnOk P w K mg base CX0 5 fV fdV ["expression", "names"] (spValue ns 3)) :
    ∀ n : Nat, FnOk P w K mg base CX0 (n + 5) f fd ["test", "names"] (spTrue ns n) := by
  intro n
  induction n with
  | zero => exact ⟨fun vs H Q E h => by obtain ⟨_, _, _, _, rfl, _⟩ := h; rfl, fun _ _ _ _ _ _ _ _ _ _ _ _ _ h => by
      obtain ⟨_, _, e, _, _, _, h, _⟩ := h
      omega⟩
  | succ n G_pis_true =>
    refine F_pis_true.ok scPIsTrue (fun vs H Q E h => ?_) (fun cdv A outer s H vs Q E hr h => ?_)
    · obtain ⟨_, _, _, _, rfl, _⟩ := h
      rfl
    · obtain ⟨v, N, e, ρ, rfl, t, _, ho, En0, q⟩ := h
      refine ⟨_, (pss_cons (ps_if (pt_cmpR op_eq (pe_ix ix_tup (pv 0) pe_int (fun _ _ => rfl)) pe_str (nomark _)) (pss_one (ps_ret (pe_not (pe_call G_pis_true (hr.mono (by omega)) (by rfl) m_pis_true F_pis_true.kp b_pis_true .nil pass0 (pa_cons (pe_ix ix_tup (pv 0) pe_int (fun _ _ => rfl)) (pa_cons (pv 1) pa_nil)))))) pss_nil)
      (pss_cons (ps_if (pt_cmpR op_eq (pe_ix ix_tup (pv 0) pe_int (fun _ _ => rfl)) pe_str (nomark _)) (pss_one (ps_ret (pe_cmpR op_lt (pe_call G_pvalue_of (hr.mono (by omega)) (by rfl) m_pvalue_of F_pvalue_of.kp b_pvalue_of .nil pass0 (pa_cons (pe_ix ix_tup (pv 0) pe_int (fun _ _ => rfl)) (pa_cons (pv 1) pa_nil))) (pe_call G_pvalue_of (hr.mono (by omega)) (by rfl) m_pvalue_of F_pvalue_of.kp b_pvalue_of .nil pass0 (pa_cons (pe_ix ix_tup (pv 0) pe_int (fun _ _ => rfl)) (pa_cons (pv 1) pa_nil))) (nomark _)))) pss_nil)
      (pss_one (ps_ret (pe_cmpR op_eq (pe_op op_mod (pe_call G_pvalue_of (hr.mono (by omega)) (by rfl) m_pvalue_of F_pvalue_of.kp b_pvalue_of .nil pass0 (pa_cons (pe_ix ix_tup (pv 0) pe_int (fun _ _ => rfl)) (pa_cons (pv 1) pa_nil))) (pe_ix ix_tup (pv 0) pe_int (fun _ _ => rfl))) (pe_ix ix_tup (pv 0) pe_int (fun _ _ => rfl)) (nomark _)))))), ?_⟩
      cases e with
      | rest x b r =>
        obtain ⟨a, p, u, y, z, rfl, ha, t1, t2, t3, t4⟩ := tp4 t
        obtain rfl := tpS t1
        obtain rfl := tpI t3
        obtain rfl := tpI t4
        obtain ⟨o1, o2, o3, o4, o5⟩ := ho
        refine ⟨_, rfl, a, _, _, _, rfl, rfl, SqT.of ha, rfl, rfl, _, rfl, iteN (by decide +kernel) ?_⟩
        refine ⟨_, rfl, a, _, _, _, rfl, rfl, SqT.of ha, rfl, rfl, _, rfl, iteN (by decide +kernel) ?_⟩
        refine ⟨_, rfl, a, _, _, u, rfl, rfl, SqT.of ha, rfl, _, rfl, u, N, x, ρ, rfl, t2, o1, En0, ?_⟩
        refine ⟨_, rfl, a, _, _, _, rfl, rfl, SqT.of ha, rfl, _, b, rfl, rfl, (by show (0 : Int) < b; omega), ?_⟩
        refine ⟨_, rfl, a, _, _, _, rfl, rfl, SqT.of ha, rfl, rfl, ?_⟩
        have e1 : decide (V.int (x.ev ρ % b) = V.int r) = decide ((x.ev ρ - r) % b = 0) := by
          rw [decide_eq_decide, ← mod_is o4 o5]
          simp
        rw [e1]
        exact q
      | less x y =>
        obtain ⟨a, p, u, r, rfl, ha, t1, t2, t3⟩ := tp3 t
        obtain rfl := tpS t1
        refine ⟨_, rfl, a, _, _, _, rfl, rfl, SqT.of ha, rfl, rfl, _, rfl, iteN (by decide +kernel) ?_⟩
        refine ⟨_, rfl, a, _, _, _, rfl, rfl, SqT.of ha, rfl, rfl, _, rfl, iteP (by decide +kernel) ?_⟩
        refine ⟨_, rfl, a, _, _, u, rfl, rfl, SqT.of ha, rfl, _, rfl, u, N, x, ρ, rfl, t2, ho.1, En0, ?_⟩
        refine ⟨_, rfl, a, _, _, r, rfl, rfl, SqT.of ha, rfl, _, rfl, r, N, y, ρ, rfl, t3, ho.2, En0, ?_⟩
        exact ⟨_, _, rfl, rfl, q⟩
      | not t' =>
        obtain ⟨a, p, u, rfl, ha, t1, t2⟩ := tp2 t
        obtain rfl := tpS t1
        refine ⟨_, rfl, a, _, _, _, rfl, rfl, SqT.of ha, rfl, rfl, _, rfl, iteP (by decide +kernel) ?_⟩
        refine ⟨_, rfl, a, _, _, u, rfl, rfl, SqT.of ha, rfl, _, rfl, u, N, t', ρ, rfl, t2, ho.1, ho.2, En0, ?_⟩
        exact ⟨_, rfl, q⟩
theorem ok_pnumbered {f fE : Addr} {fd fdE : FuncData} (F_pnumbered : Fun K "numbered" "numbered" sPNumbered f fd) (F_pplaces_in : Fun K "places_in" "places_in" sPPlacesIn fE fdE) (G_pplaces_in : FnOk P w K mg base CX0 6 fE fdE ["block"] spPlaces)
    (b_pplaces_in : Binds K fdE ["block"] []) (m_pplaces_in : mg "places_in" = some (.ref fE)) : FnOk P w K mg base CX0 7 f fd ["block", "place"] spNumbered := by
  refine F_pnumbered.ok scPNumbered (fun vs H Q E h => ?_) (fun cdv A outer s H vs Q E hr h => ?_)
  · obtain ⟨_, _, _, rfl, _⟩ := h
    rfl
  · obtain ⟨v, b, p, rfl, t, hz, q⟩ := h
    refine ⟨_, (pss_cons (ps_set (i := 2) scPNumbered.nd rfl (by first | exact Or.inl rfl | exact Or.inr rfl) (pe_lst pa_nil))
      (C8.pss_cut (ps_for PassesOwn.never rfl (pi_tup (pv 0)) (pg_name (i := 3) scPNumbered.nd rfl (by first | exact Or.inl rfl | exact Or.inr rfl)) (pss_cons (ps_expr (pe_bm PySem.F.plainAttrs_list PySem.F.slot_list_append PySem.F.type_list_append mt_append (pv 2) (pa_cons (pe_tup (pa_cons (pv 1) (pa_cons (pv 3) pa_nil))) pa_nil)))
      (pss_one (ps_aug (i := 1) scPNumbered.nd rfl (.inl rfl) (pe_call G_pplaces_in (hr.mono (by omega)) (by rfl) m_pplaces_in F_pplaces_in.kp b_pplaces_in .nil pass0 (pa_cons (pe_tup (pa_cons (pv 3) pa_nil)) pa_nil)) ip_add))))
      (pss_one (ps_ret (pv 2))))), ?_⟩
    obtain ⟨a, xs, rfl, ha, hx⟩ := t.tuple
    rw [b.ds_lst] at hx
    obtain ⟨hl, hg⟩ := hx.lst
    have bl := bk_le b
    refine ⟨by show 0 ≤ sizeLine; decide, fun L hL => ?_⟩
    refine ⟨fun σ H1 => ∃ o1 o3 ys, σ = [some (.ref a), o1, some (.ref L), o3] ∧ Sx [] H H1 ∧ H1 L = some (.lst ys) ∧ TpAll H1 ys ((b.nums p).map prD), ?_, ?_⟩
    · refine ⟨_, rfl, a, rfl, ⟨_, SqT.of (Sx.n0 hL _ _ (by simp) ha)⟩, for_tup (xs := xs)
        (fun i σ H1 => ∃ (b' : Bk) (p' : Int) (o3 : Option V) (ys : List V) (ds : List (Int × St)), σ = [some (.ref a), some (.int p'), some (.ref L), o3] ∧ Sx [] H H1 ∧ H1 L = some (.lst ys) ∧ TpAll H1 ys (ds.map prD) ∧ ds.length = i ∧ b'.lst = b.lst.drop i ∧ ds ++ b'.nums p' = b.nums p)
        ⟨b, p, _, [], [], rfl, Sx.n0 hL, upd_same, .nil, rfl, rfl, rfl⟩ (fun i σ H1 _ z => by obtain ⟨_, _, _, _, _, _, z, _⟩ := z; exact SqT.of (z _ _ (by simp) ha)) (fun i x σ H1 hi z => ?_) (fun σ H1 z => ?_)⟩
      · obtain ⟨b', p', o3, ys, ds, rfl, s1, hL1, hy, hd, hb, hn⟩ := z
        obtain ⟨st, hst, tst⟩ := hg i x hi
        obtain ⟨hlt, hge⟩ := List.getElem?_eq_some_iff.mp hst
        rw [List.drop_eq_getElem_cons hlt, hge] at hb
        cases b' with
        | nil => cases hb
        | cons s' b2 =>
          obtain ⟨e1, hb2⟩ := List.cons.inj hb
          subst e1
          refine gnm ?_
          have ylen := hy.len
          rw [List.length_map] at ylen
          have hmem : s' ∈ b.lst := List.mem_of_getElem? hst
          have szle : s'.sz ≤ b.sz := by rw [b.sz_lst]; exact sum_mem (List.mem_map_of_mem hmem)
          refine ⟨_, rfl, .inl ⟨rfl, _, SqL.of hL1⟩, _, rfl, _, rfl, by show 2 ≤ sizeLine; decide, fun u hu => ?_⟩
          have g1 : (upd H1 u (.tup [.int p', x])) L = some (.lst ys) := Sx.n0 hu _ _ (by simp) hL1
          refine ⟨L, _, _, rfl, rfl, g1, lt_line (by omega), ?_⟩
          have k1 : Tk H1 (upd (upd H1 u (.tup [.int p', x])) L (.lst (ys ++ [.ref u]))) := (Sx.n0 hu).tk0.trans (Tk.lst g1)
          have u1 : Tp (upd (upd H1 u (.tup [.int p', x])) L (.lst (ys ++ [.ref u]))) (.ref u) (prD (p', s')) := (tpPair upd_same ((tst.keep s1.tk0).new hu)).keep (Tk.lst g1)
          have x1 : Tp (upd (upd H1 u (.tup [.int p', x])) L (.lst (ys ++ [.ref u]))) x s'.d := (tst.keep s1.tk0).keep k1
          refine gh (H1 := upd (upd H1 u (.tup [.int p', x])) L (.lst (ys ++ [.ref u]))) (F := fun H2 => Sx [] H H2 ∧ H2 L = some (.lst (ys ++ [.ref u])) ∧ TpAll H2 (ys ++ [.ref u]) ((ds ++ [(p', s')]).map prD) ∧ Tp H2 x s'.d) ⟨(s1.new hu).own hL, upd_same, by rw [List.map_append]; exact (hy.keep k1).append (.cons u1 .nil), x1⟩ (fun H2 ⟨s2, hL2, hy2, x2⟩ => ?_)
          refine ⟨_, rfl, _, rfl, by show 1 ≤ sizeLine; decide, fun u5 h5 => ?_⟩
          refine ⟨.ref u5, .cons s' .nil, rfl, .tup upd_same (.cons (x2.new h5) .nil), by simp only [Bk.sz]; omega, fun H6 s6 => ?_⟩
          have s7 : Sx [] H2 H6 := (Sx.n0 h5).trans s6
          have e3 : ((Bk.cons s' .nil).sz : Int) = s'.sz := by simp [Bk.sz]
          refine ⟨_, _, rfl, rfl, b2, _, _, _, ds ++ [(p', s')], rfl, s2.trans s7, s7 _ _ (by simp) hL2, hy2.keep s7.tk0, by rw [List.length_append, hd]; rfl, hb2, ?_⟩
          rw [List.append_assoc, e3]
          exact hn
      · obtain ⟨b', p', o3, ys, ds, rfl, s1, hL1, hy, hd, hb, hn⟩ := z
        rw [hl, List.drop_length] at hb
        cases b' with
        | cons s b => cases hb
        | nil =>
          rw [show Bk.nil.nums p' = [] from rfl, List.append_nil] at hn
          exact ⟨_, _, ys, rfl, s1, hL1, by rw [← hn]; exact hy⟩
    · rintro _ H1 ⟨o1, o3, ys, rfl, s1, hL1, hy⟩
      exact ⟨_, rfl, q _ _ _ s1 hL hL1 hy⟩
theorem ok_pentered {f fN fE fT : Addr} {fd fdN fdE fdT : FuncData} {ns : List Str} (F_pentered : Fun K "entered" "entered" sPEntered f fd) (F_pnumbered : Fun K "numbered" "numbered" sPNumbered fN fdN) (F_pplaces_in : Fun K "places_in" "places_in" sPPlacesIn fE fdE) (F_pis_true : Fun K "is_true" "is_true" sPIsTrue fT fdT)
    (G_pnumbered : FnOk P w K mg base CX0 7 fN fdN ["block", "place"] spNumbered) (G_pplaces_in : FnOk P w K mg base CX0 6 fE fdE ["block"] spPlaces) (G_pis_true : FnOk P w K mg base CX0 8 fT fdT ["test", "names"] (spTrue ns 3))
    (b_pnumbered : Binds K fdN ["block", "place"] []) (b_pplaces_in : Binds K fdE ["block"] []) (b_pis_true : Binds K fdT ["test", "names"] [])
    (m_pnumbered : mg "numbered" = some (.ref fN)) (m_pplaces_in : mg "places_in" = some (.ref fE)) (m_pis_true : mg "is_true" = some (.ref fT)) : FnOk P w K mg base CX0 9 f fd ["statement", "place", "names"] (spEntered ns) := by
  refine F_pentered.ok scPEntered (fun vs H Q E h => ?_) (fun cdv A outer s H vs Q E hr h => ?_)
  · obtain ⟨_, _, _, _, _, _, rfl, _⟩ := h
    rfl
  · obtain ⟨v, st, p, N, ρ, d, rfl, t, so, hz, hw, En0, kind, q⟩ := h
    refine ⟨_, (pss_cons (ps_if (pt_cmpR op_eq (pe_ix ix_tup (pv 0) pe_int (fun _ _ => rfl)) pe_str (nomark _)) (pss_one (ps_ret (pe_op op_rep (pe_call G_pnumbered (hr.mono (by omega)) (by rfl) m_pnumbered F_pnumbered.kp b_pnumbered .nil pass0 (pa_cons (pe_ix ix_tup (pv 0) pe_int (fun _ _ => rfl)) (pa_cons (pe_op op_add (pv 1) pe_int) pa_nil))) (pe_ix ix_tup (pv 0) pe_int (fun _ _ => rfl))))) pss_nil)
      (pss_cons (ps_if (pt_val (pe_call G_pis_true (hr.mono (by omega)) (by rfl) m_pis_true F_pis_true.kp b_pis_true .nil pass0 (pa_cons (pe_ix ix_tup (pv 0) pe_int (fun _ _ => rfl)) (pa_cons (pv 2) pa_nil)))) (pss_one (ps_ret (pe_call G_pnumbered (hr.mono (by omega)) (by rfl) m_pnumbered F_pnumbered.kp b_pnumbered .nil pass0 (pa_cons (pe_ix ix_tup (pv 0) pe_int (fun _ _ => rfl)) (pa_cons (pe_op op_add (pv 1) pe_int) pa_nil))))) pss_nil)
      (pss_one (ps_ret (pe_call G_pnumbered (hr.mono (by omega)) (by rfl) m_pnumbered F_pnumbered.kp b_pnumbered .nil pass0 (pa_cons (pe_ix ix_tup (pv 0) pe_int (fun _ _ => rfl)) (pa_cons (pe_op op_add (pe_op op_add (pv 1) pe_int) (pe_call G_pplaces_in (hr.mono (by omega)) (by rfl) m_pplaces_in F_pplaces_in.kp b_pplaces_in .nil pass0 (pa_cons (pe_ix ix_tup (pv 0) pe_int (fun _ _ => rfl)) pa_nil))) pa_nil))))))), ?_⟩
    rcases kind with ⟨ts, y, n, rfl⟩ | ⟨k, y, rfl⟩
    · obtain ⟨a, p1, p2, p3, p4, rfl, ha, t1, t2, t3, t4⟩ := tp4 t
      obtain rfl := tpS t1
      obtain ⟨o1, yo, no⟩ := so
      simp only [St.sz] at hz
      refine ⟨_, rfl, a, _, _, _, rfl, rfl, SqT.of ha, rfl, rfl, _, rfl, iteN (by decide +kernel) ?_⟩
      refine ⟨_, rfl, a, _, _, p2, rfl, rfl, SqT.of ha, rfl, _, rfl, p2, N, ts, ρ, rfl, t2, by omega, o1, En0, ?_⟩
      refine ⟨_, rfl, ite2 (fun e => ?_) (fun e => ?_)⟩
      · refine ⟨_, rfl, a, _, _, p3, rfl, rfl, SqT.of ha, rfl, _, rfl, p, 1, rfl, rfl, p3, y, p + 1, rfl, t3, by omega, fun H' l ys s1 hl e1 hy => ?_⟩
        exact q H' l ys s1 hl e1 (by simp only [St.ent]; rw [if_pos e]; exact hy)
      · refine ⟨_, rfl, a, _, _, p4, rfl, rfl, SqT.of ha, rfl, _, rfl, p, 1, rfl, rfl, _, rfl, a, _, _, p3, rfl, rfl, SqT.of ha, rfl, p3, y, rfl, t3, by omega, fun H4 s4 => ?_⟩
        refine ⟨_, _, rfl, rfl, p4, n, _, rfl, t4.keep s4.tk0, by omega, fun H' l ys s1 hl e1 hy => ?_⟩
        exact q H' l ys (s4.trans s1) (s4.free (by simp) hl) e1 (by simp only [St.ent]; rw [if_neg e]; exact hy)
    · obtain ⟨a, p1, p2, p3, rfl, ha, t1, t2, t3⟩ := tp3 t
      obtain rfl := tpS t1
      obtain rfl := tpI t2
      obtain ⟨k1, k8, yo⟩ := so
      simp only [St.sz] at hz
      simp only [St.wt] at hw
      refine ⟨_, rfl, a, _, _, _, rfl, rfl, SqT.of ha, rfl, rfl, _, rfl, iteP (by decide +kernel) ?_⟩
      refine ⟨_, rfl, a, _, _, p3, rfl, rfl, SqT.of ha, rfl, _, rfl, p, 1, rfl, rfl, p3, y, _, rfl, t3, by omega, fun H1 l ys s1 hl e1 hy => ?_⟩
      have ylen := hy.len
      rw [List.length_map, nums_len] at ylen
      have yb : ys.length * k.toNat ≤ 1000000 := by
        have h1 := bk_le y
        have h2 := Bk.sz_wt yo
        have h3 := Nat.mul_le_mul_right k.toNat (show ys.length ≤ y.wt by omega)
        rw [Nat.mul_comm y.wt] at h3
        omega
      refine ⟨_, rfl, a, _, _, .int k, rfl, rfl, SqT.of (s1 _ _ (by simp) ha), rfl, l, k, _, rfl, rfl, e1, by omega, by omega, le_line (by omega), fun l2 hl2 => ?_⟩
      exact q _ l2 _ (s1.new hl2) (s1.free (by simp) hl2) upd_same (by simp only [St.ent]; rw [map_flat]; exact (hy.flat _).new hl2)
end
def spRunA : Sp := fun vs H Q E => ∃ ns, spRun ns vs H Q E
def spSignA : Sp := fun vs H Q _ => ∃ (ns : List Str) (v : V) (b : Bk) (x : Int), vs = [v, .int x] ∧ Tp H v (.tuple b.ds) ∧ b.ok ns 4 ∧ b.sz < 16777216 ∧ b.wt ≤ 1000000 ∧ ∀ H', Sx [] H H' → Q (.int (sgn (b.run 0 (Wd.at x)).1.tot)) H'
theorem FnOk.ex {P : Program} {w : World} {K : PySem.W.Frag} {mg : Str → Option Value} {base : Heap} {CX : CXT} {k : Nat} {f : Addr} {fd : FuncData} {ps : List Str} {ι : Type} {sp : ι → Sp} (F : ∀ i, FnOk P w K mg base CX k f fd ps (sp i)) :
    FnOk P w K mg base CX k f fd ps (fun vs H Q E => ∃ i, sp i vs H Q E) :=
  ⟨fun vs H Q E ⟨i, h⟩ => (F i).len vs H Q E h, fun A o s H ar us vs Q E hr e b r ⟨i, h⟩ => (F i).run A o s H ar us vs Q E hr e b r h⟩
abbrev sPRun : Stmt := topS 36
abbrev nPRun : List Str := ["program", "number", "names", "total", "places", "waiting", "place", "statement"]
theorem scPRun : FnScope nPRun ["program", "number"] (defScope sPRun) := ⟨rfl, rfl, rfl, by decide +kernel, rfl, by decide +kernel, by decide +kernel⟩
abbrev sPSign : Stmt := topS 37
abbrev nPSign : List Str := ["program", "number", "total"]
theorem scPSign : FnScope nPSign ["program", "number"] (defScope sPSign) := ⟨rfl, rfl, rfl, by decide +kernel, rfl, by decide +kernel, by decide +kernel⟩
/-- what lies on a stack runs -/
def runS : List (Int × St) → Wd → Wd × Bool
  | [], w => (w, false)
  | (p, s) :: r, w => if (s.run p w).2 = true then s.run p w else runS r (s.run p w).1
theorem runS_append : ∀ (l m : List (Int × St)) (w : Wd), runS (l ++ m) w = if (runS l w).2 = true then runS l w else runS m (runS l w).1
  | [], m, w => by show runS m w = if (false = true) then _ else runS m w; rw [if_neg (by simp)]
  | (p, s) :: l, m, w => by
    show (if (s.run p w).2 = true then s.run p w else runS (l ++ m) (s.run p w).1) = if (runS ((p, s) :: l) w).2 = true then _ else _
    by_cases h : (s.run p w).2 = true
    · have e : runS ((p, s) :: l) w = s.run p w := by show (if _ then _ else _) = _; rw [if_pos h]
      rw [e, if_pos h, if_pos h]
    · have e : runS ((p, s) :: l) w = runS l (s.run p w).1 := by show (if _ then _ else _) = _; rw [if_neg h]
      rw [e, if_neg h, runS_append l m]
theorem runS_nums : ∀ (b : Bk) (p : Int) (w : Wd), runS (b.nums p) w = b.run p w
  | .nil, _, _ => rfl
  | .cons s b, p, w => by
    show (if (s.run p w).2 = true then s.run p w else runS (b.nums (p + s.sz)) (s.run p w).1) = if (s.run p w).2 = true then s.run p w else b.run (p + s.sz) (s.run p w).1
    rw [runS_nums b]
theorem runS_rep (l : List (Int × St)) : ∀ (n : Nat) (w : Wd), runS (List.replicate n l).flatten w = itr (runS l) n w
  | 0, _ => rfl
  | n + 1, w => by
    rw [List.replicate_succ, List.flatten_cons, runS_append, runS_rep l n]
    rfl
/-- a test or a repeat is entered -/
theorem runS_ent {s : St} {p : Int} {w : Wd} (h : (∃ t y n, s = .ite t y n) ∨ ∃ k y, s = .rep k y) : runS (s.ent w.en p) ⟨w.en, w.tot, w.pl ++ [p]⟩ = s.run p w := by
  rcases h with ⟨t, y, n, rfl⟩ | ⟨k, y, rfl⟩
  · simp only [St.ent, St.run]
    split
    · rw [runS_nums]
    · rw [runS_nums]
  · simp only [St.ent, St.run]
    rw [runS_rep]
    congr 1
    funext w
    exact runS_nums y _ w
def stkWt (l : List (Int × St)) : Nat := (l.map fun x => x.2.wt).sum
theorem stkWt_cons (x : Int × St) (l : List (Int × St)) : stkWt (x :: l) = x.2.wt + stkWt l := rfl
theorem stkWt_append (l m : List (Int × St)) : stkWt (l ++ m) = stkWt l + stkWt m := by unfold stkWt; rw [List.map_append, List.sum_append]
theorem stkWt_nums : ∀ (b : Bk) (p : Int), stkWt (b.nums p) = b.wt
  | .nil, _ => rfl
  | .cons s b, p => by
    show stkWt ((p, s) :: b.nums (p + s.sz)) = s.wt + b.wt
    rw [stkWt_cons, stkWt_nums b]
theorem stkWt_rep (l : List (Int × St)) : ∀ n : Nat, stkWt (List.replicate n l).flatten = n * stkWt l
  | 0 => by rw [Nat.zero_mul]; rfl
  | n + 1 => by rw [List.replicate_succ, List.flatten_cons, stkWt_append, stkWt_rep l n, Nat.succ_mul, Nat.add_comm]
theorem St.wt_pos (s : St) : 1 ≤ s.wt := by cases s <;> simp [St.wt] <;> omega
theorem ent_wt {s : St} {p : Int} {ρ : Str → Int} : stkWt (s.ent ρ p) + 1 ≤ s.wt := by
  cases s with
  | ite t y n =>
    simp only [St.ent, St.wt]
    split
    · rw [stkWt_nums]; omega
    · rw [stkWt_nums]; omega
  | rep k y =>
    simp only [St.ent, St.wt]
    rw [stkWt_rep, stkWt_nums]
    omega
  | _ => simp [St.ent, St.wt, stkWt]
theorem wt_le : ∀ l : List (Int × St), l.length ≤ stkWt l
  | [] => Nat.le_refl _
  | x :: l => by
    rw [List.length_cons, stkWt_cons]
    have := wt_le l
    have := x.2.wt_pos
    omega
/-- all that lies there is a statement within bounds -/
def StkOk (ns : List Str) (l : List (Int × St)) : Prop := ∀ x ∈ l, (∃ d, x.2.ok ns d) ∧ x.2.sz < 16777216
theorem StkOk.nums {ns : List Str} {d : Nat} : ∀ {b : Bk} {p : Int}, b.ok ns d → b.sz < 16777216 → StkOk ns (b.nums p)
  | .nil, _, _, _ => fun x hx => by cases hx
  | .cons s b, p, ⟨h1, h2, h3⟩, hz => fun x hx => by
    simp only [Bk.sz] at hz
    rcases List.mem_cons.1 hx with rfl | hx
    · exact ⟨⟨_, h2⟩, by show s.sz < 16777216; omega⟩
    · exact StkOk.nums h3 (by omega) x hx
theorem StkOk.ent {ns : List Str} {s : St} {d : Nat} {p : Int} {ρ : Str → Int} (h : s.ok ns d) (hz : s.sz < 16777216) : StkOk ns (s.ent ρ p) := by
  cases s with
  | ite t y n =>
    simp only [St.sz] at hz
    simp only [St.ent]
    split
    · exact StkOk.nums h.2.1 (by omega)
    · exact StkOk.nums h.2.2 (by omega)
  | rep k y =>
    simp only [St.sz] at hz
    intro x hx
    simp only [St.ent] at hx
    obtain ⟨l, hl, hx⟩ := List.mem_flatten.1 hx
    obtain ⟨_, rfl⟩ := List.mem_replicate.mp hl
    exact StkOk.nums h.2.2 (by omega) x hx
  | _ => intro x hx; cases hx
/-- names at N, places at L; c more names fit in -/
structure Rn (H : Hp) (N L : Addr) (w : Wd) (c : Nat) : Prop where
  hn : ∃ kvs : List (Key × V), H N = some (.dK kvs) ∧ kvs.length + c ≤ w.pl.length + 1 ∧ ∀ z, (valV kvs (.inr z)).getD (.int 0) = .int (w.en z)
  hl : H L = some (.lst (w.pl.map V.int))
theorem Rn.sx {H H' : Hp} {N L : Addr} {w : Wd} {c : Nat} (R : Rn H N L w c) (s : Sx [] H H') : Rn H' N L w c := by
  obtain ⟨kvs, h1, h2, h3⟩ := R.hn
  exact ⟨⟨kvs, s _ _ (by simp) h1, h2, h3⟩, s _ _ (by simp) R.hl⟩
theorem Rn.at_ {H : Hp} {N L Z : Addr} {w : Wd} {c : Nat} {xs : List V} {o : HO} (R : Rn H N L w c) (_ : H Z = some (.lst xs)) (h2 : Z ≠ L) (h3 : Z ≠ N) : Rn (upd H Z o) N L w c := by
  obtain ⟨kvs, h1, h4, h5⟩ := R.hn
  exact ⟨⟨kvs, by rw [upd_ne h3.symm]; exact h1, h4, h5⟩, by rw [upd_ne h2.symm]; exact R.hl⟩
theorem Rn.en {H : Hp} {N L : Addr} {w : Wd} {c : Nat} (R : Rn H N L w c) : En H N w.en := by
  obtain ⟨kvs, h1, _, h2⟩ := R.hn
  exact ⟨kvs, h1, h2⟩
theorem Rn.less {H : Hp} {N L : Addr} {w : Wd} {c : Nat} (R : Rn H N L w (c + 1)) : Rn H N L w c := by
  obtain ⟨kvs, h1, h2, h3⟩ := R.hn
  exact ⟨⟨kvs, h1, by omega, h3⟩, R.hl⟩
theorem Rn.nl {H : Hp} {N L : Addr} {w : Wd} {c : Nat} (R : Rn H N L w c) : N ≠ L := fun e => by
  obtain ⟨kvs, h, _⟩ := R.hn
  rw [e, R.hl] at h
  cases h
theorem Rn.place {H : Hp} {N L : Addr} {w : Wd} (R : Rn H N L w 0) (i : Int) : Rn (upd H L (.lst (w.pl.map V.int ++ [.int i]))) N L ⟨w.en, w.tot, w.pl ++ [i]⟩ 1 := by
  obtain ⟨kvs, h1, h2, h3⟩ := R.hn
  refine ⟨⟨kvs, by rw [upd_ne R.nl]; exact h1, ?_, h3⟩, by rw [upd_same, List.map_append]; rfl⟩
  show kvs.length + 1 ≤ (w.pl ++ [i]).length + 1
  rw [List.length_append]
  have : [i].length = 1 := rfl
  omega
theorem Rn.tot {H : Hp} {N L : Addr} {w : Wd} {c : Nat} (R : Rn H N L w c) (t : Int) : Rn H N L ⟨w.en, t, w.pl⟩ c := ⟨R.hn, R.hl⟩
theorem Rn.set {H : Hp} {N L : Addr} {w : Wd} {kvs : List (Key × V)} (R : Rn H N L w 1) (h : H N = some (.dK kvs)) (z : Str) (v : Int) : kvs.length < w.pl.length + 1 ∧ Rn (upd H N (.dK (putK kvs (.inr z) (.int v)))) N L ⟨fun y => if y = z then v else w.en y, w.tot, w.pl⟩ 0 := by
  obtain ⟨kvs', h1, h2, h3⟩ := R.hn
  rw [h1] at h
  cases h
  refine ⟨by omega, ⟨_, upd_same, ?_, fun y => ?_⟩, by rw [upd_ne R.nl.symm]; exact R.hl⟩
  · have : (putK kvs (.inr z) (.int v)).length ≤ kvs.length + 1 := by
      unfold putK
      split
      · rw [List.length_map]; omega
      · rw [List.length_append]; exact Nat.le_refl _
    show (putK kvs (.inr z) (.int v)).length + 0 ≤ w.pl.length + 1
    omega
  · rw [valV_put]
    by_cases e : y = z
    · rw [if_pos (by rw [e]), e]
      show V.int v = V.int (if z = z then v else w.en z)
      rw [if_pos rfl]
    · rw [if_neg (fun q => e (Sum.inr.inj q)), h3 y]
      show V.int (w.en y) = V.int (if y = z then v else w.en y)
      rw [if_neg e]
theorem Stk.ext {H : Hp} {L : Addr} {ws es : List (Int × St)} {ys : List V} (h : Stk H L ws) (t : TpAll H ys (es.map prD)) : ∃ acc, H L = some (.lst acc) ∧ acc.length = ws.length ∧ Stk (upd H L (.lst (acc ++ ys.reverse))) L (es ++ ws) := by
  obtain ⟨vals, h1, h2⟩ := h
  have e := h2.len
  rw [List.length_map] at e
  refine ⟨_, h1, by rw [List.length_reverse, e], ys ++ vals, by rw [upd_same, List.reverse_append], ?_⟩
  rw [List.map_append]
  exact (t.keep (Tk.lst h1)).append (h2.keep (Tk.lst h1))
theorem Stk.dk {H : Hp} {L N : Addr} {ws : List (Int × St)} {kvs : List (Key × V)} {o : HO} (h : Stk H L ws) (hn : H N = some (.dK kvs)) : Stk (upd H N o) L ws := by
  obtain ⟨vals, h1, h2⟩ := h
  have k : Tk H (upd H N o) := fun b xs e => by
    rw [upd_ne (fun z => by rw [z, hn] at e; cases e)]
    exact e
  exact ⟨vals, by rw [upd_ne (fun z => by rw [z, hn] at h1; cases h1)]; exact h1, h2.keep k⟩
theorem Stk.ls {H : Hp} {L Z : Addr} {ws : List (Int × St)} {xs : List V} {o : HO} (h : Stk H L ws) (hz : H Z = some (.lst xs)) (n : L ≠ Z) : Stk (upd H Z o) L ws := by
  obtain ⟨vals, h1, h2⟩ := h
  exact ⟨vals, by rw [upd_ne n]; exact h1, h2.keep (Tk.lst hz)⟩
theorem hd_is : ¬ (decide (V.str "if" = V.str "set") = true) := by decide +kernel
theorem hd_ip : ¬ (decide (V.str "if" = V.str "pay") = true) := by decide +kernel
theorem hd_rs : ¬ (decide (V.str "repeat" = V.str "set") = true) := by decide +kernel
theorem hd_rp : ¬ (decide (V.str "repeat" = V.str "pay") = true) := by decide +kernel
theorem St.hd_kd {st : St} (kd : (∃ t y' n', st = .ite t y' n') ∨ ∃ k y', st = .rep k y') : ¬ (decide (V.str st.hd = V.str "set") = true) ∧ ¬ (decide (V.str st.hd = V.str "pay") = true) := by
  rcases kd with ⟨_, _, _, rfl⟩ | ⟨_, _, rfl⟩
  · exact ⟨hd_is, hd_ip⟩
  · exact ⟨hd_rs, hd_rp⟩
section
variable {w : World} {P : Program} {K : PySem.W.Frag} {mg : Str → Option Value} {base : Heap}
theorem ok_prun {f fN fV fE : Addr} {fd fdN fdV fdE : FuncData} {ns : List Str} (F_prun : Fun K "run" "run" sPRun f fd) (F_pnumbered : Fun K "numbered" "numbered" sPNumbered fN fdN) (F_pvalue_of : Fun K "value_of" "value_of" sPValueOf fV fdV) (F_pentered : Fun K "entered" "entered" sPEntered fE fdE)
    (G_pnumbered : FnOk P w K mg base CX0 7 fN fdN ["block", "place"] spNumbered) (G_pvalue_of : FnOk P w K mg base CX0 5 fV fdV ["expression", "names"] (spValue ns 3)) (G_pentered : FnOk P w K mg base CX0 9 fE fdE ["statement", "place", "names"] (spEntered ns))
    (b_pnumbered : Binds K fdN ["block", "place"] []) (b_pvalue_of : Binds K fdV ["expression", "names"] []) (b_pentered : Binds K fdE ["statement", "place", "names"] [])
    (m_pnumbered : mg "numbered" = some (.ref fN)) (m_pvalue_of : mg "value_of" = some (.ref fV)) (m_pentered : mg "entered" = some (.ref fE)) (z_tuple : mg "tuple" = none) : FnOk P w K mg base CX0 10 f fd ["program", "number"] (spRun ns) := by
  refine F_prun.ok scPRun (fun vs H Q E h => ?_) (fun cdv A outer s H vs Q E hr h => ?_)
  · obtain ⟨_, _, _, rfl, _⟩ := h
    rfl
  · obtain ⟨v, b, x, rfl, t, ho, hz, hw, q⟩ := h
    refine ⟨_, (pss_cons (ps_set (i := 2) scPRun.nd rfl (by first | exact Or.inl rfl | exact Or.inr rfl) (pe_disp (pps_cons pe_str (pv 1) pps_nil) (by rfl) (by rfl) (fun z => by cases z) (by decide)))
      (pss_cons (ps_set (i := 3) scPRun.nd rfl (by first | exact Or.inl rfl | exact Or.inr rfl) pe_int)
      (pss_cons (ps_set (i := 4) scPRun.nd rfl (by first | exact Or.inl rfl | exact Or.inr rfl) (pe_lst pa_nil))
      (pss_cons (ps_set (i := 5) scPRun.nd rfl (by first | exact Or.inl rfl | exact Or.inr rfl) (pe_revL (pe_call G_pnumbered (hr.mono (by omega)) (by rfl) m_pnumbered F_pnumbered.kp b_pnumbered .nil pass0 (pa_cons (pv 0) (pa_cons pe_int pa_nil)))))
      (C8.pss_cut (ps_while PassesOwn.never (pt_truth (pv 5) (fun _ => rfl)) (pss_cons (ps_asg (pe_bm0 PySem.F.plainAttrs_list PySem.F.slot_list_pop PySem.F.type_list_pop mt_pop (pv 5)) (pg_tup rfl (pgs_cons (pg_name (i := 6) scPRun.nd rfl (by first | exact Or.inl rfl | exact Or.inr rfl)) (pgs_cons (pg_name (i := 7) scPRun.nd rfl (by first | exact Or.inl rfl | exact Or.inr rfl)) pgs_nil))))
      (pss_cons (ps_expr (pe_bm PySem.F.plainAttrs_list PySem.F.slot_list_append PySem.F.type_list_append mt_append (pv 4) (pa_cons (pv 6) pa_nil)))
      (pss_cons (ps_if (pt_cmpR op_eq (pe_ix ix_tup (pv 7) pe_int (fun _ _ => rfl)) pe_str (nomark _)) (pss_one ps_break) pss_nil)
      (pss_one (ps_if (pt_cmpR op_eq (pe_ix ix_tup (pv 7) pe_int (fun _ _ => rfl)) pe_str (nomark _)) (pss_one (ps_dput (hu_of hr) (pv 2) (pe_ix ix_tup (pv 7) pe_int (fun _ _ => rfl)) (pe_call G_pvalue_of (hr.mono (by omega)) (by rfl) m_pvalue_of F_pvalue_of.kp b_pvalue_of .nil pass0 (pa_cons (pe_ix ix_tup (pv 7) pe_int (fun _ _ => rfl)) (pa_cons (pv 2) pa_nil))) rfl)) (pss_one (ps_if (pt_cmpR op_eq (pe_ix ix_tup (pv 7) pe_int (fun _ _ => rfl)) pe_str (nomark _)) (pss_one (ps_aug (i := 3) scPRun.nd rfl (.inl rfl) (pe_call G_pvalue_of (hr.mono (by omega)) (by rfl) m_pvalue_of F_pvalue_of.kp b_pvalue_of .nil pass0 (pa_cons (pe_ix ix_tup (pv 7) pe_int (fun _ _ => rfl)) (pa_cons (pv 2) pa_nil))) ip_add)) (pss_one (ps_expr (pe_bm PySem.F.plainAttrs_list PySem.F.slot_list_extend PySem.F.type_list_extend mt_extend (pv 5) (pa_cons (pe_revL (pe_call G_pentered (hr.mono (by omega)) (by rfl) m_pentered F_pentered.kp b_pentered .nil pass0 (pa_cons (pv 7) (pa_cons (pv 6) (pa_cons (pv 2) pa_nil))))) pa_nil))))))))))))
      (pss_one (ps_ret (pe_tup (pa_cons (pv 3) (pa_cons (pe_callTy call_tuple_of (by rfl) z_tuple boot_tuple (pa_cons (pv 4) pa_nil)) pa_nil)))))))))), ?_⟩
    refine fun N hN => ⟨_, rfl, upd_same, [(.inr "n", .int x)], rfl, by show 1 ≤ 15; decide, ?_⟩
    refine ⟨by show 0 ≤ sizeLine; decide, fun L hL => ?_⟩
    have en : mergeK [] [((.inr "n" : Key), V.int x)] = [(.inr "n", .int x)] := by
      show putK [] (.inr "n" : Key) (V.int x) = _
      rw [putK_new (fun kv h => by cases h)]
      rfl
    rw [en]
    have hLN : L ≠ N := Dk.none_ne (upd_same : upd (upd H N (.dK [])) N (.dK (mergeK [] [((.inr "n" : Key), V.int x)])) N = _) hL
    have hHL : H L = none := by
      rw [upd_ne hLN, upd_ne hLN] at hL
      exact hL
    refine gh (F := fun H1 => Sx [] H H1 ∧ Rn H1 N L (Wd.at x) 0) ⟨?_, ⟨[(.inr "n", .int x)], ?_, by show 1 ≤ 0 + 1; decide, fun z => ?_⟩, ?_⟩ (fun H1 ⟨s1, R1⟩ => ?_)
    · exact ((Sx.n0 hN).own hN).own hHL
    · rw [upd_ne hLN.symm, upd_same]
    · show (valV [((.inr "n" : Key), V.int x)] (.inr z)).getD (.int 0) = .int (if z = "n" then x else 0)
      by_cases h : z = "n"
      · rw [if_pos h, h]
        unfold valV
        rw [List.find?_cons_of_pos (by simp)]
        rfl
      · rw [if_neg h]
        unfold valV
        rw [List.find?_cons_of_neg (by simp only [decide_eq_true_eq]; exact fun e => h (Sum.inr.inj e).symm)]
        rfl
    · rw [upd_same]
      rfl
    refine ⟨_, rfl, v, b, 0, rfl, t.keep s1.tk0, hz, fun H2 l ys s2 hl e2 hy => ⟨l, ys, rfl, SqL.of e2, fun Z hZ => ?_⟩⟩
    have hHZ : H Z = none := (s1.trans s2).free (by simp) hZ
    have nZL : Z ≠ L := Dk.none_ne ((R1.sx s2).hl) hZ
    have nZN : Z ≠ N := by
      obtain ⟨kvs, h, _⟩ := (R1.sx s2).hn
      exact Dk.none_ne h hZ
    refine ⟨fun σ H' => ∃ (w' : Wd) (o6 o7 : Option V), σ = [some v, some (.int x), some (.ref N), some (.int w'.tot), some (.ref L), some (.ref Z), o6, o7] ∧ Sx [] H H' ∧ H' L = some (.lst (w'.pl.map V.int)) ∧ (b.run 0 (Wd.at x)).1 = w', ?_, ?_⟩
    · refine ⟨fun m σ H' => ∃ (w' : Wd) (ws : List (Int × St)) (o6 o7 : Option V), σ = [some v, some (.int x), some (.ref N), some (.int w'.tot), some (.ref L), some (.ref Z), o6, o7] ∧ Sx [] H H' ∧ Rn H' N L w' 0 ∧ Stk H' Z ws ∧ StkOk ns ws ∧ runS ws w' = b.run 0 (Wd.at x) ∧ w'.pl.length + stkWt ws ≤ 1000000 ∧ m = stkWt ws,
        ⟨_, Wd.at x, b.nums 0, _, _, rfl, (s1.trans s2).new hZ, (R1.sx s2).sx (Sx.n0 hZ), ⟨ys, upd_same, hy.new hZ⟩, StkOk.nums ho hz, runS_nums b 0 _, by rw [stkWt_nums]; show 0 + b.wt ≤ 1000000; omega, rfl⟩, ?_⟩
      rintro m σ H3 ⟨w', ws, o6, o7, rfl, s3, R3, hs, so, hrun, hm, rfl⟩
      cases ws with
      | nil =>
        refine ⟨_, rfl, false, .inl ⟨_, SqL.of hs.nil_, rfl⟩, iteF ?_⟩
        exact ⟨w', _, _, rfl, s3, R3.hl, by rw [← hrun]; rfl⟩
      | cons y ws =>
        obtain ⟨p, st⟩ := y
        obtain ⟨acc, c, xv, e1, e2, e3, e4, e5, e6⟩ := hs.pop
        obtain ⟨⟨d, sto⟩, stz⟩ := so _ (List.mem_cons_self)
        have sto : st.ok ns d := sto
        have stz : st.sz < 16777216 := stz
        have so' : StkOk ns ws := fun y hy => so y (List.mem_cons_of_mem _ hy)
        rw [stkWt_cons] at hm
        have stp := st.wt_pos
        have wle := wt_le ws
        have hm : w'.pl.length + (st.wt + stkWt ws) ≤ 1000000 := hm
        refine ⟨_, rfl, true, .inl ⟨_, SqL.of e1, ?_⟩, iteT ⟨fun σ' H4 => ∃ m', m' < stkWt ((p, st) :: ws) ∧ ∃ (w' : Wd) (ws : List (Int × St)) (o6 o7 : Option V), σ' = [some v, some (.int x), some (.ref N), some (.int w'.tot), some (.ref L), some (.ref Z), o6, o7] ∧ Sx [] H H4 ∧ Rn H4 N L w' 0 ∧ Stk H4 Z ws ∧ StkOk ns ws ∧ runS ws w' = b.run 0 (Wd.at x) ∧ w'.pl.length + stkWt ws ≤ 1000000 ∧ m' = stkWt ws, fun _ _ z => z, ?_⟩⟩
        · cases acc with
          | nil => simp at e6
          | cons _ _ => rfl
        refine ⟨_, rfl, .inl ⟨rfl, _, SqL.of e1⟩, Z, _, _, rfl, rfl, e1, e2, ?_⟩
        have k1 : Tk H3 (upd H3 Z (.lst acc.dropLast)) := Tk.lst e1
        refine gh (H1 := upd H3 Z (.lst acc.dropLast)) (F := fun H4 => Sx [] H H4 ∧ Tk H3 H4 ∧ Stk H4 Z ws ∧ Rn H4 N L w' 0) ⟨s3.own hHZ, k1, e5, R3.at_ e1 nZL nZN⟩ (fun H4 ⟨s4, k4, hs4, R4⟩ => ?_)
        refine ⟨c, _, rfl, SqT.of (k4 _ _ e3), rfl, _, _, rfl, gnm ⟨_, _, rfl, gnm ⟨rfl, ?_⟩⟩⟩
        -- its place is told
        refine ⟨_, rfl, .inl ⟨rfl, _, SqL.of R4.hl⟩, _, rfl, L, _, _, rfl, rfl, R4.hl, lt_line (by rw [List.length_map]; omega), ?_⟩
        have R5 := R4.place p
        have ts4 : Tp H4 xv st.d := e4.keep k4
        have hm2 : (w'.pl ++ [p]).length = w'.pl.length + 1 := by rw [List.length_append]; rfl
        refine gh (H1 := upd H4 L (.lst (w'.pl.map V.int ++ [.int p]))) (F := fun H5 => Sx [] H H5 ∧ Tp H5 xv st.d ∧ Stk H5 Z ws ∧ Rn H5 N L ⟨w'.en, w'.tot, w'.pl ++ [p]⟩ 1) ⟨s4.own hHL, ts4.keep (Tk.lst R4.hl), hs4.ls R4.hl nZL, R5⟩ (fun H5 ⟨s5, ts5, hs5, R5⟩ => ?_)
        obtain ⟨ax, xs', rfl, hax⟩ := St.at_ ts5
        refine ⟨_, rfl, ax, _, _, .str st.hd, rfl, rfl, SqT.of hax, at0 _ _, rfl, _, rfl, ite2 (fun e => ?_) (fun e => ?_)⟩
        · cases st with
          | stop =>
            refine ⟨⟨w'.en, w'.tot, w'.pl ++ [p]⟩, _, _, rfl, s5, R5.hl, ?_⟩
            rw [← hrun]
            rfl
          | _ => exact absurd (V.str.inj (of_decide_eq_true e)) (by simp only [St.hd]; decide +kernel)
        · have nstop : st ≠ .stop := fun z => by rw [z] at e; exact e (by decide +kernel)
          by_cases kd : (∃ t y' n', st = .ite t y' n') ∨ ∃ k y', st = .rep k y'
          · have h1 := (St.hd_kd kd).1
            have h2 := (St.hd_kd kd).2
            obtain ⟨vals5, hZ5, _⟩ := id hs5
            refine ⟨_, rfl, ax, _, _, .str st.hd, rfl, rfl, SqT.of hax, at0 _ _, rfl, _, rfl, iteN h1 ⟨_, rfl, ax, _, _, .str st.hd, rfl, rfl, SqT.of hax, at0 _ _, rfl, _, rfl, iteN h2 ?_⟩⟩
            refine ⟨_, rfl, .inl ⟨rfl, _, SqL.of hZ5⟩, _, rfl, _, rfl, _, rfl, .ref ax, st, p, N, w'.en, d, rfl, ts5, sto, stz, by omega, R5.en, kd, fun H6 l ys s6 hl e6 hy => ⟨l, ys, rfl, SqL.of e6, fun l2 hl2 => ?_⟩⟩
            obtain ⟨acc6, g1, g2, g3⟩ := ((hs5.keep s6).keep (Sx.n0 (o := .lst ys.reverse) hl2)).ext (es := st.ent w'.en p) (hy.new hl2)
            have ylen := hy.len
            rw [List.length_map] at ylen
            have ew : stkWt (st.ent w'.en p) + 1 ≤ st.wt := ent_wt
            have el := wt_le (st.ent w'.en p)
            refine ⟨Z, l2, acc6, ys.reverse, rfl, rfl, g1, upd_same, le_line (by rw [g2, List.length_reverse]; omega), ?_⟩
            refine ⟨_, ?_, ⟨w'.en, w'.tot, w'.pl ++ [p]⟩, st.ent w'.en p ++ ws, _, _, rfl, ((s5.trans s6).new hl2).own hHZ, (((R5.sx s6).sx (Sx.n0 hl2)).at_ g1 nZL nZN).less, g3, ?_, ?_, ?_, rfl⟩
            · rw [stkWt_append, stkWt_cons]
              show stkWt (st.ent w'.en p) + stkWt ws < st.wt + stkWt ws
              omega
            · intro y hy
              rcases List.mem_append.1 hy with hy | hy
              · exact StkOk.ent sto stz y hy
              · exact so' y hy
            · rw [← hrun, runS_append, runS_ent kd]
              rfl
            · rw [stkWt_append]
              simp only [hm2]
              omega
          · cases st with
            | stop => exact absurd rfl nstop
            | set z ex =>
              obtain ⟨a', p1, p2, p3, ea, hA, t1, t2, t3⟩ := tp3 ts5
              cases ea
              obtain rfl := tpS t1
              obtain rfl := tpS t2
              obtain ⟨kvs, hNk, _, hv⟩ := R5.hn
              refine ⟨_, rfl, ax, _, _, _, rfl, rfl, SqT.of hA, rfl, rfl, _, rfl, iteP (by decide +kernel) ?_⟩
              have R6 := R5.set hNk z (ex.ev w'.en)
              refine ⟨_, rfl, ax, _, _, p3, rfl, rfl, SqT.of hA, rfl, _, rfl, p3, N, ex, w'.en, rfl, t3, sto.2, R5.en, ?_⟩
              refine ⟨_, rfl, _, rfl, ax, _, _, .str z, rfl, rfl, SqT.of hA, rfl, N, _, rfl, DPut.k (k := .inr z) hNk (lt_line (by have := R6.1; simp only [List.length_append, List.length_cons, List.length_nil] at this; omega)), ?_⟩
              refine ⟨_, ?_, ⟨fun y => if y = z then ex.ev w'.en else w'.en y, w'.tot, w'.pl ++ [p]⟩, ws, _, _, rfl, s5.own hN, R6.2, hs5.dk hNk, so', ?_, ?_, rfl⟩
              · rw [stkWt_cons]
                show stkWt ws < 1 + stkWt ws
                omega
              · rw [← hrun]
                rfl
              · simp only [hm2]
                have : (St.set z ex).wt = 1 := rfl
                omega
            | pay ex =>
              obtain ⟨a', p1, p2, ea, hA, t1, t2⟩ := tp2 ts5
              cases ea
              obtain rfl := tpS t1
              refine ⟨_, rfl, ax, _, _, _, rfl, rfl, SqT.of hA, rfl, rfl, _, rfl, iteN (by decide +kernel) ⟨_, rfl, ax, _, _, _, rfl, rfl, SqT.of hA, rfl, rfl, _, rfl, iteP (by decide +kernel) ?_⟩⟩
              refine ⟨_, rfl, _, rfl, ax, _, _, p2, rfl, rfl, SqT.of hA, rfl, _, rfl, p2, N, ex, w'.en, rfl, t2, sto, R5.en, ?_⟩
              refine ⟨_, _, rfl, rfl, ?_⟩
              refine ⟨_, ?_, ⟨w'.en, w'.tot + ex.ev w'.en, w'.pl ++ [p]⟩, ws, _, _, rfl, s5, (R5.tot _).less, hs5, so', ?_, ?_, rfl⟩
              · rw [stkWt_cons]
                show stkWt ws < 1 + stkWt ws
                omega
              · rw [← hrun]
                rfl
              · simp only [hm2]
                have : (St.pay ex).wt = 1 := rfl
                omega
            | ite ts y n => exact absurd (.inl ⟨_, _, _, rfl⟩) kd
            | rep k y => exact absurd (.inr ⟨_, _, rfl⟩) kd
    · rintro _ H3 ⟨w', o6, o7, rfl, s3, hL3, rfl⟩
      refine ⟨_, rfl, _, rfl, L, _, rfl, .inl ⟨SqL.of hL3, fun l hl => ?_⟩⟩
      refine ⟨by show 2 ≤ sizeLine; decide, fun u hu => ?_⟩
      exact q _ _ ((s3.new hl).new hu) (.tup upd_same (.cons (.int _) (.cons (.tup (by rw [upd_ne (ne_of_none upd_same hu)]; exact upd_same) (TpAll.ints _)) .nil)))
theorem FnOk.up {CX : CXT} {j k : Nat} {f : Addr} {fd : FuncData} {ps : List Str} {sp : Sp} (F : FnOk P w K mg base CX j f fd ps sp) (h : j ≤ k) : FnOk P w K mg base CX k f fd ps sp :=
  ⟨F.len, fun A o s H ar us vs Q E hr => F.run A o s H ar us vs Q E (hr.mono h)⟩
theorem ok_psign {f fR : Addr} {fd fdR : FuncData} (F_psign : Fun K "sign" "sign" sPSign f fd) (F_prun : Fun K "run" "run" sPRun fR fdR) (G_prun : FnOk P w K mg base CX0 10 fR fdR ["program", "number"] spRunA)
    (b_prun : Binds K fdR ["program", "number"] []) (m_prun : mg "run" = some (.ref fR)) (z_int : mg "int" = none) : FnOk P w K mg base CX0 11 f fd ["program", "number"] spSignA := by
  refine F_psign.ok scPSign (fun vs H Q E h => ?_) (fun cdv A outer s H vs Q E hr h => ?_)
  · obtain ⟨_, _, _, _, rfl, _⟩ := h
    rfl
  · obtain ⟨ns, v, b, x, rfl, t, ho, hz, hw, q⟩ := h
    refine ⟨_, (pss_cons (ps_set (i := 2) scPSign.nd rfl (by first | exact Or.inl rfl | exact Or.inr rfl) (pe_ix ix_tup (pe_call G_prun (hr.mono (by omega)) (by rfl) m_prun F_prun.kp b_prun .nil pass0 (pa_cons (pv 0) (pa_cons (pv 1) pa_nil))) pe_int (fun _ _ => rfl)))
      (pss_one (ps_ret (pe_op op_sub (pe_callTy call_int1 (by rfl) z_int boot_int (pa_cons (pe_cmpR op_gt (pv 2) pe_int (nomark _)) pa_nil)) (pe_callTy call_int1 (by rfl) z_int boot_int (pa_cons (pe_cmpR op_lt (pv 2) pe_int (nomark _)) pa_nil)))))), ?_⟩
    refine ⟨_, rfl, _, rfl, ns, v, b, x, rfl, t, ho, hz, hw, fun H1 r s1 tr => ?_⟩
    obtain ⟨a, p1, p2, rfl, ha, t1, t2⟩ := tp2 tr
    obtain rfl := tpI t1
    refine ⟨a, _, _, _, rfl, rfl, SqT.of ha, rfl, ?_⟩
    have q' := q H1 s1
    refine ⟨_, rfl, _, 0, rfl, rfl, .inr ⟨_, rfl, ?_⟩⟩
    refine ⟨_, rfl, _, 0, rfl, rfl, .inr ⟨_, rfl, ?_⟩⟩
    refine ⟨_, _, rfl, rfl, ?_⟩
    unfold sgn at q'
    by_cases h1 : (b.run 0 (Wd.at x)).1.tot < 0
    · rw [if_pos h1] at q'
      rw [show decide ((b.run 0 (Wd.at x)).1.tot > 0) = false from decide_eq_false (by omega), show decide ((b.run 0 (Wd.at x)).1.tot < 0) = true from decide_eq_true h1]
      exact q'
    · rw [if_neg h1] at q'
      by_cases h2 : 0 < (b.run 0 (Wd.at x)).1.tot
      · rw [if_pos h2] at q'
        rw [show decide ((b.run 0 (Wd.at x)).1.tot > 0) = true from decide_eq_true h2, show decide ((b.run 0 (Wd.at x)).1.tot < 0) = false from decide_eq_false h1]
        exact q'
      · rw [if_neg h2] at q'
        rw [show decide ((b.run 0 (Wd.at x)).1.tot > 0) = false from decide_eq_false h2, show decide ((b.run 0 (Wd.at x)).1.tot < 0) = false from decide_eq_false h1]
        exact q'
end
/-! ### what is known to the object -/
def Fz (a : Addr) (o : Obj) : HO := .frz o (.ext fun h => h.get? a = some o)
def cut1 (H : Hp) (a : Addr) : Hp := fun b => if b = a then none else H b
theorem cut1_ne {H : Hp} {a b : Addr} (h : b ≠ a) : cut1 H a b = H b := if_neg h
theorem cut1_at {H : Hp} {a : Addr} : cut1 H a a = none := if_pos rfl
theorem cut1_some {H : Hp} {a b : Addr} {o : HO} (e : cut1 H a b = some o) : b ≠ a ∧ H b = some o := by
  by_cases h : b = a
  · rw [h, cut1_at] at e; cases e
  · rw [cut1_ne h] at e; exact ⟨h, e⟩
theorem cut_upd {H : Hp} {a : Addr} {o : HO} (n : H a = none) : cut1 (upd H a o) a = H := by
  funext b
  by_cases h : b = a
  · rw [h, cut1_at, n]
  · rw [cut1_ne h, upd_ne h]
theorem upd_cut {H : Hp} {a : Addr} {o : HO} (e : H a = some o) : upd (cut1 H a) a o = H := by
  funext b
  by_cases h : b = a
  · rw [h, upd_same, e]
  · rw [upd_ne h, cut1_ne h]
theorem Sx.cut {ex : List Addr} {H H' : Hp} {a : Addr} {o : HO} (s : Sx ex (upd H a o) H') (n : H a = none) : Sx ex H (cut1 H' a) := fun b u hb e => by
  have h := ne_of_none e n
  rw [cut1_ne h]
  exact s b u hb (by rw [upd_ne h]; exact e)
theorem Sx.add {ex : List Addr} {H H' : Hp} {a : Addr} {o : HO} (s : Sx ex (cut1 H a) H') (e : H a = some o) : Sx ex H (upd H' a o) := fun b u hb q => by
  by_cases h : b = a
  · rw [h, upd_same, ← e, ← h]; exact q
  · rw [upd_ne h]; exact s b u hb (by rw [cut1_ne h]; exact q)
theorem Tk.cut {H : Hp} {a : Addr} {o : Obj} {u : HO} (e : H a = some (.frz o u)) : Tk H (cut1 H a) := fun b xs q => by
  rw [cut1_ne (fun z => by rw [z, e] at q; cases q)]
  exact q
section
variable {w : World} {P : Program} {K : PySem.W.Frag} {mg : Str → Option Value} {base : Heap} {A : Around} {outer : List Env} {s s' : Shared} {H H' : Hp} {a : Addr} {o : Obj} {h : Heap}
theorem fz_ok (e : h.get? a = some o) : ObjOk P w H h a (Fz a o) := ⟨e, e, ⟨o, e⟩, fun _ _ p st => st _ p⟩
theorem fz_at (hok : HOk P w H h) (e : H a = some (Fz a o)) : h.get? a = some o := (hok a _ e).1
theorem HOk.cut {ob : Obj} {u : HO} (hok : HOk P w H h) (e : H a = some (.frz ob u)) : HOk P w (cut1 H a) h := fun b v q => by
  obtain ⟨_, q⟩ := cut1_some q
  refine (hok b v q).stay (fun c x _ y => y) (fun c y => ?_) fun c xs y => ?_
  · rw [cut1_ne (fun z => by rw [z, e] at y; cases y)]; exact y
  · rw [cut1_ne (fun z => by rw [z, e] at y; cases y)]; exact y
theorem HOk.add (hok : HOk P w H h) (n : H a = none) (e : h.get? a = some o) : HOk P w (upd H a (Fz a o)) h := fun b v q => by
  by_cases hb : b = a
  · rw [hb, upd_same] at q
    cases q
    rw [hb]
    exact fz_ok e
  · rw [upd_ne hb] at q
    exact (hok b v q).stay (fun c x _ y => y) (fun c y => by rw [upd_ne (ne_of_none y n)]; exact y) fun c xs y => by rw [upd_ne (ne_of_none y n)]; exact y
theorem Env0.cut (e0 : Env0 P w K mg base A outer s H) (e : H a = some (Fz a o)) : Env0 P w K mg base A outer s (cut1 H a) :=
  ⟨e0.frames, e0.mod, fun b u q => ⟨(e0.bs b u q).1, by rw [cut1]; split; rfl; exact (e0.bs b u q).2⟩, e0.bsz, e0.funs, fun b hb => by rw [cut1]; split; rfl; exact e0.frf b hb, HOk.cut e0.hok e, e0.bare⟩
theorem Env0.add (e0 : Env0 P w K mg base A outer s H) (n : H a = none) (e : s.heap.get? a = some o) (nf : a ∉ frs outer) (nb : base.objs.size ≤ a) : Env0 P w K mg base A outer s (upd H a (Fz a o)) :=
  ⟨e0.frames, e0.mod, fun b u q => ⟨(e0.bs b u q).1, by rw [upd_ne (fun z => Nat.lt_irrefl _ (Nat.lt_of_lt_of_le (Heap.lt_size q) (by rw [z]; exact nb)))]; exact (e0.bs b u q).2⟩, e0.bsz, e0.funs, fun b hb => by rw [upd_ne (fun z => nf (by rw [← z]; exact hb))]; exact e0.frf b hb, HOk.add e0.hok n e, e0.bare⟩
/-- the callee knew the object at a, the caller need not -/
theorem CE.cut {Q : VK} {u : Value} (n : H a = none) (e : s.heap.get? a = some o) (nf : a ∉ frs outer) (c : CE outer P w (upd H a (Fz a o)) s (fun v H2 => Q v (cut1 H2 a)) u s') : CE outer P w H s Q u s' := by
  obtain ⟨v, H2, os, bare, un, hok, r, q⟩ := c
  have f2 : H2 a = some (Fz a o) := un.frzs a o _ upd_same
  refine ⟨v, cut1 H2 a, os, bare, ⟨fun b ob y z hb hx => ?_, fun b ob y z hb hx => ?_, fun b ob y z hx => ?_, un.there, fun b xs y => ?_, fun b ob x y => ?_, fun b ps y => ?_⟩, HOk.cut hok f2, r, q⟩
  · by_cases hz : b = a
    · rw [hz] at y ⊢
      rw [e] at y
      cases y
      exact fz_at hok f2
    · exact un.keep b ob y (by rw [upd_ne hz]; exact z) hb hx
  · exact un.slot b ob y (by rw [upd_ne (fun z => nf (by rw [← z]; exact hb))]; exact z) hb hx
  · by_cases hz : b = a
    · rw [hz, cut1_at]
    · rw [cut1_ne hz]; exact un.free b ob y (by rw [upd_ne hz]; exact z) hx
  · have hz := ne_of_none y n; rw [cut1_ne hz]; exact un.tups b xs (by rw [upd_ne hz]; exact y)
  · have hz := ne_of_none y n; rw [cut1_ne hz]; exact un.frzs b ob x (by rw [upd_ne hz]; exact y)
  · have hz := ne_of_none y n
    obtain ⟨more, m⟩ := un.tbls b ps (by rw [upd_ne hz]; exact y)
    exact ⟨more, by rw [cut1_ne hz]; exact m⟩
/-- the caller knows the object at a, the callee need not -/
theorem CE.add {Q : VK} {u : Value} (e0 : Env0 P w K mg base A outer s H) (e : H a = some (Fz a o)) (c : CE outer P w (cut1 H a) s (fun v H2 => Q v (upd H2 a (Fz a o))) u s') : CE outer P w H s Q u s' := by
  obtain ⟨v, H2, os, bare, un, hok, r, q⟩ := c
  have ea := fz_at e0.hok e
  have nf : a ∉ frs outer := fun z => by have := e0.frf a z; rw [e] at this; cases this
  have ka := un.keep a o ea cut1_at nf (by simp)
  have na := un.free a o ea cut1_at (by simp)
  refine ⟨v, upd H2 a (Fz a o), os, bare, ⟨fun b ob y z hb hx => ?_, fun b ob y z hb hx => ?_, fun b ob y z hx => ?_, un.there, fun b xs y => ?_, fun b ob x y => ?_, fun b ps y => ?_⟩, HOk.add hok na ka, r, q⟩
  · exact un.keep b ob y (by rw [cut1]; split; rfl; exact z) hb hx
  · exact un.slot b ob y (by rw [cut1]; split; rfl; exact z) hb hx
  · have hz : b ≠ a := fun k => by rw [k, e] at z; cases z
    rw [upd_ne hz]
    exact un.free b ob y (by rw [cut1_ne hz]; exact z) hx
  · have hz : b ≠ a := fun k => by rw [k, e] at y; cases y
    rw [upd_ne hz]; exact un.tups b xs (by rw [cut1_ne hz]; exact y)
  · by_cases hz : b = a
    · rw [hz, e] at y
      rw [hz, upd_same]
      exact y
    · rw [upd_ne hz]; exact un.frzs b ob x (by rw [cut1_ne hz]; exact y)
  · have hz : b ≠ a := fun k => by rw [k, e] at y; cases y
    obtain ⟨more, m⟩ := un.tbls b ps (by rw [cut1_ne hz]; exact y)
    exact ⟨more, by rw [upd_ne hz]; exact m⟩
theorem CR.cut {Q : VK} {r : Result} (n : H a = none) (e : s.heap.get? a = some o) (nf : a ∉ frs outer) (c : CR CX0 outer P w (upd H a (Fz a o)) s (fun v H2 => Q v (cut1 H2 a)) E0 r s') : CR CX0 outer P w H s Q E0 r s' := by
  cases r with
  | error x => exact c
  | ok f => cases f with
    | ret u => exact CE.cut n e nf c
    | _ => exact c
theorem CR.add {Q : VK} {r : Result} (e0 : Env0 P w K mg base A outer s H) (e : H a = some (Fz a o)) (c : CR CX0 outer P w (cut1 H a) s (fun v H2 => Q v (upd H2 a (Fz a o))) E0 r s') : CR CX0 outer P w H s Q E0 r s' := by
  cases r with
  | error x => exact c
  | ok f => cases f with
    | ret u => exact CE.add e0 e c
    | _ => exact c
end
/-! ### a function that is handed on and called -/
/-- T: how the abstract heap tells the function at f -/
structure HeldL (P : Program) (w : World) (K : PySem.W.Frag) (mg : Str → Option Value) (base : Heap) (k : Nat) (T : Addr → Hp → Prop) (sp : Sp) : Prop where
  st : ∀ f H H', T f H → Sx [] H H' → T f H'
  fn : ∀ (f : Addr) (H : Hp) (h : Heap), T f H → HOk P w H h → PySem.W.FnAt f h
  run : ∀ (A : Around) (outer : List Env) (s : Shared) (H : Hp) (f : Addr) (us : List Value) (vs : List V) (Q : VK), Room k A → Env0 P w K mg base A outer s H → T f H → Vals vs us → sp vs H Q E0 →
    codeAny (model P w) A (.call (.ref f) ⟨us, []⟩) (CR CX0 outer P w H s Q E0) s
def tCallT (i : Nat) (T : Addr → Hp → Prop) (sp : Sp) (t : TA) : TE := fun σ H Q => ∃ f, σ[i]? = some (some (.ref f)) ∧ T f H ∧ t σ H fun vs H1 => T f H1 ∧ sp vs H1 Q E0
theorem pe_callT {X : Cx} {i k : Nat} {T : Addr → Hp → Prop} {sp : Sp} {t : TA} {x : Str} {e : Expr} {es : List Expr} {p pos : Pos} (hh : HeldL X.prog X.w X.K X.mg X.base k T sp) (hr : Room k X.A) (hN : X.N[i]? = some x) (hv : Vis X.env.scope x) (ha : PA X (e :: es) t)
    (hd : (x == ("__debug__" : Str)) = false := by decide) (hcd : (x == ("__classdict__" : Str)) = false := by decide) (he : starEach (e :: es) X.env = (false, eval e X.env) :: starEach es X.env := by rfl) (hpl : (backTo pos (starEach es X.env)).any (·.1) = false := by rfl) :
    PE X (.Call (.Name x p) (e :: es) [] pos) (tCallT i T sp t) := by
  refine ⟨fun pins s σ H Q I ⟨f, hs, hT, ht⟩ => ?_⟩
  refine wpAny_Call_Name_kw (thn ((pe_var (pos := p) hN hv hd hcd).run pins s σ H (fun v H1 => v = .ref f ∧ H1 = H) I ⟨.ref f, hs, rfl, rfl⟩) fun u s1 ⟨v, H1, I1, r1, ev, eH⟩ => ?_)
  subst ev; rw [eH] at I1
  have eqv : (u = Value.ref f) := r1; subst eqv
  refine PySem.W.callWith_F (first := []) (hh.fn f H s1.heap hT I1.hok) (thn (ha.run pos pins s1 σ H _ I1 ht) fun us s2 ⟨vs, H2, I2, r, h1, q⟩ => ⟨hh.fn f H2 s2.heap h1 I2.hok, ?_⟩) he hpl
  show (wpAny _ _ (call (.ref f) us) _ _ _)
  refine wpAny_call (codeAny_mono (hh.run X.A X.stack s2 H2 f us vs Q hr I2.env0 h1 r q) fun rs s' hq => ?_)
  match rs, hq with
  | .ok (.ret u), hq => exact I2.after hq
/-! ### a lambda's body -/
structure LF where
  qual : Str
  params : Arguments
  body : Expr
  scope : Scope
  cl : List (Str × Addr)
  c : Addr
abbrev LF.obj (F : LF) (pm ctv : Value) : Obj := PySem.W.kla_obj "<lambda>" F.qual F.params F.body F.scope F.cl pm F.c ctv
abbrev LF.nf (F : LF) : NdefX.NF := ⟨"<lambda>", F.qual, F.params, [], F.scope, F.cl, F.c⟩
open NdefX in
theorem lam_run {P : Program} {w : World} {K : PySem.W.Frag} {mg : Str → Option Value} {base : Heap} {N ps fr : List Str} {F : LF} {f : Addr} {A : Around} {outer : List Env} {s : Shared} {H : Hp} {us : List Value} {vs : List V} {ws : List (Option V)} {Q : VK} {tb : TE} {k : Nat} {pm ctv : Value}
    (S : NScope N ps fr F.scope) (hb : ∀ (us : List Value), us.length = ps.length → bindArgs (PySem.W.kla_fn "<lambda>" F.qual F.params F.body F.scope F.cl pm (.ref F.c) ctv) ⟨us, []⟩ = pure (ps.zip us))
    (hbody : Room k (A.deeper (envF F.nf f s.heap.objs.size)) → PE (ncx CX0 P w K mg base N F.nf f A outer s H E0).nox F.body tb) (hr : Room (k + 1) A) (e0 : Env0 P w K mg base A outer s H) (hf : s.heap.get? f = some (F.obj pm ctv)) (hc : s.heap.CodeRec (.ref F.c) F.qual)
    (C : CellsAt F.cl fr ws s.heap H) (r : Vals vs us) (hl : vs.length = ps.length) (q : tb (startF N vs ws) H Q) : codeAny (model P w) A (.call (.ref f) ⟨us, []⟩) (CR CX0 outer P w H s Q E0) s := by
  have lim : (s.heap.NoLimit) := e0.mod.nolimit.keeps fun b o e => (e0.bs b o e).1
  refine PySem.W.kla_callFunE hr.depth hf rfl S.co S.gen rfl hc ?_
  rw [hb us (by rw [← r.length]; exact hl)]
  refine (wpAny_pure (wpAny_newFunctionEnv S.nocell (fun ⟨n, _⟩ hy => S.par n (List.of_mem_zip hy).1) (fun h₁ hns hsb => ⟨lim.fresh _ hsb, ?_⟩) S.kind))
  show codeAny _ _ (.expr F.body (envF F.nf f s.heap.objs.size)) _ _
  have kp : (∀ b o, s.heap.get? b = some o → h₁.get? b = some o) := fun b o e => hsb.extBut b o (Nat.ne_of_lt (Heap.lt_size e)) (Heap.get?_push_of_some _ e)
  have I : Inv (ncx CX0 P w K mg base N F.nf f A outer s H E0) [] (startF N vs ws) H { s with heap := h₁, toks := s.toks + (ps.zip us).length } := inv_startN S hr.hd e0 hl r C hns kp
  refine PySem.W.kla_codeExpr (wpAny_mono ((hbody (hr.deeper _)).nox.run [] _ _ H Q I q) (fun v s' hq => ?_) fun e s' hq => hq)
  rcases hq with ⟨w', H', J', rv, q⟩
  exact (⟨w', H', J'.os, J'.bare, J'.base, J'.hok, rv, q⟩)
/-- no capture -/
def Tf0 (F : LF) (f : Addr) (H : Hp) : Prop := F.cl = [] ∧ (∃ pm ctv, H f = some (Fz f (F.obj pm ctv))) ∧ H F.c = some (LamX.CodeO F.c F.qual)
/-- one captured name y, its cell at cc holds v -/
def Tf1 (F : LF) (y : Str) (cc : Addr) (v : V) (f : Addr) (H : Hp) : Prop := F.cl = [(y, cc)] ∧ (∃ pm ctv, H f = some (Fz f (F.obj pm ctv))) ∧ H F.c = some (LamX.CodeO F.c F.qual) ∧ ∃ o u, H cc = some (Fz cc o) ∧ o.data = .cell (some u) ∧ RelV v u
section
variable {w : World} {P : Program} {K : PySem.W.Frag} {mg : Str → Option Value} {base : Heap}
open NdefX in
theorem held0 {F : LF} {N : List Str} {a : Str} {tb : TE} {k : Nat} {sp : Sp} (S : NScope N [a] [] F.scope) (hb : ∀ (pm ctv : Value) (us : List Value), us.length = 1 → bindArgs (PySem.W.kla_fn "<lambda>" F.qual F.params F.body F.scope [] pm (.ref F.c) ctv) ⟨us, []⟩ = pure ([a].zip us))
    (hbody : ∀ (f : Addr) (A : Around) (outer : List Env) (s : Shared) (H : Hp), F.cl = [] → Room k (A.deeper (envF F.nf f s.heap.objs.size)) → PE (ncx CX0 P w K mg base N F.nf f A outer s H E0).nox F.body tb)
    (len : ∀ vs H Q, sp vs H Q E0 → vs.length = 1) (hq : ∀ vs H Q, sp vs H Q E0 → tb (startF N vs []) H Q) : HeldL P w K mg base (k + 1) (Tf0 F) sp := by
  refine ⟨fun f H H' ⟨h0, ⟨pm, ctv, h1⟩, h2⟩ s => ⟨h0, ⟨pm, ctv, s _ _ (by simp) h1⟩, s _ _ (by simp) h2⟩, fun f H h ⟨h0, ⟨pm, ctv, h1⟩, h2⟩ hok => ⟨_, _, _, _, fz_at hok h1⟩, fun A outer s H f us vs Q hr e0 ⟨h0, ⟨pm, ctv, h1⟩, h2⟩ r q => ?_⟩
  refine lam_run (ws := []) S (fun us hl => ?_) (fun hr2 => hbody f A outer s H h0 hr2) hr e0 (fz_at e0.hok h1) (codeO_at e0.hok h2) ?_ r (len _ _ _ q) (hq _ _ _ q)
  · rw [h0]; exact hb pm ctv us hl
  · rw [h0]
    exact ⟨rfl, fun y c z => (by cases z), fun x y c z => (by cases z), fun i y z => (by simp at z)⟩
open NdefX in
theorem held1 {F : LF} {N : List Str} {a y : Str} {cc : Addr} {v : V} {tb : TE} {k : Nat} {sp : Sp} (S : NScope N [a] [y] F.scope) (hb : ∀ (pm ctv : Value) (us : List Value), us.length = 1 → bindArgs (PySem.W.kla_fn "<lambda>" F.qual F.params F.body F.scope [(y, cc)] pm (.ref F.c) ctv) ⟨us, []⟩ = pure ([a].zip us))
    (hbody : ∀ (f : Addr) (A : Around) (outer : List Env) (s : Shared) (H : Hp), F.cl = [(y, cc)] → Room k (A.deeper (envF F.nf f s.heap.objs.size)) → PE (ncx CX0 P w K mg base N F.nf f A outer s H E0).nox F.body tb)
    (len : ∀ vs H Q, sp vs H Q E0 → vs.length = 1) (hq : ∀ vs H Q (o : Obj), H cc = some (Fz cc o) → sp vs H Q E0 → tb (startF N vs [some v]) (cut1 H cc) (fun r H2 => Q r (upd H2 cc (Fz cc o)))) : HeldL P w K mg base (k + 1) (Tf1 F y cc v) sp := by
  refine ⟨fun f H H' ⟨h0, ⟨pm, ctv, h1⟩, h2, o, u, h3, h4⟩ s => ⟨h0, ⟨pm, ctv, s _ _ (by simp) h1⟩, s _ _ (by simp) h2, o, u, s _ _ (by simp) h3, h4⟩, fun f H h ⟨h0, ⟨pm, ctv, h1⟩, h2⟩ hok => ⟨_, _, _, _, fz_at hok h1⟩, fun A outer s H f us vs Q hr e0 ⟨h0, ⟨pm, ctv, h1⟩, h2, o, u, h3, h4, h5⟩ r q => ?_⟩
  have ef := fz_at e0.hok h1
  have ec := fz_at e0.hok h3
  refine codeAny_mono (lam_run (ws := [some v]) (Q := fun r H2 => Q r (upd H2 cc (Fz cc o))) (H := cut1 H cc) S (fun us hl => ?_) (fun hr2 => hbody f A outer s (cut1 H cc) h0 hr2) hr (Env0.cut e0 h3) ef (codeO_at e0.hok h2) ?_ r (len _ _ _ q) (hq _ _ _ o h3 q)) fun rs s' h => CR.add e0 h3 h
  · rw [h0]; exact hb pm ctv us hl
  · rw [h0]
    have look : ∀ {z : Str} {c : Addr}, ([(y, cc)] : List (Str × Addr)).lookup z = some c → z = y ∧ c = cc := fun {z c} h => by
      by_cases e : z = y
      · subst e
        simp [List.lookup] at h
        exact ⟨rfl, h.symm⟩
      · have e2 : (z == y) = false := beq_eq_false_iff_ne.mpr e
        simp [List.lookup, e2] at h
    refine ⟨rfl, fun z c h => ?_, fun x z c ha hb' => (look ha).1.trans (look hb').1.symm, fun i z hz => ?_⟩
    · obtain ⟨_, rfl⟩ := look h
      exact ⟨cut1_at, _, o, ec, h4⟩
    · cases i with
      | zero =>
        obtain rfl : y = z := Option.some.inj hz
        refine ⟨cc, by simp [List.lookup], fun v' hv => ?_⟩
        obtain rfl : v = v' := Option.some.inj (Option.some.inj hv)
        exact ⟨u, h5, o, ec, h4⟩
      | succ i => simp at hz
end
/-! ### a lambda is made -/
/-- tables: place, name of the code objects that they tell -/
def tLambda (T : List (Addr × Str)) (P : Addr) (F : Addr → LF) : TE := fun σ H Q => LamX.Tabs T H ∧ ∀ (f c' : Addr) (pm ctv : Value) (H2 : Hp), Sx [P] H H2 → LamX.Tabs T H2 → H f = none → H2 f = none → H2 c' = some (LamX.CodeO c' (F c').qual) → (∀ b, b ≠ c' → H b = none → H2 b = none) →
  Q (.ref f) (upd H2 f (Fz f ((F c').obj pm ctv)))
section
variable {X : Cx}
open LamX in
theorem pe_lambda {T : List (Addr × Str)} {c P : Addr} {params : Arguments} {body : Expr} {scope : Scope} {pos : Pos} {cl : List (Str × Addr)} (TB : TabB X.base X.mg c P) (hcode : X.env.code = .ref c)
    (hm : (P, X.env.qual ++ "<lambda>") ∈ T) (hu : ∀ p ∈ T, p.1 = P → p.2 = X.env.qual ++ "<lambda>") (hdef : defaultsOf params X.env = ([], [])) (hfree : X.Ok → ∀ y ∈ scope.names, y.2 = .free → ∃ c, X.env.cells.lookup y.1 = some c)
    (hcl : cloFrom X.env.cells scope.names [] = cl) : PE X (.Lambda params body scope pos) (tLambda T P fun c' => ⟨X.env.qual ++ "<lambda>", params, body, scope, cl, c'⟩) := by
  subst hcl
  refine ⟨fun pins s σ H Q I ⟨hT, h⟩ => ?_⟩
  rcases hT _ hm with ⟨ps, hP, ht, ha⟩
  have hP : H P = some (.tbl ps) := hP
  have hfree := hfree I.ok
  have bP : (s.heap.BuiltinsAt X.mg P) := TB.bm.keeps I.bk
  have hP' : (s.heap.get? P = some { cls := .none, data := .fields ps }) := I.hok P _ hP
  refine (PySem.W.kla_eval hdef ?_)
  cases hc : (codeAmong pos ps.toList) with
  | some cv =>
    obtain ⟨c', rfl, hco⟩ := ha pos cv hc
    refine (PySem.W.kla_makeFunctionHit (mg := X.mg) (c := c) (P := P) (ps := ps) (closure_ok hfree) I.ok.glob (I.mod.glob.keeps I.bk) hcode (TB.code.keeps I.bk) hP' ht hc bP fun ctv h' tk hx hsz => ?_)
    exact ⟨.ref _, _, I.laid (t' := tk) (fun b o e => Heap.get?_push_of_some _ (hx b o e)) hsz (fz_ok (Heap.get?_push_size _ rfl)), rfl, h h'.objs.size c' _ ctv H (Sx.refl _) hT (I.hok.fresh hsz) (I.hok.fresh hsz) hco fun _ _ n => n⟩
  | none =>
    refine (PySem.W.kla_makeFunction (mg := X.mg) (c := c) (P := P) (ps := ps) (closure_ok hfree) I.ok.glob (I.mod.glob.keeps I.bk) hcode (TB.code.keeps I.bk) hP' ht hc TB.gP bP fun c' ctv h' tk hx hge hlt hrec htb => ?_)
    rcases hrec with ⟨c2, oc, vs, t, e2, hoc, hd, hv⟩
    cases e2
    have nC : (H c' = none) := I.hok.fresh hge
    have hsz : (s.heap.objs.size ≤ h'.objs.size) := Nat.le_trans hge (Nat.le_of_lt hlt)
    have nPc : P ≠ c' := ne_of_none hP nC
    have I1 := inv_table (q := X.env.qual ++ "<lambda>") (t' := tk) (more := #[rawInt pos.line, rawInt pos.col, .ref c']) I hP hx htb hge ⟨oc, vs, t, hoc, hd, hv⟩
    have kH : ∀ b, b ≠ P → b ≠ c' → upd (upd H P (.tbl (ps ++ #[rawInt pos.line, rawInt pos.col, .ref c']))) c' (CodeO c' (X.env.qual ++ "<lambda>")) b = H b := fun b h1 h2 => by rw [upd_ne h2, upd_ne h1]
    have kC : ∀ b o, H b = some o → (∀ qs, o ≠ .tbl qs) → upd (upd H P (.tbl (ps ++ #[rawInt pos.line, rawInt pos.col, .ref c']))) c' (CodeO c' (X.env.qual ++ "<lambda>")) b = some o := fun b o e n => by
      rw [kH b (fun z => n ps (Option.some.inj (e.symm.trans (by rw [z]; exact hP)))) (ne_of_none e nC)]
      exact e
    have I2 := I1.laid (t' := tk) (h' := h'.push (PySem.W.kla_obj "<lambda>" (X.env.qual ++ "<lambda>") params body scope (cloFrom X.env.cells scope.names []) ((X.mg "__name__").getD .none) c' ctv)) (a := h'.objs.size) (o := Fz h'.objs.size (PySem.W.kla_obj "<lambda>" (X.env.qual ++ "<lambda>") params body scope (cloFrom X.env.cells scope.names []) ((X.mg "__name__").getD .none) c' ctv))
      (fun b o e => Heap.get?_push_of_some _ e) (Nat.le_refl _) (fz_ok (Heap.get?_push_size _ rfl))
    refine ⟨.ref _, _, I2, rfl, h h'.objs.size c' _ ctv _ (fun b o hb e => by rw [kH b (by simpa using hb) (ne_of_none e nC)]; exact e) (fun p hp => ?_) (I.hok.fresh hsz) ?_ upd_same fun b hb n => ?_⟩
    · by_cases hb : p.1 = P
      · rw [hu p hp hb, hb]
        have eL : ((ps ++ #[rawInt pos.line, rawInt pos.col, .ref c']).toList = ps.toList ++ [rawInt pos.line, rawInt pos.col, .ref c']) := by simp
        refine ⟨_, by rw [upd_ne nPc, upd_same], by rw [eL]; exact PySem.TriplesOk_snoc _ _ _ _ ht, fun p' cv hcv => ?_⟩
        rw [eL] at hcv
        obtain z | z := among_app _ ht hcv
        · rcases ha p' cv z with ⟨c0, e1, e2⟩
          exact ⟨c0, e1, kC _ _ e2 codeO_ne⟩
        · exact ⟨c', z, upd_same⟩
      · obtain ⟨qs, a1, a2, a3⟩ := hT p hp
        refine ⟨qs, by rw [kH _ hb (ne_of_none a1 nC)]; exact a1, a2, fun p' cv hcv => ?_⟩
        rcases a3 p' cv hcv with ⟨c0, e1, e2⟩
        exact ⟨c0, e1, kC _ _ e2 codeO_ne⟩
    · rw [kH _ (Nat.ne_of_gt (Nat.lt_of_lt_of_le (Heap.lt_size hP') hsz)) (Nat.ne_of_gt hlt)]
      exact I.hok.fresh hsz
    · rw [kH b (fun z => by rw [z, hP] at n; cases n) hb]
      exact n
/-- a call while a cell of the caller's (the name y in slot j) is told to the callee -/
def tCallC (X : Cx) (y : Str) (j : Nat) (sp : Sp) (t : TA) : TE := fun σ H Q => t σ H fun vs H1 => ∃ v, σ[j]? = some (some v) ∧ ∀ (cc : Addr) (oc : Obj) (u : Value), X.env.cells.lookup y = some cc → H1 cc = none → oc.data = .cell (some u) → RelV v u →
  sp vs (upd H1 cc (Fz cc oc)) (fun r H3 => Q r (cut1 H3 cc)) E0
theorem pe_callC {x y : Str} {p pos : Pos} {e : Expr} {es : List Expr} {t : TA} {k j : Nat} {f : Addr} {fd : FuncData} {ps : List Str} {sp : Sp} (F : FnOk X.prog X.w X.K X.mg X.base CX0 k f fd ps sp) (hr : Room k X.A) (hg : Gl X x) (hm : X.mg x = some (.ref f)) (hk : PySem.W.keepIn X.K (.ref f) = true)
    (hb : Binds X.K fd ps []) (ha : PA X (e :: es) t) (hN : X.N[j]? = some y) (hy : X.env.scope.names.lookup y = some .cell) (hfn : X.fn y = true) (hdb : (x == ("__debug__" : Str)) = false := by decide) (he : starEach (e :: es) X.env = (false, eval e X.env) :: starEach es X.env := by rfl) (hpl : (backTo pos (starEach es X.env)).any (·.1) = false := by rfl) :
    PE X (.Call (.Name x p) (e :: es) [] pos) (tCallC X y j sp t) := by
  refine ⟨fun pins s σ H Q I h => wpAny_Call_Name_kw (ld_glob I hg hm ?_ hdb)⟩
  refine PySem.W.callWith_K (h₀ := X.base) I.ok.mod.kin hk (thn (ha.run pos pins s σ H _ I h) fun us s1 ⟨vs, H1, I1, r, v, hv, q⟩ => ⟨I1.kIn, ?_⟩) he hpl
  obtain ⟨cc, hcc⟩ := I1.ok.has y (.inl hy)
  obtain ⟨m, hn, hl⟩ := I1.loc
  obtain ⟨u, ru, l⟩ := hl j y v hN hv (.inr (.inl hy))
  have ⟨oc, ho, hd⟩ : s1.heap.IsCell cc (some u) := by
    rcases l with ⟨z, _⟩ | ⟨_, c2, hc2, z⟩
    · have z' : (X.env.scope.names.lookup y = some .local) := z
      rw [hy] at z'; cases z'
    · rw [hcc] at hc2; cases hc2; exact z
  have nc : H1 cc = none := I1.freeC y cc hcc
  have above : X.s_0.heap.objs.size ≤ cc := I1.ok.cab y cc hfn hcc
  have nf : cc ∉ frs X.stack := fun hb => by
    rcases List.mem_cons.1 (I1.stkSub cc hb) with z | z
    · obtain ⟨ob, es', ep, ho2, hd2, _⟩ := hn
      rw [z, ho2] at ho
      cases ho
      rw [hd2] at hd; cases hd
    · obtain ⟨_, ob, ho2, _⟩ := I1.ok.funs.mem z
      exact Nat.lt_irrefl _ (Nat.lt_of_lt_of_le (Heap.lt_size ho2) above)
  have q := q cc oc u hcc nc hd ru
  have ll : (us ++ []).length = ps.length := by rw [List.append_nil, ← r.length]; exact F.len _ _ _ _ q
  have z := hb s1 us I1.kIn ll
  rw [List.append_nil] at z
  refine wpAny_call (codeAny_mono (F.run X.A X.stack s1 _ ⟨us, []⟩ us vs _ E0 hr (Env0.add I1.env0 nc ho nf (Nat.le_trans I1.ok.bsz above)) z r q) fun rs s' hq => ?_)
  match rs, CR.cut nc ho nf hq with
  | .ok (.ret u'), hq => exact I1.after hq
end
abbrev sPBareTest : Stmt := topS 24
abbrev nPBareTest : List Str := ["test"]
theorem scPBareTest : FnScope nPBareTest ["test"] (defScope sPBareTest) := ⟨rfl, rfl, rfl, by decide +kernel, rfl, by decide +kernel, by decide +kernel⟩
abbrev sPTestsWith : Stmt := topS 33
abbrev nPTestsWith : List Str := ["statement", "word"]
theorem scPTestsWith : FnScope nPTestsWith ["statement", "word"] (defScope sPTestsWith) := ⟨rfl, rfl, rfl, by decide +kernel, rfl, by decide +kernel, by decide +kernel⟩
abbrev sPSumOver : Stmt := topS 34
abbrev nPSumOver : List Str := ["block", "own", "total", "statement", "inner", "times", "part"]
theorem scPSumOver : FnScope nPSumOver ["block", "own"] (defScope sPSumOver) := ⟨rfl, rfl, rfl, by decide +kernel, rfl, by decide +kernel, by decide +kernel⟩
/-! ### sums over statements -/
def Ts.bare : Ts → Ts
  | .not t => t.bare
  | t => t
def Ts.hd : Ts → Str
  | .rest _ _ _ => "rest"
  | .less _ _ => "less"
  | .not _ => "not"
theorem Ts.at_ {H : Hp} {x : V} {t : Ts} (h : Tp H x t.d) : ∃ a xs, x = .ref a ∧ H a = some (.tup (.str t.hd :: xs)) := by
  have e : ∃ ds, t.d = .tuple (.str t.hd :: ds) := by cases t <;> exact ⟨_, rfl⟩
  obtain ⟨ds, e⟩ := e
  rw [e] at h
  obtain ⟨a, xs, rfl, ha, hx⟩ := h.tuple
  cases hx with
  | cons h hs =>
    obtain rfl := tpS h
    exact ⟨a, _, rfl, ha⟩
def Ts.nots : Ts → Nat
  | .not t => t.nots + 1
  | _ => 0
/-- whether it has a test with this word -/
def St.tw (z : Str) : St → Bool
  | .ite t _ _ => decide (V.str t.bare.hd = V.str z)
  | _ => false
mutual
def St.sumO (own : St → Int) : St → Int
  | .ite t y n => own (.ite t y n) + (y.sumO own + n.sumO own)
  | .rep k y => own (.rep k y) + k * y.sumO own
  | s => own s
def Bk.sumO (own : St → Int) : Bk → Int
  | .nil => 0
  | .cons s b => s.sumO own + b.sumO own
end
def St.times : St → Int
  | .rep k _ => k
  | _ => 1
theorem St.sumO_eq (own : St → Int) (s : St) : s.sumO own = own s + s.times * (s.blks.map fun b => b.sumO own).sum := by
  cases s with
  | ite t y n => simp [St.sumO, St.times, St.blks]
  | rep k y => simp [St.sumO, St.times, St.blks]
  | set z e => simp [St.sumO, St.times, St.blks]
  | pay e => simp [St.sumO, St.times, St.blks]
  | stop => simp [St.sumO, St.times, St.blks]
theorem Bk.sumO_lst (own : St → Int) : ∀ b : Bk, b.sumO own = (b.lst.map fun s => s.sumO own).sum
  | .nil => rfl
  | .cons s b => by rw [Bk.sumO, Bk.lst, List.map_cons, List.sum_cons, Bk.sumO_lst own b]
/-- the factors are small, blocks lie at most so deep -/
def Bk.fac (b : Bk) : Nat → Prop
  | 0 => False
  | d + 1 => b.lst.length < 16777216 ∧ ∀ s ∈ b.lst, -1000000 ≤ s.times ∧ s.times ≤ 1000000 ∧ ∀ y ∈ s.blks, y.fac d
theorem sne {x y : Str} (h : (x == y) = false) : ¬ (decide (V.str x = V.str y) = true) := fun z => by
  have e := V.str.inj (of_decide_eq_true z)
  rw [e] at h
  simp at h
def spBare : Sp := fun vs H Q _ => ∃ (v : V) (t : Ts), vs = [v] ∧ Tp H v t.d ∧ ∀ v', Tp H v' t.bare.d → Q v' H
def spTestsWith : Sp := fun vs H Q _ => ∃ (v : V) (s : St) (z : Str), vs = [v, .str z] ∧ Tp H v s.d ∧ Q (.bl (s.tw z)) H
def spOwn (own : St → Int) : Sp := fun vs H Q _ => ∃ (v : V) (s : St), vs = [v] ∧ Tp H v s.d ∧ ∀ H', Sx [] H H' → Q (.int (own s)) H'
def spSum (T : Addr → Hp → Prop) (own : St → Int) (d : Nat) : Sp := fun vs H Q _ => ∃ (v : V) (b : Bk) (f : Addr), vs = [v, .ref f] ∧ Tp H v (.tuple b.ds) ∧ T f H ∧ b.fac d ∧ ∀ H', Sx [] H H' → Q (.int (b.sumO own)) H'
section
variable {w : World} {P : Program} {K : PySem.W.Frag} {mg : Str → Option Value} {base : Heap}
theorem ok_pbare {f : Addr} {fd : FuncData} {k : Nat} (F_pbare_test : Fun K "bare_test" "bare_test" sPBareTest f fd) : FnOk P w K mg base CX0 (k + 1) f fd ["test"] spBare := by
  refine F_pbare_test.ok scPBareTest (fun vs H Q E h => ?_) (fun cdv A outer s H vs Q E hr h => ?_)
  · obtain ⟨_, _, rfl, _⟩ := h
    rfl
  · obtain ⟨v, t, rfl, tt, q⟩ := h
    refine ⟨_, (C8.pss_cut (ps_while PassesOwn.never (pt_cmpR op_eq (pe_ix ix_tup (pv 0) pe_int (fun _ _ => rfl)) pe_str (nomark _)) (pss_one (ps_set (i := 0) scPBareTest.nd rfl (by first | exact Or.inl rfl | exact Or.inr rfl) (pe_ix ix_tup (pv 0) pe_int (fun _ _ => rfl)))))
      (pss_one (ps_ret (pv 0)))), ?_⟩
    refine ⟨fun σ H' => ∃ v', σ = [some v'] ∧ H' = H ∧ Tp H v' t.bare.d, ?_, ?_⟩
    · refine ⟨fun m σ H' => ∃ (v' : V) (t' : Ts), σ = [some v'] ∧ H' = H ∧ Tp H v' t'.d ∧ t'.bare = t.bare ∧ m = t'.nots, ⟨_, v, t, rfl, rfl, tt, rfl, rfl⟩, ?_⟩
      rintro m σ H' ⟨v', t', rfl, rfl, tt', hb, rfl⟩
      obtain ⟨a, xs, rfl, ha⟩ := Ts.at_ tt'
      refine ⟨_, rfl, a, _, _, .str t'.hd, rfl, rfl, SqT.of ha, at0 _ _, rfl, _, rfl, ?_⟩
      cases t' with
      | not u =>
        obtain ⟨a2, p1, p2, ea, hA, t1, t2⟩ := tp2 tt'
        cases ea
        refine iteP (by simp only [Ts.hd]; decide +kernel) ⟨fun σ H2 => σ = [some p2] ∧ H2 = H', fun σ H2 z => ⟨u.nots, Nat.lt_succ_self _, p2, u, z.1, z.2, t2, hb, rfl⟩, ?_⟩
        exact ⟨_, rfl, a, _, _, p2, rfl, rfl, SqT.of hA, rfl, rfl, rfl⟩
      | rest x b r => exact iteN (sne (show (("rest" : Str) == "not") = false by decide +kernel)) ⟨_, rfl, rfl, by rw [← hb]; exact tt'⟩
      | less x y => exact iteN (sne (show (("less" : Str) == "not") = false by decide +kernel)) ⟨_, rfl, rfl, by rw [← hb]; exact tt'⟩
    · rintro _ H' ⟨v', rfl, rfl, t'⟩
      exact ⟨_, rfl, q v' t'⟩
theorem ok_ptests {f fB : Addr} {fd fdB : FuncData} {k : Nat} (F_ptests_with : Fun K "tests_with" "tests_with" sPTestsWith f fd) (F_pbare_test : Fun K "bare_test" "bare_test" sPBareTest fB fdB) (G_pbare_test : FnOk P w K mg base CX0 1 fB fdB ["test"] spBare)
    (b_pbare_test : Binds K fdB ["test"] []) (m_pbare_test : mg "bare_test" = some (.ref fB)) : FnOk P w K mg base CX0 (k + 2) f fd ["statement", "word"] spTestsWith := by
  refine F_ptests_with.ok scPTestsWith (fun vs H Q E h => ?_) (fun cdv A outer s H vs Q E hr h => ?_)
  · obtain ⟨_, _, _, rfl, _⟩ := h
    rfl
  · obtain ⟨v, s, z, rfl, t, q⟩ := h
    refine ⟨_, (pss_one (ps_ret (pe_and (pe_cmpR op_eq (pe_ix ix_tup (pv 0) pe_int (fun _ _ => rfl)) pe_str (nomark _)) (pe_one (pe_cmpR op_eq (pe_ix ix_tup (pe_call G_pbare_test (hr.mono (by omega)) (by rfl) m_pbare_test F_pbare_test.kp b_pbare_test .nil pass0 (pa_cons (pe_ix ix_tup (pv 0) pe_int (fun _ _ => rfl)) pa_nil)) pe_int (fun _ _ => rfl)) (pv 1) (nomark _)))))), ?_⟩
    obtain ⟨a, xs, rfl, ha⟩ := St.at_ t
    refine ⟨_, rfl, a, _, _, .str s.hd, rfl, rfl, SqT.of ha, at0 _ _, rfl, _, rfl, ?_⟩
    cases s with
    | ite ts y n =>
      obtain ⟨a2, p1, p2, p3, p4, ea, hA, t1, t2, t3, t4⟩ := tp4 t
      cases ea
      refine iteP (by simp only [St.hd]; decide +kernel) ?_
      refine ⟨_, rfl, a, _, _, p2, rfl, rfl, SqT.of hA, rfl, p2, ts, rfl, t2, fun v' t' => ?_⟩
      obtain ⟨a3, xs3, rfl, ha3⟩ := Ts.at_ t'
      exact ⟨a3, _, _, .str ts.bare.hd, rfl, rfl, SqT.of ha3, at0 _ _, _, rfl, rfl, q⟩
    | set z e => exact iteN (sne (show (("set" : Str) == "if") = false by decide +kernel)) q
    | pay e => exact iteN (sne (show (("pay" : Str) == "if") = false by decide +kernel)) q
    | stop => exact iteN (sne (show (("stop" : Str) == "if") = false by decide +kernel)) q
    | rep k y => exact iteN (sne (show (("repeat" : Str) == "if") = false by decide +kernel)) q
theorem ok_psum {f fB : Addr} {fd fdB : FuncData} {T : Addr → Hp → Prop} {own : St → Int} (F_psum_over : Fun K "sum_over" "sum_over" sPSumOver f fd) (F_pblocks_of : Fun K "blocks_of" "blocks_of" sPBlocksOf fB fdB) (G_pblocks_of : FnOk P w K mg base CX0 1 fB fdB ["statement"] spBlocks)
    (b_psum_over : Binds K fd ["block", "own"] []) (b_pblocks_of : Binds K fdB ["statement"] []) (m_psum_over : mg "sum_over" = some (.ref f)) (m_pblocks_of : mg "blocks_of" = some (.ref fB)) (z_sum : mg "sum" = none) (hh_own : HeldL P w K mg base 4 T (spOwn own)) :
    ∀ d : Nat, FnOk P w K mg base CX0 (d + 5) f fd ["block", "own"] (spSum T own d) := by
  intro d
  induction d with
  | zero => exact ⟨fun vs H Q E h => by obtain ⟨_, _, _, rfl, _⟩ := h; rfl, fun _ _ _ _ _ _ _ _ _ _ _ _ _ h => by
      obtain ⟨_, _, _, _, _, _, h, _⟩ := h
      exact h.elim⟩
  | succ d G_psum_over =>
    refine F_psum_over.ok scPSumOver (fun vs H Q E h => ?_) (fun cdv A outer s H vs Q E hr h => ?_)
    · obtain ⟨_, _, _, rfl, _⟩ := h
      rfl
    · obtain ⟨v, b, f0, rfl, t, hT, ⟨hlen, hf⟩, q⟩ := h
      refine ⟨_, (pss_cons (ps_set (i := 2) scPSumOver.nd rfl (by first | exact Or.inl rfl | exact Or.inr rfl) pe_int)
      (C8.pss_cut (ps_for PassesOwn.never rfl (pi_tup (pv 0)) (pg_name (i := 3) scPSumOver.nd rfl (by first | exact Or.inl rfl | exact Or.inr rfl)) (pss_cons (ps_set (i := 4) scPSumOver.nd rfl (by first | exact Or.inl rfl | exact Or.inr rfl) (pe_callB (cr_sum rfl) (by rfl) z_sum boot_sum (pa_cons (pe_lc (own := [("part", 6)]) (g := gName 6) (tt := tYes) rfl scPSumOver.nd (pi_tup (pe_call G_pblocks_of (hr.mono (by omega)) (by rfl) m_pblocks_of F_pblocks_of.kp b_pblocks_of .nil pass0 (pa_cons (pv 3) pa_nil))) (blkOk_by (N := nPSumOver) (sc := defScope sPSumOver) (by decide +kernel)) (fun _ _ _ _ _ => (pg_name (i := 6) scPSumOver.nd rfl (by first | exact Or.inl rfl | exact Or.inr rfl))) (fun _ _ _ _ _ => pts_nil) (fun _ _ _ _ _ => (pe_call G_psum_over (hr.mono (by omega)) (by rfl) m_psum_over F_psum_over.kp b_psum_over .nil pass0 (pa_cons (pv 6) (pa_cons (pv 1) pa_nil))))) pa_nil)))
      (C8.pss_cut (ps_set (i := 5) scPSumOver.nd rfl (by first | exact Or.inl rfl | exact Or.inr rfl) (pe_ifExp (pt_cmpR op_eq (pe_ix ix_tup (pv 3) pe_int (fun _ _ => rfl)) pe_str (nomark _)) (pe_ix ix_tup (pv 3) pe_int (fun _ _ => rfl)) pe_int))
      (pss_one (ps_aug (i := 2) scPSumOver.nd rfl (.inl rfl) (pe_op op_add (pe_callT (i := 1) hh_own (hr.mono (by omega)) rfl (by first | exact .inl rfl | exact .inr (.inl rfl)) (pa_cons (pv 3) pa_nil)) (pe_op op_mul (pv 5) (pv 4))) ip_add)))))
      (pss_one (ps_ret (pv 2))))), ?_⟩
      obtain ⟨a, xs, rfl, ha, hx⟩ := t.tuple
      rw [b.ds_lst] at hx
      obtain ⟨hl, hg⟩ := hx.lst
      refine ⟨fun σ H1 => ∃ o3 o4 o5 o6, σ = [some (.ref a), some (.ref f0), some (.int (b.sumO own)), o3, o4, o5, o6] ∧ Sx [] H H1, ?_, ?_⟩
      · refine ⟨_, rfl, a, rfl, ⟨_, SqT.of ha⟩, for_tup (xs := xs)
          (fun i σ H1 => ∃ o3 o4 o5 o6, σ = [some (.ref a), some (.ref f0), some (.int ((b.lst.take i).map fun s => s.sumO own).sum), o3, o4, o5, o6] ∧ Sx [] H H1)
          ⟨_, _, _, _, rfl, Sx.refl _⟩ (fun i σ H1 _ z => by obtain ⟨_, _, _, _, _, z⟩ := z; exact SqT.of (z _ _ (by simp) ha)) (fun i x σ H1 hi z => ?_) (fun σ H1 z => ?_)⟩
        · obtain ⟨o3, o4, o5, o6, rfl, s1⟩ := z
          obtain ⟨st, hst, tst⟩ := hg i x hi
          have hmem : st ∈ b.lst := List.mem_of_getElem? hst
          obtain ⟨f1, f2, f3⟩ := hf st hmem
          have t1 := tst.keep s1.tk0
          refine gnm ?_
          refine ⟨_, rfl, x, st, rfl, t1, fun H2 v2 s2 t2 => ?_⟩
          obtain ⟨a2, ys, rfl, ha2, hy⟩ := t2.tuple
          rw [st.parts_blks] at hy
          obtain ⟨hl2, hg2⟩ := hy.lst
          have hT1 : T f0 H1 := hh_own.st _ _ _ hT s1
          refine ⟨a2, rfl, ⟨_, SqT.of ha2⟩, fun D hD => lc_tup (xs := ys)
            (fun j H3 => Sx [] H2 H3 ∧ H3 D = some (.lst (((st.blks.map fun b => b.sumO own).take j).map V.int))) ⟨Sx.n0 hD, upd_same⟩ (fun i H3 _ p => SqT.of (p.1 _ _ (by simp) ha2)) (fun j y H3 hj p => ?_) (fun H3 p => ?_)⟩
          · obtain ⟨p3, p4⟩ := p
            obtain ⟨b2, hb2, tb2⟩ := hg2 j y hj
            refine ⟨rfl, ?_⟩
            refine ⟨_, rfl, _, rfl, y, b2, f0, rfl, tb2.keep p3.tk0, hh_own.st _ _ _ hT1 (s2.trans p3), f3 b2 (List.mem_of_getElem? hb2), fun H4 s4 => ?_⟩
            have blk2 : st.blks.length ≤ 2 := by cases st <;> simp [St.blks]
            refine ⟨_, s4 _ _ (by simp) p4, lt_line (by rw [List.length_map, List.length_take, List.length_map]; omega), ?_, ?_⟩
            · exact (p3.trans s4).own hD
            · rw [upd_same, List.take_add_one, List.getElem?_map, hb2]
              simp
          · obtain ⟨p3, p4⟩ := p
            rw [hl2, List.take_of_length_le (by rw [List.length_map]; exact Nat.le_refl _)] at p4
            refine ⟨D, _, rfl, SqL.of p4, ?_⟩
            have s3 : Sx [] H H3 := (s1.trans s2).trans p3
            have t3 := tst.keep s3.tk0
            refine ⟨fun σ H4 => ∃ o6, σ = [some (.ref a), some (.ref f0), some (.int ((b.lst.take i).map fun s => s.sumO own).sum), some x, some (.int (st.blks.map fun b => b.sumO own).sum), some (.int st.times), o6] ∧ H4 = H3, ?_, ?_⟩
            · obtain ⟨ax, xs', rfl, hax⟩ := St.at_ t3
              refine ⟨_, rfl, ax, _, _, .str st.hd, rfl, rfl, SqT.of hax, at0 _ _, rfl, _, rfl, ?_⟩
              cases st with
              | rep k y =>
                obtain ⟨a', p1, p2, p3', ea, hA, q1, q2, q3⟩ := tp3 t3
                cases ea
                obtain rfl := tpI q2
                exact iteP (by simp only [St.hd]; decide +kernel) ⟨_, rfl, ax, _, _, _, rfl, rfl, SqT.of hA, rfl, _, rfl, rfl⟩
              | set z e => exact iteN (sne (show (("set" : Str) == "repeat") = false by decide +kernel)) ⟨_, rfl, rfl⟩
              | pay e => exact iteN (sne (show (("pay" : Str) == "repeat") = false by decide +kernel)) ⟨_, rfl, rfl⟩
              | stop => exact iteN (sne (show (("stop" : Str) == "repeat") = false by decide +kernel)) ⟨_, rfl, rfl⟩
              | ite ts y n => exact iteN (sne (show (("if" : Str) == "repeat") = false by decide +kernel)) ⟨_, rfl, rfl⟩
            · rintro _ _ ⟨o6, rfl, rfl⟩
              refine ⟨_, rfl, f0, rfl, hh_own.st _ _ _ hT s3, _, rfl, hh_own.st _ _ _ hT s3, x, st, rfl, t3, fun H5 s5 => ?_⟩
              refine ⟨_, rfl, _, rfl, _, _, rfl, rfl, .inl ⟨by omega, by omega⟩, ?_⟩
              refine ⟨_, _, rfl, rfl, _, _, rfl, rfl, ?_⟩
              have e : ((b.lst.take (i + 1)).map fun s => s.sumO own).sum = ((b.lst.take i).map fun s => s.sumO own).sum + (own st + st.times * (st.blks.map fun b => b.sumO own).sum) := by
                rw [List.take_add_one, hst, List.map_append, List.sum_append, ← St.sumO_eq]
                simp
              exact ⟨some x, some (.int (st.blks.map fun b => b.sumO own).sum), some (.int st.times), o6, by rw [e]; rfl, s3.trans s5⟩
        · obtain ⟨o3, o4, o5, o6, rfl, s1⟩ := z
          exact ⟨o3, o4, o5, o6, by rw [hl, List.take_length, ← Bk.sumO_lst], s1⟩
      · rintro _ H1 ⟨o3, o4, o5, o6, rfl, s1⟩
        exact ⟨_, rfl, q _ s1⟩
end
abbrev sPWeight : Stmt := topS 31
abbrev nPWeight : List Str := ["program"]
theorem scPWeight : FnScope nPWeight ["program"] (defScope sPWeight) := ⟨rfl, rfl, rfl, by decide +kernel, rfl, by decide +kernel, by decide +kernel⟩
abbrev sPTestedIn : Stmt := topS 32
abbrev nPTestedIn : List Str := ["block", "word"]
theorem scPTestedIn : FnScope nPTestedIn ["block", "word"] (defScope sPTestedIn) := ⟨rfl, rfl, rfl, by decide +kernel, rfl, by decide +kernel, by decide +kernel⟩
/-- the lambda at the end of a call that a def returns -/
def lamOf (st : Stmt) : Arguments × Expr × Scope := match defBody st with
  | [.Return (some (.Call _ [_, .Lambda p b s _] _ _)) _] => (p, b, s)
  | _ => (defArgs st, .Constant .none 0 ⟨0, 0, 0, 0⟩, defScope st)
def lamQ (q : Str) : Str := q ++ ".<locals>." ++ "<lambda>"
def TL (PW PT : Addr) : List (Addr × Str) := [(PW, lamQ "weight"), (PT, lamQ "tested_in")]
theorem tl_w {PW PT : Addr} (h : PW ≠ PT) : ∀ p ∈ TL PW PT, p.1 = PW → p.2 = lamQ "weight" := fun p hp e => by
  rcases List.mem_cons.1 hp with rfl | hp
  · rfl
  · rw [List.mem_singleton.mp hp] at e
    exact absurd e.symm h
theorem tl_t {PW PT : Addr} (h : PW ≠ PT) : ∀ p ∈ TL PW PT, p.1 = PT → p.2 = lamQ "tested_in" := fun p hp e => by
  rcases List.mem_cons.1 hp with rfl | hp
  · exact absurd e h
  · rw [(List.mem_singleton.mp hp)]
theorem lamFree0 (st : Stmt) (h : ((lamOf st).2.2.names.all fun y => !decide (y.2 = .free)) = true) : ∀ y ∈ (lamOf st).2.2.names, y.2 ≠ .free := fun y hy e => by
  have := List.all_eq_true.mp h y hy
  rw [e] at this
  simp at this
/-- a def whose code object is known -/
structure FunC (K : PySem.W.Frag) (x qual : Str) (st : Stmt) (f : Addr) (fd : FuncData) (c : Addr) : Prop where
  ex : ∃ (oc : Value) (od : Option Addr) (kV doc pm : Value) (an : Option Addr) (ct : Value) (osl : Array (Option Value)),
    fd = PySem.W.fnOf x qual (defArgs st) (defBody st) (defScope st) .none kV doc pm an (.ref c) ct ∧ K.lookup f = some ⟨oc, od, .func fd, osl⟩ ∧ PySem.W.codeIn K (.ref c) qual = true
  kp : (PySem.W.keepIn K (.ref f) = true)
theorem FunC.ok {P : Program} {w : World} {K : PySem.W.Frag} {mg : Str → Option Value} {base : Heap} {x qual : Str} {st : Stmt} {f c : Addr} {fd : FuncData} {N ps : List Str} {k : Nat} {sp : Sp} (F : FunC K x qual st f fd c) (S : FnScope N ps (defScope st)) (len : ∀ as H Q E, sp as H Q E → as.length = ps.length)
    (hbody : ∀ (A : Around) (outer : List Env) (s : Shared) (H : Hp) (as : List V) (Q : VK) (E : XK), Room k (A.deeper (envOfC qual (defScope st) s.heap.objs.size f (.ref c))) → sp as H Q E →
      ∃ t, PSs (cxOf CX0 P w K mg base N qual (defScope st) f (.ref c) A outer s H E).nox (defBody st) t ∧ t { nx := fun _ H' => Q .non H', rt := Q } (start N as) H) : FnOk P w K mg base CX0 (k + 1) f fd ps sp := by
  obtain ⟨oc, od, kV, doc, pm, an, ct, osl, rfl, lk, hcd⟩ := F.ex
  refine fn_of lk hcd S len fun A outer s H as Q E hr hsp => ?_
  obtain ⟨t, h, q⟩ := hbody A outer s H as Q E hr hsp
  exact ⟨t, h.nox, q⟩
abbrev FW (c' : Addr) : LF := ⟨lamQ "weight", (lamOf sPWeight).1, (lamOf sPWeight).2.1, (lamOf sPWeight).2.2, [], c'⟩
def spWeight (PW PT : Addr) (d : Nat) : Sp := fun vs H Q _ => ∃ (v : V) (b : Bk), vs = [v] ∧ Tp H v (.tuple b.ds) ∧ b.fac d ∧ LamX.Tabs (TL PW PT) H ∧ ∀ H', Sx [PW] H H' → LamX.Tabs (TL PW PT) H' → Q (.int (b.sumO fun _ => 1)) H'
theorem nsW : NdefX.NScope ["statement"] ["statement"] [] (lamOf sPWeight).2.2 := NdefX.nscope_by (by decide +kernel)
theorem nsT : NdefX.NScope ["statement", "word"] ["statement"] ["word"] (lamOf sPTestedIn).2.2 := NdefX.nscope_by (by decide +kernel)
theorem Tabs.sx {T : List (Addr × Str)} {H H' : Hp} (t : LamX.Tabs T H) (s : Sx [] H H') : LamX.Tabs T H' := t.ext fun b o e => s b o (by simp) e
section
variable {w : World} {P : Program} {K : PySem.W.Frag} {mg : Str → Option Value} {base : Heap}
theorem heldW (c' : Addr) : HeldL P w K mg base 4 (Tf0 (FW c')) (spOwn fun _ => 1) := by
  refine held0 (N := ["statement"]) (a := "statement") (k := 3) nsW (fun pm ctv us hl => ?_) (fun f A outer s H _ _ => (pe_int : PE _ (lamOf sPWeight).2.1 _)) (fun vs H Q h => ?_) (fun vs H Q h => ?_)
  · match us, hl with | [_], _ => rfl
  · obtain ⟨_, _, rfl, _⟩ := h
    rfl
  · obtain ⟨v, s, rfl, t, q⟩ := h
    exact q H (Sx.refl _)
theorem ok_pweight {f fS : Addr} {fd fdS : FuncData} {c PW PT : Addr} {D : Nat} (F_pweight : FunC K "weight" "weight" sPWeight f fd c) (F_psum_over : Fun K "sum_over" "sum_over" sPSumOver fS fdS) (TB : LamX.TabB base mg c PW) (hne : PW ≠ PT)
    (G_sum : ∀ (T : Addr → Hp → Prop) (own : St → Int), HeldL P w K mg base 4 T (spOwn own) → ∀ d : Nat, FnOk P w K mg base CX0 (d + 5) fS fdS ["block", "own"] (spSum T own d))
    (b_psum_over : Binds K fdS ["block", "own"] []) (m_psum_over : mg "sum_over" = some (.ref fS)) : FnOk P w K mg base CX0 (D + 6) f fd ["program"] (spWeight PW PT D) := by
  refine F_pweight.ok scPWeight (fun vs H Q E h => ?_) (fun A outer s H vs Q E hr h => ?_)
  · obtain ⟨_, _, rfl, _⟩ := h
    rfl
  · obtain ⟨v, b, rfl, t, hf, hT, q⟩ := h
    have G_psum_over : FnOk P w K mg base CX0 (D + 5) fS fdS ["block", "own"] (fun vs H Q E => ∃ c', spSum (Tf0 (FW c')) (fun _ => 1) D vs H Q E) := FnOk.ex fun c' => G_sum _ _ (heldW c') D
    refine ⟨_, (pss_one (ps_ret (pe_call G_psum_over (hr.mono (by omega)) (by rfl) m_psum_over F_psum_over.kp b_psum_over .nil pass0 (pa_cons (pv 0) (pa_cons (pe_lambda (T := TL PW PT) (cl := []) TB rfl (List.mem_cons_self ..) (tl_w hne) rfl (fun _ y hy e => absurd e (lamFree0 sPWeight (by decide +kernel) y hy)) rfl) pa_nil))))), ?_⟩
    refine ⟨_, rfl, hT, fun f0 c' pm ctv H2 s2 hT2 n1 n2 hc _ => ?_⟩
    refine ⟨c', v, b, f0, rfl, (t.keep (fun b xs e => s2 b _ ?_ e)).new n2, ⟨rfl, ⟨pm, ctv, upd_same⟩, by rw [upd_ne (ne_of_none hc n2)]; exact hc⟩, hf, fun H3 s3 => q H3 (s2.trans ((Sx.n0 n2).trans s3).nil) (Tabs.sx hT2 ((Sx.n0 n2).trans s3))⟩
    intro hb
    obtain ⟨ps, hP, _⟩ := hT _ (List.mem_cons_self ..)
    rw [List.mem_singleton.mp hb, show H PW = _ from hP] at e
    cases e
abbrev FT (c' cc : Addr) : LF := ⟨lamQ "tested_in", (lamOf sPTestedIn).1, (lamOf sPTestedIn).2.1, (lamOf sPTestedIn).2.2, [("word", cc)], c'⟩
def ownT (z : Str) (s : St) : Int := if s.tw z = true then 1 else 0
def spTested (PW PT : Addr) (d : Nat) : Sp := fun vs H Q _ => ∃ (v : V) (b : Bk) (z : Str), vs = [v, .str z] ∧ Tp H v (.tuple b.ds) ∧ b.fac d ∧ LamX.Tabs (TL PW PT) H ∧ ∀ H', Sx [PT] H H' → LamX.Tabs (TL PW PT) H' → Q (.int (b.sumO (ownT z))) H'
theorem lamFree1 : ∀ y ∈ (lamOf sPTestedIn).2.2.names, y.2 = .free → (defScope sPTestedIn).names.lookup y.1 = some .cell := by decide +kernel
theorem heldT {f : Addr} {fd : FuncData} (F_ptests_with : Fun K "tests_with" "tests_with" sPTestsWith f fd) (G_ptests_with : FnOk P w K mg base CX0 2 f fd ["statement", "word"] spTestsWith) (b_ptests_with : Binds K fd ["statement", "word"] []) (m_ptests_with : mg "tests_with" = some (.ref f)) (z_int : mg "int" = none)
    (c' cc : Addr) (z : Str) : HeldL P w K mg base 4 (Tf1 (FT c' cc) "word" cc (.str z)) (spOwn (ownT z)) := by
  refine held1 (N := ["statement", "word"]) (a := "statement") (k := 3) nsT (fun pm ctv us hl => ?_) (fun f A outer s H _ hr => (pe_callTy call_int1 (by rfl) z_int boot_int (pa_cons (pe_call G_ptests_with (hr.mono (by omega)) (by rfl) m_ptests_with F_ptests_with.kp b_ptests_with .nil pass0 (pa_cons (pv 0) (pa_cons (pv 1) pa_nil))) pa_nil) : PE _ (lamOf sPTestedIn).2.1 _)) (fun vs H Q h => ?_) (fun vs H Q o e h => ?_)
  · match us, hl with | [_], _ => rfl
  · obtain ⟨_, _, rfl, _⟩ := h
    rfl
  · obtain ⟨v, s, rfl, t, q⟩ := h
    refine ⟨_, rfl, _, rfl, v, s, z, rfl, t.keep (Tk.cut e), .inr ⟨_, rfl, ?_⟩⟩
    show Q _ (upd (cut1 H cc) cc (Fz cc o))
    rw [upd_cut e]
    exact q H (Sx.refl _)
theorem ok_ptested {f fS fT : Addr} {fd fdS fdT : FuncData} {c PW PT : Addr} {D : Nat} (F_ptested_in : FunC K "tested_in" "tested_in" sPTestedIn f fd c) (F_psum_over : Fun K "sum_over" "sum_over" sPSumOver fS fdS) (TB : LamX.TabB base mg c PT) (hne : PW ≠ PT)
    (F_ptests_with : Fun K "tests_with" "tests_with" sPTestsWith fT fdT) (G_ptests_with : FnOk P w K mg base CX0 2 fT fdT ["statement", "word"] spTestsWith) (b_ptests_with : Binds K fdT ["statement", "word"] []) (m_ptests_with : mg "tests_with" = some (.ref fT)) (z_int : mg "int" = none)
    (G_sum : ∀ (T : Addr → Hp → Prop) (own : St → Int), HeldL P w K mg base 4 T (spOwn own) → ∀ d : Nat, FnOk P w K mg base CX0 (d + 5) fS fdS ["block", "own"] (spSum T own d))
    (b_psum_over : Binds K fdS ["block", "own"] []) (m_psum_over : mg "sum_over" = some (.ref fS)) : FnOk P w K mg base CX0 (D + 6) f fd ["block", "word"] (spTested PW PT D) := by
  refine F_ptested_in.ok scPTestedIn (fun vs H Q E h => ?_) (fun A outer s H vs Q E hr h => ?_)
  · obtain ⟨_, _, _, rfl, _⟩ := h
    rfl
  · obtain ⟨v, b, z, rfl, t, hf, hT, q⟩ := h
    have G_psum_over : FnOk P w K mg base CX0 (D + 5) fS fdS ["block", "own"] (fun vs H Q E => ∃ i : Addr × Addr, spSum (Tf1 (FT i.1 i.2) "word" i.2 (.str z)) (ownT z) D vs H Q E) := FnOk.ex fun i => G_sum _ _ (heldT F_ptests_with G_ptests_with b_ptests_with m_ptests_with z_int i.1 i.2 z) D
    refine ⟨_, (pss_one (ps_ret (pe_callC (j := 1) G_psum_over (hr.mono (by omega)) (by rfl) m_psum_over F_psum_over.kp b_psum_over (pa_cons (pv 0) (pa_cons (pe_lambda (T := TL PW PT) (cl := [("word", s.heap.objs.size + 1)]) TB rfl (List.mem_cons_of_mem _ (List.mem_cons_self ..)) (tl_t hne) rfl (fun ok y hy e => ok.has _ (.inl (lamFree1 y hy e))) rfl) pa_nil)) rfl rfl rfl))), ?_⟩
    refine ⟨_, rfl, hT, fun f0 c' pm ctv H2 s2 hT2 n1 n2 hc _ => ⟨.str z, rfl, fun cc oc u hcc ncc hoc hu => ?_⟩⟩
    have ecc : s.heap.objs.size + 1 = cc := by
      have e : List.lookup ("word" : Str) ([("word", s.heap.objs.size + 1)] : List (Str × Addr)) = some cc := hcc
      simpa [List.lookup] using e
    subst ecc
    have n3 : H2 (s.heap.objs.size + 1) = none := by
      by_cases e : s.heap.objs.size + 1 = f0
      · rw [e]; exact n2
      · rw [upd_ne e] at ncc; exact ncc
    have nf : f0 ≠ s.heap.objs.size + 1 := fun e => by rw [e, upd_same] at ncc; cases ncc
    have kT : Tk H H2 := fun b xs e => s2 b _ (fun hb => by
      obtain ⟨ps, hP, _⟩ := hT _ (List.mem_cons_of_mem _ (List.mem_cons_self ..))
      rw [List.mem_singleton.mp hb, show H PT = _ from hP] at e
      cases e) e
    have hcf : c' ≠ f0 := ne_of_none hc n2
    have hcc2 : c' ≠ s.heap.objs.size + 1 := ne_of_none hc n3
    refine ⟨(c', s.heap.objs.size + 1), v, b, f0, rfl, ((t.keep kT).new n2).new ncc, ⟨rfl, ⟨pm, ctv, by rw [upd_ne nf]; exact upd_same⟩, by rw [upd_ne hcc2, upd_ne hcf]; exact hc, oc, u, upd_same, hoc, hu⟩, hf, fun H3 s3 => ?_⟩
    have s4 : Sx [] H2 (cut1 H3 (s.heap.objs.size + 1)) := (Sx.n0 n2).trans (s3.cut ncc)
    exact q _ (s2.trans s4.nil) (Tabs.sx hT2 s4)
end
abbrev sPIsBetween : Stmt := topS 18
abbrev nPIsBetween : List Str := ["value", "low", "high"]
theorem scPIsBetween : FnScope nPIsBetween ["value", "low", "high"] (defScope sPIsBetween) := ⟨rfl, rfl, rfl, by decide +kernel, rfl, by decide +kernel, by decide +kernel⟩
abbrev sPIsHeaded : Stmt := topS 19
abbrev nPIsHeaded : List Str := ["value", "word", "size"]
theorem scPIsHeaded : FnScope nPIsHeaded ["value", "word", "size"] (defScope sPIsHeaded) := ⟨rfl, rfl, rfl, by decide +kernel, rfl, by decide +kernel, by decide +kernel⟩
abbrev sPIsName : Stmt := topS 20
abbrev nPIsName : List Str := ["value", "letter"]
theorem scPIsName : FnScope nPIsName ["value"] (defScope sPIsName) := ⟨rfl, rfl, rfl, by decide +kernel, rfl, by decide +kernel, by decide +kernel⟩
abbrev sPIsExpression : Stmt := topS 21
abbrev nPIsExpression : List Str := ["value", "deep"]
theorem scPIsExpression : FnScope nPIsExpression ["value", "deep"] (defScope sPIsExpression) := ⟨rfl, rfl, rfl, by decide +kernel, rfl, by decide +kernel, by decide +kernel⟩
abbrev sPIsTest : Stmt := topS 22
abbrev nPIsTest : List Str := ["value", "nots"]
theorem scPIsTest : FnScope nPIsTest ["value", "nots"] (defScope sPIsTest) := ⟨rfl, rfl, rfl, by decide +kernel, rfl, by decide +kernel, by decide +kernel⟩
abbrev sPIsStatement : Stmt := topS 23
abbrev nPIsStatement : List Str := ["value"]
theorem scPIsStatement : FnScope nPIsStatement ["value"] (defScope sPIsStatement) := ⟨rfl, rfl, rfl, by decide +kernel, rfl, by decide +kernel, by decide +kernel⟩
abbrev sPBoundError : Stmt := topS 28
abbrev nPBoundError : List Str := ["program"]
theorem scPBoundError : FnScope nPBoundError ["program"] (defScope sPBoundError) := ⟨rfl, rfl, rfl, by decide +kernel, rfl, by decide +kernel, by decide +kernel⟩
/-! ### what statements look like, of typed ones -/
def Ex.nm : Ex → Prop
  | .int _ => True
  | .name z => NmOk z
  | .plus x y => x.nm ∧ y.nm
  | .minus x y => x.nm ∧ y.nm
  | .times _ x => x.nm
def Ts.nm : Ts → Prop
  | .rest x _ _ => x.nm
  | .less x y => x.nm ∧ y.nm
  | .not t => t.nm
def St.nm : St → Prop
  | .set z e => NmOk z ∧ e.nm
  | .pay e => e.nm
  | .ite t _ _ => t.nm
  | _ => True
def Ex.okB : Ex → Nat → Bool
  | .int i, n => decide (0 < n) && (decide (-99 ≤ i) && decide (i ≤ 99))
  | .name _, n => decide (0 < n)
  | .plus x y, n => decide (0 < n) && (x.okB (n - 1) && y.okB (n - 1))
  | .minus x y, n => decide (0 < n) && (x.okB (n - 1) && y.okB (n - 1))
  | .times f x, n => decide (0 < n) && ((decide (-9 ≤ f) && decide (f ≤ 9)) && x.okB (n - 1))
def Ts.okB : Ts → Nat → Bool
  | .rest x b r, _ => (decide (2 ≤ b) && decide (b ≤ 6)) && (x.okB 3 && (decide (0 ≤ r) && decide (r ≤ b - 1)))
  | .less x y, _ => x.okB 3 && y.okB 3
  | .not t, n => decide (0 < n) && t.okB (n - 1)
def St.okB : St → Bool
  | .set _ e => e.okB 3
  | .pay e => e.okB 3
  | .stop => true
  | .ite t _ _ => t.okB 2
  | .rep k _ => decide (1 ≤ k) && decide (k ≤ 8)
def HdV (H : Hp) (v : V) (hd : Option (Str × Nat)) : Prop := (∃ i, v = .int i ∧ hd = none) ∨ (∃ z, v = .str z ∧ hd = none) ∨ ∃ a h xs, v = .ref a ∧ H a = some (.tup (.str h :: xs)) ∧ hd = some (h, xs.length + 1)
def hdIs (hd : Option (Str × Nat)) (word : Str) (n : Int) : Bool := match hd with
  | none => false
  | some (h, m) => decide (V.int ((m : Nat) : Int) = V.int n) && decide (V.str h = V.str word)
def Ex.hdv : Ex → Option (Str × Nat)
  | .int _ => none
  | .name _ => none
  | .plus _ _ => some ("plus", 3)
  | .minus _ _ => some ("minus", 3)
  | .times _ _ => some ("times", 3)
def Ts.hdv : Ts → Option (Str × Nat)
  | .rest _ _ _ => some ("rest", 4)
  | .less _ _ => some ("less", 3)
  | .not _ => some ("not", 2)
def St.hdv : St → Option (Str × Nat)
  | .set _ _ => some ("set", 3)
  | .pay _ => some ("pay", 2)
  | .stop => some ("stop", 1)
  | .ite _ _ _ => some ("if", 4)
  | .rep _ _ => some ("repeat", 3)
theorem Ex.hdV {H : Hp} {v : V} {e : Ex} (t : Tp H v e.d) : HdV H v e.hdv := by
  cases e with
  | int i => exact .inl ⟨i, tpI t, rfl⟩
  | name z => exact .inr (.inl ⟨z, tpS t, rfl⟩)
  | plus x y => obtain ⟨a, p, q, r, rfl, ha, t1, _⟩ := tp3 t; obtain rfl := tpS t1; exact .inr (.inr ⟨a, _, _, rfl, ha, rfl⟩)
  | minus x y => obtain ⟨a, p, q, r, rfl, ha, t1, _⟩ := tp3 t; obtain rfl := tpS t1; exact .inr (.inr ⟨a, _, _, rfl, ha, rfl⟩)
  | times f x => obtain ⟨a, p, q, r, rfl, ha, t1, _⟩ := tp3 t; obtain rfl := tpS t1; exact .inr (.inr ⟨a, _, _, rfl, ha, rfl⟩)
theorem Ts.hdV {H : Hp} {v : V} {e : Ts} (t : Tp H v e.d) : HdV H v e.hdv := by
  cases e with
  | rest x b r => obtain ⟨a, p, q, r, s, rfl, ha, t1, _⟩ := tp4 t; obtain rfl := tpS t1; exact .inr (.inr ⟨a, _, _, rfl, ha, rfl⟩)
  | less x y => obtain ⟨a, p, q, r, rfl, ha, t1, _⟩ := tp3 t; obtain rfl := tpS t1; exact .inr (.inr ⟨a, _, _, rfl, ha, rfl⟩)
  | not x => obtain ⟨a, p, q, rfl, ha, t1, _⟩ := tp2 t; obtain rfl := tpS t1; exact .inr (.inr ⟨a, _, _, rfl, ha, rfl⟩)
theorem St.hdV {H : Hp} {v : V} {e : St} (t : Tp H v e.d) : HdV H v e.hdv := by
  cases e with
  | set z x => obtain ⟨a, p, q, r, rfl, ha, t1, _⟩ := tp3 t; obtain rfl := tpS t1; exact .inr (.inr ⟨a, _, _, rfl, ha, rfl⟩)
  | pay x => obtain ⟨a, p, q, rfl, ha, t1, _⟩ := tp2 t; obtain rfl := tpS t1; exact .inr (.inr ⟨a, _, _, rfl, ha, rfl⟩)
  | stop => obtain ⟨a, p, rfl, ha, t1⟩ := tp1 t; obtain rfl := tpS t1; exact .inr (.inr ⟨a, _, _, rfl, ha, rfl⟩)
  | ite x y z => obtain ⟨a, p, q, r, s, rfl, ha, t1, _⟩ := tp4 t; obtain rfl := tpS t1; exact .inr (.inr ⟨a, _, _, rfl, ha, rfl⟩)
  | rep k y => obtain ⟨a, p, q, r, rfl, ha, t1, _⟩ := tp3 t; obtain rfl := tpS t1; exact .inr (.inr ⟨a, _, _, rfl, ha, rfl⟩)
theorem hd_no {hd : Option (Str × Nat)} {w : Str} {n : Int} (h : hdIs hd w n = false) {A B : Prop} (q : B) : if hdIs hd w n = true then A else B := by rw [h]; exact q
theorem hd_yes {hd : Option (Str × Nat)} {w : Str} {n : Int} (h : hdIs hd w n = true) {A B : Prop} (q : A) : if hdIs hd w n = true then A else B := by rw [h]; exact q
theorem lc_str {x : Str} {g : TG} {tt : TT} {te : TE} {vs : List Nat} {σ : L2.St} {H1 : Hp} {D : Addr} {Qd : Hp → Prop} (Pv : Nat → Hp → Prop) (h0 : Pv 0 (upd H1 D (.lst [])))
    (hs : ∀ i c H, x.cps[i]? = some c → Pv i H → g (.str ⟨#[c]⟩) (wipe σ vs) H fun σ2 H2 => wipe σ2 vs = wipe σ vs ∧ tt σ2 H2 fun b H3 => if b = true then te σ2 H3 fun y H4 => ∃ acc, H4 D = some (.lst acc) ∧ acc.length < sizeLine ∧ Pv (i + 1) (upd H4 D (.lst (acc ++ [y]))) else Pv (i + 1) H3) (hd : ∀ H, Pv x.cps.size H → Qd H) :
    ∃ W : Nat → Nat → Hp → Prop, (∃ m, W 0 m (upd H1 D (.lst []))) ∧ ∀ i m H, W i m H → ((Its x).stop i H ∧ Qd H) ∨ ((Its x).go i H ∧ ∃ Nx : Hp → Prop, (∀ H', Nx H' → ∃ m', m' < m ∧ W (i + 1) m' H') ∧ ∀ y H', (Its x).yld i H y H' → g y (wipe σ vs) H' fun σ2 H2 => wipe σ2 vs = wipe σ vs ∧ tt σ2 H2 fun b H3 =>
      if (b = true) then te σ2 H3 fun y H4 => ∃ acc, H4 D = some (.lst acc) ∧ acc.length < sizeLine ∧ Nx (upd H4 D (.lst (acc ++ [y]))) else Nx H3) := by
  refine ⟨fun i m H => m = x.cps.size - i ∧ i ≤ x.cps.size ∧ Pv i H, ⟨x.cps.size, by simp, Nat.zero_le _, h0⟩, ?_⟩
  rintro i m H ⟨rfl, hi, p⟩
  by_cases hlt : i < x.cps.size
  · exact .inr ⟨hlt, Pv (i + 1), fun H' p' => ⟨x.cps.size - (i + 1), by omega, rfl, hlt, p'⟩, fun v H' y => by obtain ⟨rfl, c, hc, rfl⟩ := y; exact hs i c _ hc p⟩
  · obtain rfl : i = x.cps.size := by omega
    exact (.inl ⟨Nat.le_refl _, hd H p⟩)
theorem not_word {z : Str} (h : z ∉ WordsK) : inV (.str z) (WordsK.map V.str) = false := by
  unfold inV
  rw [List.any_eq_false]
  intro y hy
  obtain ⟨x, hx, rfl⟩ := List.mem_map.mp hy
  have : x ≠ z := fun e => h (e ▸ hx)
  simp [eqV, this]
theorem ab_all : ((List.range 128).all fun c => !decide (97 ≤ c ∧ c ≤ 122) || decide (c ∈ (Str.ofString "abcdefghijklmnopqrstuvwxyz").cps.toList)) = true := by decide +kernel
theorem ab09_all : ((List.range 128).all fun c => !decide ((97 ≤ c ∧ c ≤ 122) ∨ (48 ≤ c ∧ c ≤ 57)) || decide (c ∈ (Str.ofString "abcdefghijklmnopqrstuvwxyz" ++ Str.ofString "0123456789").cps.toList)) = true := by decide +kernel
theorem ab_mem (c : Nat) (h : 97 ≤ c ∧ c ≤ 122) : c ∈ (Str.ofString "abcdefghijklmnopqrstuvwxyz").cps.toList := by
  have := List.all_eq_true.mp ab_all c (List.mem_range.mpr (by omega))
  rw [decide_eq_true h] at this
  simpa using this
theorem ab09_mem (c : Nat) (h : (97 ≤ c ∧ c ≤ 122) ∨ (48 ≤ c ∧ c ≤ 57)) : c ∈ (Str.ofString "abcdefghijklmnopqrstuvwxyz" ++ Str.ofString "0123456789").cps.toList := by
  have := List.all_eq_true.mp ab09_all c (List.mem_range.mpr (by omega))
  rw [decide_eq_true h] at this
  exact of_decide_eq_true (by simpa using this)
def spBetween : Sp := fun vs H Q _ => ∃ i lo hi : Int, vs = [.int i, .int lo, .int hi] ∧ Q (.bl (decide (lo ≤ i) && decide (i ≤ hi))) H
def spHeaded : Sp := fun vs H Q _ => ∃ (v : V) (hd : Option (Str × Nat)) (word : Str) (n : Int), vs = [v, .str word, .int n] ∧ HdV H v hd ∧ Q (.bl (hdIs hd word n)) H
def spName : Sp := fun vs H Q _ => ∃ z : Str, vs = [.str z] ∧ NmOk z ∧ ∀ H', Sx [] H H' → Q (.bl true) H'
def spIsExpr (m : Nat) : Sp := fun vs H Q _ => ∃ (v : V) (e : Ex) (n : Nat), vs = [v, .int n] ∧ n < m ∧ Tp H v e.d ∧ e.nm ∧ ∀ H', Sx [] H H' → Q (.bl (e.okB n)) H'
def spIsTest (m : Nat) : Sp := fun vs H Q _ => ∃ (v : V) (e : Ts) (n : Nat), vs = [v, .int n] ∧ n < m ∧ Tp H v e.d ∧ e.nm ∧ ∀ H', Sx [] H H' → Q (.bl (e.okB n)) H'
def spIsSt : Sp := fun vs H Q _ => ∃ (v : V) (s : St), vs = [v] ∧ Tp H v s.d ∧ s.nm ∧ ∀ H', Sx [] H H' → Q (.bl s.okB) H'
section
variable {w : World} {P : Program} {K : PySem.W.Frag} {mg : Str → Option Value} {base : Heap}
theorem ok_pbetween {f fI : Addr} {fd fdI : FuncData} {k : Nat} (F_pis_between : Fun K "is_between" "is_between" sPIsBetween f fd) (F_pis_integer : Fun K "is_integer" "is_integer" sPIsInteger fI fdI) (G_pis_integer : FnOk P w K mg base CX0 1 fI fdI ["value"] spIsInt)
    (b_pis_integer : Binds K fdI ["value"] []) (m_pis_integer : mg "is_integer" = some (.ref fI)) : FnOk P w K mg base CX0 (k + 2) f fd ["value", "low", "high"] spBetween := by
  refine F_pis_between.ok scPIsBetween (fun vs H Q E h => ?_) (fun cdv A outer s H vs Q E hr h => ?_)
  · obtain ⟨_, _, _, rfl, _⟩ := h
    rfl
  · obtain ⟨i, lo, hi, rfl, q⟩ := h
    refine ⟨_, (pss_one (ps_ret (pe_and (pe_call G_pis_integer (hr.mono (by omega)) (by rfl) m_pis_integer F_pis_integer.kp b_pis_integer .nil pass0 (pa_cons (pv 0) pa_nil)) (pe_one (pe_chain op_le op_le (pv 1) (pv 0) (pv 2)))))), ?_⟩
    refine ⟨_, rfl, _, true, rfl, .inl ⟨i, rfl, rfl⟩, _, rfl, iteT ?_⟩
    refine (⟨_, rfl, _, rfl, _, _, rfl, rfl, _, rfl, ?_⟩)
    by_cases h : lo ≤ i
    · rw [decide_eq_true h] at q ⊢
      exact iteT ⟨_, rfl, _, _, rfl, rfl, q⟩
    · rw [decide_eq_false h] at q ⊢
      exact iteF q
theorem ok_pheaded {f : Addr} {fd : FuncData} {k : Nat} (F_pis_headed : Fun K "is_headed" "is_headed" sPIsHeaded f fd) (z_isinstance : mg "isinstance" = none) (z_tuple : mg "tuple" = none) (z_len : mg "len" = none) : FnOk P w K mg base CX0 (k + 1) f fd ["value", "word", "size"] spHeaded := by
  refine F_pis_headed.ok scPIsHeaded (fun vs H Q E h => ?_) (fun cdv A outer s H vs Q E hr h => ?_)
  · obtain ⟨_, _, _, _, rfl, _⟩ := h
    rfl
  · obtain ⟨v, hd, word, n, rfl, hv, q⟩ := h
    refine ⟨_, (pss_one (ps_ret (pe_and (pe_callB call_isi (by rfl) z_isinstance (by decide +kernel) (pa_cons (pv 0) (pa_cons (pe_bltn (v := .ty "tuple") (by rfl) z_tuple (by decide +kernel) rfl) pa_nil))) (pe_and (pe_cmpR op_eq (pe_callB call_len_seq (by rfl) z_len boot_len (pa_cons (pv 0) pa_nil)) (pv 2) (nomark _)) (pe_one (pe_cmpR op_eq (pe_ix ix_tup (pv 0) pe_int (fun _ _ => rfl)) (pv 1) (nomark _))))))), ?_⟩
    rcases hv with ⟨i, rfl, rfl⟩ | ⟨z, rfl, rfl⟩ | ⟨a, h, xs, rfl, ha, rfl⟩
    · exact ⟨_, rfl, _, _, _, _, _, rfl, .ty _, .base (.int i), kit_ty (r := false) (by decide +kernel), _, rfl, iteF q⟩
    · exact ⟨_, rfl, _, _, _, _, _, rfl, .ty _, .base (.str z), kit_ty (r := false) (by decide +kernel), _, rfl, iteF q⟩
    · refine ⟨_, rfl, _, _, _, _, _, rfl, .ty _, .base (.tup ha), kit_ty (r := true) (by decide +kernel), _, rfl, iteT ?_⟩
      refine ⟨_, rfl, a, _, rfl, .inr (SqT.of ha), _, rfl, rfl, _, rfl, ?_⟩
      have q : Q (.bl (decide (V.int ((xs.length + 1 : Nat) : Int) = V.int n) && decide (V.str h = V.str word))) H := q
      rw [List.length_cons]
      by_cases e : V.int ((xs.length + 1 : Nat) : Int) = V.int n
      · rw [decide_eq_true e] at q ⊢
        exact iteT ⟨_, rfl, a, _, _, _, rfl, rfl, SqT.of ha, at0 _ _, _, rfl, rfl, q⟩
      · rw [decide_eq_false e] at q ⊢
        exact iteF q
theorem ok_pname {f : Addr} {fd : FuncData} {k : Nat} {a_WORDS : Addr} {tN : Tok} {tL tD : Tok} (F_pis_name : Fun K "is_name" "is_name" sPIsName f fd) (m_MAX_NAME : mg "MAX_NAME" = some (.int 8 tN)) (m_WORDS : mg "WORDS" = some (.ref a_WORDS)) (h_WORDS : ∀ H : Hp, SqT K H a_WORDS (WordsK.map V.str))
    (m_LETTERS : mg "LETTERS" = some (.str "abcdefghijklmnopqrstuvwxyz" tL)) (m_DIGITS : mg "DIGITS" = some (.str "0123456789" tD)) (z_isinstance : mg "isinstance" = none) (z_str : mg "str" = none) (z_len : mg "len" = none) (z_all : mg "all" = none) : FnOk P w K mg base CX0 (k + 1) f fd ["value"] spName := by
  refine F_pis_name.ok scPIsName (fun vs H Q E h => ?_) (fun cdv A outer s H vs Q E hr h => ?_)
  · obtain ⟨_, rfl, _⟩ := h
    rfl
  · obtain ⟨z, rfl, hz, q⟩ := h
    refine ⟨_, (pss_cons (ps_if (PW.pt (pw_or (pt_not (pt_val (pe_callB call_isi (by rfl) z_isinstance (by decide +kernel) (pa_cons (pv 0) (pa_cons (pe_bltn (v := .ty "str") (by rfl) z_str (by decide +kernel) rfl) pa_nil))))) (pw_or1 (pt_not (pt_chain op_le op_le pe_int (pe_callB call_len_str (by rfl) z_len boot_len (pa_cons (pv 0) pa_nil)) (pe_glob (v := .int 8) (by rfl) m_MAX_NAME ⟨_, rfl⟩)))))) (pss_one (ps_ret pe_bl)) pss_nil)
      (pss_cons (ps_if (PW.pt (pw_or (pt_cmpR op_in_seq (pv 0) (pe_glob (v := .ref a_WORDS) (by rfl) m_WORDS rfl) (by with_unfolding_all rfl)) (pw_or1 (pt_cmpR op_notIn_sign (pe_ix ix_str (pv 0) pe_int (fun _ _ => rfl)) (pe_glob (v := .str "abcdefghijklmnopqrstuvwxyz") (by rfl) m_LETTERS ⟨_, rfl⟩) (by with_unfolding_all rfl))))) (pss_one (ps_ret pe_bl)) pss_nil)
      (pss_one (ps_ret (pe_callB (cr_all rfl) (by rfl) z_all boot_all (pa_cons (pe_lc (own := [("letter", 1)]) (g := gName 1) (tt := tYes) rfl scPIsName.nd (pi_str (pv 0)) (blkOk_by (N := nPIsName) (sc := defScope sPIsName) (by decide +kernel)) (fun _ _ _ _ _ => (pg_name (i := 1) scPIsName.nd rfl (by first | exact Or.inl rfl | exact Or.inr rfl))) (fun _ _ _ _ _ => pts_nil) (fun _ _ _ _ _ => (pe_cmpR op_in_sign (pv 1) (pe_op op_add_str (pe_glob (v := .str "abcdefghijklmnopqrstuvwxyz") (by rfl) m_LETTERS ⟨_, rfl⟩) (pe_glob (v := .str "0123456789") (by rfl) m_DIGITS ⟨_, rfl⟩)) (by with_unfolding_all rfl)))) pa_nil)))))), ?_⟩
    have zl : z.length ≤ sizeLine := by have := hz.hi; show z.length ≤ 16777216; omega
    refine ⟨_, rfl, _, _, _, _, _, rfl, .ty _, .base (.str z), kit_ty (r := true) (by decide +kernel), _, rfl, iteF ?_⟩
    have z1 : decide ((1 : Int) ≤ (z.length : Int)) = true := decide_eq_true (by have := hz.lo; omega)
    have z8 : decide ((z.length : Int) ≤ 8) = true := decide_eq_true (by have := hz.hi; omega)
    refine ⟨_, rfl, z, rfl, zl, _, _, rfl, rfl, _, rfl, iteP z1 ⟨_, _, rfl, rfl, _, rfl, ?_⟩⟩
    rw [z8]
    refine iteF ?_
    refine ⟨_, rfl, a_WORDS, _, rfl, .inr (h_WORDS _), rfl, by decide +kernel, _, rfl, ?_⟩
    rw [not_word hz.kw]
    refine iteF ?_
    obtain ⟨c, hc⟩ : ∃ c, z.cps.toList[0]? = some c := by
      have := hz.lo
      cases e : z.cps.toList with
      | nil =>
        have : z.length = z.cps.toList.length := by simp [Str.length]
        rw [e] at this
        simp at this
        omega
      | cons c r => exact ⟨c, rfl⟩
    have c1 := hz.hd c hc
    have c2 := hz.sgn c (List.mem_of_getElem? hc)
    refine ⟨_, rfl, z, 0, c, rfl, rfl, zl, atI_nat (j := 0) hc, c, _, rfl, rfl, _, rfl, ?_⟩
    rw [decide_eq_true (ab_mem c (by omega))]
    refine iteF ?_
    refine ⟨_, rfl, z, rfl, fun D hD => lc_str (fun i H1 => Sx [] H H1 ∧ H1 D = some (.lst ((List.replicate i true).map V.bl))) ⟨Sx.n0 hD, upd_same⟩ (fun i c H1 hi p => ?_) (fun H1 p => ?_)⟩
    · refine ⟨rfl, ?_⟩
      have hm : c ∈ z.cps.toList := by
        rw [← Array.getElem?_toList] at hi
        exact List.mem_of_getElem? hi
      have hlen : i < z.length := (Array.getElem?_eq_some_iff.mp hi).1
      refine ⟨_, rfl, _, _, rfl, rfl, by decide +kernel, c, _, rfl, rfl, ?_⟩
      refine ⟨_, p.2, lt_line (by rw [List.length_map, List.length_replicate]; have := hz.hi; omega), p.1.own hD, ?_⟩
      rw [upd_same, decide_eq_true (ab09_mem c (hz.sgn c hm)), List.replicate_succ', List.map_append]
      rfl
    · refine ⟨D, _, rfl, SqL.of p.2, ?_⟩
      rw [show (List.replicate z.cps.size true).all id = true by simp]
      exact q _ p.1
end
section
variable {w : World} {P : Program} {K : PySem.W.Frag} {mg : Str → Option Value} {base : Heap}
theorem abs_le99 {i : Int} : decide ((if i < 0 then -i else i) ≤ 99) = (decide (-99 ≤ i) && decide (i ≤ 99)) := by
  rw [← Bool.decide_and, decide_eq_decide]
  split <;> omega
theorem ok_pexpr {f fI fB fH fN : Addr} {fd fdI fdB fdH fdN : FuncData} {d1 : List V} {t1 t2 : Tok} (F_pis_expression : FunD K "is_expression" "is_expression" (defArgs sPIsExpression) (defBody sPIsExpression) (defScope sPIsExpression) d1 [] f fd) (F_pis_integer : Fun K "is_integer" "is_integer" sPIsInteger fI fdI)
    (F_pis_between : Fun K "is_between" "is_between" sPIsBetween fB fdB) (F_pis_headed : Fun K "is_headed" "is_headed" sPIsHeaded fH fdH) (F_pis_name : Fun K "is_name" "is_name" sPIsName fN fdN)
    (G_pis_integer : FnOk P w K mg base CX0 1 fI fdI ["value"] spIsInt) (G_pis_between : FnOk P w K mg base CX0 2 fB fdB ["value", "low", "high"] spBetween) (G_pis_headed : FnOk P w K mg base CX0 1 fH fdH ["value", "word", "size"] spHeaded) (G_pis_name : FnOk P w K mg base CX0 1 fN fdN ["value"] spName)
    (b_pis_expression : Binds K fd ["value", "deep"] []) (b_pis_integer : Binds K fdI ["value"] []) (b_pis_between : Binds K fdB ["value", "low", "high"] []) (b_pis_headed : Binds K fdH ["value", "word", "size"] []) (b_pis_name : Binds K fdN ["value"] [])
    (m_pis_expression : mg "is_expression" = some (.ref f)) (m_pis_integer : mg "is_integer" = some (.ref fI)) (m_pis_between : mg "is_between" = some (.ref fB)) (m_pis_headed : mg "is_headed" = some (.ref fH)) (m_pis_name : mg "is_name" = some (.ref fN))
    (m_MAX_CONSTANT : mg "MAX_CONSTANT" = some (.int 99 t1)) (m_MAX_FACTOR : mg "MAX_FACTOR" = some (.int 9 t2)) (z_abs : mg "abs" = none) :
    ∀ m : Nat, FnOk P w K mg base CX0 (m + 3) f fd ["value", "deep"] (spIsExpr m) := by
  intro m
  induction m with
  | zero => exact ⟨fun vs H Q E h => by obtain ⟨_, _, _, rfl, _⟩ := h; rfl, fun _ _ _ _ _ _ _ _ _ _ _ _ _ h => by
      obtain ⟨_, _, _, _, h, _⟩ := h
      omega⟩
  | succ m G_pis_expression =>
    refine F_pis_expression.ok scPIsExpression (fun vs H Q E h => ?_) (fun cdv A outer s H vs Q E hr h => ?_)
    · obtain ⟨_, _, _, rfl, _⟩ := h
      rfl
    · obtain ⟨v, e, n, rfl, hn, t, nm, q⟩ := h
      refine ⟨_, PSs.nox (pss_cons (ps_if (pt_cmpR op_eq (pv 1) pe_int (nomark _)) (pss_one (ps_ret pe_bl)) pss_nil)
      (pss_cons (ps_if (pt_val (pe_call G_pis_integer (hr.mono (by omega)) (by rfl) m_pis_integer F_pis_integer.kp b_pis_integer .nil pass0 (pa_cons (pv 0) pa_nil))) (pss_one (ps_ret (pe_cmpR op_le (pe_callB call_abs (by rfl) z_abs boot_abs (pa_cons (pv 0) pa_nil)) (pe_glob (v := .int 99) (by rfl) m_MAX_CONSTANT ⟨_, rfl⟩) (nomark _)))) pss_nil)
      (pss_cons (ps_if (PW.pt (pw_or (pt_val (pe_call G_pis_headed (hr.mono (by omega)) (by rfl) m_pis_headed F_pis_headed.kp b_pis_headed .nil pass0 (pa_cons (pv 0) (pa_cons pe_str (pa_cons pe_int pa_nil))))) (pw_or1 (pt_val (pe_call G_pis_headed (hr.mono (by omega)) (by rfl) m_pis_headed F_pis_headed.kp b_pis_headed .nil pass0 (pa_cons (pv 0) (pa_cons pe_str (pa_cons pe_int pa_nil)))))))) (pss_one (ps_ret (pe_and (pe_call G_pis_expression (hr.mono (by omega)) (by rfl) m_pis_expression F_pis_expression.kp b_pis_expression .nil pass0 (pa_cons (pe_ix ix_tup (pv 0) pe_int (fun _ _ => rfl)) (pa_cons (pe_op op_sub (pv 1) pe_int) pa_nil))) (pe_one (pe_call G_pis_expression (hr.mono (by omega)) (by rfl) m_pis_expression F_pis_expression.kp b_pis_expression .nil pass0 (pa_cons (pe_ix ix_tup (pv 0) pe_int (fun _ _ => rfl)) (pa_cons (pe_op op_sub (pv 1) pe_int) pa_nil))))))) pss_nil)
      (pss_cons (ps_if (pt_val (pe_call G_pis_headed (hr.mono (by omega)) (by rfl) m_pis_headed F_pis_headed.kp b_pis_headed .nil pass0 (pa_cons (pv 0) (pa_cons pe_str (pa_cons pe_int pa_nil))))) (pss_one (ps_ret (pe_and (pe_call G_pis_between (hr.mono (by omega)) (by rfl) m_pis_between F_pis_between.kp b_pis_between .nil pass0 (pa_cons (pe_ix ix_tup (pv 0) pe_int (fun _ _ => rfl)) (pa_cons (pe_un un_neg (pe_glob (v := .int 9) (by rfl) m_MAX_FACTOR ⟨_, rfl⟩)) (pa_cons (pe_glob (v := .int 9) (by rfl) m_MAX_FACTOR ⟨_, rfl⟩) pa_nil)))) (pe_one (pe_call G_pis_expression (hr.mono (by omega)) (by rfl) m_pis_expression F_pis_expression.kp b_pis_expression .nil pass0 (pa_cons (pe_ix ix_tup (pv 0) pe_int (fun _ _ => rfl)) (pa_cons (pe_op op_sub (pv 1) pe_int) pa_nil))))))) pss_nil)
      (pss_one (ps_ret (pe_call G_pis_name (hr.mono (by omega)) (by rfl) m_pis_name F_pis_name.kp b_pis_name .nil pass0 (pa_cons (pv 0) pa_nil)))))))), ?_⟩
      refine (⟨_, rfl, rfl, _, rfl, ?_⟩)
      cases n with
      | zero =>
        refine iteP (decide_eq_true rfl) ?_
        have := q H (Sx.refl _)
        cases e <;> exact this
      | succ n =>
        refine iteN (fun z => by have := V.int.inj (of_decide_eq_true z); omega) ?_
        have e1 : ((n + 1 : Nat) : Int) - 1 = (n : Int) := by omega
        have q0 := q H (Sx.refl _)
        refine ⟨_, rfl, v, _, rfl, e.isIntV t, ?_⟩
        cases e with
        | int i =>
          obtain rfl := tpI t
          refine ⟨_, rfl, iteT ⟨_, rfl, i, rfl, _, _, rfl, rfl, ?_⟩⟩
          show Q (.bl (decide ((if i < 0 then -i else i) ≤ 99))) H
          rw [abs_le99]
          have q1 : Q (.bl (decide (0 < n + 1) && (decide (-99 ≤ i) && decide (i ≤ 99)))) H := q0
          rw [decide_eq_true (by omega : 0 < n + 1), Bool.true_and] at q1
          exact q1
        | name z =>
          obtain rfl := tpS t
          refine ⟨_, rfl, iteF ⟨_, rfl, _, none, _, _, rfl, .inr (.inl ⟨z, rfl, rfl⟩), _, rfl, hd_no rfl ⟨_, rfl, _, none, _, _, rfl, .inr (.inl ⟨z, rfl, rfl⟩), _, rfl, hd_no rfl ?_⟩⟩⟩
          refine ⟨_, rfl, _, none, _, _, rfl, .inr (.inl ⟨z, rfl, rfl⟩), _, rfl, hd_no rfl ?_⟩
          refine ⟨_, rfl, z, rfl, nm, fun H' s' => ?_⟩
          have := q H' s'
          rw [show (Ex.name z).okB (n + 1) = true from decide_eq_true (by omega)] at this
          exact this
        | plus x y =>
          have hv := Ex.hdV t
          obtain ⟨a, p, u, r, rfl, ha, t1, t2, t3⟩ := tp3 t
          refine ⟨_, rfl, iteF ⟨_, rfl, _, _, _, _, rfl, hv, _, rfl, hd_yes (show hdIs (some ("plus", 3)) "plus" 3 = true by decide +kernel) ?_⟩⟩
          refine ⟨_, rfl, a, _, _, u, rfl, rfl, SqT.of ha, rfl, _, rfl, _, 1, rfl, rfl, u, x, n, by show [u, V.int (((n + 1 : Nat) : Int) - 1)] = [u, V.int (n : Int)]; rw [e1], by omega, t2, nm.1, fun H1 s1 => ⟨_, rfl, ?_⟩⟩
          have q1 : ∀ H', Sx [] H H' → Q (.bl (x.okB n && y.okB n)) H' := fun H' s' => by
            have := q H' s'
            rw [show (Ex.plus x y).okB (n + 1) = (decide (0 < n + 1) && (x.okB n && y.okB n)) from rfl, decide_eq_true (by omega : 0 < n + 1), Bool.true_and] at this
            exact this
          cases hx : x.okB n with
          | false =>
            rw [hx] at q1
            exact iteF (q1 H1 s1)
          | true =>
            rw [hx] at q1
            exact iteT ⟨_, rfl, a, _, _, r, rfl, rfl, SqT.of (s1 _ _ (by simp) ha), rfl, _, rfl, _, 1, rfl, rfl, r, y, n, by show [r, V.int (((n + 1 : Nat) : Int) - 1)] = [r, V.int (n : Int)]; rw [e1], by omega, t3.keep s1.tk0, nm.2, fun H2 s2 => q1 H2 (s1.trans s2)⟩
        | minus x y =>
          have hv := Ex.hdV t
          obtain ⟨a, p, u, r, rfl, ha, t1, t2, t3⟩ := tp3 t
          refine ⟨_, rfl, iteF ⟨_, rfl, _, _, _, _, rfl, hv, _, rfl, hd_no (show hdIs (some ("minus", 3)) "plus" 3 = false by decide +kernel) ⟨_, rfl, _, _, _, _, rfl, hv, _, rfl, hd_yes (show hdIs (some ("minus", 3)) "minus" 3 = true by decide +kernel) ?_⟩⟩⟩
          refine ⟨_, rfl, a, _, _, u, rfl, rfl, SqT.of ha, rfl, _, rfl, _, 1, rfl, rfl, u, x, n, by show [u, V.int (((n + 1 : Nat) : Int) - 1)] = [u, V.int (n : Int)]; rw [e1], by omega, t2, nm.1, fun H1 s1 => ⟨_, rfl, ?_⟩⟩
          have q1 : ∀ H', Sx [] H H' → Q (.bl (x.okB n && y.okB n)) H' := fun H' s' => by
            have := q H' s'
            rw [show (Ex.minus x y).okB (n + 1) = (decide (0 < n + 1) && (x.okB n && y.okB n)) from rfl, decide_eq_true (by omega : 0 < n + 1), Bool.true_and] at this
            exact this
          cases hx : x.okB n with
          | false =>
            rw [hx] at q1
            exact iteF (q1 H1 s1)
          | true =>
            rw [hx] at q1
            exact iteT ⟨_, rfl, a, _, _, r, rfl, rfl, SqT.of (s1 _ _ (by simp) ha), rfl, _, rfl, _, 1, rfl, rfl, r, y, n, by show [r, V.int (((n + 1 : Nat) : Int) - 1)] = [r, V.int (n : Int)]; rw [e1], by omega, t3.keep s1.tk0, nm.2, fun H2 s2 => q1 H2 (s1.trans s2)⟩
        | times k x =>
          have hv := Ex.hdV t
          obtain ⟨a, p, u, r, rfl, ha, t1, t2, t3⟩ := tp3 t
          obtain rfl := tpI t2
          refine ⟨_, rfl, iteF ⟨_, rfl, _, _, _, _, rfl, hv, _, rfl, hd_no (show hdIs (some ("times", 3)) "plus" 3 = false by decide +kernel) ⟨_, rfl, _, _, _, _, rfl, hv, _, rfl, hd_no (show hdIs (some ("times", 3)) "minus" 3 = false by decide +kernel) ?_⟩⟩⟩
          refine ⟨_, rfl, _, _, _, _, rfl, hv, _, rfl, hd_yes (show hdIs (some ("times", 3)) "times" 3 = true by decide +kernel) ?_⟩
          refine ⟨_, rfl, a, _, _, _, rfl, rfl, SqT.of ha, rfl, 9, rfl, k, -9, 9, rfl, _, rfl, ?_⟩
          have q1 : ∀ H', Sx [] H H' → Q (.bl ((decide (-9 ≤ k) && decide (k ≤ 9)) && x.okB n)) H' := fun H' s' => by
            have := q H' s'
            rw [show (Ex.times k x).okB (n + 1) = (decide (0 < n + 1) && ((decide (-9 ≤ k) && decide (k ≤ 9)) && x.okB n)) from rfl, decide_eq_true (by omega : 0 < n + 1), Bool.true_and] at this
            exact this
          cases hx : (decide (-9 ≤ k) && decide (k ≤ 9)) with
          | false =>
            rw [hx] at q1
            exact iteF (q1 H (Sx.refl _))
          | true =>
            rw [hx] at q1
            exact iteT ⟨_, rfl, a, _, _, r, rfl, rfl, SqT.of ha, rfl, _, rfl, _, 1, rfl, rfl, r, x, n, by show [r, V.int (((n + 1 : Nat) : Int) - 1)] = [r, V.int (n : Int)]; rw [e1], by omega, t3, nm, fun H2 s2 => q1 H2 s2⟩
end
section
variable {w : World} {P : Program} {K : PySem.W.Frag} {mg : Str → Option Value} {base : Heap}
theorem ok_ptest {f fE fB fH : Addr} {fd fdE fdB fdH : FuncData} {d1 d2 : List V} {dv : Value} {t1 t2 : Tok} (F_pis_test : FunD K "is_test" "is_test" (defArgs sPIsTest) (defBody sPIsTest) (defScope sPIsTest) d1 [] f fd) (F_pis_expression : FunD K "is_expression" "is_expression" (defArgs sPIsExpression) (defBody sPIsExpression) (defScope sPIsExpression) d2 [] fE fdE)
    (F_pis_between : Fun K "is_between" "is_between" sPIsBetween fB fdB) (F_pis_headed : Fun K "is_headed" "is_headed" sPIsHeaded fH fdH)
    (G_pis_expression : FnOk P w K mg base CX0 7 fE fdE ["value", "deep"] (spIsExpr 4)) (G_pis_between : FnOk P w K mg base CX0 2 fB fdB ["value", "low", "high"] spBetween) (G_pis_headed : FnOk P w K mg base CX0 1 fH fdH ["value", "word", "size"] spHeaded)
    (b_pis_test : Binds K fd ["value", "nots"] []) (b_pis_expression1 : Binds K fdE ["value", "deep"] [dv]) (v_pis_expression : RelV (.int 3) dv) (b_pis_between : Binds K fdB ["value", "low", "high"] []) (b_pis_headed : Binds K fdH ["value", "word", "size"] [])
    (m_pis_test : mg "is_test" = some (.ref f)) (m_pis_expression : mg "is_expression" = some (.ref fE)) (m_pis_between : mg "is_between" = some (.ref fB)) (m_pis_headed : mg "is_headed" = some (.ref fH))
    (m_MIN_BY : mg "MIN_BY" = some (.int 2 t1)) (m_MAX_BY : mg "MAX_BY" = some (.int 6 t2)) :
    ∀ m : Nat, FnOk P w K mg base CX0 (m + 7) f fd ["value", "nots"] (spIsTest m) := by
  intro m
  induction m with
  | zero => exact ⟨fun vs H Q E h => by obtain ⟨_, _, _, rfl, _⟩ := h; rfl, fun _ _ _ _ _ _ _ _ _ _ _ _ _ h => by
      obtain ⟨_, _, _, _, h, _⟩ := h
      omega⟩
  | succ m G_pis_test =>
    refine F_pis_test.ok scPIsTest (fun vs H Q E h => ?_) (fun cdv A outer s H vs Q E hr h => ?_)
    · obtain ⟨_, _, _, rfl, _⟩ := h
      rfl
    · obtain ⟨v, e, n, rfl, hn, t, nm, q⟩ := h
      refine ⟨_, PSs.nox (pss_cons (ps_if (pt_val (pe_call G_pis_headed (hr.mono (by omega)) (by rfl) m_pis_headed F_pis_headed.kp b_pis_headed .nil pass0 (pa_cons (pv 0) (pa_cons pe_str (pa_cons pe_int pa_nil))))) (pss_one (ps_ret (pe_and (pe_cmpR op_gt (pv 1) pe_int (nomark _)) (pe_one (pe_call G_pis_test (hr.mono (by omega)) (by rfl) m_pis_test F_pis_test.kp b_pis_test .nil pass0 (pa_cons (pe_ix ix_tup (pv 0) pe_int (fun _ _ => rfl)) (pa_cons (pe_op op_sub (pv 1) pe_int) pa_nil))))))) pss_nil)
      (pss_cons (ps_if (pt_val (pe_call G_pis_headed (hr.mono (by omega)) (by rfl) m_pis_headed F_pis_headed.kp b_pis_headed .nil pass0 (pa_cons (pv 0) (pa_cons pe_str (pa_cons pe_int pa_nil))))) (pss_one (ps_ret (pe_and (pe_call G_pis_expression (hr.mono (by omega)) (by rfl) m_pis_expression F_pis_expression.kp b_pis_expression1 (.cons v_pis_expression .nil) pass0 (pa_cons (pe_ix ix_tup (pv 0) pe_int (fun _ _ => rfl)) pa_nil)) (pe_one (pe_call G_pis_expression (hr.mono (by omega)) (by rfl) m_pis_expression F_pis_expression.kp b_pis_expression1 (.cons v_pis_expression .nil) pass0 (pa_cons (pe_ix ix_tup (pv 0) pe_int (fun _ _ => rfl)) pa_nil)))))) pss_nil)
      (pss_cons (ps_if (PW.pt (pw_and (pt_val (pe_call G_pis_headed (hr.mono (by omega)) (by rfl) m_pis_headed F_pis_headed.kp b_pis_headed .nil pass0 (pa_cons (pv 0) (pa_cons pe_str (pa_cons pe_int pa_nil))))) (pw_and1 (pt_val (pe_call G_pis_between (hr.mono (by omega)) (by rfl) m_pis_between F_pis_between.kp b_pis_between .nil pass0 (pa_cons (pe_ix ix_tup (pv 0) pe_int (fun _ _ => rfl)) (pa_cons (pe_glob (v := .int 2) (by rfl) m_MIN_BY ⟨_, rfl⟩) (pa_cons (pe_glob (v := .int 6) (by rfl) m_MAX_BY ⟨_, rfl⟩) pa_nil)))))))) (pss_one (ps_ret (pe_and (pe_call G_pis_expression (hr.mono (by omega)) (by rfl) m_pis_expression F_pis_expression.kp b_pis_expression1 (.cons v_pis_expression .nil) pass0 (pa_cons (pe_ix ix_tup (pv 0) pe_int (fun _ _ => rfl)) pa_nil)) (pe_one (pe_call G_pis_between (hr.mono (by omega)) (by rfl) m_pis_between F_pis_between.kp b_pis_between .nil pass0 (pa_cons (pe_ix ix_tup (pv 0) pe_int (fun _ _ => rfl)) (pa_cons pe_int (pa_cons (pe_op op_sub (pe_ix ix_tup (pv 0) pe_int (fun _ _ => rfl)) pe_int) pa_nil)))))))) pss_nil)
      (pss_one (ps_ret pe_bl))))), ?_⟩
      have hv := Ts.hdV t
      cases e with
      | not u =>
        obtain ⟨a, p, x, rfl, ha, t1, t2⟩ := tp2 t
        refine ⟨_, rfl, _, _, _, _, rfl, hv, _, rfl, hd_yes (show hdIs (some ("not", 2)) "not" 2 = true by decide +kernel) ?_⟩
        refine (⟨_, rfl, _, _, rfl, rfl, _, rfl, ?_⟩)
        cases n with
        | zero =>
          refine iteN (by decide) ?_
          exact q H (Sx.refl _)
        | succ n =>
          refine iteP (decide_eq_true (by show ((n + 1 : Nat) : Int) > 0; omega)) ?_
          have e1 : ((n + 1 : Nat) : Int) - 1 = (n : Int) := by omega
          refine ⟨_, rfl, a, _, _, x, rfl, rfl, SqT.of ha, rfl, _, rfl, _, 1, rfl, rfl, x, u, n, by show [x, V.int (((n + 1 : Nat) : Int) - 1)] = [x, V.int (n : Int)]; rw [e1], by omega, t2, nm, fun H' s' => ?_⟩
          have := q H' s'
          rw [show (Ts.not u).okB (n + 1) = (decide (0 < n + 1) && u.okB n) from rfl, decide_eq_true (by omega : 0 < n + 1), Bool.true_and] at this
          exact this
      | less x y =>
        obtain ⟨a, p, u, r, rfl, ha, t1, t2, t3⟩ := tp3 t
        refine ⟨_, rfl, _, _, _, _, rfl, hv, _, rfl, hd_no (show hdIs (some ("less", 3)) "not" 2 = false by decide +kernel) ?_⟩
        refine ⟨_, rfl, _, _, _, _, rfl, hv, _, rfl, hd_yes (show hdIs (some ("less", 3)) "less" 3 = true by decide +kernel) ?_⟩
        refine ⟨_, rfl, a, _, _, u, rfl, rfl, SqT.of ha, rfl, u, x, 3, rfl, by omega, t2, nm.1, fun H1 s1 => ⟨_, rfl, ?_⟩⟩
        have q1 : ∀ H', Sx [] H H' → Q (.bl (x.okB 3 && y.okB 3)) H' := q
        cases hx : x.okB 3 with
        | false =>
          rw [hx] at q1
          exact iteF (q1 H1 s1)
        | true =>
          rw [hx] at q1
          exact iteT ⟨_, rfl, a, _, _, r, rfl, rfl, SqT.of (s1 _ _ (by simp) ha), rfl, r, y, 3, rfl, by omega, t3.keep s1.tk0, nm.2, fun H2 s2 => q1 H2 (s1.trans s2)⟩
      | rest x b r =>
        obtain ⟨a, p, u, y, z, rfl, ha, t1, t2, t3, t4⟩ := tp4 t
        obtain rfl := tpI t3
        obtain rfl := tpI t4
        refine ⟨_, rfl, _, _, _, _, rfl, hv, _, rfl, hd_no (show hdIs (some ("rest", 4)) "not" 2 = false by decide +kernel) ?_⟩
        refine ⟨_, rfl, _, _, _, _, rfl, hv, _, rfl, hd_no (show hdIs (some ("rest", 4)) "less" 3 = false by decide +kernel) ?_⟩
        refine ⟨_, rfl, _, _, _, _, rfl, hv, _, rfl, hd_yes (show hdIs (some ("rest", 4)) "rest" 4 = true by decide +kernel) ?_⟩
        refine ⟨_, rfl, a, _, _, _, rfl, rfl, SqT.of ha, rfl, b, 2, 6, rfl, _, rfl, ?_⟩
        have q1 : ∀ H', Sx [] H H' → Q (.bl ((decide (2 ≤ b) && decide (b ≤ 6)) && (x.okB 3 && (decide (0 ≤ r) && decide (r ≤ b - 1))))) H' := q
        cases hb : (decide (2 ≤ b) && decide (b ≤ 6)) with
        | false =>
          rw [hb] at q1
          exact iteF (q1 H (Sx.refl _))
        | true =>
          rw [hb] at q1
          refine iteT ⟨_, rfl, a, _, _, u, rfl, rfl, SqT.of ha, rfl, u, x, 3, rfl, by omega, t2, nm, fun H1 s1 => ⟨_, rfl, ?_⟩⟩
          cases hx : x.okB 3 with
          | false =>
            rw [hx] at q1
            exact iteF (q1 H1 s1)
          | true =>
            rw [hx] at q1
            have ha1 := s1 _ _ (by simp) ha
            exact iteT ⟨_, rfl, a, _, _, _, rfl, rfl, SqT.of ha1, rfl, _, rfl, a, _, _, _, rfl, rfl, SqT.of ha1, rfl, _, 1, rfl, rfl, r, 0, b - 1, rfl, q1 H1 s1⟩
theorem ok_pstatement {f fE fB fH fN fT : Addr} {fd fdE fdB fdH fdN fdT : FuncData} {d1 d2 : List V} {dv dv2 : Value} {t1 : Tok} (F_pis_statement : Fun K "is_statement" "is_statement" sPIsStatement f fd) (F_pis_test : FunD K "is_test" "is_test" (defArgs sPIsTest) (defBody sPIsTest) (defScope sPIsTest) d1 [] fT fdT) (F_pis_expression : FunD K "is_expression" "is_expression" (defArgs sPIsExpression) (defBody sPIsExpression) (defScope sPIsExpression) d2 [] fE fdE)
    (F_pis_between : Fun K "is_between" "is_between" sPIsBetween fB fdB) (F_pis_headed : Fun K "is_headed" "is_headed" sPIsHeaded fH fdH) (F_pis_name : Fun K "is_name" "is_name" sPIsName fN fdN)
    (G_pis_test : FnOk P w K mg base CX0 10 fT fdT ["value", "nots"] (spIsTest 3)) (G_pis_expression : FnOk P w K mg base CX0 7 fE fdE ["value", "deep"] (spIsExpr 4)) (G_pis_between : FnOk P w K mg base CX0 2 fB fdB ["value", "low", "high"] spBetween) (G_pis_headed : FnOk P w K mg base CX0 1 fH fdH ["value", "word", "size"] spHeaded) (G_pis_name : FnOk P w K mg base CX0 1 fN fdN ["value"] spName)
    (b_pis_test1 : Binds K fdT ["value", "nots"] [dv2]) (v_pis_test : RelV (.int 2) dv2) (b_pis_expression1 : Binds K fdE ["value", "deep"] [dv]) (v_pis_expression : RelV (.int 3) dv) (b_pis_between : Binds K fdB ["value", "low", "high"] []) (b_pis_headed : Binds K fdH ["value", "word", "size"] []) (b_pis_name : Binds K fdN ["value"] [])
    (m_pis_test : mg "is_test" = some (.ref fT)) (m_pis_expression : mg "is_expression" = some (.ref fE)) (m_pis_between : mg "is_between" = some (.ref fB)) (m_pis_headed : mg "is_headed" = some (.ref fH)) (m_pis_name : mg "is_name" = some (.ref fN))
    (m_MAX_TIMES : mg "MAX_TIMES" = some (.int 8 t1)) (z_isinstance : mg "isinstance" = none) (z_tuple : mg "tuple" = none) : FnOk P w K mg base CX0 11 f fd ["value"] spIsSt := by
  refine F_pis_statement.ok scPIsStatement (fun vs H Q E h => ?_) (fun cdv A outer s H vs Q E hr h => ?_)
  · obtain ⟨_, _, rfl, _⟩ := h
    rfl
  · obtain ⟨v, e, rfl, t, nm, q⟩ := h
    refine ⟨_, (pss_cons (ps_if (pt_val (pe_call G_pis_headed (hr.mono (by omega)) (by rfl) m_pis_headed F_pis_headed.kp b_pis_headed .nil pass0 (pa_cons (pv 0) (pa_cons pe_str (pa_cons pe_int pa_nil))))) (pss_one (ps_ret (pe_and (pe_call G_pis_name (hr.mono (by omega)) (by rfl) m_pis_name F_pis_name.kp b_pis_name .nil pass0 (pa_cons (pe_ix ix_tup (pv 0) pe_int (fun _ _ => rfl)) pa_nil)) (pe_one (pe_call G_pis_expression (hr.mono (by omega)) (by rfl) m_pis_expression F_pis_expression.kp b_pis_expression1 (.cons v_pis_expression .nil) pass0 (pa_cons (pe_ix ix_tup (pv 0) pe_int (fun _ _ => rfl)) pa_nil)))))) pss_nil)
      (pss_cons (ps_if (pt_val (pe_call G_pis_headed (hr.mono (by omega)) (by rfl) m_pis_headed F_pis_headed.kp b_pis_headed .nil pass0 (pa_cons (pv 0) (pa_cons pe_str (pa_cons pe_int pa_nil))))) (pss_one (ps_ret (pe_call G_pis_expression (hr.mono (by omega)) (by rfl) m_pis_expression F_pis_expression.kp b_pis_expression1 (.cons v_pis_expression .nil) pass0 (pa_cons (pe_ix ix_tup (pv 0) pe_int (fun _ _ => rfl)) pa_nil)))) pss_nil)
      (pss_cons (ps_if (pt_val (pe_call G_pis_headed (hr.mono (by omega)) (by rfl) m_pis_headed F_pis_headed.kp b_pis_headed .nil pass0 (pa_cons (pv 0) (pa_cons pe_str (pa_cons pe_int pa_nil))))) (pss_one (ps_ret (pe_and (pe_call G_pis_test (hr.mono (by omega)) (by rfl) m_pis_test F_pis_test.kp b_pis_test1 (.cons v_pis_test .nil) pass0 (pa_cons (pe_ix ix_tup (pv 0) pe_int (fun _ _ => rfl)) pa_nil)) (pe_and (pe_callB call_isi (by rfl) z_isinstance (by decide +kernel) (pa_cons (pe_ix ix_tup (pv 0) pe_int (fun _ _ => rfl)) (pa_cons (pe_bltn (v := .ty "tuple") (by rfl) z_tuple (by decide +kernel) rfl) pa_nil))) (pe_one (pe_callB call_isi (by rfl) z_isinstance (by decide +kernel) (pa_cons (pe_ix ix_tup (pv 0) pe_int (fun _ _ => rfl)) (pa_cons (pe_bltn (v := .ty "tuple") (by rfl) z_tuple (by decide +kernel) rfl) pa_nil)))))))) pss_nil)
      (pss_cons (ps_if (pt_val (pe_call G_pis_headed (hr.mono (by omega)) (by rfl) m_pis_headed F_pis_headed.kp b_pis_headed .nil pass0 (pa_cons (pv 0) (pa_cons pe_str (pa_cons pe_int pa_nil))))) (pss_one (ps_ret (pe_and (pe_call G_pis_between (hr.mono (by omega)) (by rfl) m_pis_between F_pis_between.kp b_pis_between .nil pass0 (pa_cons (pe_ix ix_tup (pv 0) pe_int (fun _ _ => rfl)) (pa_cons pe_int (pa_cons (pe_glob (v := .int 8) (by rfl) m_MAX_TIMES ⟨_, rfl⟩) pa_nil)))) (pe_one (pe_callB call_isi (by rfl) z_isinstance (by decide +kernel) (pa_cons (pe_ix ix_tup (pv 0) pe_int (fun _ _ => rfl)) (pa_cons (pe_bltn (v := .ty "tuple") (by rfl) z_tuple (by decide +kernel) rfl) pa_nil))))))) pss_nil)
      (pss_one (ps_ret (pe_call G_pis_headed (hr.mono (by omega)) (by rfl) m_pis_headed F_pis_headed.kp b_pis_headed .nil pass0 (pa_cons (pv 0) (pa_cons pe_str (pa_cons pe_int pa_nil)))))))))), ?_⟩
    have hv := St.hdV t
    cases e with
    | set z x =>
      obtain ⟨a, p, u, r, rfl, ha, t1, t2, t3⟩ := tp3 t
      obtain rfl := tpS t2
      refine ⟨_, rfl, _, _, _, _, rfl, hv, _, rfl, hd_yes (show hdIs (some ("set", 3)) "set" 3 = true by decide +kernel) ?_⟩
      refine ⟨_, rfl, a, _, _, _, rfl, rfl, SqT.of ha, rfl, z, rfl, nm.1, fun H1 s1 => ⟨_, rfl, iteT ?_⟩⟩
      exact ⟨_, rfl, a, _, _, r, rfl, rfl, SqT.of (s1 _ _ (by simp) ha), rfl, r, x, 3, rfl, by omega, t3.keep s1.tk0, nm.2, fun H2 s2 => q H2 (s1.trans s2)⟩
    | pay x =>
      obtain ⟨a, p, u, rfl, ha, t1, t2⟩ := tp2 t
      refine ⟨_, rfl, _, _, _, _, rfl, hv, _, rfl, hd_no (show hdIs (some ("pay", 2)) "set" 3 = false by decide +kernel) ?_⟩
      refine ⟨_, rfl, _, _, _, _, rfl, hv, _, rfl, hd_yes (show hdIs (some ("pay", 2)) "pay" 2 = true by decide +kernel) ?_⟩
      exact ⟨_, rfl, a, _, _, u, rfl, rfl, SqT.of ha, rfl, u, x, 3, rfl, by omega, t2, nm, fun H2 s2 => q H2 s2⟩
    | stop =>
      refine ⟨_, rfl, _, _, _, _, rfl, hv, _, rfl, hd_no (show hdIs (some ("stop", 1)) "set" 3 = false by decide +kernel) ?_⟩
      refine ⟨_, rfl, _, _, _, _, rfl, hv, _, rfl, hd_no (show hdIs (some ("stop", 1)) "pay" 2 = false by decide +kernel) ?_⟩
      refine ⟨_, rfl, _, _, _, _, rfl, hv, _, rfl, hd_no (show hdIs (some ("stop", 1)) "if" 4 = false by decide +kernel) ?_⟩
      refine ⟨_, rfl, _, _, _, _, rfl, hv, _, rfl, hd_no (show hdIs (some ("stop", 1)) "repeat" 3 = false by decide +kernel) ?_⟩
      refine ⟨_, rfl, _, _, _, _, rfl, hv, ?_⟩
      rw [show hdIs St.stop.hdv "stop" 1 = true by decide +kernel]
      exact q H (Sx.refl _)
    | ite x y n =>
      obtain ⟨a, p, u, y', n', rfl, ha, t1, t2, t3, t4⟩ := tp4 t
      refine ⟨_, rfl, _, _, _, _, rfl, hv, _, rfl, hd_no (show hdIs (some ("if", 4)) "set" 3 = false by decide +kernel) ?_⟩
      refine ⟨_, rfl, _, _, _, _, rfl, hv, _, rfl, hd_no (show hdIs (some ("if", 4)) "pay" 2 = false by decide +kernel) ?_⟩
      refine ⟨_, rfl, _, _, _, _, rfl, hv, _, rfl, hd_yes (show hdIs (some ("if", 4)) "if" 4 = true by decide +kernel) ?_⟩
      refine ⟨_, rfl, a, _, _, u, rfl, rfl, SqT.of ha, rfl, u, x, 2, rfl, by omega, t2, nm, fun H1 s1 => ⟨_, rfl, ?_⟩⟩
      have q1 : ∀ H', Sx [] H H' → Q (.bl (x.okB 2)) H' := q
      cases hx : x.okB 2 with
      | false =>
        rw [hx] at q1
        exact iteF (q1 H1 s1)
      | true =>
        rw [hx] at q1
        have ha1 := s1 _ _ (by simp) ha
        obtain ⟨b1, xs1, rfl, hb1, _⟩ := (t3.keep s1.tk0).tuple
        obtain ⟨b2, xs2, rfl, hb2, _⟩ := (t4.keep s1.tk0).tuple
        refine iteT ⟨_, rfl, a, _, _, _, rfl, rfl, SqT.of ha1, rfl, _, _, _, _, _, rfl, .ty _, .base (.tup hb1), kit_ty (r := true) (by decide +kernel), _, rfl, iteT ?_⟩
        exact ⟨_, rfl, a, _, _, _, rfl, rfl, SqT.of ha1, rfl, _, _, _, _, _, rfl, .ty _, .base (.tup hb2), kit_ty (r := true) (by decide +kernel), q1 H1 s1⟩
    | rep k y =>
      obtain ⟨a, p, u, y', rfl, ha, t1, t2, t3⟩ := tp3 t
      obtain rfl := tpI t2
      refine ⟨_, rfl, _, _, _, _, rfl, hv, _, rfl, hd_no (show hdIs (some ("repeat", 3)) "set" 3 = false by decide +kernel) ?_⟩
      refine ⟨_, rfl, _, _, _, _, rfl, hv, _, rfl, hd_no (show hdIs (some ("repeat", 3)) "pay" 2 = false by decide +kernel) ?_⟩
      refine ⟨_, rfl, _, _, _, _, rfl, hv, _, rfl, hd_no (show hdIs (some ("repeat", 3)) "if" 4 = false by decide +kernel) ?_⟩
      refine ⟨_, rfl, _, _, _, _, rfl, hv, _, rfl, hd_yes (show hdIs (some ("repeat", 3)) "repeat" 3 = true by decide +kernel) ?_⟩
      refine ⟨_, rfl, a, _, _, _, rfl, rfl, SqT.of ha, rfl, k, 1, 8, rfl, _, rfl, ?_⟩
      have q1 : ∀ H', Sx [] H H' → Q (.bl (decide (1 ≤ k) && decide (k ≤ 8))) H' := q
      cases hx : (decide (1 ≤ k) && decide (k ≤ 8)) with
      | false =>
        rw [hx] at q1
        exact iteF (q1 H (Sx.refl _))
      | true =>
        rw [hx] at q1
        obtain ⟨b1, xs1, rfl, hb1, _⟩ := t3.tuple
        exact iteT ⟨_, rfl, a, _, _, _, rfl, rfl, SqT.of ha, rfl, _, _, _, _, _, rfl, .ty _, .base (.tup hb1), kit_ty (r := true) (by decide +kernel), q1 H (Sx.refl _)⟩
end
/-- the first bound that is passed -/
def Bk.bnd (b : Bk) : PyData :=
  if 24 < (b.sz : Int) then .tuple [.none, .str "places"] else if 30 < b.sumO (fun _ => 1) then .tuple [.none, .str "weight"]
  else if 2 < b.sumO (ownT "rest") then .tuple [.none, .str "rests"] else if 2 < b.sumO (ownT "less") then .tuple [.none, .str "comparings"] else .none
def spBound (PW PT : Addr) (d : Nat) : Sp := fun vs H Q _ => ∃ (v : V) (b : Bk), vs = [v] ∧ Tp H v (.tuple b.ds) ∧ b.fac d ∧ b.sz < 16777216 ∧ LamX.Tabs (TL PW PT) H ∧ ∀ H' r, Sx [PW, PT] H H' → LamX.Tabs (TL PW PT) H' → Tp H' r b.bnd → Q r H'
theorem tabs_tk {PW PT : Addr} {H H' : Hp} (hT : LamX.Tabs (TL PW PT) H) (s : Sx [PW, PT] H H') : Tk H H' := fun b xs e => s b _ (fun hb => by
  rcases List.mem_cons.1 hb with rfl | hb
  · obtain ⟨ps, hP, _⟩ := hT _ (List.mem_cons_self ..)
    rw [show H b = _ from hP] at e
    cases e
  · obtain ⟨ps, hP, _⟩ := hT _ (List.mem_cons_of_mem _ (List.mem_cons_self ..))
    rw [List.mem_singleton.mp hb, show H PT = _ from hP] at e
    cases e) e
section
variable {w : World} {P : Program} {K : PySem.W.Frag} {mg : Str → Option Value} {base : Heap}
theorem ok_pbound {f fP fW fT : Addr} {fd fdP fdW fdT : FuncData} {c1 c2 PW PT : Addr} {D : Nat} {t1 t2 t3 t4 : Tok} (F_pbound_error : Fun K "bound_error" "bound_error" sPBoundError f fd) (F_pplaces_in : Fun K "places_in" "places_in" sPPlacesIn fP fdP) (F_pweight : FunC K "weight" "weight" sPWeight fW fdW c1) (F_ptested_in : FunC K "tested_in" "tested_in" sPTestedIn fT fdT c2)
    (G_pplaces_in : FnOk P w K mg base CX0 6 fP fdP ["block"] spPlaces) (G_pweight : FnOk P w K mg base CX0 (D + 6) fW fdW ["program"] (spWeight PW PT D)) (G_ptested_in : FnOk P w K mg base CX0 (D + 6) fT fdT ["block", "word"] (spTested PW PT D))
    (b_pplaces_in : Binds K fdP ["block"] []) (b_pweight : Binds K fdW ["program"] []) (b_ptested_in : Binds K fdT ["block", "word"] []) (m_pplaces_in : mg "places_in" = some (.ref fP)) (m_pweight : mg "weight" = some (.ref fW)) (m_ptested_in : mg "tested_in" = some (.ref fT))
    (m_MAX_PLACES : mg "MAX_PLACES" = some (.int 24 t1)) (m_MAX_WEIGHT : mg "MAX_WEIGHT" = some (.int 30 t2)) (m_MAX_RESTS : mg "MAX_RESTS" = some (.int 2 t3)) (m_MAX_COMPARINGS : mg "MAX_COMPARINGS" = some (.int 2 t4)) : FnOk P w K mg base CX0 (D + 7) f fd ["program"] (spBound PW PT D) := by
  refine F_pbound_error.ok scPBoundError (fun vs H Q E h => ?_) (fun cdv A outer s H vs Q E hr h => ?_)
  · obtain ⟨_, _, rfl, _⟩ := h
    rfl
  · obtain ⟨v, b, rfl, t, hf, hz, hT, q⟩ := h
    refine ⟨_, (pss_cons (ps_if (pt_cmpR op_gt (pe_call G_pplaces_in (hr.mono (by omega)) (by rfl) m_pplaces_in F_pplaces_in.kp b_pplaces_in .nil pass0 (pa_cons (pv 0) pa_nil)) (pe_glob (v := .int 24) (by rfl) m_MAX_PLACES ⟨_, rfl⟩) (nomark _)) (pss_one (ps_ret (pe_tup (pa_cons pe_non (pa_cons pe_str pa_nil))))) pss_nil)
      (pss_cons (ps_if (pt_cmpR op_gt (pe_call G_pweight (hr.mono (by omega)) (by rfl) m_pweight F_pweight.kp b_pweight .nil pass0 (pa_cons (pv 0) pa_nil)) (pe_glob (v := .int 30) (by rfl) m_MAX_WEIGHT ⟨_, rfl⟩) (nomark _)) (pss_one (ps_ret (pe_tup (pa_cons pe_non (pa_cons pe_str pa_nil))))) pss_nil)
      (pss_cons (ps_if (pt_cmpR op_gt (pe_call G_ptested_in (hr.mono (by omega)) (by rfl) m_ptested_in F_ptested_in.kp b_ptested_in .nil pass0 (pa_cons (pv 0) (pa_cons pe_str pa_nil))) (pe_glob (v := .int 2) (by rfl) m_MAX_RESTS ⟨_, rfl⟩) (nomark _)) (pss_one (ps_ret (pe_tup (pa_cons pe_non (pa_cons pe_str pa_nil))))) pss_nil)
      (pss_cons (ps_if (pt_cmpR op_gt (pe_call G_ptested_in (hr.mono (by omega)) (by rfl) m_ptested_in F_ptested_in.kp b_ptested_in .nil pass0 (pa_cons (pv 0) (pa_cons pe_str pa_nil))) (pe_glob (v := .int 2) (by rfl) m_MAX_COMPARINGS ⟨_, rfl⟩) (nomark _)) (pss_one (ps_ret (pe_tup (pa_cons pe_non (pa_cons pe_str pa_nil))))) pss_nil)
      (pss_one (ps_ret pe_non)))))), ?_⟩
    unfold Bk.bnd at q
    have told : ∀ (z : Str) {H1 : Hp} {p : Addr}, H1 p = none → Tp (upd H1 p (.tup [.non, .str z])) (.ref p) (.tuple [.none, .str z]) := fun z H1 p hp => .tup upd_same (.cons .non (.cons (.str z) .nil))
    refine ⟨_, rfl, v, b, rfl, t, hz, fun H1 s1 => ⟨_, 24, rfl, rfl, _, rfl, ite2 (fun e => ?_) (fun e => ?_)⟩⟩
    · rw [if_pos (of_decide_eq_true e)] at q
      exact ⟨by show 2 ≤ sizeLine; decide, fun p hp => q _ _ (s1.new hp).nil (Tabs.sx hT (s1.new hp)) (told _ hp)⟩
    · rw [if_neg (fun z => e (decide_eq_true z))] at q
      refine ⟨_, rfl, v, b, rfl, t.keep s1.tk0, hf, Tabs.sx hT s1, fun H2 s2 hT2 => ⟨_, 30, rfl, rfl, _, rfl, ite2 (fun e => ?_) (fun e => ?_)⟩⟩
      · rw [if_pos (of_decide_eq_true e)] at q
        exact ⟨by show 2 ≤ sizeLine; decide, fun p hp => q _ _ ((s1.nil.trans (s2.mono (by simp))).new hp) (Tabs.sx hT2 (Sx.n0 hp)) (told _ hp)⟩
      · rw [if_neg (fun z => e (decide_eq_true z))] at q
        have s12 : Sx [PW, PT] H H2 := s1.nil.trans (s2.mono (by simp))
        refine ⟨_, rfl, v, b, "rest", rfl, t.keep (tabs_tk hT s12), hf, hT2, fun H3 s3 hT3 => ⟨_, 2, rfl, rfl, _, rfl, ite2 (fun e => ?_) (fun e => ?_)⟩⟩
        · rw [if_pos (of_decide_eq_true e)] at q
          exact ⟨by show 2 ≤ sizeLine; decide, fun p hp => q _ _ ((s12.trans (s3.mono (by simp))).new hp) (Tabs.sx hT3 (Sx.n0 hp)) (told _ hp)⟩
        · rw [if_neg (fun z => e (decide_eq_true z))] at q
          have s13 : Sx [PW, PT] H H3 := s12.trans (s3.mono (by simp))
          refine ⟨_, rfl, v, b, "less", rfl, t.keep (tabs_tk hT s13), hf, hT3, fun H4 s4 hT4 => ⟨_, 2, rfl, rfl, _, rfl, ite2 (fun e => ?_) (fun e => ?_)⟩⟩
          · rw [if_pos (of_decide_eq_true e)] at q
            exact ⟨by show 2 ≤ sizeLine; decide, fun p hp => q _ _ ((s13.trans (s4.mono (by simp))).new hp) (Tabs.sx hT4 (Sx.n0 hp)) (told _ hp)⟩
          · rw [if_neg (fun z => e (decide_eq_true z))] at q
            exact q _ _ (s13.trans (s4.mono (by simp))) hT4 .non
end
/-! ### what a run does not wake stays asleep -/
def isRet : Frame → Bool
  | .ret .. => true
  | .gen .. => false
/-- a generator that no run can wake -/
def Poison (x : GenState) : Prop := ∃ w l c p fs cl, x = .suspended (fun _ => .unsupported w) l c p fs cl
def GoodSt : GenState → Prop
  | .suspended _ _ _ _ fs _ => ∀ F ∈ fs, isRet F = true
  | _ => True
def EndRet : End → Prop
  | .ret _ => True
  | .susp _ _ _ _ _ _ fs => ∀ F ∈ fs, isRet F = true
/-- R is X but where X cannot be woken; there both look alike -/
def RelG (R X : Array GenState) : Prop := R.size = X.size ∧ ∀ (i : Nat) (x : GenState), X[i]? = some x → (R[i]? = some x ∧ GoodSt x) ∨ (Poison x ∧ ∃ r : GenState, R[i]? = some r ∧ r.seen = x.seen ∧ r.bare = x.bare)
def KeptG (R X R' X' : Array GenState) : Prop := ∀ (i : Nat) (x : GenState), X[i]? = some x → (Poison x ∨ x = .running) → X'[i]? = some x ∧ R'[i]? = R[i]?
theorem KeptG.refl {R X : Array GenState} : KeptG R X R X := fun _ _ h _ => ⟨h, rfl⟩
theorem KeptG.trans {R X R1 X1 R2 X2 : Array GenState} (a : KeptG R X R1 X1) (b : KeptG R1 X1 R2 X2) : KeptG R X R2 X2 := fun i x h p => by
  obtain ⟨h1, h2⟩ := a i x h p
  obtain ⟨h3, h4⟩ := b i x h1 p
  exact ⟨h3, h4.trans h2⟩
theorem no_run {M : Model} {Γ : PySem.Ctx} {p : Pos} {t : Sem PySem.Fin} {fs : List Frame} {s s' : Shared} {e : End} (h : Runs M Γ p t fs s e s') : ∀ w, t ≠ .unsupported w := by
  induction h with
  | segRet _ _ ih _ => exact ih
  | segGen _ _ ih _ => exact ih
  | segSuspOut _ _ ih => exact ih
  | segSuspGen _ _ _ _ ih _ => exact ih
  | _ => intro w z; cases z
theorem RelG.get {R X : Array GenState} (r : RelG R X) {i : Nat} {x : GenState} (h : X[i]? = some x) (n : ¬ Poison x) : R[i]? = some x ∧ GoodSt x := by
  rcases r.2 i x h with z | z
  · exact z
  · exact absurd z.1 n
theorem RelG.push {R X : Array GenState} {st : GenState} (r : RelG R X) (g : GoodSt st) : RelG (R.push st) (X.push st) ∧ KeptG R X (R.push st) (X.push st) := by
  obtain ⟨hs, hr⟩ := r
  refine ⟨⟨by rw [Array.size_push, Array.size_push, hs], fun i x h => ?_⟩, fun i x h _ => ?_⟩
  · by_cases hi : i = X.size
    · subst hi
      rw [Array.getElem?_push_size] at h
      cases h
      exact .inl ⟨by rw [← hs]; exact Array.getElem?_push_size .., g⟩
    · have h2 : X[i]? = some x := by rw [Array.getElem?_push, if_neg hi] at h; exact h
      have e : ∀ st, (R.push st)[i]? = R[i]? := fun st => by rw [Array.getElem?_push, if_neg (by rw [hs]; exact hi)]
      rw [e]
      exact hr i x h2
  · have hi : i < X.size := (Array.getElem?_eq_some_iff.mp h).1
    exact ⟨by rw [Array.getElem?_push, if_neg (Nat.ne_of_lt hi)]; exact h, by rw [Array.getElem?_push, if_neg (by rw [hs]; exact Nat.ne_of_lt hi)]⟩
theorem RelG.set {R X : Array GenState} {g : Nat} {st : GenState} (r : RelG R X) (hg : GoodSt st) : RelG (R.setIfInBounds g st) (X.setIfInBounds g st) := by
  obtain ⟨hs, hr⟩ := r
  refine ⟨by rw [Array.size_setIfInBounds, Array.size_setIfInBounds, hs], fun i x h => ?_⟩
  by_cases hi : g = i
  · subst hi
    by_cases hb : g < X.size
    · rw [Array.getElem?_setIfInBounds_self_of_lt hb] at h
      cases h
      exact .inl ⟨Array.getElem?_setIfInBounds_self_of_lt (by rw [hs]; exact hb), hg⟩
    · have := (Array.getElem?_eq_some_iff.mp h).1
      rw [Array.size_setIfInBounds] at this
      exact absurd this hb
  · rw [Array.getElem?_setIfInBounds_ne hi] at h ⊢
    exact hr i x h
/-- what is written at g, which was awake to nothing -/
theorem KeptG.at {R X R1 X1 : Array GenState} {g : Nat} {st : GenState} (k : KeptG R X R1 X1) (n : ∀ x, X[g]? = some x → ¬ (Poison x ∨ x = .running)) : KeptG R X (R1.setIfInBounds g st) (X1.setIfInBounds g st) := fun i x h p => by
  have hi : g ≠ i := fun z => by subst z; exact n x h p
  rw [Array.getElem?_setIfInBounds_ne hi, Array.getElem?_setIfInBounds_ne hi]
  exact k i x h p
theorem split_ret : ∀ {fs : List Frame}, (∀ F ∈ fs, isRet F = true) → splitAtGen fs = none
  | [], _ => rfl
  | .ret .. :: r, h => by
    show (splitAtGen r).map _ = none
    rw [split_ret fun F hF => h F (List.mem_cons_of_mem _ hF)]
    rfl
  | .gen .. :: r, h => by have := h _ List.mem_cons_self; cases this
theorem not_poison_fresh {c : Code} : ¬ Poison (.fresh c) := fun ⟨_, _, _, _, _, _, h⟩ => by cases h
theorem not_poison_running : ¬ Poison .running := fun ⟨_, _, _, _, _, _, h⟩ => by cases h
theorem not_poison_finished : ¬ Poison .finished := fun ⟨_, _, _, _, _, _, h⟩ => by cases h
theorem good_of {e : End} (h : EndRet e) : GoodSt e.genState := by
  cases e with
  | ret r => trivial
  | susp => exact h
theorem wake_free {x y : GenState} (h : some x = some y) (n : ¬ Poison x) (m : x ≠ .running) : ¬ (Poison y ∨ y = .running) := by
  cases h
  exact fun z => z.elim n m
theorem not_poison_run {M : Model} {Γ : PySem.Ctx} {p p₂ : Pos} {k : Resume → Sem PySem.Fin} {r : Resume} {fs fs₂ : List Frame} {s s' : Shared} {e : End} {l : List Value} {c : Code} {cl : Bool} {y : GenState} (h : Runs M Γ p (k r) fs s e s') (hy : y = .suspended k l c p₂ fs₂ cl) : ¬ Poison y := fun ⟨w, _, _, _, _, _, z⟩ => by
  rw [hy] at z
  injection z with z1
  exact no_run h w (by rw [z1])
theorem np_at {M : Model} {Γ : PySem.Ctx} {p p₂ : Pos} {k : Resume → Sem PySem.Fin} {r : Resume} {fs fs₂ : List Frame} {s s' : Shared} {e : End} {l : List Value} {c : Code} {cl : Bool} {G : Array GenState} {g : Nat} (_ : G[g]? = some (.suspended k l c p₂ fs₂ cl)) (h : Runs M Γ p (k r) fs s e s') : ¬ Poison (.suspended k l c p₂ fs₂ cl) := not_poison_run h rfl
theorem swap {M : Model} {Γ : PySem.Ctx} {p : Pos} {t : Sem PySem.Fin} {fs : List Frame} {s s' : Shared} {e : End} (h : Runs M Γ p t fs s e s') :
    (∀ F ∈ fs, isRet F = true) → ∀ R, RelG R s.gens → ∃ R', RelG R' s'.gens ∧ KeptG R s.gens R' s'.gens ∧ Runs M Γ p t fs { s with gens := R } e { s' with gens := R' } ∧ EndRet e := by
  induction h with
  | done => intro _ R r; exact ⟨R, r, .refl, .done, trivial⟩
  | raise => intro _ R r; exact ⟨R, r, .refl, .raise, trivial⟩
  | again q _ ih => intro hf R r; obtain ⟨R', r', k, h', e'⟩ := ih hf R r; exact ⟨R', r', k, .again q h', e'⟩
  | rule _ ih => intro hf R r; obtain ⟨R', r', k, h', e'⟩ := ih hf R r; exact ⟨R', r', k, .rule h', e'⟩
  | «at» _ ih => intro hf R r; obtain ⟨R', r', k, h', e'⟩ := ih hf R r; exact ⟨R', r', k, .at h', e'⟩
  | load ho _ ih => intro hf R r; obtain ⟨R', r', k, h', e'⟩ := ih hf R r; exact ⟨R', r', k, .load ho h', e'⟩
  | update ho _ ih => intro hf R r; obtain ⟨R', r', k, h', e'⟩ := ih hf R r; exact ⟨R', r', k, .update ho h', e'⟩
  | loadIfAlive _ ih => intro hf R r; obtain ⟨R', r', k, h', e'⟩ := ih hf R r; exact ⟨R', r', k, .loadIfAlive h', e'⟩
  | point _ ih => intro hf R r; obtain ⟨R', r', k, h', e'⟩ := ih hf R r; exact ⟨R', r', k, .point h', e'⟩
  | alloc _ ih => intro hf R r; obtain ⟨R', r', k, h', e'⟩ := ih hf R r; exact ⟨R', r', k, .alloc h', e'⟩
  | fresh _ ih => intro hf R r; obtain ⟨R', r', k, h', e'⟩ := ih hf R r; exact ⟨R', r', k, .fresh h', e'⟩
  | ask _ ih => intro hf R r; obtain ⟨R', r', k, h', e'⟩ := ih hf R r; exact ⟨R', r', k, .ask h', e'⟩
  | choose hn _ ih => intro hf R r; obtain ⟨R', r', k, h', e'⟩ := ih hf R r; exact ⟨R', r', k, .choose hn h', e'⟩
  | os _ ih => intro hf R r; obtain ⟨R', r', k, h', e'⟩ := ih hf R r; exact ⟨R', r', k, .os h', e'⟩
  | handled _ ih => intro hf R r; obtain ⟨R', r', k, h', e'⟩ := ih hf R r; exact ⟨R', r', k, .handled h', e'⟩
  | genState hg _ ih =>
    intro hf R r
    obtain ⟨R', r', k, h', e'⟩ := ih hf R r
    rcases r.2 _ _ hg with z | ⟨_, st, z1, z2, _⟩
    · exact ⟨R', r', k, .genState z.1 h', e'⟩
    · refine ⟨R', r', k, .genState z1 ?_, e'⟩
      rw [z2]
      exact h'
  | stack _ ih => intro hf R r; obtain ⟨R', r', k, h', e'⟩ := ih hf R r; exact ⟨R', r', k, .stack h', e'⟩
  | thread _ ih => intro hf R r; obtain ⟨R', r', k, h', e'⟩ := ih hf R r; exact ⟨R', r', k, .thread h', e'⟩
  | newGen _ ih =>
    intro hf R r
    obtain ⟨r1, k1⟩ := r.push (st := .fresh _) trivial
    obtain ⟨R', r', k, h', e'⟩ := ih hf _ r1
    refine ⟨R', r', k1.trans k, .newGen ?_, e'⟩
    rw [r.1]
    exact h'
  | call _ _ ih1 ih2 =>
    intro hf R r
    obtain ⟨R1, r1, k1, h1, _⟩ := ih1 (fun _ z => by cases z) R r
    obtain ⟨R2, r2, k2, h2, e2⟩ := ih2 hf R1 r1
    exact ⟨R2, r2, k1.trans k2, .call h1 h2, e2⟩
  | callSusp _ ih =>
    intro hf R r
    obtain ⟨R1, r1, k1, h1, e1⟩ := ih (fun _ z => by cases z) R r
    refine ⟨R1, r1, k1, .callSusp h1, fun F hF => ?_⟩
    rcases List.mem_append.1 hF with z | z
    · exact e1 F z
    · rw [List.mem_singleton.mp z]; rfl
  | yield => intro _ R r; exact ⟨R, r, .refl, .yield, fun _ z => by cases z⟩
  | resumeFresh hg _ hq _ ih1 ih2 =>
    intro hf R r
    obtain ⟨z1, _⟩ := r.get hg not_poison_fresh
    have nf : ∀ x, _ = some x → ¬ (Poison x ∨ x = .running) := fun x hx => wake_free (hg.symm.trans hx) not_poison_fresh (fun z => by cases z)
    have k1 : KeptG R _ _ _ := (KeptG.refl (R := R)).at (st := .running) nf
    obtain ⟨R1, r2, k2, h1, e1⟩ := ih1 (fun _ z => by cases z) _ (r.set (st := .running) trivial)
    obtain ⟨R2, r3, k3, h2, e2⟩ := ih2 hf _ (r2.set (good_of e1))
    exact ⟨R2, r3, ((k1.trans k2).at nf).trans k3, .resumeFresh z1 h1 hq h2, e2⟩
  | resumeSuspended hg hr hq _ ih1 ih2 =>
    intro hf R r
    have np := np_at hg hr
    rcases r.2 _ _ hg with ⟨z1, z2⟩ | ⟨z1, _⟩
    · have nf : ∀ x, _ = some x → ¬ (Poison x ∨ x = .running) := fun x hx => wake_free (hg.symm.trans hx) np (fun z => by cases z)
      have k1 : KeptG R _ _ _ := (KeptG.refl (R := R)).at (st := .running) nf
      obtain ⟨R1, r2, k2, h1, e1⟩ := ih1 z2 _ (r.set (st := .running) trivial)
      obtain ⟨R2, r3, k3, h2, e2⟩ := ih2 hf _ (r2.set (good_of e1))
      exact ⟨R2, r3, ((k1.trans k2).at nf).trans k3, .resumeSuspended z1 h1 hq h2, e2⟩
    · exact absurd z1 np
  | resumeJustStarted hg hv _ ih => intro hf R r; obtain ⟨R', r', k, h', e'⟩ := ih hf R r; exact ⟨R', r', k, .resumeJustStarted (r.get hg not_poison_fresh).1 hv h', e'⟩
  | resumeThrowFresh hg _ ih =>
    intro hf R r
    have nf : ∀ x, _ = some x → ¬ (Poison x ∨ x = .running) := fun x hx => wake_free (hg.symm.trans hx) not_poison_fresh (fun z => by cases z)
    have k1 : KeptG R _ _ _ := (KeptG.refl (R := R)).at (st := .finished) nf
    obtain ⟨R', r', k, h', e'⟩ := ih hf _ (r.set (st := .finished) trivial)
    exact ⟨R', r', k1.trans k, .resumeThrowFresh (r.get hg not_poison_fresh).1 h', e'⟩
  | resumeRunning hg _ ih => intro hf R r; obtain ⟨R', r', k, h', e'⟩ := ih hf R r; exact ⟨R', r', k, .resumeRunning (r.get hg not_poison_running).1 h', e'⟩
  | resumeFinished hg _ ih => intro hf R r; obtain ⟨R', r', k, h', e'⟩ := ih hf R r; exact ⟨R', r', k, .resumeFinished (r.get hg not_poison_finished).1 h', e'⟩
  | segRet _ _ ih1 ih2 =>
    intro hf R r
    obtain ⟨R1, r1, k1, h1, _⟩ := ih1 (fun _ z => by cases z) R r
    obtain ⟨R2, r2, k2, h2, e2⟩ := ih2 (fun F hF => hf F (List.mem_cons_of_mem _ hF)) R1 r1
    exact ⟨R2, r2, k1.trans k2, .segRet h1 h2, e2⟩
  | segGen _ _ ih1 ih2 => intro hf R r; have := hf _ List.mem_cons_self; cases this
  | segSuspOut hs _ ih =>
    intro hf R r
    obtain ⟨R1, r1, k1, h1, e1⟩ := ih (fun _ z => by cases z) R r
    refine ⟨R1, r1, k1, .segSuspOut hs h1, fun F hF => ?_⟩
    rcases List.mem_append.1 hF with z | z
    · exact e1 F z
    · exact hf F z
  | segSuspGen hs _ _ _ ih1 ih2 => intro hf R r; rw [split_ret hf] at hs; cases hs
theorem swap_returns {M : Model} {Γ : PySem.Ctx} {p : Pos} {s s' : Shared} {r : Result} (h : Returns M Γ p s r s') {R : Array GenState} (rr : RelG R s.gens) :
    ∃ R', RelG R' s'.gens ∧ KeptG R s.gens R' s'.gens ∧ Returns M Γ p { s with gens := R } r { s' with gens := R' } := by
  obtain ⟨R', a, b, c, _⟩ := swap h (fun _ z => by cases z) R rr
  exact ⟨R', a, b, c⟩
theorem swap_wakes {M : Model} {Γ : PySem.Ctx} {p : Pos} {g : Nat} {r : Resume} {s s' : Shared} {res : GenResult} (h : Wakes M Γ p g r s res s') {R : Array GenState} (rr : RelG R s.gens) :
    ∃ R', RelG R' s'.gens ∧ KeptG R s.gens R' s'.gens ∧ Wakes M Γ p g r { s with gens := R } res { s' with gens := R' } := by
  unfold Wakes at h
  cases hg : s.gens[g]? with
  | none => rw [hg] at h; exact h.elim
  | some x =>
    rw [hg] at h
    cases x with
    | fresh c =>
      obtain ⟨z1, _⟩ := rr.get hg not_poison_fresh
      have nf : ∀ x, s.gens[g]? = some x → ¬ (Poison x ∨ x = .running) := fun x hx => wake_free (hg.symm.trans hx) not_poison_fresh (fun z => by cases z)
      have fin : ∀ {e₁ : End} {s₁ : Shared}, Runs M (Γ.wake c p) p (M.den c) [] (s.setGen g .running) e₁ s₁ → e₁.quiet = true → ∃ R', RelG R' (s₁.setGen g e₁.genState).gens ∧ KeptG R s.gens R' (s₁.setGen g e₁.genState).gens ∧
          ∃ e s₂, Runs M (Γ.wake c p) p (M.den c) [] (({ s with gens := R } : Shared).setGen g .running) e s₂ ∧ e.quiet = true ∧ e₁.result = e.result ∧ ({ s₁.setGen g e₁.genState with gens := R' } : Shared) = s₂.setGen g e.genState := fun {e₁ s₁} hr hq => by
        obtain ⟨R1, r2, k2, h1, e1⟩ := swap hr (fun _ z => by cases z) _ (rr.set (st := .running) trivial)
        exact ⟨_, r2.set (good_of e1), (((KeptG.refl (R := R)).at (st := .running) nf).trans k2).at nf, e₁, { s₁ with gens := R1 }, h1, hq, rfl, rfl⟩
      cases r with
      | send v =>
        cases v with
        | none =>
          obtain ⟨e₁, s₁, hr, hq, rfl, rfl⟩ := h
          obtain ⟨R', a, b, e, s₂, c1, c2, c3, c4⟩ := fin hr hq
          refine ⟨R', a, b, ?_⟩
          unfold Wakes
          rw [show ({ s with gens := R } : Shared).gens[g]? = some (.fresh c) from z1]
          exact ⟨e, s₂, c1, c2, c3, c4⟩
        | _ =>
          obtain ⟨rfl, rfl⟩ := h
          refine ⟨R, rr, .refl, ?_⟩
          unfold Wakes
          rw [show ({ s' with gens := R } : Shared).gens[g]? = some (.fresh c) from z1]
          exact ⟨rfl, rfl⟩
      | throw x =>
        obtain ⟨rfl, rfl⟩ := h
        refine ⟨_, rr.set (st := .finished) trivial, (KeptG.refl (R := R)).at (st := .finished) nf, ?_⟩
        unfold Wakes
        rw [show ({ s with gens := R } : Shared).gens[g]? = some (.fresh c) from z1]
        exact ⟨rfl, rfl⟩
    | suspended k₀ l₀ c₀ p₀ fs₀ c9 =>
      obtain ⟨e₁, s₁, hr, hq, rfl, rfl⟩ := h
      have np := np_at hg hr
      have nf : ∀ x, s.gens[g]? = some x → ¬ (Poison x ∨ x = .running) := fun x hx => wake_free (hg.symm.trans hx) np (fun z => by cases z)
      obtain ⟨z1, z2⟩ := rr.get hg np
      obtain ⟨R1, r2, k2, h1, e1⟩ := swap hr z2 _ (rr.set (st := .running) trivial)
      refine ⟨_, r2.set (good_of e1), (((KeptG.refl (R := R)).at (st := .running) nf).trans k2).at nf, ?_⟩
      unfold Wakes
      rw [show ({ s with gens := R } : Shared).gens[g]? = some (.suspended k₀ l₀ c₀ p₀ fs₀ c9) from z1]
      exact ⟨e₁, { s₁ with gens := R1 }, h1, hq, rfl, rfl⟩
    | running =>
      obtain ⟨rfl, rfl⟩ := h
      refine ⟨R, rr, .refl, ?_⟩
      unfold Wakes
      rw [show ({ s' with gens := R } : Shared).gens[g]? = some .running from (rr.get hg not_poison_running).1]
      exact ⟨rfl, rfl⟩
    | finished =>
      obtain ⟨rfl, rfl⟩ := h
      refine ⟨R, rr, .refl, ?_⟩
      unfold Wakes
      rw [show ({ s' with gens := R } : Shared).gens[g]? = some .finished from (rr.get hg not_poison_finished).1]
      exact ⟨rfl, rfl⟩
/-- the same end, told of the awake state -/
def PutG {β : Type} (R X : Array GenState) (Q : β → Pos → Shared → Prop) : β → Pos → Shared → Prop := fun a p s' => ∃ X', RelG s'.gens X' ∧ KeptG R X s'.gens X' ∧ Q a p { s' with gens := X' }
theorem PutG.of {β : Type} {R X : Array GenState} {Q : β → Pos → Shared → Prop} {a : β} {p : Pos} {s : Shared} {R' : Array GenState} (r : RelG R' s.gens) (k : KeptG R X R' s.gens) (h : Q a p s) : PutG R X Q a p { s with gens := R' } := ⟨s.gens, r, k, h⟩
theorem PutG.trans {β : Type} {R X R1 X1 : Array GenState} {Q : β → Pos → Shared → Prop} (k : KeptG R X R1 X1) {a : β} {p : Pos} {s : Shared} (h : PutG R1 X1 Q a p s) : PutG R X Q a p s := by
  obtain ⟨X', r, k', q⟩ := h
  exact ⟨X', r, k.trans k', q⟩
open Sem (wp) in
theorem wp_swap {α : Type} (M : Model) (Γ : PySem.Ctx) (t : Sem α) : ∀ (Q : α → Pos → Shared → Prop) (E : Value → Pos → Shared → Prop) (p : Pos) (s : Shared) (R : Array GenState), RelG R s.gens → wp M Γ t Q E p s →
    wp M Γ t (PutG R s.gens Q) (PutG R s.gens E) p { s with gens := R } := by
  induction t with
  | pure a => intro Q E p s R r h; exact .of r .refl h
  | raise e => intro Q E p s R r h; exact .of r .refl h
  | unsupported _ => intro Q E p s R r h; exact h
  | finish _ => intro Q E p s R r h; exact h
  | rule _ k ih => intro Q E p s R r h; exact ih () Q E p s R r h
  | «at» p' k ih => intro Q E p s R r h; exact ih () Q E p' s R r h
  | load a _ k ih => intro Q E p s R r h; obtain ⟨o, ho, h⟩ := h; exact ⟨o, ho, ih o Q E p s R r h⟩
  | update a _ f k ih => intro Q E p s R r h; exact ⟨h.1, ih () Q E p { s with heap := s.heap.update a f } R r h.2⟩
  | loadIfAlive a k ih => intro Q E p s R r h; exact ih _ Q E p s R r h
  | point _ k ih => intro Q E p s R r h; exact ih () Q E p s R r h
  | register _ _ => intro Q E p s R r h; exact h
  | alloc o k ih => intro Q E p s R r h; exact ih _ Q E p { s with heap := s.heap.push o } R r h
  | fresh k ih => intro Q E p s R r h; exact ih _ Q E p { s with toks := s.toks + 1 } R r h
  | ask k ih => intro Q E p s R r h; exact ih _ Q E p s R r h
  | choose src m k ih => intro Q E p s R r h; exact ⟨h.1, ih _ Q E p { s with drawn := s.drawn.bump src } R r h.2⟩
  | os q _ k ih => intro Q E p s R r h; exact ih _ Q E p { s with os := (Os.step s.os q).1 } R r h
  | call c hd _ _ k ih =>
    intro Q E p s R r h
    obtain ⟨x, s₁, hr, h⟩ := h
    obtain ⟨R1, r1, k1, h1⟩ := swap_returns hr r
    exact ⟨x, { s₁ with gens := R1 }, h1, Sem.wp_mono M Γ (k x) (fun a p' s' z => z.trans k1) (fun a p' s' z => z.trans k1) p _ (ih x Q E p s₁ R1 r1 h)⟩
  | handled own k ih => intro Q E p s R r h; exact ih _ Q E p s R r h
  | genState g k ih =>
    intro Q E p s R r h
    obtain ⟨st, hs, h⟩ := h
    rcases r.2 _ _ hs with z | ⟨_, st', z1, z2, _⟩
    · exact ⟨st, z.1, ih _ Q E p s R r h⟩
    · refine ⟨st', z1, ?_⟩
      rw [z2]
      exact ih _ Q E p s R r h
  | newGen c k ih =>
    intro Q E p s R r h
    obtain ⟨r1, k1⟩ := r.push (st := .fresh c) trivial
    have h2 := ih _ Q E p { s with gens := s.gens.push (.fresh c) } _ r1 h
    show wp M Γ (k R.size) _ _ p _
    rw [r.1]
    exact Sem.wp_mono M Γ _ (fun a p' s' z => z.trans k1) (fun a p' s' z => z.trans k1) p _ h2
  | resume g x _ k ih =>
    intro Q E p s R r h
    obtain ⟨res, s₁, hw, h⟩ := h
    obtain ⟨R1, r1, k1, h1⟩ := swap_wakes hw r
    exact ⟨res, { s₁ with gens := R1 }, h1, Sem.wp_mono M Γ (k res) (fun a p' s' z => z.trans k1) (fun a p' s' z => z.trans k1) p _ (ih res Q E p s₁ R1 r1 h)⟩
  | yield _ _ _ _ => intro Q E p s R r h; exact h
  | stack k ih => intro Q E p s R r h; exact ih _ Q E p s R r h
  | fork _ _ => intro Q E p s R r h; exact h
  | thread k ih => intro Q E p s R r h; exact ih _ Q E p s R r h
  | await _ _ _ _ _ => intro Q E p s R r h; exact h
def cleanF (F : Frame) : Frame := .ret (fun _ => .unsupported "asleep") none false [] F.where_.1 F.where_.2 []
def poison : GenState → GenState
  | .suspended _ l c p fs cl => .suspended (fun _ => .unsupported "asleep") l c p (fs.map cleanF) cl
  | x => x
theorem poison_seen (x : GenState) : x.seen = (poison x).seen := by
  cases x with
  | suspended k l c p fs cl =>
    show (_, some ((c, p) :: fs.map Frame.where_)) = (_, some ((c, p) :: (fs.map cleanF).map Frame.where_))
    rw [List.map_map]
    rfl
  | _ => rfl
theorem poison_bare (x : GenState) : x.bare = (poison x).bare := by cases x <;> rfl
theorem relG_poison (G : Array GenState) : RelG G (G.map poison) := by
  refine ⟨(Array.size_map ..).symm, fun i x h => ?_⟩
  rw [Array.getElem?_map] at h
  obtain ⟨y, hy, rfl⟩ := Option.map_eq_some_iff.mp h
  cases y with
  | suspended k l c p fs cl => exact .inr ⟨⟨_, _, _, _, _, _, rfl⟩, _, hy, poison_seen _, poison_bare _⟩
  | _ => exact .inl ⟨hy, trivial⟩
/-- who sleeps (or runs) still does -/
def Slp (G G' : Array GenState) : Prop := ∀ (i : Nat) (y : GenState), G[i]? = some y → (y.status = .suspended ∨ y.status = .running) → G'[i]? = some y
theorem Slp.refl (G : Array GenState) : Slp G G := fun _ _ h _ => h
theorem Slp.trans {G G1 G2 : Array GenState} (a : Slp G G1) (b : Slp G1 G2) : Slp G G2 := fun i y h n => b i y (a i y h n) n
theorem KeptG.slp {G G' X' : Array GenState} (k : KeptG G (G.map poison) G' X') : Slp G G' := fun i y h n => by
  have hx : (G.map poison)[i]? = some (poison y) := by rw [Array.getElem?_map, h]; rfl
  cases y with
  | suspended k' l c p fs cl => rw [(k i _ hx (.inl ⟨_, _, _, _, _, _, rfl⟩)).2]; exact h
  | running => rw [(k i _ hx (.inr rfl)).2]; exact h
  | fresh c => rcases n with n | n <;> cases n
  | finished => rcases n with n | n <;> cases n
theorem RelG.allBare {R X : Array GenState} (r : RelG R X) (b : AllBare X) : AllBare R := fun y hy => by
  rcases Array.mem_iff_getElem.mp hy with ⟨i, hi, e⟩
  have hX : i < X.size := by rw [← r.1]; exact hi
  have eX : X[i]? = some X[i] := Array.getElem?_eq_getElem hX
  have eR : R[i]? = some y := by rw [Array.getElem?_eq_getElem hi, e]
  have bX := b _ (Array.getElem_mem hX)
  rcases r.2 i _ eX with ⟨z, _⟩ | ⟨_, r', z, _, zb⟩
  · rw [eR] at z
    cases z
    exact bX
  · rw [eR] at z
    cases z
    rw [zb]
    exact bX
theorem allBare_poison {G : Array GenState} (b : AllBare G) : AllBare (G.map poison) := fun y hy => by
  obtain ⟨x, hx, rfl⟩ := Array.mem_map.mp hy
  rw [← poison_bare]
  exact b x hx
/-- what is shown while all that sleeps cannot be woken holds of the true run, and they sleep on -/
theorem wpAny_asleep {α : Type} {M : Model} {A : Around} {t : Sem α} {Q : α → Shared → Prop} {E : Value → Shared → Prop} {s : Shared} (h : wpAny M A t Q E { s with gens := s.gens.map poison }) :
    wpAny M A t (fun a s' => ∃ X', Q a { s' with gens := X' } ∧ RelG s'.gens X' ∧ Slp s.gens s'.gens) (fun e s' => ∃ X', E e { s' with gens := X' } ∧ RelG s'.gens X' ∧ Slp s.gens s'.gens) s := fun Γ p hΓ => by
  have h2 := wp_swap M Γ t _ _ p { s with gens := s.gens.map poison } s.gens (relG_poison s.gens) (h Γ p hΓ)
  exact Sem.wp_mono M Γ t (fun a p' s' z => by obtain ⟨X', r, k, q⟩ := z; exact ⟨X', q, r, k.slp⟩) (fun a p' s' z => by obtain ⟨X', r, k, q⟩ := z; exact ⟨X', q, r, k.slp⟩) p s h2
section
variable {X : Cx} {s : Shared} {pins : List (Addr × Obj)} {σ : L2.St} {H : Hp}
theorem inv_gens (I : Inv X pins σ H s) {G : Array GenState} (b : AllBare G) : Inv X pins σ H { s with gens := G } := ⟨I.ok, I.os, b, I.base, I.loc, I.cell, I.free, I.freeC, I.pin, I.hok, I.len⟩
theorem inv_gens' {G : Array GenState} (I : Inv X pins σ H { s with gens := G }) (b : AllBare s.gens) : Inv X pins σ H s := ⟨I.ok, I.os, b, I.base, I.loc, I.cell, I.free, I.freeC, I.pin, I.hok, I.len⟩
theorem sp_gens {D : Ends} {f : Flow} {G : Array GenState} (h : SP X pins D f { s with gens := G }) (r : RelG s.gens G) : SP X pins D f s := by
  cases f with
  | next => obtain ⟨σ', H', I, q⟩ := h; exact ⟨σ', H', inv_gens' I (r.allBare I.bare), q⟩
  | brk => obtain ⟨σ', H', I, q⟩ := h; exact ⟨σ', H', inv_gens' I (r.allBare I.bare), q⟩
  | cont => obtain ⟨σ', H', I, q⟩ := h; exact ⟨σ', H', inv_gens' I (r.allBare I.bare), q⟩
  | ret u => obtain ⟨v, σ', H', I, rv, q⟩ := h; exact ⟨v, σ', H', inv_gens' I (r.allBare I.bare), rv, q⟩
/-- a body leaves asleep what sleeps -/
theorem body_asleep {sts : List Stmt} {t : TS} {D : Ends} (hb : PSs X sts t) (hx : ∀ e s', ¬ X.xe e s') (I : Inv X pins σ H s) (ht : t D σ H) :
    wpAny (model X.prog X.w) X.A (execs sts X.env) (fun f s' => SP X pins D f s' ∧ Slp s.gens s'.gens) (fun _ _ => False) s := by
  refine wpAny_mono (wpAny_asleep (hb.run pins { s with gens := s.gens.map poison } σ H D (inv_gens I (allBare_poison I.bare)) ht)) (fun f s' ⟨X', q, r, k⟩ => ⟨sp_gens q r, k⟩) fun e s' ⟨X', q, _⟩ => hx e _ q
theorem target_asleep {tg : Expr} {g : TG} {v : V} {u : Value} {Q : L2.St → Hp → Prop} (hg : PG X tg g) (hx : ∀ e s', ¬ X.xe e s') (I : Inv X pins σ H s) (r : RelV v u) (h : g v σ H Q) :
    wpAny (model X.prog X.w) X.A (assign tg X.env u) (fun _ s' => (∃ σ' H', Inv X pins σ' H' s' ∧ Q σ' H') ∧ Slp s.gens s'.gens) (fun _ _ => False) s := by
  refine wpAny_mono (wpAny_asleep (hg.run pins { s with gens := s.gens.map poison } σ H v u Q (inv_gens I (allBare_poison I.bare)) r h)) (fun f s' ⟨X', ⟨σ', H', I', q⟩, r', k⟩ => ⟨⟨σ', H', inv_gens' I' (r'.allBare I'.bare), q⟩, k⟩) fun e s' ⟨X', q, _⟩ => hx e _ q
end
/-! ### a generator that is turned by a loop -/
/-- a heap's first n objects -/
def cut (h : Heap) (n : Nat) : Heap := { h with objs := h.objs.extract 0 n }
theorem cut_objs (xs : Array Obj) (n b : Nat) (hb : b < n) : (xs.extract 0 n)[b]? = xs[b]? := by
  rw [Array.getElem?_extract]
  by_cases h1 : b < xs.size
  · rw [if_pos (by omega), Nat.zero_add]
  · rw [if_neg (by omega)]; rw [Array.getElem?_eq_none (by omega)]
theorem cut_sz (xs : Array Obj) (n : Nat) : (xs.extract 0 n).size = min n xs.size := by simp
theorem cut_get {h : Heap} {n : Nat} {b : Addr} (hb : b < n) : (cut h n).get? b = h.get? b := by
  unfold Heap.get? cut
  show (match (h.objs.extract 0 n)[b]? with | some ⟨_, _, .freed, _⟩ => none | o => o) = _
  rw [cut_objs h.objs n b hb]
  rfl
theorem cut_some {h : Heap} {n : Nat} {b : Addr} {o : Obj} (e : (cut h n).get? b = some o) : b < n ∧ h.get? b = some o := by
  have l := Heap.lt_size e
  rw [show (cut h n).objs.size = min n h.objs.size from cut_sz _ _] at l
  have hb : b < n := Nat.lt_of_lt_of_le l (Nat.min_le_left _ _)
  rw [cut_get hb] at e
  exact ⟨hb, e⟩
theorem cut_size {h : Heap} {n : Nat} (l : n ≤ h.objs.size) : (cut h n).objs.size = n := by
  rw [show (cut h n).objs.size = min n h.objs.size from cut_sz _ _]
  exact Nat.min_eq_left l
theorem funs_cut {h base : Heap} {n : Nat} : ∀ {l : List Env}, h.FunFrames base l → (∀ b ∈ frs l, b < n) → (cut h n).FunFrames base l
  | [], _, _ => trivial
  | env :: r, ⟨hk, ⟨L, o, hf, hn, ho, hd⟩, hr⟩, hl => by
    have e : frs (env :: r) = L :: frs r := by unfold frs; rw [List.filterMap_cons, hf]
    exact ⟨hk, ⟨L, o, hf, hn, by rw [cut_get (hl L (by rw [e]; exact List.mem_cons_self))]; exact ho, hd⟩, funs_cut hr fun b hb => hl b (by rw [e]; exact List.mem_cons_of_mem _ hb)⟩
/-- the generator's context: woken at s, H; its frame at n -/
def ycx (P : Program) (w : World) (K : PySem.W.Frag) (mg : Str → Option Value) (base : Heap) (N : List Str) (qual : Str) (scope : Scope) (f : Addr) (cd : Value) (A : Around) (outer : List Env) (n : Nat) (pn : List (Addr × Obj)) (s : Shared) (H : Hp) : Cx where
  prog := P
  w := w
  K := K
  mg := mg
  base := base
  A := A.deeper (envOfC qual scope n f cd)
  N := N
  s_0 := { s with heap := cut s.heap n }
  H_0 := H
  env := envOfC qual scope n f cd
  outer := outer
  stack := envOfC qual scope n f cd :: outer
  ex := []
  calm := true
  fn := fun _ => true
  pn := pn
  xe := fun _ _ => False
/-- what the generator's locals hold, while it sleeps -/
def GLoc (N : List Str) (env : Env) (σ : L2.St) (lo : Obj) : Prop := ∀ h : Heap, h.get? env.locals = some lo → ∃ m, h.Ns env.locals m ∧ ∀ (i : Nat) (x : Str) (v : V), N[i]? = some x → σ[i]? = some (some v) → Vis env.scope x → ∃ u, RelV v u ∧ Look env h m x u
/-- no cells -/
structure NoCells (scope : Scope) : Prop where
  cl : ∀ n : Nat, cellsFrom n scope.names [] = []
  nm : ∀ y ∈ scope.names, y.2 ≠ .cell ∧ y.2 ≠ .free
section
variable {X : Cx} {pins : List (Addr × Obj)} {σ σg : L2.St} {H H' : Hp} {s s' : Shared} {N : List Str} {qual : Str} {scope : Scope} {f : Addr} {cd : Value} {n : Nat} {pn : List (Addr × Obj)} {lo : Obj} {B : Around}
abbrev gcx (X : Cx) (B : Around) (N : List Str) (qual : Str) (scope : Scope) (f : Addr) (cd : Value) (n : Nat) (pn : List (Addr × Obj)) (s : Shared) (H : Hp) : Cx := ycx X.prog X.w X.K X.mg X.base N qual scope f cd B X.stack n pn s H
/-- the consumer's state as the generator sees it when it is woken -/
theorem inv_wake (hk : scope.kind = .function) (nc : NoCells scope) (hd : B.handled = none) (hfr : B.frames = some X.stack) (hX : X.env.locals < n) (hXs : X.s_0.heap.objs.size ≤ n) (hsz : n ≤ s.heap.objs.size)
    (I : Inv X ((n, lo) :: (pn ++ pins)) σ H s) (hpn : ∀ p ∈ pn, p.1 ≠ n ∧ p.1 ∉ frs X.stack) (gl : GLoc N (envOfC qual scope n f cd) σg lo) (hl : σg.length = N.length) : Inv (gcx X B N qual scope f cd n pn s H) [] σg H s := by
  have ec : ∀ x : Str, (envOfC qual scope n f cd).cells.lookup x = none := fun x => by
    show (cellsFrom (n + 1) scope.names []).lookup x = none
    rw [nc.cl]
    rfl
  obtain ⟨pl, ph, pX, _, _⟩ := I.pin (n, lo) (List.mem_append_right _ List.mem_cons_self)
  have flt : ∀ b ∈ frs X.stack, b < n := fun b hb => by
    rcases List.mem_cons.1 (I.stkSub b hb) with e | hb
    · rw [e]; exact hX
    · rcases I.ok.funs.mem hb with ⟨_, o, ho, _⟩
      exact Nat.lt_of_lt_of_le (Heap.lt_size ho) hXs
  have blt : ∀ b o, X.base.get? b = some o → b < n := fun b o e => Nat.lt_of_lt_of_le (Heap.lt_size e) (Nat.le_trans I.ok.bsz hXs)
  refine ⟨⟨I.ok.mod, hk, rfl, rfl, ?_, fun x y c h => ?_, fun x hx => ?_, fun x c _ h => ?_, fun _ => hd, Around.frames_deeper hfr, .inr ⟨rfl, rfl⟩, fun b z => absurd (show b ∈ ([] : List Addr) from z) (by simp), fun b o e => ?_, ?_, fun b o _ z => absurd (show b ∈ ([] : List Addr) from z) (by simp),
    fun b z => absurd (show b ∈ ([] : List Addr) from z) (by simp), ?_, fun b hb => I.stkFree b hb⟩, rfl, I.bare, ?_, gl s.heap pl, fun x c h => ?_, ph, fun x c h => ?_, fun p hp => ?_, I.hok, hl⟩
  · show (cut s.heap n).objs.size ≤ n
    rw [cut_size hsz]
    exact Nat.le_refl _
  · rw [show (gcx X B N qual scope f cd n pn s H).env.cells.lookup x = none from ec x] at h; cases h
  · have hy : scope.names.lookup x = some .cell ∨ scope.names.lookup x = some .free := hx
    rcases hy with hy | hy
    · exact absurd rfl (nc.nm _ (PySem.mem_of_lookup hy)).1
    · exact absurd rfl (nc.nm _ (PySem.mem_of_lookup hy)).2
  · rw [show (gcx X B N qual scope f cd n pn s H).env.cells.lookup x = none from ec x] at h; cases h
  · obtain ⟨e1, e2⟩ := I.bs b o e
    exact ⟨by show (cut s.heap n).get? b = _; rw [cut_get (blt b o e)]; exact e1, e2⟩
  · show X.base.objs.size ≤ (cut s.heap n).objs.size
    rw [cut_size hsz]
    exact Nat.le_trans I.ok.bsz hXs
  · exact funs_cut I.stack flt
  · exact ⟨fun b o e _ _ _ => (cut_some e).2, fun b o e _ _ _ => ⟨o.slots, (cut_some e).2⟩, fun b o _ h _ => h, fun b o e _ => ⟨o, (cut_some e).2⟩, fun _ _ h => h, fun _ _ _ h => h, fun b ps h => ⟨#[], by have h' : H b = some (.tbl ps) := h; rw [h']; simp⟩⟩
  · rw [show (gcx X B N qual scope f cd n pn s H).env.cells.lookup x = none from ec x] at h; cases h
  · rw [show (gcx X B N qual scope f cd n pn s H).env.cells.lookup x = none from ec x] at h; cases h
  · have hp' : p ∈ pn := (List.mem_append.1 hp).elim (fun z => z) fun z => absurd z (by simp)
    obtain ⟨q1, q2, _, _, q5⟩ := I.pin p (List.mem_append_right _ (List.mem_cons_of_mem _ (List.mem_append_left _ hp')))
    exact ⟨q1, q2, (hpn p hp').1, (hpn p hp').2, q5⟩
/-- a namespace outlives its slots -/
theorem ns_slots {h h' : Heap} {a : Addr} {m : Str → Option Value} (hn : h.Ns a m) (hs : ∀ o, h.get? a = some o → ∃ sl, h'.get? a = some { o with slots := sl }) : h'.Ns a m := by
  rcases hn with ⟨o, es, ep, ho, hd, hk, hm⟩
  obtain ⟨sl, e⟩ := hs o ho
  exact ⟨_, es, ep, e, hd, hk, hm⟩
/-- the generator's state as the consumer sees it when it hands something out -/
theorem inv_back {s1 : Shared} {H1 : Hp} (hX : X.env.locals < n) (hXs : X.s_0.heap.objs.size ≤ n) (hXc : ∀ x c, X.env.cells.lookup x = some c → c < n) (hXp : ∀ p ∈ X.pn ++ pins, p.1 < n) (I : Inv X pins σ H1 s1)
    (J : Inv (gcx X B N qual scope f cd n pn s1 H1) [] σg H s) : Inv X pins σ H s := by
  have U := J.base
  have nx : ∀ b : Addr, b ∉ (gcx X B N qual scope f cd n pn s1 H1).ex := fun b z => absurd (show b ∈ ([] : List Addr) from z) (by simp)
  have any : ∀ b o, b < n → s1.heap.get? b = some o → H1 b = none → ∃ sl, s.heap.get? b = some { o with slots := sl } := fun b o hb e q =>
    U.any (by show (cut s1.heap n).get? b = some o; rw [cut_get hb]; exact e) q (nx b)
  obtain ⟨h2, g2, d2, t2, o2⟩ := s
  have ho : o2 = s1.os := J.os
  subst ho
  refine I.step (ch := (List.range s1.heap.objs.size).filter fun b => decide (n ≤ b)) (fun b hb => ?_) (fun b o h1 h2 h3 e q => ?_) (fun b o h1 h2 h3 e q => ?_) (fun b o h3 e q => ?_) (fun b o h3 e => ?_)
    (fun b xs e => U.tups b xs e) (fun b o u e => U.frzs b o u e) (fun b ps e => U.tbls b ps e) (fun m hm => ns_slots hm fun o e => any _ o hX e I.free) J.hok J.bare
  · have hb' : n ≤ b := by
      have := (List.mem_filter.mp hb).2
      exact of_decide_eq_true this
    exact ⟨.inr (Nat.le_trans hXs hb'), fun e => Nat.lt_irrefl _ (Nat.lt_of_lt_of_le (e ▸ hX) hb'), fun x c hc e => Nat.lt_irrefl _ (Nat.lt_of_lt_of_le (e ▸ hXc x c hc) hb'), fun p hp e => Nat.lt_irrefl _ (Nat.lt_of_lt_of_le (e ▸ hXp p hp) hb')⟩
  all_goals
    have lt : b < n := Nat.lt_of_not_le fun hb' => h3 (List.mem_filter.mpr ⟨List.mem_range.mpr (Heap.lt_size e), decide_eq_true hb'⟩)
    have ec : (cut s1.heap n).get? b = some o := by rw [cut_get lt]; exact e
  · exact U.keep b o ec q (fun hb => (List.mem_cons.1 (I.stkSub b hb)).elim h1 h2) (nx b)
  · exact U.any ec q (nx b)
  · exact U.free b o ec q (nx b)
  · exact U.there b o ec (nx b)
/-- the generator's own objects, for the consumer's pins -/
theorem pins_gen {s1 : Shared} {H1 : Hp} (nc : NoCells scope) (hX : X.env.locals < n) (hXs : X.s_0.heap.objs.size ≤ n) (hpn : ∀ p ∈ pn, n < p.1) (I : Inv X pins σ H s) (J : Inv (gcx X B N qual scope f cd n pn s1 H1) [] σg H s) :
    ∃ lo, Inv X ((n, lo) :: (pn ++ pins)) σ H s ∧ GLoc N (envOfC qual scope n f cd) σg lo := by
  have ec : ∀ x : Str, (envOfC qual scope n f cd).cells.lookup x = none := fun x => by
    show (cellsFrom (n + 1) scope.names []).lookup x = none
    rw [nc.cl]
    rfl
  obtain ⟨m, ⟨o, es, ep, ho, hd, hk, hm⟩, look⟩ := J.loc
  have old : ∀ b ∈ X.fs, b < n := fun b hb => by
    rcases I.ok.funs.mem hb with ⟨_, o, ho, _⟩
    exact Nat.lt_of_lt_of_le (Heap.lt_size ho) hXs
  have ho' : s.heap.get? n = some o := ho
  refine ⟨o, I.pins_of fun p hp => ?_, fun h e => ⟨m, ⟨o, es, ep, e, hd, hk, hm⟩, fun i x v h1 h2 h3 => ?_⟩⟩
  · rcases List.mem_cons.1 hp with rfl | hp
    · exact ⟨ho', J.free, fun e => Nat.lt_irrefl _ (e ▸ hX), fun hb => Nat.lt_irrefl _ (old _ hb), fun v q => by rw [hd] at q; cases q⟩
    · rcases List.mem_append.1 hp with hp | hp
      · obtain ⟨q1, q2, _, _, q5⟩ := J.pin p (List.mem_append_left _ hp)
        exact ⟨q1, q2, fun e => Nat.lt_asymm hX (e ▸ hpn p hp), fun hb => Nat.lt_asymm (old _ hb) (hpn p hp), q5⟩
      · exact I.pin p (List.mem_append_right _ hp)
  · obtain ⟨u, ru, lk⟩ := look i x v h1 h2 h3
    rcases lk with ⟨a, b⟩ | ⟨_, c, a, _⟩
    · exact ⟨u, ru, .inl ⟨a, b⟩⟩
    · rw [show (gcx X B N qual scope f cd n pn s1 H1).env.cells.lookup x = none from ec x] at a
      cases a
end
/-! ### its code -/
theorem execs_append_wrap {env : Env} {K : Flow → Sem PySem.Fin} {J : Value → Sem PySem.Fin} {gd : Bool → Bool} {lv : List Value → List Value} {rest : List Stmt} : ∀ pre : List Stmt,
    (execs (pre ++ rest) env).wrap K J gd lv = (execs pre env).wrap (fun f => match f with | .next => (execs rest env).wrap K J gd lv | f => K f) J gd lv
  | [] => rfl
  | st :: pre => by
    rw [List.cons_append]; rw [execs_cons_wrap, execs_cons_wrap]
    congr 1
    funext f
    cases f with
    | next => exact execs_append_wrap pre
    | brk => rfl
    | cont => rfl
    | ret v => rfl
/-- handed out: the consumer's turn -/
def YF (X : Cx) (pins : List (Addr × Obj)) (n : Nat) (pn : List (Addr × Obj)) (g : TG) (tb : TS) (D : Ends) : Protocol := fun _ _ v s kap =>
  ∃ (x : V) (lo : Obj) (σc : L2.St) (H : Hp) (Nx : L2.St → Hp → Prop), RelV x v ∧ Inv X ((n, lo) :: (pn ++ pins)) σc H s ∧ (g x σc H fun σ2 H2 => tb { D with nx := Nx, ct := Nx, bk := D.nx } σ2 H2) ∧
    ∀ s' σ' H', Inv X ((n, lo) :: (pn ++ pins)) σ' H' s' → Nx σ' H' → kap (.send .none) s' ∧ kap (.send (.bool true)) s'
/-- no more to come -/
def RF (X : Cx) (pins : List (Addr × Obj)) (pn : List (Addr × Obj)) (D : Ends) : GenEnd := fun n s₀ r s₁ => ((r = .ok (.ret .none) ∨ r = .ok .next) ∧ (fun (_ : Nat) (_ s : Shared) => ∃ σc H, Inv X (pn ++ pins) σc H s ∧ D.nx σc H) n s₀ s₁) ∨ ∃ e, r = .error e ∧ (fun (_ : Value) (_ : Shared) => False) e s₁
/-- the generator's place in the consumer's run -/
structure Gn (X : Cx) (pins : List (Addr × Obj)) (scope : Scope) (n : Nat) (pn : List (Addr × Obj)) (B : Around) : Prop where
  hk : scope.kind = .function
  co : (scope.isCoroutine = false)
  hi : ∀ (q : Str) (m : Nat) (f : Addr) (cd : Value), interactive (envOfC q scope m f cd) = false
  nc : NoCells scope
  hd : B.handled = none
  hfr : B.frames = some X.stack
  hX : X.env.locals < n
  hXs : X.s_0.heap.objs.size ≤ n
  hXc : ∀ x c, X.env.cells.lookup x = some c → c < n
  hXp : ∀ p ∈ X.pn ++ pins, p.1 < n
  hpn : ∀ p ∈ pn, n < p.1
/-- what a turn reads -/
def Turn (tt : TT) (tas tbs : TS) (te : TE) (g : TG) (tb : TS) (D : Ends) (Hd : Nat → L2.St → L2.St → Hp → Prop) : Prop := ∀ m σg σc H, Hd m σg σc H → tt σg H fun b H1 => if b = true then
  tas { nx := fun σ1 H2 => te σ1 H2 fun x H3 => ∃ Nx : L2.St → Hp → Prop, (g x σc H3 fun σ2 H4 => tb { D with nx := Nx, ct := Nx, bk := D.nx } σ2 H4) ∧ ∀ σ3 H5, Nx σ3 H5 → tbs { nx := fun σ2 H6 => ∃ m', m' < m ∧ Hd m' σ2 σ3 H6, rt := fun _ _ => False } σ1 H5, rt := fun _ _ => False } σg H1
  else D.nx σc H1
section
variable {X : Cx} {pins : List (Addr × Obj)} {N : List Str} {qual : Str} {scope : Scope} {f : Addr} {cd : Value} {n : Nat} {pn : List (Addr × Obj)} {B : Around}
/-- the generator runs, the consumer waits -/
def GJ (X : Cx) (pins : List (Addr × Obj)) (N : List Str) (qual : Str) (scope : Scope) (f : Addr) (cd : Value) (n : Nat) (pn : List (Addr × Obj)) (B : Around) (σg σc : L2.St) (H : Hp) (s : Shared) : Prop :=
  ∃ s1 H1, Inv X pins σc H1 s1 ∧ Inv (gcx X B N qual scope f cd n pn s1 H1) [] σg H s
theorem GJ.back {σg σc : L2.St} {H : Hp} {s : Shared} (W : Gn X pins scope n pn B) (h : GJ X pins N qual scope f cd n pn B σg σc H s) : ∃ lo, Inv X ((n, lo) :: (pn ++ pins)) σc H s ∧ GLoc N (envOfC qual scope n f cd) σg lo := by
  obtain ⟨s1, H1, I, J⟩ := h
  exact pins_gen W.nc W.hX W.hXs W.hpn (inv_back W.hX W.hXs W.hXc W.hXp I J) J
theorem GJ.wake {σg σc : L2.St} {H : Hp} {s : Shared} {lo : Obj} (W : Gn X pins scope n pn B) (I : Inv X ((n, lo) :: (pn ++ pins)) σc H s) (gl : GLoc N (envOfC qual scope n f cd) σg lo) (hl : σg.length = N.length) : GJ X pins N qual scope f cd n pn B σg σc H s := by
  have pl := (I.pin (n, lo) (List.mem_append_right _ List.mem_cons_self)).1
  have hsz : n ≤ s.heap.objs.size := Nat.le_of_lt (Heap.lt_size pl)
  refine ⟨s, H, I.pins_of fun p hp => I.pin p (List.mem_append_right _ (List.mem_cons_of_mem _ (List.mem_append_right _ hp))), inv_wake W.hk W.nc W.hd W.hfr W.hX W.hXs hsz I (fun p hp => ⟨fun e => Nat.lt_irrefl _ (e ▸ W.hpn p hp), fun hb => ?_⟩) gl hl⟩
  have lt : p.1 < n := by
    rcases List.mem_cons.1 (I.stkSub _ hb) with e | hb
    · rw [e]; exact W.hX
    · rcases I.ok.funs.mem hb with ⟨_, o, ho, _⟩
      exact Nat.lt_of_lt_of_le (Heap.lt_size ho) W.hXs
  exact Nat.lt_asymm lt (W.hpn p hp)
theorem GJ.len {σg σc : L2.St} {H : Hp} {s : Shared} (h : GJ X pins N qual scope f cd n pn B σg σc H s) : σg.length = N.length := by
  obtain ⟨s1, H1, I, J⟩ := h
  exact J.len
end
open GenW
section
variable {X : Cx} {pins : List (Addr × Obj)} {N : List Str} {qual : Str} {scope : Scope} {f : Addr} {cd : Value} {n : Nat} {pn : List (Addr × Obj)} {B : Around}
theorem seg_loop {test ye : Expr} {as bs body : List Stmt} {yp pos p : Pos} {tt : TT} {tas tbs : TS} {te : TE} {g : TG} {tb : TS} {D : Ends} {Hd : Nat → L2.St → L2.St → Hp → Prop} (W : Gn X pins scope n pn B)
    (pt : ∀ s H, PT (gcx X B N qual scope f cd n pn s H) test tt) (pas : ∀ s H, PSs (gcx X B N qual scope f cd n pn s H) as tas) (py : ∀ s H, PE (gcx X B N qual scope f cd n pn s H) ye te) (pbs : ∀ s H, PSs (gcx X B N qual scope f cd n pn s H) bs tbs)
    (turn : Turn tt tas tbs te g tb D Hd) {kk : Result → Sem PySem.Fin}
    (hkk : ∀ (k : Nat) (s₀ s : Shared), (∃ σc H, Inv X (pn ++ pins) σc H s ∧ D.nx σc H) → Seg (model X.prog X.w) B (RF X pins pn D) (YF X pins n pn g tb D) k s₀ (.func body (envOfC qual scope n f cd)) (kk (.ok .next)) [] s) :
    ∀ (m k : Nat), m < k → ∀ (σg σc : L2.St) (H : Hp) (s s₀ : Shared), Hd m σg σc H → GJ X pins N qual scope f cd n pn B σg σc H s →
      Seg (model X.prog X.w) B (RF X pins pn D) (YF X pins n pn g tb D) k s₀ (.whileLoop test (as ++ .Expr (.Yield (some ye) yp) pos :: bs) [] (envOfC qual scope n f cd)) ((model X.prog X.w).den (.whileLoop test (as ++ .Expr (.Yield (some ye) yp) pos :: bs) [] (envOfC qual scope n f cd)))
        [.ret kk none false [] (.func body (envOfC qual scope n f cd)) p []] s := by
  have over : B.over (.whileLoop test (as ++ .Expr (.Yield (some ye) yp) pos :: bs) [] (envOfC qual scope n f cd)) [.ret kk none false [] (.func body (envOfC qual scope n f cd)) p []] = B.deeper (envOfC qual scope n f cd) := (over_loop rfl rfl).trans over_func
  intro m
  induction m using _root_.Nat.strongRecOn with
  | ind m ih =>
    intro k hk σg σc H s s₀ hd J
    obtain ⟨s1, H1, I, J1⟩ := J
    refine seg_whileLoop ?_
    rw [over]
    refine wpAny_mono ((pt s1 H1).run [] s σg H _ J1 (turn m σg σc H hd)) (fun b s' hb => ?_) (fun x s' hx => False.elim hx)
    obtain ⟨H2, J2, q⟩ := hb
    cases b with
    | false =>
      rw [if_neg Bool.false_ne_true] at q ⊢
      refine seg_execs_nil ?_
      obtain ⟨lo, I2, _⟩ := GJ.back W ⟨s1, H1, I, J2⟩
      exact seg_leaf (.ok .next) (hkk k s₀ s' ⟨σc, H2, I2.pins_of fun p hp => I2.pin p (List.mem_append_right _ (List.mem_cons_of_mem _ hp)), q⟩)
    | true =>
      rw [if_pos rfl] at q ⊢
      rw [execs_append_wrap]
      refine seg_wrap ?_
      rw [over]
      refine wpAny_mono ((pas s1 H1).run [] s' σg H2 _ J2 q) (fun fl s2 hs => ?_) (fun x s' hx => False.elim hx)
      cases fl with
      | next =>
        obtain ⟨σ1, H3, J3, q3⟩ := hs
        refine seg_execs_cons ?_
        obtain ⟨k', rfl⟩ : ∃ k', k = k' + 1 := ⟨k - 1, by omega⟩
        refine seg_Expr_Yield rfl rfl rfl ?_ W.co (W.hi _ _ _ _)
        rw [over]
        refine wpAny_mono ((py s1 H1).run [] s2 σ1 H3 _ J3 q3) (fun v s3 hv => ?_) (fun x s' hx => False.elim hx)
        obtain ⟨x, H4, J4, rv, Nx, qc, hN⟩ := hv
        intro kap hkap
        obtain ⟨lo, I4, gl⟩ := GJ.back W ⟨s1, H1, I, J4⟩
        refine ⟨x, lo, σc, H4, Nx, rv, I4, qc, fun s5 σ5 H5 I5 n5 => ?_⟩
        refine (fun z => ⟨hkap .none s5 z, hkap (.bool true) s5 z⟩) ?_
        obtain ⟨s6, H6, I6, J6⟩ := GJ.wake W I5 gl J4.len
        refine seg_wrap ?_
        rw [over]
        refine wpAny_mono ((pbs s6 H6).run [] s5 σ1 H5 _ J6 (hN σ5 H5 n5)) (fun fl s7 hs => ?_) (fun x s' hx => False.elim hx)
        cases fl with
        | next =>
          obtain ⟨σ7, H7, J7, m', hm', hd'⟩ := hs
          exact seg_again rfl (ih m' hm' k' (by omega) σ7 σ5 H7 s7 _ hd' ⟨s6, H6, I6, J7⟩)
        | brk => obtain ⟨_, _, _, z⟩ := hs; exact False.elim z
        | cont => obtain ⟨_, _, _, z⟩ := hs; exact False.elim z
        | ret u => obtain ⟨_, _, _, _, _, z⟩ := hs; exact False.elim z
      | brk => obtain ⟨_, _, _, z⟩ := hs; exact False.elim z
      | cont => obtain ⟨_, _, _, z⟩ := hs; exact False.elim z
      | ret u => obtain ⟨_, _, _, _, _, z⟩ := hs; exact False.elim z
theorem seg_gen {test ye : Expr} {pre as bs : List Stmt} {yp pos wpos : Pos} {tt : TT} {tpre tas tbs : TS} {te : TE} {g : TG} {tb : TS} {D : Ends} {Hd : Nat → L2.St → L2.St → Hp → Prop} (W : Gn X pins scope n pn B)
    (ppre : ∀ s H, PSs (gcx X B N qual scope f cd n pn s H) pre tpre) (pt : ∀ s H, PT (gcx X B N qual scope f cd n pn s H) test tt) (pas : ∀ s H, PSs (gcx X B N qual scope f cd n pn s H) as tas) (py : ∀ s H, PE (gcx X B N qual scope f cd n pn s H) ye te) (pbs : ∀ s H, PSs (gcx X B N qual scope f cd n pn s H) bs tbs)
    (turn : Turn tt tas tbs te g tb D Hd) {M : Nat} {σ0 σc : L2.St} {H : Hp} {s s₀ : Shared} (J : GJ X pins N qual scope f cd n pn B σ0 σc H s) (hp : tpre { nx := fun σg H' => ∃ m, m ≤ M ∧ Hd m σg σc H', rt := fun _ _ => False } σ0 H) :
    Seg (model X.prog X.w) B (RF X pins pn D) (YF X pins n pn g tb D) (M + 1) s₀ (.func (pre ++ [.While test (as ++ .Expr (.Yield (some ye) yp) pos :: bs) [] wpos]) (envOfC qual scope n f cd))
      ((model X.prog X.w).den (.func (pre ++ [.While test (as ++ .Expr (.Yield (some ye) yp) pos :: bs) [] wpos]) (envOfC qual scope n f cd))) [] s := by
  refine seg_func ?_
  rw [execs_append_wrap]
  refine seg_wrap ?_
  rw [over_func]
  obtain ⟨s1, H1, I, J1⟩ := J
  refine wpAny_mono ((ppre s1 H1).run [] s σ0 H _ J1 hp) (fun fl s2 hs => ?_) (fun x s' hx => False.elim hx)
  cases fl with
  | next =>
    obtain ⟨σ1, H2, J2, m, hm, hd⟩ := hs
    refine seg_execs_cons ?_
    refine seg_While fun p => ?_
    exact seg_loop W pt pas py pbs turn (fun k s₀ s h => seg_end (.ok (.ret .none)) (.inl ⟨.inl rfl, h⟩)) m (M + 1) (by omega) σ1 σc H2 s2 s₀ hd ⟨s1, H1, I, J2⟩
  | brk => obtain ⟨_, _, _, z⟩ := hs; exact False.elim z
  | cont => obtain ⟨_, _, _, z⟩ := hs; exact False.elim z
  | ret u => obtain ⟨_, _, _, _, _, z⟩ := hs; exact False.elim z
end
theorem letOwned_gen {P : Program} {w : World} {A : Around} {E : Value → Shared → Prop} {s : Shared} {tg : Expr} {a : Addr} {g : Nat} {v : Value} {Q : Unit → Shared → Prop} (hg : s.heap.IsGen a g) (hQ : Q () s) : wpAny (model P w) A (letOwnedTupleGo tg (.ref a) v) Q E s := by
  obtain ⟨o, nm, qn, ho, hc, hd, _⟩ := hg
  unfold letOwnedTupleGo
  split
  all_goals first
    | exact wpAny_pure hQ
    | (cases v with
       | ref T =>
         refine (wpAny_bind (wpAny_load ho ?_))
         rw [hc, hd]
         dsimp only
         rw [if_neg (by simp)]
         exact wpAny_pure hQ
       | _ => exact wpAny_pure hQ)
open GenW
section
variable {X : Cx} {pins : List (Addr × Obj)} {n : Nat}
theorem gen_loop {tg : Expr} {body : List Stmt} {g : TG} {tb : TS} {D : Ends} {a : Addr} {gi : Nat} {go : Obj} (hXh : X.A.handled = none) (hroom : X.A.depth < recursionLimit) (hx : ∀ e s', ¬ X.xe e s') (hgo : ∀ h : Heap, h.get? a = some go → h.IsGen a gi)
    (hg : PG X tg g) (hb : PSs X body tb) {k : Nat} {s : Shared} {σc : L2.St} {H : Hp} {gs : GenState} (hgs : s.gens[gi]? = some gs) (I : Inv X ([(a, go)] ++ pins) σc H s)
    (goes : gs.Goes (model X.prog X.w) X.A.in1 (RF X pins [(a, go)] D) (YF X pins n [(a, go)] g tb D) k (.send .none) (s.setGen gi .running)) :
    codeAny (model X.prog X.w) X.A (.forLoop tg (.ref a) body [] X.env) (fun r s' => match r with | .ok f => SP X pins D f s' | .error e => False) s := by
  refine codeAny_forLoop_any (fun k s => ∃ gs σc H, s.gens[gi]? = some gs ∧ Inv X ([(a, go)] ++ pins) σc H s ∧ gs.Goes (model X.prog X.w) X.A.in1 (RF X pins [(a, go)] D) (YF X pins n [(a, go)] g tb D) k (.send .none) (s.setGen gi .running)) ?_ k ⟨gs, σc, H, hgs, I, goes⟩
  clear goes I hgs
  rintro k s ⟨gs, σc, H, hgs, I, goes⟩
  have lt : gi < s.gens.size := by
    by_cases z : gi < s.gens.size
    · exact z
    · rw [Array.getElem?_eq_none (by omega)] at hgs; cases hgs
  have pa := (I.pin (a, go) (List.mem_append_right _ List.mem_cons_self)).1
  have sub : ∀ {pins' : List (Addr × Obj)} {σ : L2.St} {H : Hp} {s : Shared}, Inv X pins' σ H s → (∀ p ∈ pins, p ∈ pins') → Inv X pins σ H s := fun I h => I.pins_of fun p hp => I.pin p (List.mem_append_right _ (h p hp))
  refine wpAny_gsz (n := gi + 1) lt (wpAny_mono (next_genG (n := k) (Q := fun r s2 => match r with
      | none => SP X pins D .next s2
      | some v => ∃ s₁ gs', s2 = s₁.setGen gi gs' ∧ gs'.bare = true ∧ YF X pins n [(a, go)] g tb D (k - 1) (s.setGen gi .running) v s₁ (fun r' s'' => match k with
        | 0 => False
        | m + 1 => gs'.Goes (model X.prog X.w) X.A.in1 (RF X pins [(a, go)] D) (YF X pins n [(a, go)] g tb D) m r' s''))
    (E := fun _ _ => False) hXh I.nolimit hroom (hgo _ pa) hgs goes (fun v s₁ gs' hb' hY => ⟨s₁, gs', rfl, hb', hY⟩) (fun s₁ hF h' hk => ?_) (fun e s₁ he => False.elim he)) (fun r s2 hr hsz => ?_) (fun e s' h => False.elim h))
  · obtain ⟨σ', H', I', q⟩ := hF
    refine ⟨σ', H', ?_, q⟩
    have I2 := sub I' (fun p hp => List.mem_cons_of_mem _ hp)
    have I3 := inv_gens I2 (allBare_setGen (g := gi) (x := .finished) I2.bare rfl)
    exact I3.kept hk
  · cases r with
    | none => exact (wpAny_execs_nil hr)
    | some v =>
      obtain ⟨s₁, gs', rfl, hb', x, lo, σ1, H1, Nx, rv, I1, qc, hk⟩ := hr
      have hin : gi < s₁.gens.size := by
        have : (s₁.setGen gi gs').gens.size = s₁.gens.size := setGen_size _ _ _
        omega
      have I2 : Inv X ((n, lo) :: ([(a, go)] ++ pins)) σ1 H1 (s₁.setGen gi gs') := inv_gens I1 (allBare_setGen I1.bare hb')
      have pa2 := (I2.pin (a, go) (List.mem_append_right _ (by simp))).1
      have at2 : (s₁.setGen gi gs').gens[gi]? = some gs' := setGen_at hin
      refine letOwned_gen (hgo _ pa2) ?_
      refine wpAny_mono (target_asleep hg hx I2 rv qc) (fun _ s3 h3 => ?_) (fun e s' h => False.elim h)
      obtain ⟨⟨σ3, H3, I3, q3⟩, k3⟩ := h3
      refine wpAny_mono (body_asleep hb hx I3 q3) (fun fl s4 h4 => ?_) (fun e s' h => False.elim h)
      obtain ⟨h4, k4⟩ := h4
      have again : ∀ {σ4 : L2.St} {H4 : Hp}, Inv X ((n, lo) :: ([(a, go)] ++ pins)) σ4 H4 s4 → Nx σ4 H4 → ∃ m, m < k ∧ ∃ gs σc H, s4.gens[gi]? = some gs ∧ Inv X ([(a, go)] ++ pins) σc H s4 ∧ gs.Goes (model X.prog X.w) X.A.in1 (RF X pins [(a, go)] D) (YF X pins n [(a, go)] g tb D) m (.send .none) (s4.setGen gi .running) := by
        intro σ4 H4 I4 n4
        obtain ⟨g1, g2⟩ := hk (s4.setGen gi .running) σ4 H4 (inv_gens I4 (allBare_setGen I4.bare rfl)) n4
        cases k with
        | zero => exact False.elim g1
        | succ m =>
          refine ⟨m, Nat.lt_succ_self m, gs', σ4, H4, ?_, I4.pins_of fun p hp => I4.pin p (List.mem_append_right _ (List.mem_cons_of_mem _ hp)), g1⟩
          cases gs' with
          | suspended k' l c p fs cl => exact k4 _ _ (k3 _ _ at2 (.inl rfl)) (.inl rfl)
          | fresh c => cases g2.1
          | running => exact False.elim g1
          | finished => exact False.elim g1
      cases fl with
      | next => obtain ⟨σ4, H4, I4, n4⟩ := h4; exact again I4 n4
      | cont => obtain ⟨σ4, H4, I4, n4⟩ := h4; exact again I4 n4
      | brk => obtain ⟨σ4, H4, I4, q4⟩ := h4; exact ⟨σ4, H4, sub I4 (fun p hp => List.mem_cons_of_mem _ (List.mem_cons_of_mem _ hp)), q4⟩
      | ret u => obtain ⟨w, σ4, H4, I4, r4, q4⟩ := h4; exact ⟨w, σ4, H4, sub I4 (fun p hp => List.mem_cons_of_mem _ (List.mem_cons_of_mem _ hp)), r4, q4⟩
end
section
variable {X : Cx} {pins : List (Addr × Obj)}
/-- a call of a generator's def makes a generator that has not begun -/
theorem gen_made {x qual : Str} {st : Stmt} {f : Addr} {fd : FuncData} {N ps : List Str} {k : Nat} {σ : L2.St} {H : Hp} {s : Shared} {us : List Value} {vs : List V} (F : Fun X.K x qual st f fd) (S : GScope N ps (defScope st)) (nc : NoCells (defScope st)) (hr : Room (k + 1) X.A) (I : Inv X pins σ H s)
    (hb : BindsTo s fd ⟨us, []⟩ (ps.zip us)) (r : Vals vs us) (hl : vs.length = ps.length) :
    codeAny (model X.prog X.w) X.A (.call (.ref f) ⟨us, []⟩) (fun rs s' => match rs with
      | .ok (.ret u) => ∃ (a : Addr) (gi : Nat) (go lo : Obj) (cd : Value), u = .ref a ∧ (∀ h : Heap, h.get? a = some go → h.IsGen a gi) ∧ s.heap.objs.size < a ∧ s'.gens[gi]? = some (.fresh (.func (defBody st) (envOfC qual (defScope st) s.heap.objs.size f cd))) ∧
          Inv X ((s.heap.objs.size, lo) :: ([(a, go)] ++ pins)) σ H s' ∧ GLoc N (envOfC qual (defScope st) s.heap.objs.size f cd) (start N vs) lo
      | _ => False) s := by
  obtain ⟨o1, o2, k0, dc0, pm0, an0, cdv, ct0, sl0, rfl, lk, hcd⟩ := F.ex
  have KX : X.K.In s.heap := I.kIn
  have lim : s.heap.NoLimit := I.nolimit
  have hkind : ∀ y ∈ ps.zip us, (defScope st).names.lookup y.1 = some .local ∨ ((defScope st).names.lookup y.1 = some .cell ∧ ((cellsFrom (s.heap.objs.size + 1) (defScope st).names []).lookup y.1).isSome = true) := by
    rintro ⟨m, v⟩ hy
    exact (S.par m (List.of_mem_zip hy).1).imp id fun q => ⟨q, PySem.W.cellsFrom_some _ _ _ (.inl q)⟩
  refine codeAny_call_generator hr.depth (KX _ _ lk) rfl S.co S.gen rfl (PySem.W.codeRec_of KX hcd) (hb _ _ _ _ (wpAny_newFunctionEnv_cells S.kind hkind fun env he s1 x => ?_))
  subst he
  refine ⟨lim.keeps x.toInCall.keep, ?_⟩
  obtain ⟨hh1, tk1, es1, hk1⟩ := x.done
  have same_os : s1.os = s.os := by rw [es1]
  have same_gens : s1.gens = s.gens := by rw [es1]
  have grown : s.heap.objs.size < s1.heap.objs.size := x.toInCall.ns.lt
  have kept1 : ∀ b o, s.heap.get? b = some o → s1.heap.get? b = some o := x.toInCall.keep
  have I1 := inv_startG (E := E0) S hr.hd I.env0 hl r x
  obtain ⟨m, ⟨lo, es, ep, ho, hd, hsk, hm⟩, look⟩ := I1.loc
  have ho' : s1.heap.get? s.heap.objs.size = some lo := ho
  have born : ∀ (go : Obj) (n1 n2 : Value) (tk2 : Nat), go.cls = .type "generator" → go.data = .fields #[.int s1.gens.size 0, n1, n2] → go.slots = #[] → (∀ h : Heap, (h.push go).get? h.objs.size = some go) →
      ∃ (a : Addr) (gi : Nat) (go' lo : Obj) (cd : Value), Value.ref s1.heap.objs.size = .ref a ∧ (∀ h : Heap, h.get? a = some go' → h.IsGen a gi) ∧ s.heap.objs.size < a ∧ (s1.gens.push (.fresh (.func (defBody st) (envOfC qual (defScope st) s.heap.objs.size f cdv))))[gi]? = some (.fresh (.func (defBody st) (envOfC qual (defScope st) s.heap.objs.size f cd))) ∧
        Inv X ((s.heap.objs.size, lo) :: ([(a, go')] ++ pins)) σ H { s1 with gens := s1.gens.push (.fresh (.func (defBody st) (envOfC qual (defScope st) s.heap.objs.size f cdv))), toks := tk2, heap := s1.heap.push go } ∧ GLoc N (envOfC qual (defScope st) s.heap.objs.size f cd) (start N vs) lo := by
    intro go n1 n2 tk2 hgc hgd hgs hgp
    have kp2 : ∀ b o, s.heap.get? b = some o → (s1.heap.push go).get? b = some o := fun b o e => Heap.get?_push_of_some _ (kept1 b o e)
    have I2 : Inv X pins σ H { s1 with gens := s1.gens.push (.fresh (.func (defBody st) (envOfC qual (defScope st) s.heap.objs.size f cdv))), toks := tk2, heap := s1.heap.push go } :=
      I.call' (ch := []) same_os (Un.kept kp2) (I.hok.kept kp2) (AllBare.push (by rw [same_gens]; exact I.bare) rfl) fun b z => by simp at z
    refine ⟨s1.heap.objs.size, s1.gens.size, go, lo, cdv, rfl, fun h e => ⟨go, n1, n2, e, hgc, hgd, hgs⟩, grown, Array.getElem?_push_size .., I2.pins_of fun p hp => ?_, fun h e => ⟨m, ⟨lo, es, ep, e, hd, hsk, hm⟩, fun i y v a1 a2 a3 => ?_⟩⟩
    · rcases List.mem_cons.1 hp with rfl | hp
      · exact ⟨Heap.get?_push_of_some _ ho', I1.free, fun e => Nat.lt_irrefl _ (e ▸ I.lt), I.nofs (Nat.le_refl _), fun v q => by rw [hd] at q; cases q⟩
      · rcases List.mem_append.1 hp with hp | hp
        · rw [(List.mem_singleton.mp hp)]
          exact ⟨hgp _, I1.hok.fresh (Nat.le_refl _), fun e => (by
          have e' : s1.heap.objs.size = X.env.locals := e
          have l := I.lt
          rw [← e'] at l
          exact Nat.lt_asymm grown l), I.nofs (Nat.le_of_lt grown), fun v q => by rw [hgd] at q; cases q⟩
        · exact I2.pin p (List.mem_append_right _ hp)
    · obtain ⟨u, ru, lk⟩ := look i y v a1 a2 a3
      refine ⟨u, ru, lk.imp (fun z => z) fun ⟨z1, c, z2, z3⟩ => ?_⟩
      have z4 : (cellsFrom (s.heap.objs.size + 1) (defScope st).names []).lookup y = some c := z2
      rw [nc.cl] at z4
      cases z4
  exact born _ _ _ _ rfl rfl rfl (fun _ => Heap.get?_push_size _ rfl)
end
/-- how a loop over a generator's def reads: Hd tells both sides' states where the generator looks whether to go on -/
def tForG (N ps : List Str) (t : TA) (tpre : TS) (tt : TT) (tas : TS) (te : TE) (tbs : TS) (g : TG) (tb : TS) : TS := fun D σ H => t σ H fun vs H1 => vs.length = ps.length ∧ ∃ (M : Nat) (Hd : Nat → L2.St → L2.St → Hp → Prop),
  tpre { nx := fun σg H' => ∃ m, m ≤ M ∧ Hd m σg σ H', rt := fun _ _ => False } (start N vs) H1 ∧ Turn tt tas tbs te g tb D Hd
/-- the rules of the generator's rows, wherever it is woken -/
structure GenRows (X : Cx) (N : List Str) (qual : Str) (scope : Scope) (f : Addr) (pre as bs : List Stmt) (test ye : Expr) (tpre : TS) (tt : TT) (tas : TS) (te : TE) (tbs : TS) (n : Nat) (cd : Value) (pn : List (Addr × Obj)) (s : Shared) (H : Hp) : Prop where
  pre : PSs (gcx X X.A.in1 N qual scope f cd n pn s H) pre tpre
  test : PT (gcx X X.A.in1 N qual scope f cd n pn s H) test tt
  as : PSs (gcx X X.A.in1 N qual scope f cd n pn s H) as tas
  ye : PE (gcx X X.A.in1 N qual scope f cd n pn s H) ye te
  bs : PSs (gcx X X.A.in1 N qual scope f cd n pn s H) bs tbs
section
variable {X : Cx}
theorem ps_forGen {x y qual : Str} {st : Stmt} {f : Addr} {fd : FuncData} {N ps : List Str} {k : Nat} {pre as bs body : List Stmt} {test ye e tg : Expr} {es : List Expr} {p cpos pos yp ypos wpos : Pos} {tpre tas tbs tb : TS} {tt : TT} {te : TE} {g : TG} {t : TA}
    (F : Fun X.K x qual st f fd) (S : GScope N ps (defScope st)) (nc : NoCells (defScope st)) (shape : defBody st = pre ++ [.While test (as ++ .Expr (.Yield (some ye) yp) ypos :: bs) [] wpos])
    (rules : ∀ n cd pn s H, Room k (X.A.in1.deeper (envOfC qual (defScope st) n f cd)) → GenRows X N qual (defScope st) f pre as bs test ye tpre tt tas te tbs n cd pn s H)
    (hr : Room (k + 2) X.A) (hx : ∀ e s', ¬ X.xe e s') (hg : Gl X y) (hm : X.mg y = some (.ref f)) (hk : PySem.W.keepIn X.K (.ref f) = true) (hb : Binds X.K fd ps []) (ha : PA X (e :: es) t) (hgt : PG X tg g) (hbody : PSs X body tb)
    (hi : ∀ (q : Str) (m : Nat) (f : Addr) (cd : Value), interactive (envOfC q (defScope st) m f cd) = false := by intro _ _ _ _; rfl) (hdb : (y == ("__debug__" : Str)) = false := by decide) (he : starEach (e :: es) X.env = (false, eval e X.env) :: starEach es X.env := by rfl)
    (hpl : (backTo cpos (starEach es X.env)).any (·.1) = false := by rfl) (hs : ∀ z, foldedSetIterable (.Call (.Name y p) (e :: es) [] cpos) X.env z = pure z := by intro _; rfl) :
    PS X (.For tg (.Call (.Name y p) (e :: es) [] cpos) body [] pos) (tForG N ps t tpre tt tas te tbs g tb) := by
  refine (⟨fun pins s σ H D I h => ?_⟩)
  refine wpAny_For (wpAny_Call_Name_kw (ld_glob I hg hm ?_ hdb)) hs
  refine PySem.W.callWith_K (h₀ := X.base) I.ok.mod.kin hk (thn (ha.run cpos pins s σ H _ I h) fun us s1 ⟨vs, H1, I1, r, hl, M, Hd, hpre, turn⟩ => ⟨I1.kIn, ?_⟩) he hpl
  have ll : us.length = ps.length := r.length.symm.trans hl
  have hb1 : BindsTo s1 fd ⟨us, []⟩ (ps.zip us) := by
    have z := hb s1 us I1.kIn (by rw [List.append_nil]; exact ll)
    rw [List.append_nil] at z
    exact z
  refine wpAny_call (codeAny_mono (gen_made (k := k + 1) F S nc hr I1 hb1 r hl) fun rs s' hq => ?_)
  match rs, hq with
  | .ok (.ret u), ⟨a, gi, go, lo, cd, eu, hgo, lta, hgs, I2, gl⟩ =>
    subst eu
    have pa := (I2.pin (a, go) (List.mem_append_right _ (by simp))).1
    refine wpAny_pyIter_gen (hgo _ pa) ?_
    have W : Gn X pins (defScope st) s1.heap.objs.size [(a, go)] X.A.in1 := ⟨S.kind, S.co, hi, nc, hr.hd, I1.ok.frames, I1.lt, I1.sz, fun z c e => (by obtain ⟨v, o, ho, _⟩ := I1.cell z c e; exact Heap.lt_size ho), fun p hp => Heap.lt_size (I1.pin p hp).1, fun p hp => by rw [List.mem_singleton.mp hp]; exact lta⟩
    have R := rules s1.heap.objs.size cd [(a, go)]
    have rm : Room k (X.A.in1.deeper (envOfC qual (defScope st) s1.heap.objs.size f cd)) := (hr.in1).deeper _
    have I3 : Inv X ((s1.heap.objs.size, lo) :: ([(a, go)] ++ pins)) σ H1 (s'.setGen gi .running) := inv_gens I2 (allBare_setGen I2.bare rfl)
    have hl2 : (start N vs).length = N.length := by
      have z := congrArg List.length S.pre
      rw [List.length_take] at z
      unfold L2.start
      rw [List.length_append]; rw [List.length_map, List.length_replicate]
      omega
    refine codeAny_mono (gen_loop (D := D) (k := M + 1) (n := s1.heap.objs.size) hr.hd (by have := hr.dp; omega) hx hgo hgt hbody hgs (I2.pins_of fun p hp => I2.pin p (List.mem_append_right _ (List.mem_cons_of_mem _ hp))) ⟨rfl, ?_⟩) (fun rs s3 h3 => ?_)
    · rw [shape]
      exact seg_gen W (fun s H => (R s H rm).pre) (fun s H => (R s H rm).test) (fun s H => (R s H rm).as) (fun s H => (R s H rm).ye) (fun s H => (R s H rm).bs) turn (GJ.wake W I3 gl hl2) hpre
    · cases rs with
      | ok fl => exact h3
      | error e => exact False.elim h3
end
abbrev sPProgramError : Stmt := topS 27
abbrev nPProgramError : List Str := ["value", "place", "depth", "statement"]
theorem scPProgramError : FnScope nPProgramError ["value"] (defScope sPProgramError) := ⟨rfl, rfl, rfl, by decide +kernel, rfl, by decide +kernel, by decide +kernel⟩
def gW (s : Stmt) : Stmt := (defBody s).getLastD (.Pass ⟨0, 0, 0, 0⟩)
def gWT (s : Stmt) : Expr := match gW s with
  | .While t _ _ _ => t
  | _ => .Name "" ⟨0, 0, 0, 0⟩
def gWB (s : Stmt) : List Stmt := match gW s with
  | .While _ b _ _ => b
  | _ => []
def gYe (s : Stmt) (n : Nat) : Expr := match (gWB s).getD n (.Pass ⟨0, 0, 0, 0⟩) with
  | .Expr (.Yield (some e) _) _ => e
  | _ => .Name "" ⟨0, 0, 0, 0⟩
theorem ncEach : NoCells (defScope sPEachStatement) := ⟨fun _ => rfl, by decide +kernel⟩
def rePre (K : PySem.W.Frag) : TS := tSeq (tAsg (tLc (iTup K (tRevT K (tVar 0))) (gName 4) tYes (tTup (tCons (tC (.int 0)) (tCons (tVar 4) tNil))) [4]) (gName 1)) (tAsg (tC (.int 0)) (gName 2))
def reTest (K : PySem.W.Frag) : TT := fun σ H Q => tVar 1 σ H fun x H' => ∃ k, TruV K x H' k ∧ Q k H'
def reAs (K : PySem.W.Frag) : TS := tAsg (tBM0 K "list" rPop (tVar 1)) (gTup K 2 (gCons (gName 3) (gCons (gName 4) gNil)))
def reYe : TE := tTup (tCons (tVar 2) (tCons (tVar 3) (tCons (tVar 4) tNil)))
def reBs (K : PySem.W.Frag) : TS := tSeq (tAug 2 (tC (.int 1)) (ipI fun i j => i + j)) (tFor (iTup K (tRevT K (tCall spBlocks [] E0 (tCons (tVar 4) tNil)))) (gName 5) (tFor (iTup K (tRevT K (tVar 5))) (gName 6) (tDrop (tBM K "list" rAppend (tVar 1) (tCons (tTup (tCons (tOp (rI0 fun i j => .int (i + j)) (tVar 3) (tC (.int 1))) (tCons (tVar 6) tNil))) tNil)))))
theorem rowsEach {P : Program} {w : World} {K : PySem.W.Frag} {mg : Str → Option Value} {base : Heap} {f fE fB : Addr} {fdB : FuncData} {N0 : List Str} {q0 : Str} {sc0 : Scope} (F_pblocks_of : Fun K "blocks_of" "blocks_of" sPBlocksOf fB fdB) (G_pblocks_of : FnOk P w K mg base CX0 1 fB fdB ["statement"] spBlocks) (b_pblocks_of : Binds K fdB ["statement"] []) (m_pblocks_of : mg "blocks_of" = some (.ref fB)) (cdv : Value) (A : Around) (outer : List Env) (s0 : Shared) (H0 : Hp) (E : XK) (n : Addr) (cd : Value) (pn : List (Addr × Obj)) (s : Shared) (H : Hp)
    (hr : Room 1 ((cxOf CX0 P w K mg base N0 q0 sc0 f cdv A outer s0 H0 E).nox.A.in1.deeper (envOfC "each_statement" (defScope sPEachStatement) n fE cd))) :
    GenRows (cxOf CX0 P w K mg base N0 q0 sc0 f cdv A outer s0 H0 E).nox nPEachStatement "each_statement" (defScope sPEachStatement) fE ((defBody sPEachStatement).take 2) ((gWB sPEachStatement).take 1) ((gWB sPEachStatement).drop 2) (gWT sPEachStatement) (gYe sPEachStatement 1) (rePre K) (reTest K) (reAs K) reYe (reBs K) n cd pn s H := ⟨(pss_cons (ps_setLc (i := 1) (own := [("statement", 4)]) (g := gName 4) (tt := tYes) rfl scPEachStatement.nd rfl rfl (sw_true rfl rfl rfl (by decide +kernel)) (pi_tup (pe_revT (pv 0))) (blkOk_by (N := nPEachStatement) (sc := defScope sPEachStatement) (by decide +kernel)) (fun _ _ _ _ _ => (pg_name (i := 4) scPEachStatement.nd rfl (by first | exact Or.inl rfl | exact Or.inr rfl))) (fun _ _ _ _ _ => pts_nil) (fun _ _ _ _ _ => (pe_tup (pa_cons pe_int (pa_cons (pv 4) pa_nil)))))
      (pss_one (ps_set (i := 2) scPEachStatement.nd rfl (by first | exact Or.inl rfl | exact Or.inr rfl) pe_int))), (pt_truth (pv 1) (fun _ => rfl)), (pss_one (ps_asg (pe_bm0 PySem.F.plainAttrs_list PySem.F.slot_list_pop PySem.F.type_list_pop mt_pop (pv 1)) (pg_tup rfl (pgs_cons (pg_name (i := 3) scPEachStatement.nd rfl (by first | exact Or.inl rfl | exact Or.inr rfl)) (pgs_cons (pg_name (i := 4) scPEachStatement.nd rfl (by first | exact Or.inl rfl | exact Or.inr rfl)) pgs_nil))))), (pe_tup (pa_cons (pv 2) (pa_cons (pv 3) (pa_cons (pv 4) pa_nil)))), (pss_cons (ps_aug (i := 2) scPEachStatement.nd rfl (.inl rfl) pe_int ip_add)
      (pss_one (ps_for PassesOwn.never rfl (pi_tup (pe_revT (pe_call G_pblocks_of (hr.mono (by omega)) (by rfl) m_pblocks_of F_pblocks_of.kp b_pblocks_of .nil pass0 (pa_cons (pv 4) pa_nil)))) (pg_name (i := 5) scPEachStatement.nd rfl (by first | exact Or.inl rfl | exact Or.inr rfl)) (pss_one (ps_for PassesOwn.never rfl (pi_tup (pe_revT (pv 5))) (pg_name (i := 6) scPEachStatement.nd rfl (by first | exact Or.inl rfl | exact Or.inr rfl)) (pss_one (ps_expr (pe_bm PySem.F.plainAttrs_list PySem.F.slot_list_append PySem.F.type_list_append mt_append (pv 1) (pa_cons (pe_tup (pa_cons (pe_op op_add (pv 3) pe_int) (pa_cons (pv 6) pa_nil))) pa_nil)))))))))⟩
/-- the first fault of the rows, or what the bounds tell -/
def perrL : List Rw → PyData → PyData
  | [], e => e
  | (p, d, s) :: r, e => if 3 < d then .tuple [.int p, .str "nest"] else if s.okB = false then .tuple [.int p, .str "statement"] else perrL r e
def Bk.perr (b : Bk) : PyData := perrL (b.rws 0 0) b.bnd
def spPE (PW PT : Addr) (d : Nat) : Sp := fun vs H Q _ => ∃ (v : V) (b : Bk), vs = [v] ∧ Tp H v (.tuple b.ds) ∧ (∀ r ∈ b.rws 0 0, r.2.2.nm) ∧ b.fac d ∧ b.sz < 16777216 ∧ LamX.Tabs (TL PW PT) H ∧ ∀ H' r, Sx [PW, PT] H H' → LamX.Tabs (TL PW PT) H' → Tp H' r b.perr → Q r H'
section
variable {w : World} {P : Program} {K : PySem.W.Frag} {mg : Str → Option Value} {base : Heap}
theorem ok_perr {f fE fB fS fR : Addr} {fd fdE fdB fdS fdR : FuncData} {PW PT : Addr} {D : Nat} {t1 : Tok} (F_pprogram_error : Fun K "program_error" "program_error" sPProgramError f fd) (F_peach_statement : Fun K "each_statement" "each_statement" sPEachStatement fE fdE) (F_pblocks_of : Fun K "blocks_of" "blocks_of" sPBlocksOf fB fdB) (F_pis_statement : Fun K "is_statement" "is_statement" sPIsStatement fS fdS) (F_pbound_error : Fun K "bound_error" "bound_error" sPBoundError fR fdR)
    (G_pblocks_of : FnOk P w K mg base CX0 1 fB fdB ["statement"] spBlocks) (G_pis_statement : FnOk P w K mg base CX0 11 fS fdS ["value"] spIsSt) (G_pbound_error : FnOk P w K mg base CX0 (D + 7) fR fdR ["program"] (spBound PW PT D))
    (b_peach_statement : Binds K fdE ["program"] []) (b_pblocks_of : Binds K fdB ["statement"] []) (b_pis_statement : Binds K fdS ["value"] []) (b_pbound_error : Binds K fdR ["program"] [])
    (m_peach_statement : mg "each_statement" = some (.ref fE)) (m_pblocks_of : mg "blocks_of" = some (.ref fB)) (m_pis_statement : mg "is_statement" = some (.ref fS)) (m_pbound_error : mg "bound_error" = some (.ref fR))
    (m_MAX_NEST : mg "MAX_NEST" = some (.int 3 t1)) (z_isinstance : mg "isinstance" = none) (z_tuple : mg "tuple" = none) : FnOk P w K mg base CX0 (D + 12) f fd ["value"] (spPE PW PT D) := by
  refine F_pprogram_error.ok scPProgramError (fun vs H Q E h => ?_) (fun cdv A outer s H vs Q E hr h => ?_)
  · obtain ⟨_, _, rfl, _⟩ := h
    rfl
  · obtain ⟨v, b, rfl, t, hnm, hf, hz, hT, q⟩ := h
    refine ⟨_, (pss_cons (ps_if (pt_not (pt_val (pe_callB call_isi (by rfl) z_isinstance (by decide +kernel) (pa_cons (pv 0) (pa_cons (pe_bltn (v := .ty "tuple") (by rfl) z_tuple (by decide +kernel) rfl) pa_nil))))) (pss_one (ps_ret (pe_tup (pa_cons pe_non (pa_cons pe_str pa_nil))))) pss_nil)
      (C8.pss_cut (ps_forGen (k := 1) (pre := (defBody sPEachStatement).take 2) (test := gWT sPEachStatement) (as := (gWB sPEachStatement).take 1) (ye := gYe sPEachStatement 1) (bs := (gWB sPEachStatement).drop 2) F_peach_statement scPEachStatement ncEach (by rfl) (fun n cd pn s H hr => rowsEach F_pblocks_of G_pblocks_of b_pblocks_of m_pblocks_of cdv A outer _ _ E n cd pn s H hr) (hr.mono (by omega)) (fun _ _ z => z) (by rfl) m_peach_statement F_peach_statement.kp b_peach_statement (pa_cons (pv 0) pa_nil) (pg_tup rfl (pgs_cons (pg_name (i := 1) scPProgramError.nd rfl (by first | exact Or.inl rfl | exact Or.inr rfl)) (pgs_cons (pg_name (i := 2) scPProgramError.nd rfl (by first | exact Or.inl rfl | exact Or.inr rfl)) (pgs_cons (pg_name (i := 3) scPProgramError.nd rfl (by first | exact Or.inl rfl | exact Or.inr rfl)) pgs_nil)))) (pss_cons (ps_if (pt_cmpR op_gt (pv 2) (pe_glob (v := .int 3) (by rfl) m_MAX_NEST ⟨_, rfl⟩) (nomark _)) (pss_one (ps_ret (pe_tup (pa_cons (pv 1) (pa_cons pe_str pa_nil))))) pss_nil)
      (pss_one (ps_if (pt_not (pt_val (pe_call G_pis_statement (hr.mono (by omega)) (by rfl) m_pis_statement F_pis_statement.kp b_pis_statement .nil pass0 (pa_cons (pv 3) pa_nil)))) (pss_one (ps_ret (pe_tup (pa_cons (pv 1) (pa_cons pe_str pa_nil))))) pss_nil))))
      (pss_one (ps_ret (pe_call G_pbound_error (hr.mono (by omega)) (by rfl) m_pbound_error F_pbound_error.kp b_pbound_error .nil pass0 (pa_cons (pv 0) pa_nil)))))), ?_⟩
    have t0 := t
    obtain ⟨a, xs, rfl, ha, hx⟩ := t.tuple
    rw [b.ds_lst] at hx
    obtain ⟨hl, hg⟩ := hx.lst
    refine ⟨_, rfl, _, _, _, _, _, rfl, .ty _, .base (.tup ha), kit_ty (r := true) (by decide +kernel), _, rfl, iteF ?_⟩
    refine ⟨fun σ H' => ∃ o1 o2 o3, σ = [some (.ref a), o1, o2, o3] ∧ Sx [] H H' ∧ b.bnd = b.perr, ?_, ?_⟩
    · refine ⟨_, rfl, rfl, b.sz, fun m σg σc H' => ∃ (D : Addr) (ws : List (Int × St)) (k : Nat) (o3 o4 o5 o6 c1 c2 c3 : Option V), σg = [some (.ref a), some (.ref D), some (.int k), o3, o4, o5, o6] ∧ σc = [some (.ref a), c1, c2, c3] ∧ H D = none ∧ Sx [] H H' ∧ Stk H' D ws ∧ k + stkSz ws = b.sz ∧ (∀ r ∈ stkRws ws k, r.2.2.nm) ∧ perrL (stkRws ws k) b.bnd = b.perr ∧ m = stkSz ws, ?_, ?_⟩
      · -- the first stack
        refine ⟨_, rfl, a, xs, rfl, SqT.of ha, fun p hp => ⟨p, rfl, ⟨_, SqT.of upd_same⟩, fun D hD => lc_tup (xs := xs.reverse)
          (fun i H1 => Sx [] H H1 ∧ H1 p = some (.tup xs.reverse) ∧ Stk H1 D ((b.lst.drop (b.lst.length - i)).map fun s => (0, s)))
          ⟨(Sx.n0 hp).trans (Sx.n0 hD), by rw [upd_ne (ne_of_none upd_same hD)]; exact upd_same, [], upd_same, by rw [Nat.sub_zero, List.drop_length]; exact .nil⟩ (fun i H1 _ z => SqT.of z.2.1) (fun i x H1 hi z => ?_) (fun H1 z => ?_)⟩⟩
        · obtain ⟨s1, hp1, hv⟩ := z
          obtain ⟨hi1, hi2⟩ := rev_get hi
          rw [hl] at hi1 hi2
          obtain ⟨st, hst, tst⟩ := hg _ x hi2
          refine ⟨rfl, ?_⟩
          refine ⟨_, rfl, by show 2 ≤ sizeLine; decide, fun u hu => ?_⟩
          have hDn : H D = none := by
            cases e : H D with
            | none => rfl
            | some o => have := Sx.n0 (o := .tup xs.reverse) hp D o (by simp) e; rw [hD] at this; cases this
          have bl := bk_le b
          obtain ⟨acc, e1, e2, e3⟩ := (hv.keep (Sx.n0 hu)).push (x := .ref u) (y := (0, st)) (tpPair upd_same ((tst.keep s1.tk0).new hu))
          have npD : p ≠ D := ne_of_none upd_same hD
          refine ⟨acc, e1, lt_line (by rw [e2, List.length_map, List.length_drop]; omega), (s1.new hu).own hDn, ?_, ?_⟩
          · rw [upd_ne npD]; exact Sx.n0 hu _ _ (by simp) hp1
          · rw [drop_back hi1 hst]; exact e3
        · obtain ⟨s1, _, hv⟩ := z
          have hDn : H D = none := by
            cases e : H D with
            | none => rfl
            | some o => have := Sx.n0 (o := .tup xs.reverse) hp D o (by simp) e; rw [hD] at this; cases this
          rw [List.length_reverse, hl, Nat.sub_self, List.drop_zero] at hv
          have e0 : stkSz (b.lst.map fun s => ((0 : Int), s)) = b.sz := stkSz_bk b 0
          have e1 : stkRws (b.lst.map fun s => ((0 : Int), s)) ((0 : Nat) : Int) = b.rws 0 0 := stk_bk b 0 0
          exact ⟨b.sz, Nat.le_refl _, D, b.lst.map fun s => (0, s), 0, _, _, _, _, _, _, _, rfl, rfl, hDn, s1, hv, by rw [e0]; omega, by rw [e1]; exact hnm, by rw [e1]; rfl, e0.symm⟩
      · rintro m σg σc H' ⟨D, ws, k, o3, o4, o5, o6, c1, c2, c3, rfl, rfl, hDn, s2, hs, hk, hnm2, hpe, rfl⟩
        cases ws with
        | nil =>
          refine ⟨_, rfl, false, .inl ⟨_, SqL.of hs.nil_, rfl⟩, iteF ?_⟩
          exact ⟨_, _, _, rfl, s2, hpe⟩
        | cons y ws =>
          obtain ⟨d, st⟩ := y
          obtain ⟨acc, c, x, e1, e2, e3, e4, e5, e6⟩ := hs.pop
          have hk : k + (st.sz + stkSz ws) = b.sz := hk
          have stp := st.sz_pos
          have wle := stk_le ws
          have rowE : stkRws ((d, st) :: ws) k = ((k : Int), d, st) :: (stkRws (kidsOf st.blks (d + 1)) (k + 1) ++ stkRws ws (k + st.sz)) := by
            show st.rws d k ++ stkRws ws _ = _
            rw [st.rws_kids, List.cons_append]
          rw [rowE] at hnm2 hpe
          have nm1 : st.nm := hnm2 _ (List.mem_cons_self ..)
          refine ⟨_, rfl, true, .inl ⟨_, SqL.of e1, ?_⟩, iteT ?_⟩
          · cases acc with
            | nil => simp at e6
            | cons _ _ => rfl
          refine ⟨_, rfl, .inl ⟨rfl, _, SqL.of e1⟩, D, _, _, rfl, rfl, e1, e2, ?_⟩
          have k1 : Tk H' (upd H' D (.lst acc.dropLast)) := Tk.lst e1
          refine gh (H1 := upd H' D (.lst acc.dropLast)) (F := fun H2 => Sx [] H H2 ∧ Tk H' H2 ∧ Stk H2 D ws) ⟨s2.own hDn, k1, e5⟩ (fun H2 ⟨s3, k1, e5⟩ => ?_)
          refine ⟨c, _, rfl, SqT.of (k1 _ _ e3), rfl, _, _, rfl, gnm ⟨_, _, rfl, gnm ⟨rfl, ?_⟩⟩⟩
          refine ⟨_, rfl, _, rfl, _, rfl, by show 3 ≤ sizeLine; decide, fun u hu => ?_⟩
          have tx : Tp (upd H2 u (.tup [.int k, .int d, x])) x st.d := (e4.keep k1).new hu
          have su : Sx [] H2 (upd H2 u (.tup [.int k, .int d, x])) := Sx.n0 hu
          have eu : (upd H2 u (.tup [.int k, .int d, x])) u = some (.tup [.int k, .int d, x]) := upd_same
          refine gh (H1 := upd H2 u (.tup [.int k, .int d, x])) (F := fun H3 => Sx [] H H3 ∧ Stk H3 D ws ∧ Tp H3 x st.d ∧ H3 u = some (.tup [.int k, .int d, x])) ⟨s3.trans su, e5.keep su, tx, eu⟩ (fun H3 ⟨s4, e7, e8, eu⟩ => ?_)
          -- the consumer's turn
          refine ⟨fun σ3 H5 => σ3 = [some (.ref a), some (.int k), some (.int d), some x] ∧ Sx [] H H5 ∧ Stk H5 D ws ∧ Tp H5 x st.d ∧ perrL (stkRws (kidsOf st.blks (d + 1)) (k + 1) ++ stkRws ws (k + st.sz)) b.bnd = b.perr, ?_, ?_⟩
          · refine ⟨u, _, rfl, SqT.of eu, rfl, _, _, rfl, gnm ⟨_, _, rfl, gnm ⟨_, _, rfl, gnm ⟨rfl, ?_⟩⟩⟩⟩
            refine ⟨_, rfl, _, 3, rfl, rfl, _, rfl, ite2 (fun e => ?_) (fun e => ?_)⟩
            · refine ⟨_, rfl, by show 2 ≤ sizeLine; decide, fun p hp => ?_⟩
              have e' : (3 : Int) < d := of_decide_eq_true e
              refine q _ _ (s4.new hp).nil (Tabs.sx hT (s4.new hp)) ?_
              rw [← hpe, perrL, if_pos e']
              exact .tup upd_same (.cons (.int _) (.cons (.str _) .nil))
            · have e' : ¬ (3 : Int) < d := fun z => e (decide_eq_true z)
              rw [perrL, if_neg e'] at hpe
              refine ⟨_, rfl, x, st, rfl, e8, nm1, fun H4 s5 => ⟨_, rfl, ?_⟩⟩
              cases hb : st.okB with
              | false =>
                rw [if_pos hb] at hpe
                refine iteT ⟨_, rfl, by show 2 ≤ sizeLine; decide, fun p hp => ?_⟩
                refine q _ _ ((s4.trans s5).new hp).nil (Tabs.sx hT ((s4.trans s5).new hp)) ?_
                rw [← hpe]
                exact .tup upd_same (.cons (.int _) (.cons (.str _) .nil))
              | true =>
                rw [if_neg (by rw [hb]; simp)] at hpe
                exact iteF ⟨rfl, s4.trans s5, e7.keep s5, e8.keep s5.tk0, hpe⟩
          · rintro _ H5 ⟨rfl, s5, hs5, t5, hpe5⟩
            -- what lies in it
            refine Exists.intro _ ⟨rfl, _, _, rfl, rfl, ?_⟩
            refine ⟨_, rfl, x, st, rfl, t5, fun H4 v4 s6 t4 => ?_⟩
            obtain ⟨a4, xs4, rfl, ha4, hx4⟩ := t4.tuple
            rw [st.parts_blks] at hx4
            obtain ⟨hl4, hg4⟩ := hx4.lst
            refine ⟨a4, xs4, rfl, SqT.of ha4, fun p4 hp4 => ⟨p4, rfl, ⟨_, SqT.of upd_same⟩, for_tup (xs := xs4.reverse)
              (fun i σ H5 => ∃ o5 o6, σ = [some (.ref a), some (.ref D), some (.int (k + 1)), some (.int d), some x, o5, o6] ∧ Sx [] H H5 ∧ H5 p4 = some (.tup xs4.reverse) ∧ Tk H4 H5 ∧ Stk H5 D (kidsOf (st.blks.drop (st.blks.length - i)) (d + 1) ++ ws))
              ⟨_, _, rfl, (s5.trans s6).new hp4, upd_same, (Sx.n0 hp4).tk0, by rw [Nat.sub_zero, List.drop_length]; exact (hs5.keep s6).keep (Sx.n0 hp4)⟩ (fun i σ H5 _ z => by obtain ⟨_, _, _, _, z, _⟩ := z; exact SqT.of z) (fun i y σ H5 hi z => ?_) (fun σ H5 z => ?_)⟩⟩
            · obtain ⟨o5, o6, rfl, s6, hp5, k5, hs5⟩ := z
              obtain ⟨hi1, hi2⟩ := rev_get hi
              rw [hl4] at hi1 hi2
              obtain ⟨bk, hbk, tbk⟩ := hg4 _ y hi2
              have hmem : bk ∈ st.blks := List.mem_of_getElem? hbk
              refine gnm ?_
              obtain ⟨a6, xs6, rfl, ha6, hx6⟩ := (tbk.keep k5).tuple
              rw [bk.ds_lst] at hx6
              obtain ⟨hl6, hg6⟩ := hx6.lst
              rw [drop_back hi1 hbk]
              have bl := bk_le bk
              have kl : (kidsOf (st.blks.drop (st.blks.length - i)) (d + 1)).length + bk.sz ≤ st.sz := by
                have h1 := stk_le (kidsOf (st.blks.drop (st.blks.length - i)) (d + 1))
                have h2 : ∀ (l : List Bk) (n : Nat), ((l.drop n).map Bk.sz).sum ≤ (l.map Bk.sz).sum := fun l n => by
                  have e := congrArg (fun l => (l.map Bk.sz).sum) (List.take_append_drop n l)
                  simp only [List.map_append, List.sum_append] at e
                  omega
                have h3 := h2 st.blks (st.blks.length - (i + 1))
                rw [drop_back hi1 hbk, List.map_cons, List.sum_cons] at h3
                rw [kidsSz] at h1
                rw [st.sz_blks]
                omega
              refine ⟨_, rfl, a6, xs6, rfl, SqT.of ha6, fun p6 hp6 => ⟨p6, rfl, ⟨_, SqT.of upd_same⟩, for_tup (xs := xs6.reverse)
                (fun j σ H6 => ∃ o6, σ = [some (.ref a), some (.ref D), some (.int (k + 1)), some (.int d), some x, some (.ref a6), o6] ∧ Sx [] H H6 ∧ H6 p4 = some (.tup xs4.reverse) ∧ H6 p6 = some (.tup xs6.reverse) ∧ Tk H5 H6 ∧ Stk H6 D ((bk.lst.drop (bk.lst.length - j)).map (fun s => (d + 1, s)) ++ (kidsOf (st.blks.drop (st.blks.length - i)) (d + 1) ++ ws)))
                ⟨_, rfl, s6.new hp6, Sx.n0 hp6 _ _ (by simp) hp5, upd_same, (Sx.n0 hp6).tk0, by rw [Nat.sub_zero, List.drop_length]; exact hs5.keep (Sx.n0 hp6)⟩ (fun j σ H6 _ z => by obtain ⟨_, _, _, _, z, _⟩ := z; exact SqT.of z) (fun j y2 σ H6 hj z => ?_) (fun σ H6 z => ?_)⟩⟩
              · obtain ⟨o6, rfl, s7, hp6a, hp6b, k6, hs6⟩ := z
                obtain ⟨hj1, hj2⟩ := rev_get hj
                rw [hl6] at hj1 hj2
                obtain ⟨st2, hst2, tst2⟩ := hg6 _ y2 hj2
                refine gnm ?_
                obtain ⟨L6, hL6, _⟩ := id hs6
                refine ⟨_, rfl, .inl ⟨rfl, _, SqL.of hL6⟩, _, rfl, d, 1, rfl, rfl, _, rfl, by show 2 ≤ sizeLine; decide, fun u2 hu2 => ?_⟩
                obtain ⟨acc2, g1, g2, g3⟩ := (hs6.keep (Sx.n0 hu2)).push (x := .ref u2) (y := (d + 1, st2)) (tpPair upd_same ((tst2.keep k6).new hu2))
                refine ⟨D, _, _, rfl, rfl, g1, lt_line (by rw [g2, List.length_append, List.length_map, List.length_drop, List.length_append]; omega), ?_⟩
                refine ⟨_, rfl, (s7.new hu2).own hDn, ?_, ?_, (k6.trans (Sx.n0 hu2).tk0).trans (Tk.lst g1), ?_⟩
                · exact ((Sx.n0 hu2).tk0.trans (Tk.lst g1)) _ _ hp6a
                · exact ((Sx.n0 hu2).tk0.trans (Tk.lst g1)) _ _ hp6b
                · rw [drop_back hj1 hst2]; exact g3
              · obtain ⟨o6, rfl, s7, hp6a, hp6b, k6, hs6⟩ := z
                rw [List.length_reverse, hl6, Nat.sub_self, List.drop_zero] at hs6
                refine ⟨_, _, rfl, s7, hp6a, k5.trans k6, ?_⟩
                show Stk H6 D ((bk.stk (d + 1) ++ kidsOf (st.blks.drop (st.blks.length - i)) (d + 1)) ++ ws)
                rw [List.append_assoc]
                exact hs6
            · obtain ⟨o5, o6, rfl, s6, hp5, k5, hs5⟩ := z
              rw [List.length_reverse, hl4, Nat.sub_self, List.drop_zero] at hs5
              have e9 : ((k + 1 : Nat) : Int) = (k : Int) + 1 := by omega
              have rows : stkRws (kidsOf st.blks (d + 1) ++ ws) ((k + 1 : Nat) : Int) = stkRws (kidsOf st.blks (d + 1)) (k + 1) ++ stkRws ws (k + st.sz) := by
                rw [stk_append, e9, kidsSz]
                congr 2
                rw [st.sz_blks]
                omega
              have szE : stkSz (kidsOf st.blks (d + 1) ++ ws) + 1 = st.sz + stkSz ws := by
                rw [stkSz_append, kidsSz, st.sz_blks]
                omega
              refine ⟨_, ?_, D, kidsOf st.blks (d + 1) ++ ws, k + 1, _, _, _, _, _, _, _, by rw [e9], rfl, hDn, s6, hs5, by omega, by rw [rows]; exact fun r hr => hnm2 r (List.mem_cons_of_mem _ hr), by rw [rows]; exact hpe5, rfl⟩
              have e10 : ((d, st) : Int × St).2.sz = st.sz := rfl
              rw [stkSz_cons, e10]
              omega
    · rintro _ H1 ⟨o1, o2, o3, rfl, s1, hpe⟩
      refine ⟨_, rfl, .ref a, b, rfl, t0.keep s1.tk0, hf, hz, Tabs.sx hT s1, fun H2 r s2 hT2 tr => ?_⟩
      exact q H2 r (s1.nil.trans s2) hT2 (by rw [← hpe]; exact tr)
end
/-! ### programs of a list of statements -/
def Bk.ofL : List St → Bk
  | [] => .nil
  | s :: l => .cons s (Bk.ofL l)
theorem Bk.ofL_lst : ∀ l : List St, (Bk.ofL l).lst = l
  | [] => rfl
  | s :: l => by rw [Bk.ofL, Bk.lst, Bk.ofL_lst l]
theorem Bk.ofL_ds (l : List St) : (Bk.ofL l).ds = l.map St.d := by rw [Bk.ds_lst, Bk.ofL_lst]
theorem Bk.ofL_sz (l : List St) : (Bk.ofL l).sz = (l.map St.sz).sum := by rw [Bk.sz_lst, Bk.ofL_lst]
theorem Bk.wt_sum : ∀ b : Bk, b.wt = (b.lst.map St.wt).sum
  | .nil => rfl
  | .cons s b => by rw [Bk.wt, Bk.lst, List.map_cons, List.sum_cons, Bk.wt_sum b]
theorem Bk.ofL_ok {ns : List Str} {d : Nat} : ∀ {l : List St}, (∀ s ∈ l, s.ok ns d) → (Bk.ofL l).ok ns (d + 1)
  | [], _ => trivial
  | s :: l, h => ⟨by omega, h s (List.mem_cons_self ..), Bk.ofL_ok fun x hx => h x (List.mem_cons_of_mem _ hx)⟩
theorem Bk.mem_ok {ns : List Str} {d : Nat} : ∀ {b : Bk} {s : St}, b.ok ns d → s ∈ b.lst → s.ok ns (d - 1)
  | .cons s0 b, s, ⟨h1, h2, h3⟩, h => by
    rcases List.mem_cons.1 (show s ∈ s0 :: b.lst from h) with rfl | h
    · exact h2
    · exact Bk.mem_ok h3 h
theorem sum_take_le (f : St → Nat) : ∀ (l : List St) (n : Nat), ((l.take n).map f).sum ≤ (l.map f).sum
  | [], n => by simp
  | s :: l, 0 => by simp
  | s :: l, n + 1 => by
    have := sum_take_le f l n
    simp only [List.take_succ_cons, List.map_cons, List.sum_cons]
    omega
/-- its first statements, and one payment more -/
def Bk.more (b : Bk) (n : Nat) (i : Int) : Bk := Bk.ofL (b.lst.take n ++ [.pay (.int i)])
theorem Bk.more_ok {ns : List Str} {b : Bk} (h : b.ok ns 4) (n : Nat) {i : Int} (h1 : -99 ≤ i) (h2 : i ≤ 99) : (b.more n i).ok ns 4 := Bk.ofL_ok fun s hs => by
  rcases List.mem_append.1 hs with hs | hs
  · exact Bk.mem_ok h (List.mem_of_mem_take hs)
  · rw [List.mem_singleton.mp hs]
    exact ⟨by decide, h1, h2⟩
theorem Bk.more_sz (b : Bk) (n : Nat) (i : Int) : (b.more n i).sz ≤ b.sz + 1 := by
  have := sum_take_le St.sz b.lst n
  unfold Bk.more
  rw [Bk.ofL_sz, List.map_append, List.sum_append, b.sz_lst]
  simp only [List.map_cons, List.map_nil, List.sum_cons, List.sum_nil, St.sz]
  omega
theorem Bk.more_wt (b : Bk) (n : Nat) (i : Int) : (b.more n i).wt ≤ b.wt + 1 := by
  have := sum_take_le St.wt b.lst n
  unfold Bk.more
  rw [Bk.wt_sum, Bk.ofL_lst, List.map_append, List.sum_append, b.wt_sum]
  simp only [List.map_cons, List.map_nil, List.sum_cons, List.sum_nil, St.wt]
  omega
theorem TpAll.mem {H : Hp} : ∀ {vs : List V} {ds : List PyData} {v : V}, TpAll H vs ds → v ∈ vs → ∃ d ∈ ds, Tp H v d
  | _, _, _, .cons a b, h => by
    rcases List.mem_cons.1 h with rfl | h
    · exact ⟨_, List.mem_cons_self .., a⟩
    · obtain ⟨d, hd, t⟩ := TpAll.mem b h
      exact ⟨d, List.mem_cons_of_mem _ hd, t⟩
/-! ### programs written otherwise -/
def Ex.oth : Ex → Ex
  | .int i => .int i
  | .name z => .name z
  | .times f x => .times f x.oth
  | .plus x y => .plus y.oth x.oth
  | .minus x y => match y.oth with
    | .int c => .plus x.oth (.int (0 - c))
    | .times f z => .plus x.oth (.times (0 - f) z)
    | y' => .minus x.oth y'
theorem Ex.oth_ev (ρ : Str → Int) : ∀ e : Ex, e.oth.ev ρ = e.ev ρ
  | .int i => rfl
  | .name z => rfl
  | .times f x => by rw [Ex.oth, Ex.ev, Ex.ev, Ex.oth_ev ρ x]
  | .plus x y => by rw [Ex.oth, Ex.ev, Ex.ev, Ex.oth_ev ρ x, Ex.oth_ev ρ y, Int.add_comm]
  | .minus x y => by
    have hx := Ex.oth_ev ρ x
    have hy := Ex.oth_ev ρ y
    rw [Ex.oth]
    split
    · rename_i c e
      rw [e] at hy
      simp only [Ex.ev] at hy ⊢
      rw [hx, ← hy]; omega
    · rename_i f z e
      rw [e] at hy
      simp only [Ex.ev] at hy ⊢
      rw [hx, ← hy, Int.zero_sub, Int.neg_mul]; omega
    · simp only [Ex.ev]
      rw [hx, hy]
theorem Ex.oth_ok {ns : List Str} : ∀ (e : Ex) (n : Nat), e.ok ns n → e.oth.ok ns n
  | .int i, n, h => h
  | .name z, n, h => h
  | .times f x, n, ⟨h1, h2, h3, h4⟩ => ⟨h1, h2, h3, Ex.oth_ok x (n - 1) h4⟩
  | .plus x y, n, ⟨h1, h2, h3⟩ => ⟨h1, Ex.oth_ok y (n - 1) h3, Ex.oth_ok x (n - 1) h2⟩
  | .minus x y, n, ⟨h1, h2, h3⟩ => by
    have hx := Ex.oth_ok x (n - 1) h2
    have hy := Ex.oth_ok y (n - 1) h3
    rw [Ex.oth]
    split
    · rename_i c e
      rw [e] at hy
      obtain ⟨a, b, c⟩ := hy
      exact ⟨h1, hx, a, by omega, by omega⟩
    · rename_i f z e
      rw [e] at hy
      obtain ⟨a, b, c, d⟩ := hy
      exact ⟨h1, hx, a, by omega, by omega, d⟩
    · exact ⟨h1, hx, hy⟩
def Ts.oth : Ts → Ts
  | .not t => t
  | .rest x b r => if b = 2 then .rest x.oth 2 (1 - r) else .not (.rest x.oth b r)
  | .less x y => .not (.less x.oth y.oth)
theorem Ts.oth_ev {ns : List Str} (ρ : Str → Int) (t : Ts) (n : Nat) (h : t.ok ns n) : t.oth.ev ρ = !t.ev ρ := by
  cases t with
  | not t => rw [Ts.oth, Ts.ev, Bool.not_not]
  | less x y => simp only [Ts.oth, Ts.ev, Ex.oth_ev]
  | rest x b r =>
    obtain ⟨_, h1, h2, h3, h4⟩ := h
    rw [Ts.oth]
    split
    · rename_i e
      subst e
      simp only [Ts.ev, Ex.oth_ev]
      by_cases z : (x.ev ρ - r) % 2 = 0
      · rw [decide_eq_true z, decide_eq_false (by omega)]; rfl
      · rw [decide_eq_false z, decide_eq_true (by omega)]; rfl
    · simp only [Ts.ev, Ex.oth_ev]
theorem Ts.ok_up {ns : List Str} : ∀ (t : Ts) (n m : Nat), n ≤ m → t.ok ns n → t.ok ns m
  | .rest _ _ _, _, _, _, h => h
  | .less _ _, _, _, _, h => h
  | .not t, n, m, hm, ⟨h1, h2⟩ => ⟨by omega, Ts.ok_up t (n - 1) (m - 1) (by omega) h2⟩
theorem Ts.oth_ok {ns : List Str} (t : Ts) (h : t.ok ns 2) : t.oth.ok ns 2 := by
  cases t with
  | not t => exact Ts.ok_up t 1 2 (by decide) h.2
  | less x y => exact ⟨by decide, Ex.oth_ok x 3 h.1, Ex.oth_ok y 3 h.2⟩
  | rest x b r =>
    obtain ⟨hx, h1, h2, h3, h4⟩ := h
    rw [Ts.oth]
    split
    · exact ⟨Ex.oth_ok x 3 hx, by decide, by decide, by omega, by omega⟩
    · exact ⟨by decide, Ex.oth_ok x 3 hx, h1, h2, h3, h4⟩
mutual
def St.oth (lg : Bool) : St → List St
  | .set z e => [.set z e.oth]
  | .pay e => match e with
    | .plus a b => [.pay a.oth, .pay b.oth]
    | e => [.pay e.oth]
  | .stop => [.stop]
  | .ite t y n => [.ite t.oth (Bk.ofL (n.oth lg)) (Bk.ofL (y.oth lg))]
  | .rep k y => if lg = true then (List.replicate k.toNat (y.oth lg)).flatten else [.rep k (Bk.ofL (y.oth lg))]
def Bk.oth (lg : Bool) : Bk → List St
  | .nil => []
  | .cons s b => s.oth lg ++ b.oth lg
end
/-- a list of statements, run -/
def lrun (l : List St) (p : Int) (w : Wd) : Wd × Bool := (Bk.ofL l).run p w
theorem lrun_append : ∀ (l m : List St) (p : Int) (w : Wd), ∃ p', lrun (l ++ m) p w = if (lrun l p w).2 = true then lrun l p w else lrun m p' (lrun l p w).1
  | [], m, p, w => ⟨p, by simp [lrun, Bk.ofL, Bk.run]⟩
  | s :: l, m, p, w => by
    obtain ⟨p', h⟩ := lrun_append l m (p + s.sz) (s.run p w).1
    refine ⟨p', ?_⟩
    simp only [lrun, List.cons_append, Bk.ofL, Bk.run] at h ⊢
    by_cases e : (s.run p w).2 = true
    · simp [e]
    · rw [if_neg e, if_neg e]
      exact h
/-- as to names and total -/
def Weq (w w' : Wd) : Prop := w'.en = w.en ∧ w'.tot = w.tot
theorem lrun_one (s : St) (p : Int) (w : Wd) : lrun [s] p w = s.run p w := by
  simp only [lrun, Bk.ofL, Bk.run]
  by_cases e : (s.run p w).2 = true
  · rw [if_pos e]
  · rw [if_neg e]
    exact Prod.ext rfl (eq_false_of_ne_true e).symm
theorem lrun_rep {f : Wd → Wd × Bool} {l : List St} (hf : ∀ p w w', Weq w w' → Weq (f w).1 (lrun l p w').1 ∧ (lrun l p w').2 = (f w).2) : ∀ (n : Nat) (p : Int) (w w' : Wd), Weq w w' → Weq (itr f n w).1 (lrun (List.replicate n l).flatten p w').1 ∧ (lrun (List.replicate n l).flatten p w').2 = (itr f n w).2
  | 0, p, w, w', h => ⟨h, rfl⟩
  | n + 1, p, w, w', h => by
    rw [List.replicate_succ]; rw [List.flatten_cons]
    obtain ⟨p', e⟩ := lrun_append l (List.replicate n l).flatten p w'
    obtain ⟨h1, h2⟩ := hf p w w' h
    rw [e, itr]
    by_cases z : (f w).2 = true
    · rw [if_pos z, if_pos (h2.trans z)]
      exact ⟨h1, h2⟩
    · rw [if_neg z, if_neg (by rw [h2]; exact z)]
      exact lrun_rep hf n p' _ _ h1
theorem itr_weq {f g : Wd → Wd × Bool} (hf : ∀ w w', Weq w w' → Weq (f w).1 (g w').1 ∧ (g w').2 = (f w).2) : ∀ (n : Nat) (w w' : Wd), Weq w w' → Weq (itr f n w).1 (itr g n w').1 ∧ (itr g n w').2 = (itr f n w).2
  | 0, w, w', h => ⟨h, rfl⟩
  | n + 1, w, w', h => by
    obtain ⟨h1, h2⟩ := hf w w' h
    simp only [itr]
    by_cases z : (f w).2 = true
    · rw [if_pos z, if_pos (h2.trans z)]
      exact ⟨h1, h2⟩
    · rw [if_neg z, if_neg (by rw [h2]; exact z)]
      exact itr_weq hf n _ _ h1
mutual
theorem St.run_oth {ns : List Str} (lg : Bool) : ∀ (s : St) (d : Nat) (p p' : Int) (w w' : Wd), s.ok ns d → Weq w w' → Weq (s.run p w).1 (lrun (s.oth lg) p' w').1 ∧ (lrun (s.oth lg) p' w').2 = (s.run p w).2
  | .set z e, d, p, p', w, w', h, ⟨h1, h2⟩ => by
    rw [St.oth, lrun_one]
    simp only [St.run, Ex.oth_ev, h1, h2]
    exact ⟨⟨rfl, rfl⟩, trivial⟩
  | .pay e, d, p, p', w, w', h, ⟨h1, h2⟩ => by
    cases e with
    | plus a b =>
      simp only [St.oth, lrun, Bk.ofL, Bk.run, St.run, Ex.oth_ev, h1, h2, Ex.ev]
      exact ⟨⟨rfl, by simp; omega⟩, rfl⟩
    | int i => simp only [St.oth]; rw [lrun_one]; simp only [St.run, Ex.oth_ev, h1, h2]; exact ⟨⟨rfl, rfl⟩, trivial⟩
    | name i => simp only [St.oth]; rw [lrun_one]; simp only [St.run, Ex.oth_ev, h1, h2]; exact ⟨⟨rfl, rfl⟩, trivial⟩
    | minus a b => simp only [St.oth]; rw [lrun_one]; simp only [St.run, Ex.oth_ev, h1, h2]; exact ⟨⟨rfl, rfl⟩, trivial⟩
    | times a b => simp only [St.oth]; rw [lrun_one]; simp only [St.run, Ex.oth_ev, h1, h2]; exact ⟨⟨rfl, rfl⟩, trivial⟩
  | .stop, d, p, p', w, w', h, ⟨h1, h2⟩ => by
    rw [St.oth, lrun_one]
    exact ⟨⟨h1, h2⟩, rfl⟩
  | .ite t y n, d, p, p', w, w', h, hw => by
    obtain ⟨h1, h2⟩ := hw
    rw [St.oth, lrun_one]
    simp only [St.run]
    rw [h1, Ts.oth_ev w.en t 2 h.1]
    by_cases z : t.ev w.en = true
    · rw [if_pos z, if_neg (by rw [z]; decide)]
      exact Bk.run_oth lg y d _ _ _ _ h.2.1 ⟨rfl, h2⟩
    · rw [if_neg z, if_pos (by rw [eq_false_of_ne_true z]; decide)]
      exact Bk.run_oth lg n d _ _ _ _ h.2.2 ⟨rfl, h2⟩
  | .rep k y, d, p, p', w, w', h, ⟨h1, h2⟩ => by
    have body : ∀ q q' w w', Weq w w' → Weq (y.run q w).1 (lrun (y.oth lg) q' w').1 ∧ (lrun (y.oth lg) q' w').2 = (y.run q w).2 := fun q q' w w' hw => Bk.run_oth lg y d q q' w w' h.2.2 hw
    unfold St.oth
    split
    · simp only [St.run]
      exact lrun_rep (fun q w w' hw => body (p + 1) q w w' hw) k.toNat p' _ _ ⟨h1, h2⟩
    · rw [lrun_one]
      simp only [St.run]
      exact itr_weq (fun w w' hw => body (p + 1) (p' + 1) w w' hw) k.toNat _ _ ⟨h1, h2⟩
theorem Bk.run_oth {ns : List Str} (lg : Bool) : ∀ (b : Bk) (d : Nat) (p p' : Int) (w w' : Wd), b.ok ns d → Weq w w' → Weq (b.run p w).1 (lrun (b.oth lg) p' w').1 ∧ (lrun (b.oth lg) p' w').2 = (b.run p w).2
  | .nil, d, p, p', w, w', h, hw => ⟨hw, rfl⟩
  | .cons s b, d, p, p', w, w', h, hw => by
    rw [Bk.oth]
    obtain ⟨q, e⟩ := lrun_append (s.oth lg) (b.oth lg) p' w'
    obtain ⟨h1, h2⟩ := St.run_oth lg s (d - 1) p p' w w' h.2.1 hw
    rw [e, Bk.run]
    by_cases z : (s.run p w).2 = true
    · rw [if_pos z, if_pos (h2.trans z)]
      exact ⟨h1, h2⟩
    · rw [if_neg z, if_neg (by rw [h2]; exact z)]
      exact Bk.run_oth lg b d _ _ _ _ h.2.2 h1
end
/-! ### how great they become -/
def ssz (l : List St) : Nat := (l.map St.sz).sum
def swt (l : List St) : Nat := (l.map St.wt).sum
theorem ssz_append (l m : List St) : ssz (l ++ m) = ssz l + ssz m := by unfold ssz; rw [List.map_append, List.sum_append]
theorem swt_append (l m : List St) : swt (l ++ m) = swt l + swt m := by unfold swt; rw [List.map_append, List.sum_append]
theorem ssz_rep (l : List St) : ∀ n : Nat, ssz (List.replicate n l).flatten = n * ssz l
  | 0 => by simp [ssz]
  | n + 1 => by rw [List.replicate_succ, List.flatten_cons, ssz_append, ssz_rep l n, Nat.succ_mul, Nat.add_comm]
theorem swt_rep (l : List St) : ∀ n : Nat, swt (List.replicate n l).flatten = n * swt l
  | 0 => by simp [swt]
  | n + 1 => by rw [List.replicate_succ, List.flatten_cons, swt_append, swt_rep l n, Nat.succ_mul, Nat.add_comm]
theorem ofL_ssz (l : List St) : (Bk.ofL l).sz = ssz l := Bk.ofL_sz l
theorem ofL_swt (l : List St) : (Bk.ofL l).wt = swt l := by unfold swt; rw [Bk.wt_sum, Bk.ofL_lst]
theorem mul2 (k a b : Nat) (h : b ≤ 2 * a) : k * b ≤ 2 * (k * a) := by
  have := Nat.mul_le_mul_left k h
  rw [Nat.mul_left_comm] at this
  exact this
mutual
theorem St.oth_le {ns : List Str} (lg : Bool) : ∀ (s : St) (d : Nat), s.ok ns d → ssz (s.oth lg) ≤ 2 * s.wt ∧ swt (s.oth lg) ≤ 2 * s.wt
  | .set z e, _, _ => by simp [St.oth, ssz, swt, St.sz, St.wt]
  | .pay e, _, _ => by cases e <;> simp [St.oth, ssz, swt, St.sz, St.wt]
  | .stop, _, _ => by simp [St.oth, ssz, swt, St.sz, St.wt]
  | .ite t y n, d, h => by
    have a := Bk.oth_le lg y d h.2.1
    have b := Bk.oth_le lg n d h.2.2
    simp only [St.oth, ssz, swt, List.map_cons, List.map_nil, List.sum_cons, List.sum_nil, St.sz, St.wt, ofL_swt, ofL_ssz] at a b ⊢
    omega
  | .rep k y, d, h => by
    have a := Bk.oth_le lg y d h.2.2
    have k1 : 1 ≤ k.toNat := by have := h.1; omega
    have c1 := mul2 k.toNat _ _ a.1
    have c2 := mul2 k.toNat _ _ a.2
    have c3 : y.wt ≤ k.toNat * y.wt := Nat.le_mul_of_pos_left _ k1
    unfold St.oth
    split
    · rw [ssz_rep, swt_rep, St.wt]
      omega
    · simp only [ssz, swt, List.map_cons, List.map_nil, List.sum_cons, List.sum_nil, St.sz, St.wt, ofL_swt, ofL_ssz] at a c1 c2 ⊢
      omega
theorem Bk.oth_le {ns : List Str} (lg : Bool) : ∀ (b : Bk) (d : Nat), b.ok ns d → ssz (b.oth lg) ≤ 2 * b.wt ∧ swt (b.oth lg) ≤ 2 * b.wt
  | .nil, _, _ => by simp [Bk.oth, ssz, swt]
  | .cons s b, d, h => by
    have a := St.oth_le lg s (d - 1) h.2.1
    have c := Bk.oth_le lg b d h.2.2
    rw [Bk.oth, ssz_append, swt_append, Bk.wt]
    omega
end
theorem Ex.ok_up {ns : List Str} : ∀ (e : Ex) (n m : Nat), n ≤ m → e.ok ns n → e.ok ns m
  | .int _, _, _, hm, h => ⟨by have := h.1; omega, h.2⟩
  | .name _, _, _, hm, h => ⟨by have := h.1; omega, h.2⟩
  | .plus x y, n, m, hm, h => ⟨by have := h.1; omega, Ex.ok_up x (n - 1) (m - 1) (by omega) h.2.1, Ex.ok_up y (n - 1) (m - 1) (by omega) h.2.2⟩
  | .minus x y, n, m, hm, h => ⟨by have := h.1; omega, Ex.ok_up x (n - 1) (m - 1) (by omega) h.2.1, Ex.ok_up y (n - 1) (m - 1) (by omega) h.2.2⟩
  | .times _ x, n, m, hm, h => ⟨by have := h.1; omega, h.2.1, h.2.2.1, Ex.ok_up x (n - 1) (m - 1) (by omega) h.2.2.2⟩
mutual
theorem St.ok_up {ns : List Str} : ∀ (s : St) (n m : Nat), n ≤ m → s.ok ns n → s.ok ns m
  | .set _ _, _, _, _, h => h
  | .pay _, _, _, _, h => h
  | .stop, _, _, _, _ => trivial
  | .ite t y z, n, m, hm, h => ⟨h.1, Bk.ok_up y n m hm h.2.1, Bk.ok_up z n m hm h.2.2⟩
  | .rep k y, n, m, hm, h => ⟨h.1, h.2.1, Bk.ok_up y n m hm h.2.2⟩
theorem Bk.ok_up {ns : List Str} : ∀ (b : Bk) (n m : Nat), n ≤ m → b.ok ns n → b.ok ns m
  | .nil, _, _, _, _ => trivial
  | .cons s b, n, m, hm, h => ⟨by have := h.1; omega, St.ok_up s (n - 1) (m - 1) (by omega) h.2.1, Bk.ok_up b n m hm h.2.2⟩
end
theorem ofL_okd {ns : List Str} {d : Nat} : ∀ {l : List St}, (∀ x ∈ l, 1 ≤ d ∧ x.ok ns (d - 1)) → (Bk.ofL l).ok ns d
  | [], _ => trivial
  | s :: l, h => ⟨(h s (List.mem_cons_self ..)).1, (h s (List.mem_cons_self ..)).2, ofL_okd fun x hx => h x (List.mem_cons_of_mem _ hx)⟩
mutual
theorem St.oth_ok {ns : List Str} (lg : Bool) : ∀ (s : St) (d : Nat), s.ok ns d → ∀ x ∈ s.oth lg, x.ok ns d
  | .set z e, d, h, x, hx => by
    rw [St.oth] at hx
    rw [List.mem_singleton.mp hx]
    exact ⟨h.1, Ex.oth_ok e 3 h.2⟩
  | .pay e, d, h, x, hx => by
    have he : e.ok ns 3 := h
    cases e with
    | plus a b =>
      simp only [St.oth, List.mem_cons, List.not_mem_nil, or_false] at hx
      rcases hx with rfl | rfl
      · exact Ex.ok_up _ 2 3 (by decide) (Ex.oth_ok a 2 he.2.1)
      · exact Ex.ok_up _ 2 3 (by decide) (Ex.oth_ok b 2 he.2.2)
    | int i => rw [List.mem_singleton.mp (show x ∈ [St.pay (Ex.int i).oth] from hx)]; exact Ex.oth_ok _ 3 he
    | name i => rw [List.mem_singleton.mp (show x ∈ [St.pay (Ex.name i).oth] from hx)]; exact Ex.oth_ok _ 3 he
    | minus a b => rw [List.mem_singleton.mp (show x ∈ [St.pay (Ex.minus a b).oth] from hx)]; exact Ex.oth_ok _ 3 he
    | times a b => rw [List.mem_singleton.mp (show x ∈ [St.pay (Ex.times a b).oth] from hx)]; exact Ex.oth_ok _ 3 he
  | .stop, d, h, x, hx => by
    rw [List.mem_singleton.mp (show x ∈ [St.stop] from hx)]
    exact trivial
  | .ite t y n, d, h, x, hx => by
    rw [St.oth] at hx
    rw [List.mem_singleton.mp hx]
    exact ⟨Ts.oth_ok t h.1, ofL_okd (Bk.oth_ok lg n d h.2.2), ofL_okd (Bk.oth_ok lg y d h.2.1)⟩
  | .rep k y, d, h, x, hx => by
    have z := Bk.oth_ok lg y d h.2.2
    unfold St.oth at hx
    split at hx
    · obtain ⟨l, hl, hx⟩ := List.mem_flatten.1 hx
      rw [(List.mem_replicate.mp hl).2] at hx
      exact St.ok_up x (d - 1) d (by omega) (z x hx).2
    · rw [List.mem_singleton.mp hx]
      exact ⟨h.1, h.2.1, ofL_okd z⟩
theorem Bk.oth_ok {ns : List Str} (lg : Bool) : ∀ (b : Bk) (d : Nat), b.ok ns d → ∀ x ∈ b.oth lg, 1 ≤ d ∧ x.ok ns (d - 1)
  | .nil, d, h, x, hx => by cases hx
  | .cons s b, d, h, x, hx => by
    rw [Bk.oth] at hx
    rcases List.mem_append.1 hx with hx | hx
    · exact ⟨h.1, St.oth_ok lg s (d - 1) h.2.1 x hx⟩
    · exact Bk.oth_ok lg b d h.2.2 x hx
end
/-! ### with other names -/
def Ex.ren (f : Str → Str) : Ex → Ex
  | .int i => .int i
  | .name z => .name (f z)
  | .plus x y => .plus (x.ren f) (y.ren f)
  | .minus x y => .minus (x.ren f) (y.ren f)
  | .times c x => .times c (x.ren f)
def Ts.ren (f : Str → Str) : Ts → Ts
  | .rest x b r => .rest (x.ren f) b r
  | .less x y => .less (x.ren f) (y.ren f)
  | .not t => .not (t.ren f)
mutual
def St.ren (f : Str → Str) : St → St
  | .set z e => .set (f z) (e.ren f)
  | .pay e => .pay (e.ren f)
  | .stop => .stop
  | .ite t y n => .ite (t.ren f) (y.ren f) (n.ren f)
  | .rep k y => .rep k (y.ren f)
def Bk.ren (f : Str → Str) : Bk → Bk
  | .nil => .nil
  | .cons s b => .cons (s.ren f) (b.ren f)
end
section
variable {f : Str → Str} {ns ms : List Str}
theorem Ex.ren_ok (hf : ∀ z ∈ ns, f z ∈ ms) : ∀ (e : Ex) (n : Nat), e.ok ns n → (e.ren f).ok ms n
  | .int _, _, h => h
  | .name z, _, h => ⟨h.1, hf z h.2⟩
  | .plus x y, n, h => ⟨h.1, Ex.ren_ok hf x (n - 1) h.2.1, Ex.ren_ok hf y (n - 1) h.2.2⟩
  | .minus x y, n, h => ⟨h.1, Ex.ren_ok hf x (n - 1) h.2.1, Ex.ren_ok hf y (n - 1) h.2.2⟩
  | .times _ x, n, h => ⟨h.1, h.2.1, h.2.2.1, Ex.ren_ok hf x (n - 1) h.2.2.2⟩
theorem Ts.ren_ok (hf : ∀ z ∈ ns, f z ∈ ms) : ∀ (t : Ts) (n : Nat), t.ok ns n → (t.ren f).ok ms n
  | .rest x _ _, _, h => ⟨Ex.ren_ok hf x 3 h.1, h.2⟩
  | .less x y, _, h => ⟨Ex.ren_ok hf x 3 h.1, Ex.ren_ok hf y 3 h.2⟩
  | .not t, n, h => ⟨h.1, Ts.ren_ok hf t (n - 1) h.2⟩
mutual
theorem St.ren_ok (hf : ∀ z ∈ ns, f z ∈ ms) : ∀ (s : St) (n : Nat), s.ok ns n → (s.ren f).ok ms n
  | .set z e, n, h => ⟨hf z h.1, Ex.ren_ok hf e 3 h.2⟩
  | .pay e, n, h => Ex.ren_ok hf e 3 h
  | .stop, n, h => trivial
  | .ite t y z, n, h => ⟨Ts.ren_ok hf t 2 h.1, Bk.ren_ok hf y n h.2.1, Bk.ren_ok hf z n h.2.2⟩
  | .rep k y, n, h => ⟨h.1, h.2.1, Bk.ren_ok hf y n h.2.2⟩
theorem Bk.ren_ok (hf : ∀ z ∈ ns, f z ∈ ms) : ∀ (b : Bk) (n : Nat), b.ok ns n → (b.ren f).ok ms n
  | .nil, _, _ => trivial
  | .cons s b, n, h => ⟨h.1, St.ren_ok hf s (n - 1) h.2.1, Bk.ren_ok hf b n h.2.2⟩
end
mutual
theorem St.ren_sz : ∀ s : St, (s.ren f).sz = s.sz ∧ (s.ren f).wt = s.wt
  | .set _ _ => ⟨rfl, rfl⟩
  | .pay _ => ⟨rfl, rfl⟩
  | .stop => ⟨rfl, rfl⟩
  | .ite t y n => by simp only [St.ren, St.sz, St.wt, Bk.ren_sz y, Bk.ren_sz n, and_self]
  | .rep k y => by simp only [St.ren, St.sz, St.wt, Bk.ren_sz y, and_self]
theorem Bk.ren_sz : ∀ b : Bk, (b.ren f).sz = b.sz ∧ (b.ren f).wt = b.wt
  | .nil => ⟨rfl, rfl⟩
  | .cons s b => by simp only [Bk.ren, Bk.sz, Bk.wt, St.ren_sz s, Bk.ren_sz b, and_self]
end
theorem Bk.ren_lst : ∀ b : Bk, (b.ren f).lst = b.lst.map (St.ren f)
  | .nil => rfl
  | .cons s b => by rw [Bk.ren, Bk.lst, Bk.lst, List.map_cons, Bk.ren_lst b]
/-- the same values under the new names; with q, the same places -/
def Wq (f : Str → Str) (ns : List Str) (q : Bool) (w w' : Wd) : Prop := (∀ z ∈ ns, w'.en (f z) = w.en z) ∧ w'.tot = w.tot ∧ (q = true → w'.pl = w.pl)
theorem Ex.ren_ev {ρ ρ' : Str → Int} (h : ∀ z ∈ ns, ρ' (f z) = ρ z) : ∀ (e : Ex) (n : Nat), e.ok ns n → (e.ren f).ev ρ' = e.ev ρ
  | .int _, _, _ => rfl
  | .name z, _, hz => h z hz.2
  | .plus x y, n, hz => by rw [Ex.ren, Ex.ev, Ex.ev, Ex.ren_ev h x _ hz.2.1, Ex.ren_ev h y _ hz.2.2]
  | .minus x y, n, hz => by rw [Ex.ren, Ex.ev, Ex.ev, Ex.ren_ev h x _ hz.2.1, Ex.ren_ev h y _ hz.2.2]
  | .times _ x, n, hz => by rw [Ex.ren, Ex.ev, Ex.ev, Ex.ren_ev h x _ hz.2.2.2]
theorem Ts.ren_ev {ρ ρ' : Str → Int} (h : ∀ z ∈ ns, ρ' (f z) = ρ z) : ∀ (t : Ts) (n : Nat), t.ok ns n → (t.ren f).ev ρ' = t.ev ρ
  | .rest x _ _, _, hz => by rw [Ts.ren, Ts.ev, Ts.ev, Ex.ren_ev h x _ hz.1]
  | .less x y, _, hz => by rw [Ts.ren, Ts.ev, Ts.ev, Ex.ren_ev h x _ hz.1, Ex.ren_ev h y _ hz.2]
  | .not t, n, hz => by rw [Ts.ren, Ts.ev, Ts.ev, Ts.ren_ev h t _ hz.2]
theorem itr_wq {q : Bool} {g g' : Wd → Wd × Bool} (hg : ∀ w w', Wq f ns q w w' → Wq f ns q (g w).1 (g' w').1 ∧ (g' w').2 = (g w).2) : ∀ (n : Nat) (w w' : Wd), Wq f ns q w w' → Wq f ns q (itr g n w).1 (itr g' n w').1 ∧ (itr g' n w').2 = (itr g n w).2
  | 0, w, w', h => ⟨h, rfl⟩
  | n + 1, w, w', h => by
    obtain ⟨h1, h2⟩ := hg w w' h
    simp only [itr]
    by_cases z : (g w).2 = true
    · rw [if_pos z, if_pos (h2.trans z)]
      exact ⟨h1, h2⟩
    · rw [if_neg z, if_neg (by rw [h2]; exact z)]
      exact itr_wq hg n _ _ h1
mutual
theorem St.run_ren {q : Bool} (inj : ∀ x ∈ ns, ∀ y ∈ ns, f x = f y → x = y) : ∀ (s : St) (d : Nat) (p p' : Int) (w w' : Wd), s.ok ns d → (q = true → p' = p) → Wq f ns q w w' → Wq f ns q (s.run p w).1 ((s.ren f).run p' w').1 ∧ ((s.ren f).run p' w').2 = (s.run p w).2
  | .set z e, d, p, p', w, w', h, hp, ⟨h1, h2, h3⟩ => by
    simp only [St.ren, St.run]
    refine ⟨⟨fun x hx => ?_, h2, fun e => by simp only [h3 e, hp e]⟩, trivial⟩
    show (if f x = f z then (e.ren f).ev w'.en else w'.en (f x)) = if x = z then e.ev w.en else w.en x
    rw [Ex.ren_ev h1 e 3 h.2]
    by_cases u : x = z
    · rw [if_pos u, if_pos (by rw [u])]
    · rw [if_neg u, if_neg (fun v => u (inj x hx z h.1 v)), h1 x hx]
  | .pay e, d, p, p', w, w', h, hp, ⟨h1, h2, h3⟩ => by
    simp only [St.ren, St.run]
    exact ⟨⟨h1, by simp only [h2, Ex.ren_ev h1 e 3 h], fun e => by simp only [h3 e, hp e]⟩, trivial⟩
  | .stop, d, p, p', w, w', h, hp, ⟨h1, h2, h3⟩ => by
    simp only [St.ren, St.run]
    exact ⟨⟨h1, h2, fun e => by simp only [h3 e, hp e]⟩, trivial⟩
  | .ite t y n, d, p, p', w, w', h, hp, ⟨h1, h2, h3⟩ => by
    simp only [St.ren, St.run, Ts.ren_ev h1 t 2 h.1]
    split
    · exact Bk.run_ren inj y d _ _ _ _ h.2.1 (fun e => by rw [hp e]) ⟨h1, h2, fun e => by simp only [h3 e, hp e]⟩
    · exact Bk.run_ren inj n d _ _ _ _ h.2.2 (fun e => by rw [hp e, (Bk.ren_sz y).1]) ⟨h1, h2, fun e => by simp only [h3 e, hp e]⟩
  | .rep k y, d, p, p', w, w', h, hp, ⟨h1, h2, h3⟩ => by
    simp only [St.ren, St.run]
    exact itr_wq (fun w w' hw => Bk.run_ren inj y d _ _ _ _ h.2.2 (fun e => by rw [hp e]) hw) _ _ _ ⟨h1, h2, fun e => by simp only [h3 e, hp e]⟩
theorem Bk.run_ren {q : Bool} (inj : ∀ x ∈ ns, ∀ y ∈ ns, f x = f y → x = y) : ∀ (b : Bk) (d : Nat) (p p' : Int) (w w' : Wd), b.ok ns d → (q = true → p' = p) → Wq f ns q w w' → Wq f ns q (b.run p w).1 ((b.ren f).run p' w').1 ∧ ((b.ren f).run p' w').2 = (b.run p w).2
  | .nil, d, p, p', w, w', h, hp, hw => ⟨hw, rfl⟩
  | .cons s b, d, p, p', w, w', h, hp, hw => by
    obtain ⟨h1, h2⟩ := St.run_ren inj s (d - 1) p p' w w' h.2.1 hp hw
    simp only [Bk.ren, Bk.run]
    by_cases z : (s.run p w).2 = true
    · rw [if_pos z, if_pos (h2.trans z)]
      exact ⟨h1, h2⟩
    · rw [if_neg z, if_neg (by rw [h2]; exact z)]
      exact Bk.run_ren inj b d _ _ _ _ h.2.2 (fun e => by rw [hp e, (St.ren_sz s).1]) h1
end
end
/-! ### what is put ahead or between -/
theorem ofL_of : ∀ b : Bk, Bk.ofL b.lst = b
  | .nil => rfl
  | .cons s b => by rw [Bk.lst, Bk.ofL, ofL_of b]
theorem Ex.ren_id : ∀ e : Ex, e.ren id = e
  | .int _ => rfl
  | .name _ => rfl
  | .plus x y => by rw [Ex.ren, Ex.ren_id x, Ex.ren_id y]
  | .minus x y => by rw [Ex.ren, Ex.ren_id x, Ex.ren_id y]
  | .times _ x => by rw [Ex.ren, Ex.ren_id x]
theorem Ts.ren_id : ∀ t : Ts, t.ren id = t
  | .rest x _ _ => by rw [Ts.ren, Ex.ren_id x]
  | .less x y => by rw [Ts.ren, Ex.ren_id x, Ex.ren_id y]
  | .not t => by rw [Ts.ren, Ts.ren_id t]
mutual
theorem St.ren_id : ∀ s : St, s.ren id = s
  | .set z e => by rw [St.ren, Ex.ren_id e]; rfl
  | .pay e => by rw [St.ren, Ex.ren_id e]
  | .stop => rfl
  | .ite t y n => by rw [St.ren, Ts.ren_id t, Bk.ren_id y, Bk.ren_id n]
  | .rep k y => by rw [St.ren, Bk.ren_id y]
theorem Bk.ren_id : ∀ b : Bk, b.ren id = b
  | .nil => rfl
  | .cons s b => by rw [Bk.ren, St.ren_id s, Bk.ren_id b]
end
theorem lrun_wq {ns : List Str} {l : List St} {d : Nat} (h : ∀ s ∈ l, s.ok ns d) {p p' : Int} {w w' : Wd} (hw : Wq id ns false w w') : Wq id ns false (lrun l p w).1 (lrun l p' w').1 ∧ (lrun l p' w').2 = (lrun l p w).2 := by
  have z := Bk.run_ren (q := false) (f := id) (ns := ns) (fun _ _ _ _ e => e) (Bk.ofL l) (d + 1) p p' w w' (Bk.ofL_ok h) (fun e => by cases e) hw
  rw [Bk.ren_id] at z
  exact z
mutual
theorem St.run_keep {ns : List Str} {z : Str} (hz : z ∉ ns) : ∀ (s : St) (d : Nat) (p : Int) (w : Wd), s.ok ns d → (s.run p w).1.en z = w.en z
  | .set y e, d, p, w, h => by
    show (if z = y then _ else w.en z) = w.en z
    rw [if_neg (fun e => hz (by rw [e]; exact h.1))]
  | .pay e, d, p, w, h => rfl
  | .stop, d, p, w, h => rfl
  | .ite t y n, d, p, w, h => by
    simp only [St.run]
    split
    · exact Bk.run_keep hz y d _ _ h.2.1
    · exact Bk.run_keep hz n d _ _ h.2.2
  | .rep k y, d, p, w, h => by
    have it : ∀ (n : Nat) (w : Wd), (itr (y.run (p + 1)) n w).1.en z = w.en z := fun n => by
      induction n with
      | zero => intro w; rfl
      | succ n ih =>
        intro w
        rw [itr]
        split
        · exact Bk.run_keep hz y d _ _ h.2.2
        · rw [ih, Bk.run_keep hz y d _ _ h.2.2]
    simp only [St.run]
    rw [it]
theorem Bk.run_keep {ns : List Str} {z : Str} (hz : z ∉ ns) : ∀ (b : Bk) (d : Nat) (p : Int) (w : Wd), b.ok ns d → (b.run p w).1.en z = w.en z
  | .nil, d, p, w, h => rfl
  | .cons s b, d, p, w, h => by
    rw [Bk.run]
    split
    · exact St.run_keep hz s (d - 1) p w h.2.1
    · rw [Bk.run_keep hz b d _ _ h.2.2, St.run_keep hz s (d - 1) p w h.2.1]
end
theorem lrun_pre {R : Wd → Prop} {l : List St} : ∀ (pre : List St), (∀ s ∈ pre, ∀ p w, R w → R (s.run p w).1 ∧ (s.run p w).2 = false) → ∀ (p : Int) (w : Wd), R w → ∃ p' w', R w' ∧ lrun (pre ++ l) p w = lrun l p' w'
  | [], _, p, w, h => ⟨p, w, h, rfl⟩
  | s :: pre, hp, p, w, h => by
    obtain ⟨h1, h2⟩ := hp s (List.mem_cons_self ..) p w h
    obtain ⟨p', w', h3, h4⟩ := lrun_pre (l := l) pre (fun x hx => hp x (List.mem_cons_of_mem _ hx)) (p + s.sz) (s.run p w).1 h1
    refine ⟨p', w', h3, ?_⟩
    rw [← h4]
    simp only [lrun, List.cons_append, Bk.ofL, Bk.run]
    rw [if_neg (by rw [h2]; decide)]
/-- what may be put between -/
def moreL : List St := [.set "spare1" (.name "n"), .rep 3 .nil, .rep 1 (.cons (.set "spare1" (.int 1)) .nil), .pay (.int 0), .pay (.name "spare1"), .ite (.less (.int 1) (.int 0)) (.cons .stop .nil) .nil, .ite (.not (.rest (.int 1) 2 0)) .nil (.cons (.pay (.int 1)) .nil)]
theorem moreL_run {x : St} (hx : x ∈ moreL) (p : Int) (w : Wd) (h : w.en "spare1" = 0) : (x.run p w).1.tot = w.tot ∧ (x.run p w).2 = false ∧ ∀ z : Str, z ≠ "spare1" → (x.run p w).1.en z = w.en z := by
  simp only [moreL, List.mem_cons, List.not_mem_nil, or_false] at hx
  rcases hx with rfl | rfl | rfl | rfl | rfl | rfl | rfl
  · exact ⟨rfl, rfl, fun z hz => if_neg hz⟩
  · exact ⟨rfl, rfl, fun z _ => rfl⟩
  · refine ⟨rfl, rfl, fun z hz => ?_⟩
    show (if z = "spare1" then _ else w.en z) = w.en z
    rw [if_neg hz]
  · exact ⟨by show w.tot + 0 = w.tot; omega, rfl, fun z _ => rfl⟩
  · exact ⟨by show w.tot + w.en "spare1" = w.tot; omega, rfl, fun z _ => rfl⟩
  · exact ⟨rfl, rfl, fun z _ => rfl⟩
  · exact ⟨rfl, rfl, fun z _ => rfl⟩
theorem moreL_ok {ns : List Str} (hn : ("n" : Str) ∈ ns) {x : St} (hx : x ∈ moreL) : x.ok (("spare1" : Str) :: ns) 3 := by
  simp only [moreL, List.mem_cons, List.not_mem_nil, or_false] at hx
  rcases hx with rfl | rfl | rfl | rfl | rfl | rfl | rfl
  · exact ⟨List.mem_cons_self .., by decide, List.mem_cons_of_mem _ hn⟩
  · exact ⟨by decide, by decide, trivial⟩
  · exact ⟨by decide, by decide, by decide, ⟨List.mem_cons_self .., by decide, by decide, by decide⟩, trivial⟩
  · exact ⟨by decide, by decide, by decide⟩
  · exact ⟨by decide, List.mem_cons_self ..⟩
  · exact ⟨⟨⟨by decide, by decide, by decide⟩, by decide, by decide, by decide⟩, ⟨by decide, trivial, trivial⟩, trivial⟩
  · exact ⟨⟨by decide, ⟨by decide, by decide, by decide⟩, by decide, by decide, by decide, by decide⟩, trivial, by decide, ⟨by decide, by decide, by decide⟩, trivial⟩
theorem moreL_le {x : St} (hx : x ∈ moreL) : x.sz ≤ 2 ∧ x.wt ≤ 2 := by
  simp only [moreL, List.mem_cons, List.not_mem_nil, or_false] at hx
  rcases hx with rfl | rfl | rfl | rfl | rfl | rfl | rfl <;> decide
theorem more_tot {ns : List Str} {l : List St} {d : Nat} (hl : ∀ s ∈ l, s.ok ns d) (hs : ("spare1" : Str) ∉ ns) (k i : Nat) {x : St} (hx : x ∈ moreL) (v : Int) :
    (lrun (List.replicate k (.set "n" (.name "n")) ++ (l.take i ++ ([x] ++ l.drop i))) 0 (Wd.at v)).1.tot = (lrun l 0 (Wd.at v)).1.tot := by
  have n1 : ("spare1" : Str) ≠ ("n" : Str) := by decide +kernel
  obtain ⟨p1, w1, ⟨e1, t1⟩, e⟩ := lrun_pre (R := Weq (Wd.at v)) (l := l.take i ++ ([x] ++ l.drop i)) (List.replicate k (.set "n" (.name "n"))) (fun s hs p w hw => by
    rw [(List.mem_replicate.mp hs).2]
    refine ⟨⟨?_, hw.2⟩, rfl⟩
    rw [← hw.1]
    funext y
    show (if y = "n" then w.en "n" else w.en y) = w.en y
    split
    · rename_i h; rw [h]
    · rfl) 0 (Wd.at v) ⟨rfl, rfl⟩
  rw [e]
  have w0 : Wq id ns false (Wd.at v) w1 := ⟨fun z _ => by rw [e1]; rfl, t1, fun z => by cases z⟩
  obtain ⟨p2, e2⟩ := lrun_append (l.take i) ([x] ++ l.drop i) p1 w1
  obtain ⟨p3, e3⟩ := lrun_append (l.take i) (l.drop i) 0 (Wd.at v)
  rw [List.take_append_drop] at e3
  obtain ⟨h1, h2⟩ := lrun_wq (p := 0) (p' := p1) (fun s hs => hl s (List.mem_of_mem_take hs)) w0
  rw [e2, e3]
  by_cases z : (lrun (l.take i) 0 (Wd.at v)).2 = true
  · rw [if_pos z, if_pos (h2.trans z)]
    exact h1.2.1
  · rw [if_neg z, if_neg (by rw [h2]; exact z)]
    have sp : (lrun (l.take i) p1 w1).1.en "spare1" = 0 := by
      have a := Bk.run_keep hs (Bk.ofL (l.take i)) (d + 1) p1 w1 (Bk.ofL_ok fun s hs => hl s (List.mem_of_mem_take hs))
      show ((Bk.ofL (l.take i)).run p1 w1).1.en "spare1" = 0
      rw [a, e1]
      show (if ("spare1" : Str) = "n" then v else 0) = 0
      exact if_neg n1
    obtain ⟨a1, a2, a3⟩ := moreL_run hx p2 _ sp
    obtain ⟨p4, e4⟩ := lrun_append [x] (l.drop i) p2 (lrun (l.take i) p1 w1).1
    rw [e4, lrun_one, if_neg (by rw [a2]; decide)]
    exact (lrun_wq (fun s hs => hl s (List.mem_of_mem_drop hs)) ⟨fun y hy => by rw [id, a3 y (fun u => hs (by rw [← u]; exact hy))]; exact h1.1 y hy, by rw [a1]; exact h1.2.1, fun u => by cases u⟩).1.2.1
/-- other names, with names set ahead that are used nowhere, or stand for 0 -/
theorem ahead_tot {f : Str → Str} {ns : List Str} {b : Bk} {d : Nat} (inj : ∀ x ∈ ns, ∀ y ∈ ns, f x = f y → x = y) (hb : b.ok ns d) (v : Int) (h0 : ∀ z ∈ ns, (Wd.at v).en (f z) = (Wd.at v).en z) (hs : ∀ z ∈ ns, f z ≠ "spare1") {y : Str} (hy : y ≠ "n") (a c : Nat) :
    (lrun (List.replicate a (.set "spare1" (.plus (.name "n") (.int 5))) ++ List.replicate c (.set y (.int 0)) ++ (b.ren f).lst) 0 (Wd.at v)).1.tot = (b.run 0 (Wd.at v)).1.tot := by
  have R0 : Wq f ns false (Wd.at v) (Wd.at v) := ⟨h0, rfl, fun z => by cases z⟩
  obtain ⟨p1, w1, hw, e⟩ := lrun_pre (R := Wq f ns false (Wd.at v)) (l := (b.ren f).lst) (List.replicate a (.set "spare1" (.plus (.name "n") (.int 5))) ++ List.replicate c (.set y (.int 0))) (fun s hs1 p w hw => by
    rcases List.mem_append.1 hs1 with h | h
    · rw [(List.mem_replicate.mp h).2]
      refine ⟨⟨fun z hz => ?_, hw.2.1, fun u => by cases u⟩, rfl⟩
      show (if f z = "spare1" then _ else w.en (f z)) = _
      rw [if_neg (hs z hz)]
      exact hw.1 z hz
    · rw [(List.mem_replicate.mp h).2]
      refine ⟨⟨fun z hz => ?_, hw.2.1, fun u => by cases u⟩, rfl⟩
      show (if f z = y then 0 else w.en (f z)) = _
      split
      · rename_i u
        have a := h0 z hz
        rw [u] at a
        rw [← a]
        exact (if_neg hy).symm
      · exact hw.1 z hz) 0 (Wd.at v) R0
  rw [e]
  have z := (Bk.run_ren (q := false) inj b d 0 p1 (Wd.at v) w1 hb (fun u => by cases u) hw).1.2.1
  rw [lrun, ofL_of]
  exact z
/-! ### names, told apart -/
structure Nm3 (ws : List Str) : Prop where
  len : ws.length = 3
  nd : (("n" : Str) :: ws).Nodup
  sp : ("spare1" : Str) ∉ ws
def nm3B (ws : List Str) : Bool := decide (ws.length = 3) && decide ((("n" : Str) :: ws).Nodup) && decide (("spare1" : Str) ∉ ws)
theorem nm3_of {ws : List Str} (h : nm3B ws = true) : Nm3 ws := by
  unfold nm3B at h
  simp only [decide_eq_true_eq, Bool.and_eq_true] at h
  exact ⟨h.1.1, h.1.2, h.2⟩
def wordsL : List Str := ["turns", "items", "total", "plus", "less", "times", "minus", "worth", "signs", "rows", "none", "place"]
theorem wordsL_nm : ∀ z ∈ wordsL, nmOkB z = true := by decide +kernel
theorem wordsL_3 : ∀ n : Nat, n < 10 → nm3B ((wordsL.drop n).take 3) = true := by decide +kernel
def qvzL : List Nat := [113, 118, 122]
theorem made_cps (ls gs : List Nat) (x : Nat) : ((⟨ls.toArray⟩ : Str) ++ s1 x ++ (⟨gs.toArray⟩ : Str)) = ⟨(ls ++ [x] ++ gs).toArray⟩ := by
  show (⟨ls.toArray ++ #[x] ++ gs.toArray⟩ : Str) = _
  simp
theorem made_ne {ls gs : List Nat} {x y : Nat} (h : x ≠ y) : ((⟨ls.toArray⟩ : Str) ++ s1 x ++ (⟨gs.toArray⟩ : Str)) ≠ ((⟨ls.toArray⟩ : Str) ++ s1 y ++ (⟨gs.toArray⟩ : Str)) := fun e => by
  rw [made_cps, made_cps] at e
  have e := congrArg (fun z : Str => z.cps.toList) e
  simp at e
  exact h e
theorem made_no {ls gs : List Nat} {x : Nat} {z : Str} (h : x ∉ z.cps.toList) : z ≠ ((⟨ls.toArray⟩ : Str) ++ s1 x ++ (⟨gs.toArray⟩ : Str)) := fun e => h (by
  rw [e, made_cps]
  simp)
theorem nm3_made (ls gs : List Nat) : Nm3 ((qvzL.take 3).map fun x => (⟨ls.toArray⟩ : Str) ++ s1 x ++ (⟨gs.toArray⟩ : Str)) := by
  have n : ∀ x ∈ qvzL, x ∉ ("n" : Str).cps.toList ∧ x ∉ ("spare1" : Str).cps.toList := by decide +kernel
  refine ⟨rfl, ?_, fun h => ?_⟩
  · show List.Nodup [_, _, _, _]
    simp only [List.nodup_cons, List.mem_cons, List.not_mem_nil, or_false, not_or, not_false_eq_true, List.nodup_nil, and_true]
    exact ⟨⟨made_no (n 113 (by decide)).1, made_no (n 118 (by decide)).1, made_no (n 122 (by decide)).1⟩, ⟨made_ne (by decide), made_ne (by decide)⟩, made_ne (by decide)⟩
  · rcases List.mem_map.mp h with ⟨x, hx, e⟩
    exact made_no (n x (List.mem_of_mem_take hx)).2 e.symm
def spNames29 (K : PySem.W.Frag) : Sp := fun vs H Q _ => ∃ (a c : Addr) (cs : List Int) (k : Int), vs = [.ref a] ∧ Dk H a c cs k ∧ k + 20 ≤ KB ∧
  ∀ H' cs' k' p ns, Sx [a, c] H H' → Dk H' a c cs' k' → k ≤ k' → k' ≤ k + 20 → H p = none → p ≠ a → p ≠ c → Nms K H' p ns → (∃ ws : List Str, ns = ("n" : Str) :: ws ∧ Nm3 ws) → Q (.ref p) H'
section
variable {w : World} {P : Program} {K : PySem.W.Frag} {mg : Str → Option Value} {base : Heap}
theorem ok_names29 {f fD fO : Addr} {fd fdD fdO : FuncData} {k : Nat} (F : Fun K "_law_names" "_law_names" sNames f fd) (F_draw : Fun K "_law_draw" "_law_draw" sDraw fD fdD) (F_one : Fun K "_law_one" "_law_one" sOne fO fdO)
    (G_draw : FnOk P w K mg base CX0 1 fD fdD ["_law_deck_here", "_law_many"] spDraw) (G_one : FnOk P w K mg base CX0 2 fO fdO ["_law_deck_here", "_law_items"] (spOne K))
    (b_draw : Binds K fdD ["_law_deck_here", "_law_many"] []) (b_one : Binds K fdO ["_law_deck_here", "_law_items"] [])
    (m_draw : mg "_law_draw" = some (.ref fD)) (m_one : mg "_law_one" = some (.ref fO)) (z_range : mg "range" = none) :
    FnOk P w K mg base CX0 3 f fd ["_law_deck_here"] (spNames29 K) := by
  refine F.ok scNames (fun vs H Q E h => ?_) (fun cdv A outer s H vs Q E hr h => ?_)
  · obtain ⟨a, c, cs, k, rfl, _⟩ := h
    rfl
  · obtain ⟨a, c, cs, k, rfl, D, hk, q⟩ := h
    refine ⟨_, (pss_cons (ps_set (i := 1) scNames.nd rfl (by first | exact Or.inl rfl | exact Or.inr rfl) pe_str)
      (pss_cons (ps_set (i := 2) scNames.nd rfl (by first | exact Or.inl rfl | exact Or.inr rfl) (pe_op op_add_str (pv 1) pe_str))
      (pss_cons (ps_set (i := 3) scNames.nd rfl (by first | exact Or.inl rfl | exact Or.inr rfl) (pe_lst (pa_cons pe_str (pa_cons pe_str (pa_cons pe_str (pa_cons pe_str (pa_cons pe_str (pa_cons pe_str (pa_cons pe_str (pa_cons pe_str (pa_cons pe_str (pa_cons pe_str (pa_cons pe_str (pa_cons pe_str pa_nil))))))))))))))
      (pss_cons (ps_par (i := 4) (j := 5) (by rfl) scNames.nd rfl rfl (by decide) rfl rfl (pa_cons (pe_call G_draw (hr.mono (by omega)) (by rfl) m_draw F_draw.kp b_draw .nil pass0 (pa_cons (pv 0) (pa_cons pe_int pa_nil))) (pa_cons (pe_call G_one (hr.mono (by omega)) (by rfl) m_one F_one.kp b_one .nil pass0 (pa_cons (pv 0) (pa_cons (pe_lst (pa_cons pe_int (pa_cons pe_int (pa_cons pe_int (pa_cons pe_int (pa_cons pe_int (pa_cons pe_int (pa_cons pe_int pa_nil)))))))) pa_nil))) pa_nil)) (by rfl))
      (pss_cons (ps_if (pt_cmpR op_lt (pv 4) pe_int (nomark _)) (pss_one (ps_ret (pe_op op_cat (pe_lst (pa_cons pe_str pa_nil)) (pe_slice sl_list (pv 3) (po_some (pv 4)) (po_some (pe_op op_add (pv 4) pe_int)))))) pss_nil)
      (pss_cons (ps_set (i := 6) scNames.nd rfl (by first | exact Or.inl rfl | exact Or.inr rfl) (pe_join pe_str (pe_lc (own := [("_law_k", 8)]) (g := gName 8) (tt := tYes) rfl scNames.nd (pi_range1 (by rfl) z_range (pa_cons (pv 5) pa_nil)) (blkOk_by (N := nNames) (sc := defScope sNames) (by decide +kernel)) (fun _ _ _ _ _ => (pg_name (i := 8) scNames.nd rfl (by first | exact Or.inl rfl | exact Or.inr rfl))) (fun _ _ _ _ _ => pts_nil) (fun _ _ _ _ _ => (pe_call G_one (hr.mono (by omega)) (by rfl) m_one F_one.kp b_one .nil pass0 (pa_cons (pv 0) (pa_cons (pv 1) pa_nil)))))))
      (pss_cons (ps_set (i := 7) scNames.nd rfl (by first | exact Or.inl rfl | exact Or.inr rfl) (pe_join pe_str (pe_lc (own := [("_law_k", 8)]) (g := gName 8) (tt := tYes) rfl scNames.nd (pi_range1 (by rfl) z_range (pa_cons (pe_call G_draw (hr.mono (by omega)) (by rfl) m_draw F_draw.kp b_draw .nil pass0 (pa_cons (pv 0) (pa_cons (pe_op op_sub pe_int (pv 5)) pa_nil))) pa_nil)) (blkOk_by (N := nNames) (sc := defScope sNames) (by decide +kernel)) (fun _ _ _ _ _ => (pg_name (i := 8) scNames.nd rfl (by first | exact Or.inl rfl | exact Or.inr rfl))) (fun _ _ _ _ _ => pts_nil) (fun _ _ _ _ _ => (pe_call G_one (hr.mono (by omega)) (by rfl) m_one F_one.kp b_one .nil pass0 (pa_cons (pv 0) (pa_cons (pv 2) pa_nil)))))))
      (pss_one (ps_ret (pe_op op_cat (pe_lst (pa_cons pe_str pa_nil)) (pe_lc (own := [("_law_k", 8)]) (g := gName 8) (tt := tYes) rfl scNames.nd (pi_range1 (by rfl) z_range (pa_cons pe_int pa_nil)) (blkOk_by (N := nNames) (sc := defScope sNames) (by decide +kernel)) (fun _ _ _ _ _ => (pg_name (i := 8) scNames.nd rfl (by first | exact Or.inl rfl | exact Or.inr rfl))) (fun _ _ _ _ _ => pts_nil) (fun _ _ _ _ _ => (pe_op op_add_str (pe_op op_add_str (pv 6) (pe_ix ix_str pe_str (pv 8) (fun _ _ => rfl))) (pv 7)))))))))))))), ?_⟩
    refine ⟨_, rfl, _, _, rfl, rfl, by decide +kernel, by show 12 ≤ sizeLine; decide, fun wd hwd => ?_⟩
    obtain ⟨wa, wc⟩ := D.nw hwd
    have Dw := D.new (o := .lst [.str "turns", .str "items", .str "total", .str "plus", .str "less", .str "times", .str "minus", .str "worth", .str "signs", .str "rows", .str "none", .str "place"]) hwd
    have hw1 : (upd H wd (.lst [.str "turns", .str "items", .str "total", .str "plus", .str "less", .str "times", .str "minus", .str "worth", .str "signs", .str "rows", .str "none", .str "place"])) wd = some (.lst (List.map V.str ["turns", "items", "total", "plus", "less", "times", "minus", "worth", "signs", "rows", "none", "place"])) := upd_same
    refine gnm ?_
    refine gh (H1 := upd H wd _) (F := fun H2 => Sx [a, c] H H2 ∧ Dk H2 a c cs k ∧ H2 wd = some (.lst (List.map V.str ["turns", "items", "total", "plus", "less", "times", "minus", "worth", "signs", "rows", "none", "place"]))) ⟨(Sx.refl _).new hwd, Dw, hw1⟩ (fun H2 ⟨s2, D2, w2⟩ => ?_)
    clear Dw hw1
    refine ⟨_, rfl, a, c, cs, k, 60, rfl, D2, by decide, by decide, by omega, fun H3 cs3 r s3 D3 r0 r1 => ?_⟩
    refine ⟨_, rfl, by show 7 ≤ sizeLine; decide, fun l hl => ?_⟩
    obtain ⟨la, lc⟩ := D3.nw hl
    refine ⟨a, c, cs3, _, _, rfl, D3.new hl, by omega, .inl ⟨l, _, rfl, .inl (.inl upd_same), by simp, by show 7 ≤ 100000; decide, la, lc, fun H4 cs4 x s4 D4 hx => ?_⟩⟩
    obtain ⟨n, rfl, hn⟩ : ∃ n : Nat, x = .int (n : Int) ∧ n ≤ 7 := by
      simp only [List.not_mem_nil, List.mem_cons, or_false] at hx
      rcases hx with rfl | rfl | rfl | rfl | rfl | rfl | rfl
      · exact ⟨0, rfl, by decide⟩
      · exact ⟨1, rfl, by decide⟩
      · exact ⟨2, rfl, by decide⟩
      · exact ⟨3, rfl, by decide⟩
      · exact ⟨5, rfl, by decide⟩
      · exact ⟨6, rfl, by decide⟩
      · exact ⟨7, rfl, by decide⟩
    have s04 : Sx [a, c] H H4 := (s2.trans (s3.new hl)).trans s4
    have w4 : H4 wd = some (.lst (List.map V.str ["turns", "items", "total", "plus", "less", "times", "minus", "worth", "signs", "rows", "none", "place"])) := s4 _ _ (by simp [wa, wc]) ((Sx.refl (ex := []) _).new hl _ _ (by simp) (s3 _ _ (by simp [wa, wc]) w2))
    clear w2 s3 s4
    refine ⟨_, _, rfl, ?_⟩
    refine ⟨_, rfl, _, 10, rfl, rfl, _, rfl, ite2 (fun e => ?_) (fun e => ?_)⟩
    -- the usual words
    · refine ⟨by show 1 ≤ sizeLine; decide, fun g hg => ?_⟩
      obtain ⟨ga, gc⟩ := D4.nw hg
      refine ⟨_, rfl, _, rfl, r, rfl, _, rfl, _, 3, rfl, rfl, r + 3, rfl, wd, _, rfl, .inl (.inl ((Sx.refl (ex := []) _).new hg _ _ (by simp) w4)), fun u hu => ?_⟩
      have gu : g ≠ u := fun z => by rw [← z, upd_same] at hu; cases hu
      have hsub : ∃ ws : List Str, cutV (List.map V.str ["turns", "items", "total", "plus", "less", "times", "minus", "worth", "signs", "rows", "none", "place"]) (some r) (some (r + 3)) = ws.map V.str ∧ ws.length ≤ 12 ∧ (∀ z ∈ ws, NmOk z) ∧ Nm3 ws := by
        have e' := of_decide_eq_true e
        obtain ⟨n, rfl⟩ := Int.eq_ofNat_of_zero_le r0
        have hn : n < 10 := by omega
        have hc : cutV (List.map V.str wordsL) (some (n : Int)) (some ((n : Int) + 3)) = ((wordsL.drop n).take 3).map V.str := by
          unfold cutV
          rw [show ((n : Int) + 3) = ((n + 3 : Nat) : Int) from rfl, HT.sIx_nat, HT.sIx_nat, List.length_map, show wordsL.length = 12 from rfl, Nat.min_eq_left (by omega), Nat.min_eq_left (by omega), show n + 3 - n = 3 by omega, ← List.map_drop, ← List.map_take]
        refine ⟨_, hc, Nat.le_trans (List.length_take_le' _ _) (by rw [List.length_drop]; show 12 - n ≤ 12; omega), fun z hz => nmOk_of (wordsL_nm z (List.mem_of_mem_drop (List.mem_of_mem_take hz))), nm3_of (wordsL_3 n hn)⟩
      obtain ⟨ws, ews, lws, hws, hw3⟩ := hsub
      refine ⟨g, u, _, _, rfl, rfl, by rw [upd_ne gu]; exact upd_same, by rw [upd_same, ews], by show 1 + (List.map V.str ws).length ≤ sizeLine; rw [List.length_map]; exact le_line (by omega), fun v hv => ?_⟩
      have hv1 : (upd H4 g (.lst [.str "n"])) v = none := by
        by_cases z : v = u
        · rw [z]; exact hu
        · rw [upd_ne z] at hv; exact hv
      have Dv := ((D4.new (o := .lst [.str "n"]) hg).new (o := .lst (ws.map V.str)) hu)
      rw [← ews] at Dv
      obtain ⟨va, vc⟩ := Dv.nw hv
      refine q _ cs4 _ v ("n" :: ws) (((s04.new hg).new hu).new hv) (Dv.new hv) (by omega) (by omega) ((((s04.new (o := .lst [.str "n"]) hg).new (o := .lst _) hu)).free (by simp [va, vc]) hv) va vc ⟨upd_same, by simp, by rw [List.length_cons]; omega, fun z hz => ?_⟩ ⟨ws, rfl, hw3⟩
      rcases List.mem_cons.1 hz with rfl | hz
      · exact nmOk_of (by decide +kernel)
      · exact hws z hz
    -- names of drawn signs
    · have hr0 : 0 ≤ r := r0
      -- ahead
      refine ⟨⟨_, rfl⟩, _, rfl, (n : Int), rfl, by omega, by omega, fun Z hZ => lc_range (lo := 0) (n := ((n : Nat) : Int).toNat) (fun i H' => Pz H4 a c (k + 1 + 1) Z "abcdefghijklmnopqrstuvwxyz" i H') (Pz.zero D4 hZ) (fun i H' hi p => ?_) (fun H' p => ?_)⟩
      · obtain ⟨p1, ⟨cs', D'⟩, _⟩ := id p
        refine ⟨rfl, _, rfl, _, rfl, a, c, cs', _, _, rfl, D', by omega, .inr ⟨_, rfl, by decide +kernel, by decide +kernel, fun H5 cs5 x s5 D5 hx => ?_⟩⟩
        exact p.step hZ D4 s5 D5 hx (by omega)
      · obtain ⟨p1, ⟨cs', D'⟩, ls, p3, p4, p5⟩ := p
        have p4' : ls.length = n := by omega
        refine ⟨_, Z, ls.map s1, rfl, rfl, .inl (.inl (.inl p3)), by rw [sum_s1, List.length_map]; show ls.length + ls.length * 0 ≤ 16777216; omega, ?_⟩
        have es := join_s1 ls
        have s5 := s04.trans p1
        have D5 : Dk H' a c cs' (k + 2 + n) := by
          have e : k + 1 + 1 + ((((n : Nat) : Int).toNat : Nat) : Int) = k + 2 + n := by omega
          rw [e] at D'
          exact D'
        clear p1 p3 D'
        -- behind
        refine ⟨⟨_, rfl⟩, _, rfl, _, rfl, 8, (n : Int), rfl, rfl, a, c, cs', _, _, rfl, D5, by omega, by omega, by omega, fun H6 cs6 y s6 D6 y0 y1 => ⟨y, rfl, by omega, by omega, fun Y hY => ?_⟩⟩
        refine lc_range (lo := 0) (n := y.toNat) (fun i H' => Pz H6 a c (k + 2 + n + 1) Y ("abcdefghijklmnopqrstuvwxyz" ++ "0123456789") i H') (Pz.zero D6 hY) (fun i H7 hi p => ?_) (fun H7 p => ?_)
        · obtain ⟨p1, ⟨cs', D'⟩, _⟩ := id p
          refine ⟨rfl, _, rfl, _, rfl, a, c, cs', _, _, rfl, D', by omega, .inr ⟨_, rfl, by decide +kernel, by decide +kernel, fun H8 cs8 x s8 D8 hx => ?_⟩⟩
          exact p.step hY D6 s8 D8 hx (by omega)
        · obtain ⟨q1, ⟨cs7, D7⟩, gs, q3, q4, q5⟩ := p
          refine ⟨_, Y, gs.map s1, rfl, rfl, .inl (.inl (.inl q3)), by rw [sum_s1, List.length_map]; show gs.length + gs.length * 0 ≤ 16777216; omega, ?_⟩
          have eg := join_s1 gs
          have s7 := (s5.trans s6).trans q1
          -- the list of names
          refine ⟨by show 1 ≤ sizeLine; decide, fun g hg => ⟨3, rfl, by decide, by decide, fun X hX => ?_⟩⟩
          have gX : g ≠ X := fun z => by rw [← z, upd_same] at hX; cases hX
          have D8 := (D7.new (o := .lst [.str "n"]) hg)
          obtain ⟨Xa, Xc⟩ := D8.nw hX
          have HX7 : H7 X = none := by rw [upd_ne gX.symm] at hX; exact hX
          have HX : H X = none := s7.free (by simp [Xa, Xc]) HX7
          refine lc_range (lo := 0) (n := (3 : Int).toNat) (fun i H' => Sx [a, c] H H' ∧ Dk H' a c cs7 (k + 2 + n + 1 + y.toNat) ∧ H' g = some (.lst [.str "n"]) ∧ ∃ ns : List Str, H' X = some (.lst (ns.map V.str)) ∧ ns.length = i ∧ (∀ z ∈ ns, NmOk z) ∧ ns = (qvzL.take i).map fun x => Txt.join (Str.ofString "") (ls.map s1) ++ s1 x ++ Txt.join (Str.ofString "") (gs.map s1))
            ⟨(s7.new hg).new hX, D8.new hX, by rw [upd_ne gX]; exact upd_same, [], upd_same, rfl, (fun _ z => by simp at z), rfl⟩ (fun i H' hi p => ?_) (fun H' p => ?_)
          · obtain ⟨u1, u2, u3, ns, u4, u5, u6, u7⟩ := p
            have hi3 : i < 3 := hi
            obtain ⟨x, hx, hc, hq⟩ : ∃ x : Nat, atI (Str.ofString "qvz").cps.toList ((0 : Int) + (i : Int)) = some x ∧ (x = 113 ∨ x = 118 ∨ x = 122) ∧ qvzL.take (i + 1) = qvzL.take i ++ [x] := by
              rcases (show i = 0 ∨ i = 1 ∨ i = 2 by omega) with rfl | rfl | rfl
              · exact ⟨113, by decide +kernel, .inl rfl, rfl⟩
              · exact ⟨118, by decide +kernel, .inr (.inl rfl), rfl⟩
              · exact ⟨122, by decide +kernel, .inr (.inr rfl), rfl⟩
            have hnm : NmOk (Txt.join (Str.ofString "") (ls.map s1) ++ s1 x ++ Txt.join (Str.ofString "") (gs.map s1)) := by
              rw [es, eg]
              exact nm_made (fun z hz => ab_az z (p5 z hz)) (fun z hz => ab_09 z (q5 z hz)) hc (by omega)
            have hle := hnm.hi
            have hle2 : (Txt.join (Str.ofString "") (ls.map s1) ++ s1 x).length ≤ 8 := by
              have : (Txt.join (Str.ofString "") (ls.map s1) ++ s1 x ++ Txt.join (Str.ofString "") (gs.map s1)).length = (Txt.join (Str.ofString "") (ls.map s1) ++ s1 x).length + (Txt.join (Str.ofString "") (gs.map s1)).length := Str.length_append _ _
              omega
            have e1 := Str.length_append (Txt.join (Str.ofString "") (ls.map s1)) (s1 x)
            have e2 := Str.length_append (Txt.join (Str.ofString "") (ls.map s1) ++ s1 x) (Txt.join (Str.ofString "") (gs.map s1))
            refine ⟨rfl, _, rfl, _, rfl, _, _, x, rfl, rfl, by decide +kernel, hx, _, _, rfl, rfl, le_line (by rw [← e1]; omega), _, rfl, _, _, rfl, rfl, le_line (by rw [← e2]; omega), _, u4, lt_line (by rw [List.length_map]; omega), ?_⟩
            have sX : Sx [X] H' (upd H' X (.lst (ns.map V.str ++ [.str (Txt.join (Str.ofString "") (ls.map s1) ++ s1 x ++ Txt.join (Str.ofString "") (gs.map s1))]))) := (Sx.refl (ex := [X]) _).put (by simp)
            refine ⟨u1.own HX, u2.sx sX (by simp [Xa.symm]) (by simp [Xc.symm]), by rw [upd_ne gX]; exact u3, ns ++ [Txt.join (Str.ofString "") (ls.map s1) ++ s1 x ++ Txt.join (Str.ofString "") (gs.map s1)], by rw [upd_same, List.map_append]; rfl, by rw [List.length_append, u5]; rfl, fun z hz => ?_, by rw [hq, List.map_append, ← u7]; rfl⟩
            rcases List.mem_append.1 hz with h | h
            · exact u6 z h
            · rw [List.mem_singleton.mp h]; exact hnm
          · obtain ⟨u1, u2, u3, ns, u4, u5, u6, u7⟩ := p
            have u5' : ns.length = 3 := u5
            refine ⟨g, X, _, _, rfl, rfl, u3, u4, by show 1 + (ns.map V.str).length ≤ sizeLine; rw [List.length_map]; exact le_line (by omega), fun v hv => ?_⟩
            obtain ⟨va, vc⟩ := u2.nw hv
            refine q _ cs7 _ v ("n" :: ns) (u1.new hv) (u2.new hv) (by omega) (by omega) (u1.free (by simp [va, vc]) hv) va vc ⟨upd_same, by simp, by rw [List.length_cons]; omega, fun z hz => ?_⟩ ⟨ns, rfl, by rw [u7, es, eg]; exact nm3_made ls gs⟩
            rcases List.mem_cons.1 hz with rfl | hz
            · exact nmOk_of (by decide +kernel)
            · exact u6 z hz
end
abbrev sOther : Stmt := topS 54
abbrev nOther : List Str := ["_law_expression_here", "_law_first", "_law_second"]
theorem scOther : FnScope nOther ["_law_expression_here"] (defScope sOther) := ⟨rfl, rfl, rfl, by decide +kernel, rfl, by decide +kernel, by decide +kernel⟩
abbrev sTestOther : Stmt := topS 55
abbrev nTestOther : List Str := ["_law_test_here"]
theorem scTestOther : FnScope nTestOther ["_law_test_here"] (defScope sTestOther) := ⟨rfl, rfl, rfl, by decide +kernel, rfl, by decide +kernel, by decide +kernel⟩
def spOther (n : Nat) : Sp := fun vs H Q _ => ∃ (v : V) (e : Ex) (ns : List Str), vs = [v] ∧ Tp H v e.d ∧ e.ok ns n ∧ (∀ z ∈ ns, NmOk z) ∧ ∀ H' r, Sx [] H H' → Tp H' r e.oth.d → Q r H'
def spTestOther : Sp := fun vs H Q _ => ∃ (v : V) (t : Ts) (ns : List Str), vs = [v] ∧ Tp H v t.d ∧ t.ok ns 2 ∧ (∀ z ∈ ns, NmOk z) ∧ ∀ H' r, Sx [] H H' → Tp H' r t.oth.d → Q r H'
theorem nm_first {z : Str} (h : NmOk z) : ∃ c, atI z.cps.toList 0 = some c ∧ z.length ≤ 8 ∧ z.length ≠ 0 := by
  have h1 := h.lo
  have h2 := h.hi
  have e : z.cps.toList.length = z.length := by simp [Str.length]
  cases hl : z.cps.toList with
  | nil => rw [hl] at e; simp at e; omega
  | cons c r => exact ⟨c, atI_nat (j := 0) rfl, h2, by omega⟩
theorem one_ne (c : Nat) : ¬ (decide (V.str ⟨#[c]⟩ = V.str "times") = true) := fun z => by
  have e := V.str.inj (of_decide_eq_true z)
  have e2 := congrArg Str.length e
  have : (⟨#[c]⟩ : Str).length = 1 := rfl
  rw [this] at e2
  revert e2
  decide +kernel
section
variable {w : World} {P : Program} {K : PySem.W.Frag} {mg : Str → Option Value} {base : Heap}
theorem ok_other {f : Addr} {fd : FuncData} (F_other : Fun K "_law_other" "_law_other" sOther f fd) (b_other : Binds K fd ["_law_expression_here"] []) (m_other : mg "_law_other" = some (.ref f))
    (z_isinstance : mg "isinstance" = none) (z_int : mg "int" = none) (z_tuple : mg "tuple" = none) :
    ∀ n : Nat, FnOk P w K mg base CX0 (n + 1) f fd ["_law_expression_here"] (spOther n) := by
  intro n
  induction n with
  | zero => exact ⟨fun vs H Q E h => by obtain ⟨_, _, _, rfl, _⟩ := h; rfl, fun _ _ _ _ _ _ _ _ _ _ _ _ _ h => by
      obtain ⟨_, e, _, _, _, h, _⟩ := h
      cases e <;> exact absurd h.1 (by decide)⟩
  | succ n G_other =>
    refine F_other.ok scOther (fun vs H Q E h => ?_) (fun cdv A outer s H vs Q E hr h => ?_)
    · obtain ⟨_, _, _, rfl, _⟩ := h
      rfl
    · obtain ⟨v, e, ns, rfl, t, ho, hn, q⟩ := h
      refine ⟨_, (pss_cons (ps_if (pt_not (pt_val (pe_callB call_isi (by rfl) z_isinstance (by decide +kernel) (pa_cons (pv 0) (pa_cons (pe_bltn (v := .ty "tuple") (by rfl) z_tuple (by decide +kernel) rfl) pa_nil))))) (pss_one (ps_ret (pv 0))) pss_nil)
      (pss_cons (ps_if (pt_cmpR op_eq (pe_ix ix_tup (pv 0) pe_int (fun _ _ => rfl)) pe_str (nomark _)) (pss_one (ps_ret (pe_tup (pa_cons pe_str (pa_cons (pe_ix ix_tup (pv 0) pe_int (fun _ _ => rfl)) (pa_cons (pe_call G_other (hr.mono (by omega)) (by rfl) m_other F_other.kp b_other .nil pass0 (pa_cons (pe_ix ix_tup (pv 0) pe_int (fun _ _ => rfl)) pa_nil)) pa_nil)))))) pss_nil)
      (pss_cons (ps_par (i := 1) (j := 2) (by rfl) scOther.nd rfl rfl (by decide) rfl rfl (pa_cons (pe_call G_other (hr.mono (by omega)) (by rfl) m_other F_other.kp b_other .nil pass0 (pa_cons (pe_ix ix_tup (pv 0) pe_int (fun _ _ => rfl)) pa_nil)) (pa_cons (pe_call G_other (hr.mono (by omega)) (by rfl) m_other F_other.kp b_other .nil pass0 (pa_cons (pe_ix ix_tup (pv 0) pe_int (fun _ _ => rfl)) pa_nil)) pa_nil)) (by rfl))
      (pss_cons (ps_if (PW.pt (pw_and (pt_cmpR op_eq (pe_ix ix_tup (pv 0) pe_int (fun _ _ => rfl)) pe_str (nomark _)) (pw_and1 (pt_val (pe_callB call_isi (by rfl) z_isinstance (by decide +kernel) (pa_cons (pv 2) (pa_cons (pe_bltn (v := .ty "int") (by rfl) z_int (by decide +kernel) rfl) pa_nil))))))) (pss_one (ps_ret (pe_tup (pa_cons pe_str (pa_cons (pv 1) (pa_cons (pe_op op_sub pe_int (pv 2)) pa_nil)))))) pss_nil)
      (pss_cons (ps_if (PW.pt (pw_and (pt_cmpR op_eq (pe_ix ix_tup (pv 0) pe_int (fun _ _ => rfl)) pe_str (nomark _)) (pw_and1 (pt_cmpR op_eq (pe_ix ix_seq (pv 2) pe_int (fun _ _ => rfl)) pe_str (nomark _))))) (pss_one (ps_ret (pe_tup (pa_cons pe_str (pa_cons (pv 1) (pa_cons (pe_tup (pa_cons pe_str (pa_cons (pe_op op_sub pe_int (pe_ix ix_tup (pv 2) pe_int (fun _ _ => rfl))) (pa_cons (pe_ix ix_tup (pv 2) pe_int (fun _ _ => rfl)) pa_nil)))) pa_nil)))))) pss_nil)
      (pss_one (ps_ret (pe_ifExp (pt_cmpR op_eq (pe_ix ix_tup (pv 0) pe_int (fun _ _ => rfl)) pe_str (nomark _)) (pe_tup (pa_cons (pe_ix ix_tup (pv 0) pe_int (fun _ _ => rfl)) (pa_cons (pv 2) (pa_cons (pv 1) pa_nil)))) (pe_tup (pa_cons (pe_ix ix_tup (pv 0) pe_int (fun _ _ => rfl)) (pa_cons (pv 1) (pa_cons (pv 2) pa_nil)))))))))))), ?_⟩
      cases e with
      | int i =>
        obtain rfl := tpI t
        exact ⟨_, rfl, _, _, _, _, _, rfl, .ty _, .base (.int i), kit_ty (r := false) (by decide +kernel), _, rfl, iteT ⟨_, rfl, q H _ (Sx.refl _) t⟩⟩
      | name z =>
        obtain rfl := tpS t
        exact ⟨_, rfl, _, _, _, _, _, rfl, .ty _, .base (.str z), kit_ty (r := false) (by decide +kernel), _, rfl, iteT ⟨_, rfl, q H _ (Sx.refl _) t⟩⟩
      | times c x =>
        obtain ⟨a, p, u, r, rfl, ha, t1, t2, t3⟩ := tp3 t
        obtain rfl := tpS t1
        obtain rfl := tpI t2
        refine ⟨_, rfl, _, _, _, _, _, rfl, .ty _, .base (.tup ha), kit_ty (r := true) (by decide +kernel), _, rfl, iteF ?_⟩
        refine ⟨_, rfl, a, _, _, _, rfl, rfl, SqT.of ha, rfl, rfl, _, rfl, iteP (by decide +kernel) ?_⟩
        refine ⟨_, rfl, a, _, _, _, rfl, rfl, SqT.of ha, rfl, _, rfl, a, _, _, r, rfl, rfl, SqT.of ha, rfl, r, x, ns, rfl, t3, ho.2.2.2, hn, fun H1 r1 s1 u1 => ?_⟩
        exact ⟨by show 3 ≤ sizeLine; decide, fun p hp => q _ _ (s1.new hp) (.tup upd_same (.cons (.str _) (.cons (.int _) (.cons (u1.new hp) .nil))))⟩
      | plus x y =>
        obtain ⟨a, p, u, r, rfl, ha, t1, t2, t3⟩ := tp3 t
        obtain rfl := tpS t1
        refine ⟨_, rfl, _, _, _, _, _, rfl, .ty _, .base (.tup ha), kit_ty (r := true) (by decide +kernel), _, rfl, iteF ?_⟩
        refine ⟨_, rfl, a, _, _, _, rfl, rfl, SqT.of ha, rfl, rfl, _, rfl, iteN (by decide +kernel) ?_⟩
        refine ⟨_, rfl, a, _, _, u, rfl, rfl, SqT.of ha, rfl, u, x, ns, rfl, t2, ho.2.1, hn, fun H1 r1 s1 u1 => ?_⟩
        have ha1 := s1 _ _ (by simp) ha
        refine ⟨_, rfl, a, _, _, r, rfl, rfl, SqT.of ha1, rfl, r, y, ns, rfl, t3.keep s1.tk0, ho.2.2, hn, fun H2 r2 s2 u2 => ?_⟩
        have ha2 := s2 _ _ (by simp) ha1
        have u1 := u1.keep s2.tk0
        refine ⟨_, _, rfl, ?_⟩
        refine ⟨_, rfl, a, _, _, _, rfl, rfl, SqT.of ha2, rfl, rfl, _, rfl, iteN (by decide +kernel) ?_⟩
        refine ⟨_, rfl, a, _, _, _, rfl, rfl, SqT.of ha2, rfl, rfl, _, rfl, iteN (by decide +kernel) ?_⟩
        refine ⟨_, rfl, a, _, _, _, rfl, rfl, SqT.of ha2, rfl, rfl, _, rfl, iteP (by decide +kernel) ?_⟩
        refine ⟨_, rfl, a, _, _, _, rfl, rfl, SqT.of ha2, rfl, _, rfl, _, rfl, by show 3 ≤ sizeLine; decide, fun p hp => q _ _ ((s1.trans s2).new hp) (.tup upd_same (.cons (.str _) (.cons (u2.new hp) (.cons (u1.new hp) .nil))))⟩
      | minus x y =>
        obtain ⟨a, p, u, r, rfl, ha, t1, t2, t3⟩ := tp3 t
        obtain rfl := tpS t1
        refine ⟨_, rfl, _, _, _, _, _, rfl, .ty _, .base (.tup ha), kit_ty (r := true) (by decide +kernel), _, rfl, iteF ?_⟩
        refine ⟨_, rfl, a, _, _, _, rfl, rfl, SqT.of ha, rfl, rfl, _, rfl, iteN (by decide +kernel) ?_⟩
        refine ⟨_, rfl, a, _, _, u, rfl, rfl, SqT.of ha, rfl, u, x, ns, rfl, t2, ho.2.1, hn, fun H1 r1 s1 u1 => ?_⟩
        have ha1 := s1 _ _ (by simp) ha
        refine ⟨_, rfl, a, _, _, r, rfl, rfl, SqT.of ha1, rfl, r, y, ns, rfl, t3.keep s1.tk0, ho.2.2, hn, fun H2 r2 s2 u2 => ?_⟩
        have ha2 := s2 _ _ (by simp) ha1
        have u1 := u1.keep s2.tk0
        have s12 := s1.trans s2
        refine ⟨_, _, rfl, ?_⟩
        refine ⟨_, rfl, a, _, _, _, rfl, rfl, SqT.of ha2, rfl, rfl, _, rfl, iteP (by decide +kernel) ?_⟩
        have oy := Ex.oth_ok y n ho.2.2
        rw [Ex.oth] at q
        cases hy : y.oth with
        | int c =>
          rw [hy] at u2 q
          obtain rfl := tpI u2
          refine ⟨_, rfl, _, _, _, _, _, rfl, .ty _, .base (.int c), kit_ty (r := true) (by decide +kernel), _, rfl, iteT ?_⟩
          exact ⟨_, rfl, _, rfl, 0, c, rfl, rfl, by show 3 ≤ sizeLine; decide, fun p hp => q _ _ (s12.new hp) (.tup upd_same (.cons (.str _) (.cons (u1.new hp) (.cons (.int _) .nil))))⟩
        | times c z =>
          rw [hy] at u2 q
          obtain ⟨b, p', u', r', rfl, hb, v1, v2, v3⟩ := tp3 u2
          obtain rfl := tpS v1
          obtain rfl := tpI v2
          refine ⟨_, rfl, _, _, _, _, _, rfl, .ty _, .base (.tup hb), kit_ty (r := false) (by decide +kernel), _, rfl, iteF ?_⟩
          refine ⟨_, rfl, a, _, _, _, rfl, rfl, SqT.of ha2, rfl, rfl, _, rfl, iteP (by decide +kernel) ?_⟩
          refine ⟨_, rfl, .inr (.inl ⟨b, _, _, _, rfl, rfl, SqT.of hb, rfl, rfl, _, rfl, iteP (by decide +kernel) ?_⟩)⟩
          refine ⟨_, rfl, _, rfl, b, _, _, _, rfl, rfl, SqT.of hb, rfl, 0, c, rfl, rfl, _, rfl, b, _, _, _, rfl, rfl, SqT.of hb, rfl, by show 3 ≤ sizeLine; decide, fun p hp => ⟨by show 3 ≤ sizeLine; decide, fun p2 hp2 => ?_⟩⟩
          have i1 : Tp (upd H2 p (.tup [.str "times", .int (0 - c), r'])) (.ref p) (Ex.times (0 - c) z).d := .tup upd_same (.cons (.str _) (.cons (.int _) (.cons (v3.new hp) .nil)))
          exact q _ _ ((s12.new hp).new hp2) (.tup upd_same (.cons (.str _) (.cons ((u1.new hp).new hp2) (.cons (i1.new hp2) .nil))))
        | name z =>
          rw [hy] at u2 q
          obtain rfl := tpS u2
          have oz : z ∈ ns := by rw [hy] at oy; exact oy.2
          obtain ⟨c, hc, hz, _⟩ := nm_first (hn z oz)
          refine ⟨_, rfl, _, _, _, _, _, rfl, .ty _, .base (.str z), kit_ty (r := false) (by decide +kernel), _, rfl, iteF ?_⟩
          refine ⟨_, rfl, a, _, _, _, rfl, rfl, SqT.of ha2, rfl, rfl, _, rfl, iteP (by decide +kernel) ?_⟩
          refine ⟨_, rfl, .inr (.inr ⟨z, 0, c, rfl, rfl, le_line (by omega), hc, rfl, _, rfl, iteN (one_ne c) ?_⟩)⟩
          refine ⟨_, rfl, a, _, _, _, rfl, rfl, SqT.of ha2, rfl, rfl, _, rfl, iteN (by decide +kernel) ?_⟩
          exact ⟨_, rfl, a, _, _, _, rfl, rfl, SqT.of ha2, rfl, _, rfl, _, rfl, by show 3 ≤ sizeLine; decide, fun p hp => q _ _ (s12.new hp) (.tup upd_same (.cons (.str _) (.cons (u1.new hp) (.cons (u2.new hp) .nil))))⟩
        | plus z z' =>
          rw [hy] at u2 q
          obtain ⟨b, p', u', r', rfl, hb, v1, v2, v3⟩ := tp3 u2
          obtain rfl := tpS v1
          refine ⟨_, rfl, _, _, _, _, _, rfl, .ty _, .base (.tup hb), kit_ty (r := false) (by decide +kernel), _, rfl, iteF ?_⟩
          refine ⟨_, rfl, a, _, _, _, rfl, rfl, SqT.of ha2, rfl, rfl, _, rfl, iteP (by decide +kernel) ?_⟩
          refine ⟨_, rfl, .inr (.inl ⟨b, _, _, _, rfl, rfl, SqT.of hb, rfl, rfl, _, rfl, iteN (by decide +kernel) ?_⟩)⟩
          refine ⟨_, rfl, a, _, _, _, rfl, rfl, SqT.of ha2, rfl, rfl, _, rfl, iteN (by decide +kernel) ?_⟩
          exact ⟨_, rfl, a, _, _, _, rfl, rfl, SqT.of ha2, rfl, _, rfl, _, rfl, by show 3 ≤ sizeLine; decide, fun p hp => q _ _ (s12.new hp) (.tup upd_same (.cons (.str _) (.cons (u1.new hp) (.cons (u2.new hp) .nil))))⟩
        | minus z z' =>
          rw [hy] at u2 q
          obtain ⟨b, p', u', r', rfl, hb, v1, v2, v3⟩ := tp3 u2
          obtain rfl := tpS v1
          refine ⟨_, rfl, _, _, _, _, _, rfl, .ty _, .base (.tup hb), kit_ty (r := false) (by decide +kernel), _, rfl, iteF ?_⟩
          refine ⟨_, rfl, a, _, _, _, rfl, rfl, SqT.of ha2, rfl, rfl, _, rfl, iteP (by decide +kernel) ?_⟩
          refine ⟨_, rfl, .inr (.inl ⟨b, _, _, _, rfl, rfl, SqT.of hb, rfl, rfl, _, rfl, iteN (by decide +kernel) ?_⟩)⟩
          refine ⟨_, rfl, a, _, _, _, rfl, rfl, SqT.of ha2, rfl, rfl, _, rfl, iteN (by decide +kernel) ?_⟩
          exact ⟨_, rfl, a, _, _, _, rfl, rfl, SqT.of ha2, rfl, _, rfl, _, rfl, by show 3 ≤ sizeLine; decide, fun p hp => q _ _ (s12.new hp) (.tup upd_same (.cons (.str _) (.cons (u1.new hp) (.cons (u2.new hp) .nil))))⟩
theorem ok_test_other {f fO : Addr} {fd fdO : FuncData} (F_test_other : Fun K "_law_test_other" "_law_test_other" sTestOther f fd) (F_other : Fun K "_law_other" "_law_other" sOther fO fdO) (G_other : FnOk P w K mg base CX0 4 fO fdO ["_law_expression_here"] (spOther 3))
    (b_other : Binds K fdO ["_law_expression_here"] []) (m_other : mg "_law_other" = some (.ref fO)) : FnOk P w K mg base CX0 5 f fd ["_law_test_here"] spTestOther := by
  refine F_test_other.ok scTestOther (fun vs H Q E h => ?_) (fun cdv A outer s H vs Q E hr h => ?_)
  · obtain ⟨_, _, _, rfl, _⟩ := h
    rfl
  · obtain ⟨v, t, ns, rfl, u, ho, hn, q⟩ := h
    refine ⟨_, (pss_cons (ps_if (pt_cmpR op_eq (pe_ix ix_tup (pv 0) pe_int (fun _ _ => rfl)) pe_str (nomark _)) (pss_one (ps_ret (pe_ix ix_tup (pv 0) pe_int (fun _ _ => rfl)))) pss_nil)
      (pss_cons (ps_if (PW.pt (pw_and (pt_cmpR op_eq (pe_ix ix_tup (pv 0) pe_int (fun _ _ => rfl)) pe_str (nomark _)) (pw_and1 (pt_cmpR op_eq (pe_ix ix_tup (pv 0) pe_int (fun _ _ => rfl)) pe_int (nomark _))))) (pss_one (ps_ret (pe_tup (pa_cons pe_str (pa_cons (pe_call G_other (hr.mono (by omega)) (by rfl) m_other F_other.kp b_other .nil pass0 (pa_cons (pe_ix ix_tup (pv 0) pe_int (fun _ _ => rfl)) pa_nil)) (pa_cons pe_int (pa_cons (pe_op op_sub pe_int (pe_ix ix_tup (pv 0) pe_int (fun _ _ => rfl))) pa_nil))))))) pss_nil)
      (pss_cons (ps_if (pt_cmpR op_eq (pe_ix ix_tup (pv 0) pe_int (fun _ _ => rfl)) pe_str (nomark _)) (pss_one (ps_ret (pe_tup (pa_cons pe_str (pa_cons (pe_tup (pa_cons pe_str (pa_cons (pe_call G_other (hr.mono (by omega)) (by rfl) m_other F_other.kp b_other .nil pass0 (pa_cons (pe_ix ix_tup (pv 0) pe_int (fun _ _ => rfl)) pa_nil)) (pa_cons (pe_ix ix_tup (pv 0) pe_int (fun _ _ => rfl)) (pa_cons (pe_ix ix_tup (pv 0) pe_int (fun _ _ => rfl)) pa_nil))))) pa_nil))))) pss_nil)
      (pss_one (ps_ret (pe_tup (pa_cons pe_str (pa_cons (pe_tup (pa_cons pe_str (pa_cons (pe_call G_other (hr.mono (by omega)) (by rfl) m_other F_other.kp b_other .nil pass0 (pa_cons (pe_ix ix_tup (pv 0) pe_int (fun _ _ => rfl)) pa_nil)) (pa_cons (pe_call G_other (hr.mono (by omega)) (by rfl) m_other F_other.kp b_other .nil pass0 (pa_cons (pe_ix ix_tup (pv 0) pe_int (fun _ _ => rfl)) pa_nil)) pa_nil)))) pa_nil)))))))), ?_⟩
    cases t with
    | not t =>
      obtain ⟨a, p, r, rfl, ha, t1, t2⟩ := tp2 u
      obtain rfl := tpS t1
      exact ⟨_, rfl, a, _, _, _, rfl, rfl, SqT.of ha, rfl, rfl, _, rfl, iteP (by decide +kernel) ⟨_, rfl, a, _, _, r, rfl, rfl, SqT.of ha, rfl, q _ _ (Sx.refl _) t2⟩⟩
    | less x y =>
      obtain ⟨a, p, r, r', rfl, ha, t1, t2, t3⟩ := tp3 u
      obtain rfl := tpS t1
      refine ⟨_, rfl, a, _, _, _, rfl, rfl, SqT.of ha, rfl, rfl, _, rfl, iteN (by decide +kernel) ?_⟩
      refine ⟨_, rfl, a, _, _, _, rfl, rfl, SqT.of ha, rfl, rfl, _, rfl, iteN (by decide +kernel) ?_⟩
      refine ⟨_, rfl, a, _, _, _, rfl, rfl, SqT.of ha, rfl, rfl, _, rfl, iteN (by decide +kernel) ?_⟩
      refine ⟨_, rfl, a, _, _, r, rfl, rfl, SqT.of ha, rfl, r, x, ns, rfl, t2, ho.1, hn, fun H1 r1 s1 u1 => ?_⟩
      have ha1 := s1 _ _ (by simp) ha
      refine ⟨_, rfl, a, _, _, r', rfl, rfl, SqT.of ha1, rfl, r', y, ns, rfl, t3.keep s1.tk0, ho.2, hn, fun H2 r2 s2 u2 => ?_⟩
      refine ⟨by show 3 ≤ sizeLine; decide, fun p hp => ⟨by show 2 ≤ sizeLine; decide, fun p2 hp2 => ?_⟩⟩
      have i1 : Tp (upd H2 p (.tup [.str "less", r1, r2])) (.ref p) (Ts.less x.oth y.oth).d := .tup upd_same (.cons (.str _) (.cons ((u1.keep s2.tk0).new hp) (.cons (u2.new hp) .nil)))
      exact q _ _ (((s1.trans s2).new hp).new hp2) (.tup upd_same (.cons (.str _) (.cons (i1.new hp2) .nil)))
    | rest x b r0 =>
      obtain ⟨a, p, r, r', r'', rfl, ha, t1, t2, t3, t4⟩ := tp4 u
      obtain rfl := tpS t1
      obtain rfl := tpI t3
      obtain rfl := tpI t4
      refine ⟨_, rfl, a, _, _, _, rfl, rfl, SqT.of ha, rfl, rfl, _, rfl, iteN (by decide +kernel) ?_⟩
      refine ⟨_, rfl, a, _, _, _, rfl, rfl, SqT.of ha, rfl, rfl, _, rfl, iteP (by decide +kernel) ?_⟩
      refine ⟨_, rfl, a, _, _, _, rfl, rfl, SqT.of ha, rfl, rfl, _, rfl, ?_⟩
      rw [Ts.oth] at q
      by_cases hb : b = 2
      · subst hb
        rw [if_pos rfl] at q
        refine iteP (decide_eq_true rfl) ?_
        refine ⟨_, rfl, a, _, _, r, rfl, rfl, SqT.of ha, rfl, r, x, ns, rfl, t2, ho.1, hn, fun H1 r1 s1 u1 => ?_⟩
        have ha1 := s1 _ _ (by simp) ha
        exact ⟨_, rfl, a, _, _, _, rfl, rfl, SqT.of ha1, rfl, 1, r0, rfl, rfl, by show 4 ≤ sizeLine; decide, fun p hp => q _ _ (s1.new hp) (.tup upd_same (.cons (.str _) (.cons (u1.new hp) (.cons (.int _) (.cons (.int _) .nil)))))⟩
      · rw [if_neg hb] at q
        refine iteN (by simp [hb]) ?_
        refine ⟨_, rfl, a, _, _, _, rfl, rfl, SqT.of ha, rfl, rfl, _, rfl, iteP (by decide +kernel) ?_⟩
        refine ⟨_, rfl, a, _, _, r, rfl, rfl, SqT.of ha, rfl, r, x, ns, rfl, t2, ho.1, hn, fun H1 r1 s1 u1 => ?_⟩
        have ha1 := s1 _ _ (by simp) ha
        refine ⟨_, rfl, a, _, _, _, rfl, rfl, SqT.of ha1, rfl, _, rfl, a, _, _, _, rfl, rfl, SqT.of ha1, rfl, by show 4 ≤ sizeLine; decide, fun p hp => ⟨by show 2 ≤ sizeLine; decide, fun p2 hp2 => ?_⟩⟩
        have i1 : Tp (upd H1 p (.tup [.str "rest", r1, .int b, .int r0])) (.ref p) (Ts.rest x.oth b r0).d := .tup upd_same (.cons (.str _) (.cons (u1.new hp) (.cons (.int _) (.cons (.int _) .nil))))
        exact q _ _ ((s1.new hp).new hp2) (.tup upd_same (.cons (.str _) (.cons (i1.new hp2) .nil)))
end
/-! ### a tuple so many times -/
theorem tuple_mul1 (l : Addr) (items : Array Value) (n : Nat) (dd : Option Addr) (sl : Array (Option Value)) (u : Tok) (c1 : items.isEmpty = false) :
    Meets (Builtin.«tuple.__mul__» ⟨[.ref l, .int 1 u], []⟩) (fun _ R s => s.heap.get? l = some { cls := .type "tuple", dict := dd, data := .seq items n, slots := sl } ∧
      R (.ok (.ret (Value.ref l))) s) :=
  .of_wp fun pr w A R s h => by
    rcases s with ⟨hp, g, d, tk, os⟩
    obtain ⟨hl, h⟩ := h
    have f1 := AutoSeq1.idx_int
    (wp_walk using wpAny_loadPart' hl)
    repeat (first
      | (refine wpAny_ite_false (decide_eq_false (by decide)) ?_; wp_walk using wpAny_loadPart' hl)
      | (refine wpAny_ite_true (decide_eq_true (by rw [c1]; rfl)) ?_; wp_walk using wpAny_loadPart' hl))
    exact ⟨_, rfl, h⟩
theorem tuple_mul0 (l : Addr) (items : Array Value) (n : Nat) (dd : Option Addr) (sl : Array (Option Value)) (x : Int) (tx : Tok) (c0 : (decide (x < -(2 ^ 63)) || decide (x ≥ 2 ^ 63)) = false) (c1 : (items.isEmpty || x == 1) = false) (c2 : (decide (x ≤ 0) || items.isEmpty) = true) :
    Meets (Builtin.«tuple.__mul__» ⟨[.ref l, .int x tx], []⟩) (fun _ R s => s.heap.get? l = some { cls := .type "tuple", dict := dd, data := .seq items n, slots := sl } ∧
      R (.ok (.ret (Value.ref s.heap.objs.size))) { s with heap := s.heap.push { cls := Value.type "tuple", data := Data.seq #[] }, toks := s.toks }) :=
  .of_wp fun pr w0 A0 R0 s0 h0 => by
    obtain ⟨hp, g, d, tk, os⟩ := s0
    obtain ⟨ht, h⟩ := h0
    have f1 := AutoSeq1.idx_int
    (wp_walk using AutoSeq1.wpAny_loadPart' ht)
    repeat (first
      | (refine wpAny_ite_false (decide_eq_false (by rw [c0]; exact Bool.false_ne_true)) ?_; wp_walk using AutoSeq1.wpAny_loadPart' ht)
      | (refine wpAny_ite_false (decide_eq_false (by rw [c1]; exact Bool.false_ne_true)) ?_; wp_walk using AutoSeq1.wpAny_loadPart' ht)
      | (refine wpAny_ite_true (decide_eq_true c2) ?_; wp_walk using AutoSeq1.wpAny_loadPart' ht))
    exact ⟨_, rfl, h⟩
def rRepW (K : PySem.W.Frag) : R2 := fun x y H Q => ∃ l k xs, x = .ref l ∧ y = .int k ∧ SqT K H l xs ∧ xs ≠ [] ∧ 0 ≤ k ∧ k ≤ 10000 ∧ xs.length ≤ 1000 ∧ (k = 1 → Q (.ref l) H) ∧ (k ≠ 1 → ∀ p, H p = none → Q (.ref p) (upd H p (.tup (List.replicate k.toNat xs).flatten)))
section
variable {X : Cx}
theorem op_repW : OpR X (binaryOp .Mult) (rRepW X.K) := by
  intro pins s σ H x0 y0 v u Q I rx ry h
  obtain ⟨l, k, xs, rfl, rfl, hT, hne, h1, h2, hz, q1, q⟩ := h
  cases rx
  obtain ⟨t, rfl⟩ := ry
  rcases I.tuple hT with ⟨its, r, ⟨⟨cls, dd, data, sl⟩, ho, hc, n, hd⟩, hs⟩
  simp only at hc hd
  subst hc hd
  have hle : (its.length = xs.length) := r.length.symm
  have hn : (its ≠ []) := fun e => hne (by
    exact List.eq_nil_of_length_eq_zero (e ▸ hle).symm)
  have hi : (its.toArray.isEmpty = false) := by
    cases its with
    | nil => exact absurd rfl hn
    | cons a b => rfl
  have hsz0 : (its.toArray.size = xs.length) := by rw [List.size_toArray, hle]
  by_cases hk : k = 1
  · subst hk
    exact wpAny_binaryOp_repeat_ref (U := "int") (T := "tuple") (by decide) ⟨_, ho, rfl⟩ (fun s' => typeIs_int s' 1 t) noFill_tuple_mul F.fills_int_mul F.slot_int_rmul repeat_tuple F.slot_int_index.lookup
      (call_meets F.slot_int_rmul (typeIs_int s 1 t) F.entry_int_rmul (F.args_int_rmul_2 _ _) (int_rmul_tuple 1 t l its.toArray n dd sl)
        ⟨ho, rfl, ⟨_, ho, rfl⟩, call_meets F.slot_tuple_mul ⟨_, ho, rfl⟩ F.entry_tuple_mul (F.args_tuple_mul_2 _ _) (tuple_mul1 l its.toArray n dd sl t hi) ⟨ho, .ref l, H, I, rfl, q1 rfl⟩⟩)
  have q := q hk
  have c0 : ((decide (k < -(2 ^ 63)) || decide (k ≥ 2 ^ 63)) = false) := by
    (rw [decide_eq_false (by omega), decide_eq_false (by omega)]; rfl)
  have c1 : ((its.toArray.isEmpty || k == 1) = false) := by
    rw [hi, Bool.false_or]
    exact (beq_eq_false_iff_ne.mpr (by omega))
  by_cases hk0 : k = 0
  · subst hk0
    refine wpAny_binaryOp_repeat_ref (U := "int") (T := "tuple") (by decide) ⟨_, ho, rfl⟩ (fun s' => typeIs_int s' 0 t) noFill_tuple_mul F.fills_int_mul F.slot_int_rmul repeat_tuple F.slot_int_index.lookup
      (call_meets F.slot_int_rmul (typeIs_int s 0 t) F.entry_int_rmul (F.args_int_rmul_2 _ _) (int_rmul_tuple 0 t l its.toArray n dd sl)
        ⟨ho, rfl, ⟨_, ho, rfl⟩, call_meets F.slot_tuple_mul ⟨_, ho, rfl⟩ F.entry_tuple_mul (F.args_tuple_mul_2 _ _) (tuple_mul0 l its.toArray n dd sl 0 t c0 c1 (by rw [hi]; rfl)) ⟨ho, ?_⟩⟩)
    exact ⟨.ref s.heap.objs.size, _, I.laid (t' := s.toks) (o := .tup []) (fun b ob q => Heap.get?_push_of_some _ q) (Nat.le_refl _) ⟨by show 0 ≤ sizeLine; decide, [], .nil, IsTup.new _ _⟩, rfl, q _ (I.hok.fresh (Nat.le_refl _))⟩
  have hm : ((its.toArray.size : Nat) : Int) * k ≤ 10000000 := by
    rw [hsz0]
    have a1 : (((xs.length : Nat) : Int) * k ≤ 1000 * k) := Int.mul_le_mul_of_nonneg_right (by omega) (by omega)
    omega
  have flen : ((List.replicate k.toNat its).flatten.length ≤ sizeLine) := by
    rw [PyProof.Rows.lm_len_rep_flat]; rw [hle, sizeLine_eq]
    have a1 : k.toNat * xs.length ≤ 10000 * 1000 := Nat.mul_le_mul (by omega) hz
    omega
  have c2 : ((decide (k ≤ 0) || its.toArray.isEmpty) = false) := by
    rw [hi, Bool.or_false]
    exact (decide_eq_false (by omega))
  have c4 : (Builtin.Tuple.tupleTooMany (((its.toArray.size : Nat) : Int) * k) = false) := by
    rw [Builtin.Tuple.tupleTooMany, sizeLine_eq]
    exact (decide_eq_false (by omega))
  refine wpAny_binaryOp_repeat_ref (U := "int") (T := "tuple") (by decide) ⟨_, ho, rfl⟩ (fun s' => typeIs_int s' k t) noFill_tuple_mul F.fills_int_mul F.slot_int_rmul repeat_tuple F.slot_int_index.lookup
    (call_meets F.slot_int_rmul (typeIs_int s k t) F.entry_int_rmul (F.args_int_rmul_2 _ _) (int_rmul_tuple k t l its.toArray n dd sl) ⟨ho, rfl, ⟨_, ho, rfl⟩,
      call_meets F.slot_tuple_mul ⟨_, ho, rfl⟩ F.entry_tuple_mul (F.args_tuple_mul_2 _ _) (tuple_mulW l its.toArray n dd sl k t c0 c1 c2 (by omega) c4 (by rw [size_rep, List.size_toArray]; exact flen)) ⟨ho, ?_⟩⟩)
  rw [size_rep]
  refine (⟨.ref s.heap.objs.size, _, I.laid (t' := s.toks) (o := .tup (List.replicate k.toNat xs).flatten) (fun b ob q => Heap.get?_push_of_some _ q) (Nat.le_refl _) ?_, rfl, q _ (I.hok.fresh (Nat.le_refl _))⟩)
  exact ⟨by rw [PyProof.Rows.lm_len_rep_flat, sizeLine_eq]; have a1 : k.toNat * xs.length ≤ 10000 * 1000 := Nat.mul_le_mul (by omega) hz; omega, _, r.rep k.toNat, IsTup.new _ _⟩
end
theorem rep_tp {K : PySem.W.Frag} {H : Hp} {l : Addr} {x : V} {d : PyData} {m : Int} {Q : VK} (h : H l = some (.tup [x])) (t : Tp H x d) (h1 : 0 ≤ m) (h2 : m ≤ 10000)
    (q : ∀ H' z, Sx [] H H' → Tp H' z (.tuple (List.replicate m.toNat d)) → Q z H') : rRepW K (.ref l) (.int m) H Q := by
  refine ⟨l, m, [x], rfl, rfl, SqT.of h, by simp, h1, h2, by show 1 ≤ 1000; decide, fun e => ?_, fun _ p hp => ?_⟩
  · subst e
    exact q H _ (Sx.refl _) (.tup h (.cons t .nil))
  · have fl : ∀ n : Nat, (List.replicate n [x]).flatten = List.replicate n x := fun n => by
      induction n with
      | zero => rfl
      | succ n ih => rw [List.replicate_succ, List.flatten_cons, ih]; rfl
    have tr : ∀ n : Nat, TpAll H (List.replicate n x) (List.replicate n d) := fun n => by
      induction n with
      | zero => exact .nil
      | succ n ih => exact .cons t ih
    rw [fl]
    exact q _ _ (Sx.n0 hp) (.tup upd_same ((tr _).new hp))
/-! ### an empty tuple so many times is itself -/
theorem tuple_mulE (l : Addr) (items : Array Value) (n : Nat) (dd : Option Addr) (sl : Array (Option Value)) (x : Int) (tx : Tok) (c0 : (decide (x < -(2 ^ 63)) || decide (x ≥ 2 ^ 63)) = false) (c1 : items.isEmpty = true) :
    Meets (Builtin.«tuple.__mul__» ⟨[.ref l, .int x tx], []⟩) (fun _ R s => s.heap.get? l = some { cls := .type "tuple", dict := dd, data := .seq items n, slots := sl } ∧ R (.ok (.ret (Value.ref l))) s) :=
  .of_wp fun pr w A R s h => by
    rcases s with ⟨hp, g, d, tk, os⟩
    obtain ⟨hl, h⟩ := h
    have f1 := AutoSeq1.idx_int
    (wp_walk using wpAny_loadPart' hl)
    repeat (first
      | (refine wpAny_ite_false (decide_eq_false (by rw [c0]; decide)) ?_; wp_walk using wpAny_loadPart' hl)
      | (refine wpAny_ite_true (decide_eq_true (by rw [c1]; rfl)) ?_; wp_walk using wpAny_loadPart' hl))
    exact ⟨_, rfl, h⟩
def rRepA (K : PySem.W.Frag) : R2 := fun x y H Q => rRepW K x y H Q ∨ ∃ l k, x = .ref l ∧ y = .int k ∧ SqT K H l [] ∧ 0 ≤ k ∧ k ≤ 10000 ∧ Q (.ref l) H
theorem op_repA {X : Cx} : OpR X (binaryOp .Mult) (rRepA X.K) := by
  intro pins s σ H x0 y0 v u Q I rx ry h
  rcases h with h | ⟨l, k, rfl, rfl, hT, h1, h2, q⟩
  · exact op_repW pins s σ H x0 y0 v u Q I rx ry h
  · cases rx
    obtain ⟨tq, rfl⟩ := ry
    rcases I.tuple hT with ⟨its, r, ⟨⟨cls, dd, data, sl⟩, ho, hc, n, hd⟩, hs⟩
    simp only at hc hd
    subst hc hd
    have hle : its.length = 0 := r.length.symm
    have hi : its.toArray.isEmpty = true := by
      rw [List.eq_nil_of_length_eq_zero hle]; rfl
    have c0 : ((decide (k < -(2 ^ 63)) || decide (k ≥ 2 ^ 63)) = false) := by
      (rw [decide_eq_false (by omega), decide_eq_false (by omega)]; rfl)
    exact wpAny_binaryOp_repeat_ref (U := "int") (T := "tuple") (by decide) ⟨_, ho, rfl⟩ (fun s' => typeIs_int s' k tq) noFill_tuple_mul F.fills_int_mul F.slot_int_rmul repeat_tuple F.slot_int_index.lookup
      (call_meets F.slot_int_rmul (typeIs_int s k tq) F.entry_int_rmul (F.args_int_rmul_2 _ _) (int_rmul_tuple k tq l its.toArray n dd sl)
        ⟨ho, rfl, ⟨_, ho, rfl⟩, call_meets F.slot_tuple_mul ⟨_, ho, rfl⟩ F.entry_tuple_mul (F.args_tuple_mul_2 _ _) (tuple_mulE l its.toArray n dd sl k tq c0 hi) ⟨ho, .ref l, H, I, rfl, q⟩⟩)
theorem repT {H : Hp} {xs : List V} {ds : List PyData} (h : TpAll H xs ds) : ∀ n : Nat, TpAll H (List.replicate n xs).flatten (List.replicate n ds).flatten
  | 0 => .nil
  | n + 1 => by
    simp only [List.replicate_succ, List.flatten_cons]
    exact h.append (repT h n)
theorem rep_any {K : PySem.W.Frag} {H : Hp} {v : V} {ds : List PyData} {m : Int} {Q : VK} (h : Tp H v (.tuple ds)) (hl : ds.length ≤ 1000) (h1 : 0 ≤ m) (h2 : m ≤ 10000)
    (q : ∀ H' z, Sx [] H H' → Tp H' z (.tuple (List.replicate m.toNat ds).flatten) → Q z H') : rRepA K v (.int m) H Q := by
  obtain ⟨a, xs, rfl, ha, hx⟩ := h.tuple
  have xl := hx.len
  by_cases e : xs = []
  · subst e
    cases hx
    refine .inr ⟨a, m, rfl, rfl, SqT.of ha, h1, h2, q H _ (Sx.refl _) (.tup ha ?_)⟩
    have z := repT (H := H) (xs := []) (ds := []) .nil m.toNat
    have e0 : ∀ {α : Type} (n : Nat), (List.replicate n ([] : List α)).flatten = [] := fun n => by simp
    rw [e0]
    exact .nil
  · refine .inl ⟨a, m, xs, rfl, rfl, SqT.of ha, e, h1, h2, by omega, fun em => ?_, fun _ p hp => ?_⟩
    · subst em
      refine q H _ (Sx.refl _) (.tup ha ?_)
      have z := repT hx 1
      simpa using z
    · exact q _ _ (Sx.n0 hp) (.tup upd_same ((repT hx m.toNat).new hp))
abbrev sRowOther : Stmt := topS 56
abbrev nRowOther : List Str := ["_law_row_here", "_law_is_long", "_law_yes", "_law_no", "_law_inner"]
theorem scRowOther : FnScope nRowOther ["_law_row_here", "_law_is_long"] (defScope sRowOther) := ⟨rfl, rfl, rfl, by decide +kernel, rfl, by decide +kernel, by decide +kernel⟩
abbrev sRowsOther : Stmt := topS 57
abbrev nRowsOther : List Str := ["_law_block_here", "_law_is_long", "_law_found", "_law_row_here"]
theorem scRowsOther : FnScope nRowsOther ["_law_block_here", "_law_is_long"] (defScope sRowsOther) := ⟨rfl, rfl, rfl, by decide +kernel, rfl, by decide +kernel, by decide +kernel⟩
def stD (l : List St) : PyData := .tuple (l.map St.d)
def spRowO (d : Nat) : Sp := fun vs H Q _ => ∃ (v : V) (s : St) (lg : Bool) (ns : List Str), vs = [v, .bl lg] ∧ Tp H v s.d ∧ s.ok ns d ∧ (∀ z ∈ ns, NmOk z) ∧ s.wt ≤ 100 ∧ ∀ H' r, Sx [] H H' → Tp H' r (stD (s.oth lg)) → Q r H'
def spRowsO (d : Nat) : Sp := fun vs H Q _ => ∃ (v : V) (b : Bk) (lg : Bool) (ns : List Str), vs = [v, .bl lg] ∧ Tp H v (.tuple b.ds) ∧ b.ok ns d ∧ (∀ z ∈ ns, NmOk z) ∧ b.wt ≤ 100 ∧ ∀ H' r, Sx [] H H' → Tp H' r (stD (b.oth lg)) → Q r H'
theorem len_ssz (l : List St) : l.length ≤ ssz l := by
  induction l with
  | nil => exact Nat.le_refl _
  | cons s l ih =>
    have h1 := St.sz_pos s
    unfold ssz at ih ⊢
    rw [List.map_cons, List.sum_cons, List.length_cons]
    omega
theorem Bk.oth_flat (lg : Bool) : ∀ b : Bk, b.oth lg = b.lst.flatMap (St.oth lg)
  | .nil => rfl
  | .cons s b => by rw [Bk.oth, Bk.lst, List.flatMap_cons, Bk.oth_flat lg b]
theorem sum_mem_le {l : List Nat} {x : Nat} (h : x ∈ l) : x ≤ l.sum := by
  induction l with
  | nil => cases h
  | cons y l ih =>
    rw [List.sum_cons]
    rcases List.mem_cons.1 h with rfl | h
    · omega
    · have := ih h; omega
theorem ssz_take (g : St → List St) : ∀ {l : List St} {i : Nat} {s : St}, l[i]? = some s → ssz ((l.take i).flatMap g) + ssz (g s) ≤ ssz (l.flatMap g)
  | x :: l, 0, s, h => by
    cases h
    rw [List.take_zero, List.flatMap_nil, List.flatMap_cons, ssz_append]
    show 0 + _ ≤ _
    omega
  | x :: l, i + 1, s, h => by
    have := ssz_take g (l := l) (i := i) h
    rw [List.take_succ_cons, List.flatMap_cons, List.flatMap_cons, ssz_append, ssz_append]
    omega
section
variable {w : World} {P : Program} {K : PySem.W.Frag} {mg : Str → Option Value} {base : Heap}
theorem ok_rowO {f fR fT fO : Addr} {fd fdR fdT fdO : FuncData} {d : Nat} (F_row_other : Fun K "_law_row_other" "_law_row_other" sRowOther f fd) (F_rows_other : Fun K "_law_rows_other" "_law_rows_other" sRowsOther fR fdR) (F_test_other : Fun K "_law_test_other" "_law_test_other" sTestOther fT fdT) (F_other : Fun K "_law_other" "_law_other" sOther fO fdO)
    (G_rows_other : FnOk P w K mg base CX0 (6 + 2 * d) fR fdR ["_law_block_here", "_law_is_long"] (spRowsO d)) (G_test_other : FnOk P w K mg base CX0 5 fT fdT ["_law_test_here"] spTestOther) (G_other : FnOk P w K mg base CX0 4 fO fdO ["_law_expression_here"] (spOther 3))
    (b_rows_other : Binds K fdR ["_law_block_here", "_law_is_long"] []) (b_test_other : Binds K fdT ["_law_test_here"] []) (b_other : Binds K fdO ["_law_expression_here"] [])
    (m_rows_other : mg "_law_rows_other" = some (.ref fR)) (m_test_other : mg "_law_test_other" = some (.ref fT)) (m_other : mg "_law_other" = some (.ref fO)) (z_isinstance : mg "isinstance" = none) (z_tuple : mg "tuple" = none) :
    FnOk P w K mg base CX0 (6 + 2 * d + 1) f fd ["_law_row_here", "_law_is_long"] (spRowO d) := by
  refine F_row_other.ok scRowOther (fun vs H Q E h => ?_) (fun cdv A outer s H vs Q E hr h => ?_)
  · obtain ⟨_, _, _, _, rfl, _⟩ := h
    rfl
  · obtain ⟨v, s, lg, ns, rfl, t, ho, hn, hw, q⟩ := h
    refine ⟨_, (pss_cons (ps_if (pt_cmpR op_eq (pe_ix ix_tup (pv 0) pe_int (fun _ _ => rfl)) pe_str (nomark _)) (pss_cons (ps_par (i := 2) (j := 3) (by rfl) scRowOther.nd rfl rfl (by decide) rfl rfl (pa_cons (pe_call G_rows_other (hr.mono (by omega)) (by rfl) m_rows_other F_rows_other.kp b_rows_other .nil pass0 (pa_cons (pe_ix ix_tup (pv 0) pe_int (fun _ _ => rfl)) (pa_cons (pv 1) pa_nil))) (pa_cons (pe_call G_rows_other (hr.mono (by omega)) (by rfl) m_rows_other F_rows_other.kp b_rows_other .nil pass0 (pa_cons (pe_ix ix_tup (pv 0) pe_int (fun _ _ => rfl)) (pa_cons (pv 1) pa_nil))) pa_nil)) (by rfl))
      (pss_one (ps_ret (pe_tup (pa_cons (pe_tup (pa_cons pe_str (pa_cons (pe_call G_test_other (hr.mono (by omega)) (by rfl) m_test_other F_test_other.kp b_test_other .nil pass0 (pa_cons (pe_ix ix_tup (pv 0) pe_int (fun _ _ => rfl)) pa_nil)) (pa_cons (pv 3) (pa_cons (pv 2) pa_nil))))) pa_nil))))) pss_nil)
      (pss_cons (ps_if (pt_cmpR op_eq (pe_ix ix_tup (pv 0) pe_int (fun _ _ => rfl)) pe_str (nomark _)) (pss_cons (ps_set (i := 4) scRowOther.nd rfl (by first | exact Or.inl rfl | exact Or.inr rfl) (pe_call G_rows_other (hr.mono (by omega)) (by rfl) m_rows_other F_rows_other.kp b_rows_other .nil pass0 (pa_cons (pe_ix ix_tup (pv 0) pe_int (fun _ _ => rfl)) (pa_cons (pv 1) pa_nil))))
      (pss_one (ps_ret (pe_ifExp (pt_truth (pv 1) (fun _ => rfl)) (pe_op op_repA (pv 4) (pe_ix ix_tup (pv 0) pe_int (fun _ _ => rfl))) (pe_tup (pa_cons (pe_tup (pa_cons pe_str (pa_cons (pe_ix ix_tup (pv 0) pe_int (fun _ _ => rfl)) (pa_cons (pv 4) pa_nil)))) pa_nil)))))) pss_nil)
      (pss_cons (ps_if (PW.pt (pw_and (pt_cmpR op_eq (pe_ix ix_tup (pv 0) pe_int (fun _ _ => rfl)) pe_str (nomark _)) (pw_and (pt_val (pe_callB call_isi (by rfl) z_isinstance (by decide +kernel) (pa_cons (pe_ix ix_tup (pv 0) pe_int (fun _ _ => rfl)) (pa_cons (pe_bltn (v := .ty "tuple") (by rfl) z_tuple (by decide +kernel) rfl) pa_nil)))) (pw_and1 (pt_cmpR op_eq (pe_ix ix_tup (pe_ix ix_tup (pv 0) pe_int (fun _ _ => rfl)) pe_int (fun _ _ => rfl)) pe_str (nomark _)))))) (pss_one (ps_ret (pe_tup (pa_cons (pe_tup (pa_cons pe_str (pa_cons (pe_call G_other (hr.mono (by omega)) (by rfl) m_other F_other.kp b_other .nil pass0 (pa_cons (pe_ix ix_tup (pe_ix ix_tup (pv 0) pe_int (fun _ _ => rfl)) pe_int (fun _ _ => rfl)) pa_nil)) pa_nil))) (pa_cons (pe_tup (pa_cons pe_str (pa_cons (pe_call G_other (hr.mono (by omega)) (by rfl) m_other F_other.kp b_other .nil pass0 (pa_cons (pe_ix ix_tup (pe_ix ix_tup (pv 0) pe_int (fun _ _ => rfl)) pe_int (fun _ _ => rfl)) pa_nil)) pa_nil))) pa_nil))))) pss_nil)
      (pss_cons (ps_if (pt_cmpR op_in_seq (pe_ix ix_tup (pv 0) pe_int (fun _ _ => rfl)) (pe_tup (pa_cons pe_str (pa_cons pe_str pa_nil))) (by with_unfolding_all rfl)) (pss_one (ps_ret (pe_tup (pa_cons (pe_op op_catA (pe_slice sl_tupA (pv 0) po_none (po_some (pe_un un_neg pe_int))) (pe_tup (pa_cons (pe_call G_other (hr.mono (by omega)) (by rfl) m_other F_other.kp b_other .nil pass0 (pa_cons (pe_ix ix_tup (pv 0) (pe_un un_neg pe_int) (fun _ _ => rfl)) pa_nil)) pa_nil))) pa_nil)))) pss_nil)
      (pss_one (ps_ret (pe_tup (pa_cons (pv 0) pa_nil)))))))), ?_⟩
    cases s with
    | ite ts y n =>
      obtain ⟨a, p, u, y', n', rfl, ha, t1, t2, t3, t4⟩ := tp4 t
      obtain rfl := tpS t1
      rw [St.wt] at hw
      refine ⟨_, rfl, a, _, _, _, rfl, rfl, SqT.of ha, rfl, rfl, _, rfl, iteP (by decide +kernel) ?_⟩
      refine ⟨_, rfl, a, _, _, y', rfl, rfl, SqT.of ha, rfl, _, rfl, y', y, lg, ns, rfl, t3, ho.2.1, hn, by omega, fun H1 r1 s1 u1 => ?_⟩
      have ha1 := s1 _ _ (by simp) ha
      refine ⟨_, rfl, a, _, _, n', rfl, rfl, SqT.of ha1, rfl, _, rfl, n', n, lg, ns, rfl, t4.keep s1.tk0, ho.2.2, hn, by omega, fun H2 r2 s2 u2 => ?_⟩
      have ha2 := s2 _ _ (by simp) ha1
      have s12 := s1.trans s2
      refine ⟨_, _, rfl, ?_⟩
      refine ⟨_, rfl, a, _, _, u, rfl, rfl, SqT.of ha2, rfl, u, ts, ns, rfl, t2.keep s12.tk0, ho.1, hn, fun H3 r3 s3 u3 => ?_⟩
      have u1 := (u1.keep s2.tk0).keep s3.tk0
      have u2 := u2.keep s3.tk0
      refine ⟨_, rfl, _, rfl, by show 4 ≤ sizeLine; decide, fun p1 hp1 => ⟨by show 1 ≤ sizeLine; decide, fun p2 hp2 => ?_⟩⟩
      have i1 : Tp (upd H3 p1 (.tup [.str "if", r3, r2, r1])) (.ref p1) (St.ite ts.oth (Bk.ofL (n.oth lg)) (Bk.ofL (y.oth lg))).d := by
        rw [St.d, Bk.ofL_ds, Bk.ofL_ds]
        exact .tup upd_same (.cons (.str _) (.cons (u3.new hp1) (.cons (u2.new hp1) (.cons (u1.new hp1) .nil))))
      exact q _ _ (((s12.trans s3).new hp1).new hp2) (.tup upd_same (.cons (i1.new hp2) .nil))
    | rep k y =>
      obtain ⟨a, p, u, y', rfl, ha, t1, t2, t3⟩ := tp3 t
      obtain rfl := tpS t1
      obtain rfl := tpI t2
      rw [St.wt] at hw
      have k1 : 1 ≤ k := ho.1
      have k8 : k ≤ 8 := ho.2.1
      have yw : y.wt ≤ k.toNat * y.wt := Nat.le_mul_of_pos_left _ (by omega)
      refine ⟨_, rfl, a, _, _, _, rfl, rfl, SqT.of ha, rfl, rfl, _, rfl, iteN (by decide +kernel) ?_⟩
      refine ⟨_, rfl, a, _, _, _, rfl, rfl, SqT.of ha, rfl, rfl, _, rfl, iteP (by decide +kernel) ?_⟩
      refine ⟨_, rfl, a, _, _, y', rfl, rfl, SqT.of ha, rfl, _, rfl, y', y, lg, ns, rfl, t3, ho.2.2, hn, by omega, fun H1 r1 s1 u1 => ?_⟩
      have ha1 := s1 _ _ (by simp) ha
      have ln := len_ssz (y.oth lg)
      have lz := (Bk.oth_le lg y d ho.2.2).1
      refine gnm ?_
      have fin : ∀ {l : List St}, (St.rep k y).oth lg = l → ∀ {H2 : Hp} {z : V}, Sx [] H1 H2 → Tp H2 z (stD l) → Q z H2 := fun e _ _ s2 t2 => q _ _ (s1.trans s2) (by rw [e]; exact t2)
      cases lg with
      | true =>
        refine ⟨_, rfl, true, rfl, iteT ?_⟩
        refine ⟨_, rfl, _, rfl, a, _, _, _, rfl, rfl, SqT.of ha1, rfl, ?_⟩
        refine rep_any u1 (by rw [List.length_map]; omega) (by omega) (by omega) (fun H2 z s2 t2 => fin (by rw [St.oth, if_pos rfl]) s2 ?_)
        unfold stD
        rw [List.map_flatten]; rw [List.map_replicate]
        exact t2
      | false =>
        refine ⟨_, rfl, false, rfl, iteF ?_⟩
        refine ⟨_, rfl, a, _, _, _, rfl, rfl, SqT.of ha1, rfl, _, rfl, by show 3 ≤ sizeLine; decide, fun p1 hp1 => ⟨by show 1 ≤ sizeLine; decide, fun p2 hp2 => ?_⟩⟩
        have i1 : Tp (upd H1 p1 (.tup [.str "repeat", .int k, r1])) (.ref p1) (St.rep k (Bk.ofL (y.oth false))).d := by
          rw [St.d, Bk.ofL_ds]
          exact .tup upd_same (.cons (.str _) (.cons (.int _) (.cons (u1.new hp1) .nil)))
        exact fin (by rw [St.oth, if_neg (by decide)]) ((Sx.n0 hp1).new hp2) (.tup upd_same (.cons (i1.new hp2) .nil))
    | stop =>
      obtain ⟨a, p, rfl, ha, t1⟩ := tp1 t
      obtain rfl := tpS t1
      refine ⟨_, rfl, a, _, _, _, rfl, rfl, SqT.of ha, rfl, rfl, _, rfl, iteN (by decide +kernel) ?_⟩
      refine ⟨_, rfl, a, _, _, _, rfl, rfl, SqT.of ha, rfl, rfl, _, rfl, iteN (by decide +kernel) ?_⟩
      refine ⟨_, rfl, a, _, _, _, rfl, rfl, SqT.of ha, rfl, rfl, _, rfl, iteN (by decide +kernel) ?_⟩
      refine ⟨_, rfl, a, _, _, _, rfl, rfl, SqT.of ha, rfl, by show 2 ≤ sizeLine; decide, fun p1 hp1 => ⟨p1, _, rfl, .inr (SqT.of upd_same), rfl, rfl, _, rfl, iteN (by decide +kernel) ?_⟩⟩
      exact ⟨_, rfl, by show 1 ≤ sizeLine; decide, fun p2 hp2 => q _ _ ((Sx.n0 hp1).new hp2) (.tup upd_same (.cons ((t.new hp1).new hp2) .nil))⟩
    | set z e =>
      obtain ⟨a, p, u, y', rfl, ha, t1, t2, t3⟩ := tp3 t
      obtain rfl := tpS t1
      obtain rfl := tpS t2
      refine ⟨_, rfl, a, _, _, _, rfl, rfl, SqT.of ha, rfl, rfl, _, rfl, iteN (by decide +kernel) ?_⟩
      refine ⟨_, rfl, a, _, _, _, rfl, rfl, SqT.of ha, rfl, rfl, _, rfl, iteN (by decide +kernel) ?_⟩
      refine ⟨_, rfl, a, _, _, _, rfl, rfl, SqT.of ha, rfl, rfl, _, rfl, iteN (by decide +kernel) ?_⟩
      refine ⟨_, rfl, a, _, _, _, rfl, rfl, SqT.of ha, rfl, by show 2 ≤ sizeLine; decide, fun p1 hp1 => ⟨p1, _, rfl, .inr (SqT.of upd_same), rfl, rfl, _, rfl, iteP (by decide +kernel) ?_⟩⟩
      have t' := t.new (o := .tup [.str "pay", .str "set"]) hp1
      have t3 := t3.new (o := .tup [.str "pay", .str "set"]) hp1
      have n1 : Sx [] H (upd H p1 (.tup [.str "pay", .str "set"])) := Sx.n0 hp1
      have ha := n1 _ _ (by simp) ha
      generalize upd H p1 (.tup [.str "pay", .str "set"]) = H1 at t' t3 n1 ha ⊢
      refine ⟨_, rfl, 1, rfl, _, rfl, a, _, rfl, SqT.of ha, fun z => absurd z.2 (by show ¬ (2 : Nat) = 3; decide), fun _ p2 hp2 => ?_⟩
      have n2 := Sx.n0 (o := .tup (cutV [.str "set", .str z, y'] none (some (-1)))) hp2
      have e2 : (upd H1 p2 (.tup (cutV [.str "set", .str z, y'] none (some (-1))))) p2 = some (.tup [.str "set", .str z]) := upd_same
      have t3 := t3.keep n2.tk0
      have ha := n2 _ _ (by simp) ha
      generalize upd H1 p2 (.tup (cutV [.str "set", .str z, y'] none (some (-1)))) = H2 at n2 e2 t3 ha ⊢
      refine ⟨_, rfl, 1, rfl, a, _, _, y', rfl, rfl, SqT.of ha, rfl, y', e, ns, rfl, t3, ho.2, hn, fun H3 r3 s3 u3 => ⟨by show 1 ≤ sizeLine; decide, fun p3 hp3 => ?_⟩⟩
      refine ⟨p2, p3, [.str "set", .str z], [r3], rfl, rfl, SqT.of (((s3.new hp3) _ _ (by simp)) e2), SqT.of upd_same, by show 3 ≤ sizeLine; decide, (fun e => by cases e), (fun _ e => by cases e), fun _ _ p4 hp4 => ⟨by show 1 ≤ sizeLine; decide, fun p5 hp5 => ?_⟩⟩
      have i1 : Tp (upd (upd H3 p3 (.tup [r3])) p4 (.tup ([.str "set", .str z] ++ [r3]))) (.ref p4) (St.set z e.oth).d := .tup upd_same (.cons (.str _) (.cons (.str _) (.cons ((u3.new hp3).new hp4) .nil)))
      exact q _ _ (((((n1.trans n2).trans s3).new hp3).new hp4).new hp5) (.tup upd_same (.cons (i1.new hp5) .nil))
    | pay e =>
      obtain ⟨a, p, y', rfl, ha, t1, t3⟩ := tp2 t
      obtain rfl := tpS t1
      refine ⟨_, rfl, a, _, _, _, rfl, rfl, SqT.of ha, rfl, rfl, _, rfl, iteN (by decide +kernel) ?_⟩
      refine ⟨_, rfl, a, _, _, _, rfl, rfl, SqT.of ha, rfl, rfl, _, rfl, iteN (by decide +kernel) ?_⟩
      refine ⟨_, rfl, a, _, _, _, rfl, rfl, SqT.of ha, rfl, rfl, _, rfl, iteP (by decide +kernel) ?_⟩
      cases e with
      | int i =>
        obtain rfl := tpI t3
        refine ⟨_, rfl, a, _, _, _, rfl, rfl, SqT.of ha, rfl, _, _, _, _, _, rfl, .ty _, .base (.int i), kit_ty (r := false) (by decide +kernel), _, rfl, iteF ?_⟩
        refine ⟨_, rfl, a, _, _, _, rfl, rfl, SqT.of ha, rfl, by show 2 ≤ sizeLine; decide, fun p1 hp1 => ⟨p1, _, rfl, .inr (SqT.of upd_same), rfl, rfl, _, rfl, iteP (by decide +kernel) ?_⟩⟩
        have t3 := t3.new (o := .tup [.str "pay", .str "set"]) hp1
        have n1 : Sx [] H (upd H p1 (.tup [.str "pay", .str "set"])) := Sx.n0 hp1
        have ha := n1 _ _ (by simp) ha
        generalize upd H p1 (.tup [.str "pay", .str "set"]) = H1 at t3 n1 ha ⊢
        refine ⟨_, rfl, 1, rfl, _, rfl, a, _, rfl, SqT.of ha, fun z => absurd z.2 (by show ¬ (1 : Nat) = 2; decide), fun _ p2 hp2 => ?_⟩
        have n2 := Sx.n0 (o := .tup (cutV [.str "pay", (.int i)] none (some (-1)))) hp2
        have e2 : (upd H1 p2 (.tup (cutV [.str "pay", (.int i)] none (some (-1))))) p2 = some (.tup [.str "pay"]) := upd_same
        have t3 := t3.keep n2.tk0
        have ha := n2 _ _ (by simp) ha
        generalize upd H1 p2 (.tup (cutV [.str "pay", (.int i)] none (some (-1)))) = H2 at n2 e2 t3 ha ⊢
        refine ⟨_, rfl, 1, rfl, a, _, _, (.int i), rfl, rfl, SqT.of ha, rfl, (.int i), .int i, ns, rfl, t3, ho, hn, fun H3 r3 s3 u3 => ⟨by show 1 ≤ sizeLine; decide, fun p3 hp3 => ?_⟩⟩
        refine ⟨p2, p3, [.str "pay"], [r3], rfl, rfl, SqT.of (((s3.new hp3) _ _ (by simp)) e2), SqT.of upd_same, by show 2 ≤ sizeLine; decide, (fun e => by cases e), (fun _ e => by cases e), fun _ _ p4 hp4 => ⟨by show 1 ≤ sizeLine; decide, fun p5 hp5 => ?_⟩⟩
        have i1 : Tp (upd (upd H3 p3 (.tup [r3])) p4 (.tup ([.str "pay"] ++ [r3]))) (.ref p4) (St.pay (Ex.oth (.int i))).d := .tup upd_same (.cons (.str _) (.cons ((u3.new hp3).new hp4) .nil))
        exact q _ _ (((((n1.trans n2).trans s3).new hp3).new hp4).new hp5) (.tup upd_same (.cons (i1.new hp5) .nil))
      | name i =>
        obtain rfl := tpS t3
        refine ⟨_, rfl, a, _, _, _, rfl, rfl, SqT.of ha, rfl, _, _, _, _, _, rfl, .ty _, .base (.str i), kit_ty (r := false) (by decide +kernel), _, rfl, iteF ?_⟩
        refine ⟨_, rfl, a, _, _, _, rfl, rfl, SqT.of ha, rfl, by show 2 ≤ sizeLine; decide, fun p1 hp1 => ⟨p1, _, rfl, .inr (SqT.of upd_same), rfl, rfl, _, rfl, iteP (by decide +kernel) ?_⟩⟩
        have t3 := t3.new (o := .tup [.str "pay", .str "set"]) hp1
        have n1 : Sx [] H (upd H p1 (.tup [.str "pay", .str "set"])) := Sx.n0 hp1
        have ha := n1 _ _ (by simp) ha
        generalize upd H p1 (.tup [.str "pay", .str "set"]) = H1 at t3 n1 ha ⊢
        refine ⟨_, rfl, 1, rfl, _, rfl, a, _, rfl, SqT.of ha, fun z => absurd z.2 (by show ¬ (1 : Nat) = 2; decide), fun _ p2 hp2 => ?_⟩
        have n2 := Sx.n0 (o := .tup (cutV [.str "pay", (.str i)] none (some (-1)))) hp2
        have e2 : (upd H1 p2 (.tup (cutV [.str "pay", (.str i)] none (some (-1))))) p2 = some (.tup [.str "pay"]) := upd_same
        have t3 := t3.keep n2.tk0
        have ha := n2 _ _ (by simp) ha
        generalize upd H1 p2 (.tup (cutV [.str "pay", (.str i)] none (some (-1)))) = H2 at n2 e2 t3 ha ⊢
        refine ⟨_, rfl, 1, rfl, a, _, _, (.str i), rfl, rfl, SqT.of ha, rfl, (.str i), .name i, ns, rfl, t3, ho, hn, fun H3 r3 s3 u3 => ⟨by show 1 ≤ sizeLine; decide, fun p3 hp3 => ?_⟩⟩
        refine ⟨p2, p3, [.str "pay"], [r3], rfl, rfl, SqT.of (((s3.new hp3) _ _ (by simp)) e2), SqT.of upd_same, by show 2 ≤ sizeLine; decide, (fun e => by cases e), (fun _ e => by cases e), fun _ _ p4 hp4 => ⟨by show 1 ≤ sizeLine; decide, fun p5 hp5 => ?_⟩⟩
        have i1 : Tp (upd (upd H3 p3 (.tup [r3])) p4 (.tup ([.str "pay"] ++ [r3]))) (.ref p4) (St.pay (Ex.oth (.name i))).d := .tup upd_same (.cons (.str _) (.cons ((u3.new hp3).new hp4) .nil))
        exact q _ _ (((((n1.trans n2).trans s3).new hp3).new hp4).new hp5) (.tup upd_same (.cons (i1.new hp5) .nil))
      | minus x y =>
        obtain ⟨b, p', u', r', rfl, hb, v1, v2, v3⟩ := tp3 t3
        obtain rfl := tpS v1
        refine ⟨_, rfl, a, _, _, _, rfl, rfl, SqT.of ha, rfl, _, _, _, _, _, rfl, .ty _, .base (.tup hb), kit_ty (r := true) (by decide +kernel), _, rfl, iteT ⟨_, rfl, a, _, _, _, rfl, rfl, SqT.of ha, rfl, b, _, _, _, rfl, rfl, SqT.of hb, rfl, rfl, _, rfl, iteN (by decide +kernel) ?_⟩⟩
        refine ⟨_, rfl, a, _, _, _, rfl, rfl, SqT.of ha, rfl, by show 2 ≤ sizeLine; decide, fun p1 hp1 => ⟨p1, _, rfl, .inr (SqT.of upd_same), rfl, rfl, _, rfl, iteP (by decide +kernel) ?_⟩⟩
        have t3 := t3.new (o := .tup [.str "pay", .str "set"]) hp1
        have n1 : Sx [] H (upd H p1 (.tup [.str "pay", .str "set"])) := Sx.n0 hp1
        have ha := n1 _ _ (by simp) ha
        generalize upd H p1 (.tup [.str "pay", .str "set"]) = H1 at t3 n1 ha ⊢
        refine ⟨_, rfl, 1, rfl, _, rfl, a, _, rfl, SqT.of ha, fun z => absurd z.2 (by show ¬ (1 : Nat) = 2; decide), fun _ p2 hp2 => ?_⟩
        have n2 := Sx.n0 (o := .tup (cutV [.str "pay", (.ref b)] none (some (-1)))) hp2
        have e2 : (upd H1 p2 (.tup (cutV [.str "pay", (.ref b)] none (some (-1))))) p2 = some (.tup [.str "pay"]) := upd_same
        have t3 := t3.keep n2.tk0
        have ha := n2 _ _ (by simp) ha
        generalize upd H1 p2 (.tup (cutV [.str "pay", (.ref b)] none (some (-1)))) = H2 at n2 e2 t3 ha ⊢
        refine ⟨_, rfl, 1, rfl, a, _, _, (.ref b), rfl, rfl, SqT.of ha, rfl, (.ref b), .minus x y, ns, rfl, t3, ho, hn, fun H3 r3 s3 u3 => ⟨by show 1 ≤ sizeLine; decide, fun p3 hp3 => ?_⟩⟩
        refine ⟨p2, p3, [.str "pay"], [r3], rfl, rfl, SqT.of (((s3.new hp3) _ _ (by simp)) e2), SqT.of upd_same, by show 2 ≤ sizeLine; decide, (fun e => by cases e), (fun _ e => by cases e), fun _ _ p4 hp4 => ⟨by show 1 ≤ sizeLine; decide, fun p5 hp5 => ?_⟩⟩
        have i1 : Tp (upd (upd H3 p3 (.tup [r3])) p4 (.tup ([.str "pay"] ++ [r3]))) (.ref p4) (St.pay (Ex.oth (.minus x y))).d := .tup upd_same (.cons (.str _) (.cons ((u3.new hp3).new hp4) .nil))
        exact q _ _ (((((n1.trans n2).trans s3).new hp3).new hp4).new hp5) (.tup upd_same (.cons (i1.new hp5) .nil))
      | times c x =>
        obtain ⟨b, p', u', r', rfl, hb, v1, v2, v3⟩ := tp3 t3
        obtain rfl := tpS v1
        refine ⟨_, rfl, a, _, _, _, rfl, rfl, SqT.of ha, rfl, _, _, _, _, _, rfl, .ty _, .base (.tup hb), kit_ty (r := true) (by decide +kernel), _, rfl, iteT ⟨_, rfl, a, _, _, _, rfl, rfl, SqT.of ha, rfl, b, _, _, _, rfl, rfl, SqT.of hb, rfl, rfl, _, rfl, iteN (by decide +kernel) ?_⟩⟩
        refine ⟨_, rfl, a, _, _, _, rfl, rfl, SqT.of ha, rfl, by show 2 ≤ sizeLine; decide, fun p1 hp1 => ⟨p1, _, rfl, .inr (SqT.of upd_same), rfl, rfl, _, rfl, iteP (by decide +kernel) ?_⟩⟩
        have t3 := t3.new (o := .tup [.str "pay", .str "set"]) hp1
        have n1 : Sx [] H (upd H p1 (.tup [.str "pay", .str "set"])) := Sx.n0 hp1
        have ha := n1 _ _ (by simp) ha
        generalize upd H p1 (.tup [.str "pay", .str "set"]) = H1 at t3 n1 ha ⊢
        refine ⟨_, rfl, 1, rfl, _, rfl, a, _, rfl, SqT.of ha, fun z => absurd z.2 (by show ¬ (1 : Nat) = 2; decide), fun _ p2 hp2 => ?_⟩
        have n2 := Sx.n0 (o := .tup (cutV [.str "pay", (.ref b)] none (some (-1)))) hp2
        have e2 : (upd H1 p2 (.tup (cutV [.str "pay", (.ref b)] none (some (-1))))) p2 = some (.tup [.str "pay"]) := upd_same
        have t3 := t3.keep n2.tk0
        have ha := n2 _ _ (by simp) ha
        generalize upd H1 p2 (.tup (cutV [.str "pay", (.ref b)] none (some (-1)))) = H2 at n2 e2 t3 ha ⊢
        refine ⟨_, rfl, 1, rfl, a, _, _, (.ref b), rfl, rfl, SqT.of ha, rfl, (.ref b), .times c x, ns, rfl, t3, ho, hn, fun H3 r3 s3 u3 => ⟨by show 1 ≤ sizeLine; decide, fun p3 hp3 => ?_⟩⟩
        refine ⟨p2, p3, [.str "pay"], [r3], rfl, rfl, SqT.of (((s3.new hp3) _ _ (by simp)) e2), SqT.of upd_same, by show 2 ≤ sizeLine; decide, (fun e => by cases e), (fun _ e => by cases e), fun _ _ p4 hp4 => ⟨by show 1 ≤ sizeLine; decide, fun p5 hp5 => ?_⟩⟩
        have i1 : Tp (upd (upd H3 p3 (.tup [r3])) p4 (.tup ([.str "pay"] ++ [r3]))) (.ref p4) (St.pay (Ex.oth (.times c x))).d := .tup upd_same (.cons (.str _) (.cons ((u3.new hp3).new hp4) .nil))
        exact q _ _ (((((n1.trans n2).trans s3).new hp3).new hp4).new hp5) (.tup upd_same (.cons (i1.new hp5) .nil))
      | plus x y =>
        obtain ⟨b, p', u', r', rfl, hb, v1, v2, v3⟩ := tp3 t3
        obtain rfl := tpS v1
        have hx : x.ok ns 3 := Ex.ok_up x 2 3 (by decide) (show (Ex.plus x y).ok ns 3 from ho).2.1
        have hy : y.ok ns 3 := Ex.ok_up y 2 3 (by decide) (show (Ex.plus x y).ok ns 3 from ho).2.2
        refine ⟨_, rfl, a, _, _, _, rfl, rfl, SqT.of ha, rfl, _, _, _, _, _, rfl, .ty _, .base (.tup hb), kit_ty (r := true) (by decide +kernel), _, rfl, iteT ⟨_, rfl, a, _, _, _, rfl, rfl, SqT.of ha, rfl, b, _, _, _, rfl, rfl, SqT.of hb, rfl, rfl, _, rfl, iteP (by decide +kernel) ?_⟩⟩
        refine ⟨_, rfl, a, _, _, _, rfl, rfl, SqT.of ha, rfl, b, _, _, u', rfl, rfl, SqT.of hb, rfl, u', x, ns, rfl, v2, hx, hn, fun H1 r1 s1 u1 => ⟨by show 2 ≤ sizeLine; decide, fun p1 hp1 => ?_⟩⟩
        have i1 : Tp (upd H1 p1 (.tup [.str "pay", r1])) (.ref p1) (St.pay x.oth).d := .tup upd_same (.cons (.str _) (.cons (u1.new hp1) .nil))
        have s1 := s1.new (o := .tup [.str "pay", r1]) hp1
        have ha := s1 _ _ (by simp) ha
        have hb := s1 _ _ (by simp) hb
        have v3 := v3.keep s1.tk0
        generalize upd H1 p1 (.tup [.str "pay", r1]) = H1' at i1 s1 ha hb v3 ⊢
        refine ⟨_, rfl, a, _, _, _, rfl, rfl, SqT.of ha, rfl, b, _, _, r', rfl, rfl, SqT.of hb, rfl, r', y, ns, rfl, v3, hy, hn, fun H2 r2 s2 u2 => ⟨by show 2 ≤ sizeLine; decide, fun p2 hp2 => ⟨by show 2 ≤ sizeLine; decide, fun p3 hp3 => ?_⟩⟩⟩
        have i2 : Tp (upd H2 p2 (.tup [.str "pay", r2])) (.ref p2) (St.pay y.oth).d := .tup upd_same (.cons (.str _) (.cons (u2.new hp2) .nil))
        exact q _ _ (((s1.trans s2).new hp2).new hp3) (.tup upd_same (.cons (((i1.keep s2.tk0).new hp2).new hp3) (.cons (i2.new hp3) .nil)))
theorem ok_rowsO {f fR : Addr} {fd fdR : FuncData} {d : Nat} (F_rows_other : Fun K "_law_rows_other" "_law_rows_other" sRowsOther f fd) (F_row_other : Fun K "_law_row_other" "_law_row_other" sRowOther fR fdR)
    (G_row_other : FnOk P w K mg base CX0 (6 + 2 * d + 1) fR fdR ["_law_row_here", "_law_is_long"] (spRowO d)) (b_row_other : Binds K fdR ["_law_row_here", "_law_is_long"] []) (m_row_other : mg "_law_row_other" = some (.ref fR)) :
    FnOk P w K mg base CX0 (6 + 2 * d + 1 + 1) f fd ["_law_block_here", "_law_is_long"] (spRowsO (d + 1)) := by
  refine F_rows_other.ok scRowsOther (fun vs H Q E h => ?_) (fun cdv A outer s H vs Q E hr h => ?_)
  · obtain ⟨_, _, _, _, rfl, _⟩ := h
    rfl
  · obtain ⟨v, b, lg, ns, rfl, t, ho, hn, hw, q⟩ := h
    refine ⟨_, (pss_cons (ps_set (i := 2) scRowsOther.nd rfl (by first | exact Or.inl rfl | exact Or.inr rfl) (pe_tup pa_nil))
      (C8.pss_cut (ps_for PassesOwn.never rfl (pi_tup (pv 0)) (pg_name (i := 3) scRowsOther.nd rfl (by first | exact Or.inl rfl | exact Or.inr rfl)) (pss_one (ps_set (i := 2) scRowsOther.nd rfl (by first | exact Or.inl rfl | exact Or.inr rfl) (pe_op op_catA (pv 2) (pe_call G_row_other (hr.mono (by omega)) (by rfl) m_row_other F_row_other.kp b_row_other .nil pass0 (pa_cons (pv 3) (pa_cons (pv 1) pa_nil)))))))
      (pss_one (ps_ret (pv 2))))), ?_⟩
    obtain ⟨a, xs, rfl, ha, hx⟩ := t.tuple
    rw [b.ds_lst] at hx
    obtain ⟨xl, hg⟩ := hx.lst
    refine ⟨by show 0 ≤ sizeLine; decide, fun L hL => ?_⟩
    have nL := Sx.n0 (o := .tup []) hL
    refine gnm ?_
    refine ⟨fun σ H' => ∃ v2 o3, σ = [some (.ref a), some (.bl lg), some v2, o3] ∧ Sx [] H H' ∧ Tp H' v2 (stD (b.oth lg)), ?_, ?_⟩
    · refine ⟨_, rfl, a, rfl, ⟨_, SqT.of (nL _ _ (by simp) ha)⟩, for_tup (xs := xs) (fun i σ H' => ∃ v2 o3, σ = [some (.ref a), some (.bl lg), some v2, o3] ∧ Sx [] H H' ∧ Tp H' v2 (stD ((b.lst.take i).flatMap (St.oth lg))))
        ⟨_, _, rfl, nL, .tup upd_same .nil⟩ (fun i σ H' _ z => by obtain ⟨_, _, _, z, _⟩ := z; exact SqT.of (z _ _ (by simp) ha)) (fun i x σ H' hi z => ?_) (fun σ H' z => ?_)⟩
      · obtain ⟨v2, o3, rfl, s1, t1⟩ := z
        obtain ⟨st, hs, ts⟩ := hg i x hi
        have so := Bk.mem_ok ho (List.mem_of_getElem? hs)
        have sw : st.wt ≤ b.wt := by
          rw [b.wt_sum]
          exact sum_mem_le (List.mem_map_of_mem (List.mem_of_getElem? hs))
        have lw : ssz ((b.lst.take i).flatMap (St.oth lg)) + ssz (st.oth lg) ≤ 200 := by
          have z := (Bk.oth_le lg b _ ho).1
          rw [Bk.oth_flat] at z
          have z2 := ssz_take (St.oth lg) hs
          omega
        refine gnm ?_
        refine ⟨_, rfl, _, rfl, _, rfl, x, st, lg, ns, rfl, ts.keep s1.tk0, so, hn, by omega, fun H2 r2 s2 t2 => ?_⟩
        refine cat_tp (t1.keep s2.tk0) t2 (by rw [List.length_map, List.length_map]; have := len_ssz ((b.lst.take i).flatMap (St.oth lg)); have := len_ssz (st.oth lg); omega) (fun H3 z s3 _ t3 => ?_)
        refine ⟨_, _, rfl, (s1.trans s2).trans s3, ?_⟩
        rw [List.take_add_one, hs, List.flatMap_append]
        unfold stD
        rw [List.map_append]
        simpa using t3
      · obtain ⟨v2, o3, rfl, s1, t1⟩ := z
        rw [xl, List.take_length, ← Bk.oth_flat] at t1
        exact ⟨_, _, rfl, s1, t1⟩
    · rintro _ H' ⟨v2, o3, rfl, s1, t1⟩
      exact ⟨_, rfl, q _ _ s1 t1⟩
end
theorem ok_rowsO0 {P : Program} {w : World} {K : PySem.W.Frag} {mg : Str → Option Value} {base : Heap} {f fR : Addr} {fd fdR : FuncData} {k : Nat} (F_rows_other : Fun K "_law_rows_other" "_law_rows_other" sRowsOther f fd) (F_row_other : Fun K "_law_row_other" "_law_row_other" sRowOther fR fdR)
    (b_row_other : Binds K fdR ["_law_row_here", "_law_is_long"] []) (m_row_other : mg "_law_row_other" = some (.ref fR)) : FnOk P w K mg base CX0 (k + 1 + 1) f fd ["_law_block_here", "_law_is_long"] (spRowsO 0) := by
  have G_row_other : FnOk P w K mg base CX0 1 fR fdR ["_law_row_here", "_law_is_long"] (fun _ _ _ _ => False) := ⟨fun _ _ _ _ h => h.elim, fun _ _ _ _ _ _ _ _ _ _ _ _ _ h => h.elim⟩
  refine F_rows_other.ok scRowsOther (fun vs H Q E h => ?_) (fun cdv A outer s H vs Q E hr h => ?_)
  · obtain ⟨_, _, _, _, rfl, _⟩ := h
    rfl
  · obtain ⟨v, b, lg, ns, rfl, t, ho, hn, hw, q⟩ := h
    have hb : b = .nil := by
      cases b with
      | nil => rfl
      | cons s b => exact absurd ho.1 (by decide)
    subst hb
    obtain ⟨a, xs, rfl, ha, hx⟩ := t.tuple
    cases hx
    refine ⟨_, (pss_cons (ps_set (i := 2) scRowsOther.nd rfl (by first | exact Or.inl rfl | exact Or.inr rfl) (pe_tup pa_nil))
      (C8.pss_cut (ps_for PassesOwn.never rfl (pi_tup (pv 0)) (pg_name (i := 3) scRowsOther.nd rfl (by first | exact Or.inl rfl | exact Or.inr rfl)) (pss_one (ps_set (i := 2) scRowsOther.nd rfl (by first | exact Or.inl rfl | exact Or.inr rfl) (pe_op op_catA (pv 2) (pe_call G_row_other (hr.mono (by omega)) (by rfl) m_row_other F_row_other.kp b_row_other .nil pass0 (pa_cons (pv 3) (pa_cons (pv 1) pa_nil)))))))
      (pss_one (ps_ret (pv 2))))), ?_⟩
    refine ⟨by show 0 ≤ sizeLine; decide, fun L hL => ?_⟩
    have nL := Sx.n0 (o := .tup []) hL
    refine gnm ?_
    refine ⟨fun σ H' => ∃ v2 o3, σ = [some (.ref a), some (.bl lg), some v2, o3] ∧ Sx [] H H' ∧ Tp H' v2 (stD []), ?_, ?_⟩
    · exact ⟨_, rfl, a, rfl, ⟨_, SqT.of (nL _ _ (by simp) ha)⟩, for_tup (xs := []) (fun i σ H' => ∃ v2 o3, σ = [some (.ref a), some (.bl lg), some v2, o3] ∧ Sx [] H H' ∧ Tp H' v2 (stD []))
        ⟨_, _, rfl, nL, .tup upd_same .nil⟩ (fun i σ H' _ z => by obtain ⟨_, _, _, z, _⟩ := z; exact SqT.of (z _ _ (by simp) ha)) (fun i x σ H' hi z => by simp at hi) (fun σ H' z => z)⟩
    · rintro _ H' ⟨v2, o3, rfl, s1, t1⟩
      exact ⟨_, rfl, q _ _ s1 t1⟩
abbrev sWithMore : Stmt := topS 58
abbrev nWithMore : List Str := ["_law_deck_here", "_law_program_here", "_law_at", "_law_more"]
theorem scWithMore : FnScope nWithMore ["_law_deck_here", "_law_program_here"] (defScope sWithMore) := ⟨rfl, rfl, rfl, by decide +kernel, rfl, by decide +kernel, by decide +kernel⟩
theorem gNo {σ : L2.St} {H : Hp} {Q : Option Int → Hp → Prop} (h : Q none H) : tNoPart σ H Q := h
theorem ne_nums {p1 : Addr} {xs : List V} {cs : List Int} {P : Prop} (h : some (HO.lst (cs.map V.int)) = some (.lst (.ref p1 :: xs))) : P := by
  cases cs with
  | nil => simp at h
  | cons c cs => simp at h
theorem TpAll.cutT {H : Hp} : ∀ {vs : List V} {ds : List PyData} (n : Nat), TpAll H vs ds → TpAll H (vs.take n) (ds.take n)
  | _, _, 0, _ => .nil
  | _, _, n + 1, .nil => .nil
  | _, _, n + 1, .cons a b => .cons a (TpAll.cutT n b)
theorem TpAll.cutD {H : Hp} : ∀ {vs : List V} {ds : List PyData} (n : Nat), TpAll H vs ds → TpAll H (vs.drop n) (ds.drop n)
  | _, _, 0, h => h
  | _, _, n + 1, .nil => .nil
  | _, _, n + 1, .cons _ b => TpAll.cutD n b
theorem cut_to {K : PySem.W.Frag} {H : Hp} {v : V} {l : List St} {i : Nat} {Q : VK} (t : Tp H v (stD l)) (q : ∀ H' z, Sx [] H H' → Tp H' z (stD (l.take i)) → Q z H') : rSlA K v none (some (i : Int)) H Q := by
  obtain ⟨a, xs, rfl, ha, hx⟩ := t.tuple
  have xl := hx.len
  rw [List.length_map] at xl
  have cv : cutV xs none (some (i : Int)) = xs.take i := by
    unfold cutV
    rw [HT.sIx_none, HT.sIx_nat, List.drop_zero, Nat.sub_zero]
    rcases Nat.le_total i xs.length with h | h
    · rw [Nat.min_eq_left h]
    · rw [Nat.min_eq_right h, List.take_of_length_le (Nat.le_refl _), List.take_of_length_le h]
  refine ⟨a, xs, rfl, SqT.of ha, fun hw => ?_, fun _ p hp => ?_⟩
  · have h2 := hw.2
    rw [HT.sIx_nat] at h2
    have e : l.take i = l := List.take_of_length_le (by omega)
    exact q H _ (Sx.refl _) (by rw [e]; exact .tup ha hx)
  · rw [cv]
    refine q _ _ (Sx.n0 hp) (.tup upd_same ?_)
    rw [List.map_take]
    exact (TpAll.cutT i hx).new hp
theorem cut_from {K : PySem.W.Frag} {H : Hp} {v : V} {l : List St} {i : Nat} {Q : VK} (t : Tp H v (stD l)) (q : ∀ H' z, Sx [] H H' → Tp H' z (stD (l.drop i)) → Q z H') : rSlA K v (some (i : Int)) none H Q := by
  obtain ⟨a, xs, rfl, ha, hx⟩ := t.tuple
  have xl := hx.len
  rw [List.length_map] at xl
  have cv : cutV xs (some (i : Int)) none = xs.drop i := by
    unfold cutV
    rw [HT.sIx_none, HT.sIx_nat]
    rcases Nat.le_total i xs.length with h | h
    · rw [Nat.min_eq_left h, List.take_of_length_le (by rw [List.length_drop]; exact Nat.le_refl _)]
    · rw [Nat.min_eq_right h, List.drop_of_length_le (Nat.le_refl _), List.drop_of_length_le h, List.take_nil]
  refine ⟨a, xs, rfl, SqT.of ha, fun hw => ?_, fun _ p hp => ?_⟩
  · have h2 := hw.1
    rw [HT.sIx_nat] at h2
    have e : l.drop i = l := by
      obtain z | z := Nat.eq_zero_or_pos i
      · rw [z, List.drop_zero]
      · have : l = [] := List.eq_nil_of_length_eq_zero (by omega)
        rw [this, List.drop_nil]
    exact q H _ (Sx.refl _) (by rw [e]; exact .tup ha hx)
  · rw [cv]
    refine q _ _ (Sx.n0 hp) (.tup upd_same ?_)
    rw [List.map_drop]
    exact (TpAll.cutD i hx).new hp
def setN : St := .set "n" (.name "n")
def spMore (K : PySem.W.Frag) : Sp := fun vs H Q _ => ∃ (a c : Addr) (cs : List Int) (k : Int) (v : V) (l : List St), vs = [.ref a, v] ∧ Dk H a c cs k ∧ Tp H v (stD l) ∧ l.length ≤ 1000 ∧ k + 3 ≤ KB ∧
  ∀ H' cs' k' r (n i : Nat) (x : St), Sx [a, c] H H' → Dk H' a c cs' k' → k ≤ k' → k' ≤ k + 3 → x ∈ moreL → n ≤ 1 → Tp H' r (stD (List.replicate n setN ++ (l.take i ++ ([x] ++ l.drop i)))) → Q r H'
section
variable {w : World} {P : Program} {K : PySem.W.Frag} {mg : Str → Option Value} {base : Heap}
set_option maxHeartbeats 4000001 in
theorem ok_more {f fD fO : Addr} {fd fdD fdO : FuncData} (F : Fun K "_law_with_more" "_law_with_more" sWithMore f fd) (F_draw : Fun K "_law_draw" "_law_draw" sDraw fD fdD) (F_one : Fun K "_law_one" "_law_one" sOne fO fdO)
    (G_draw : FnOk P w K mg base CX0 1 fD fdD ["_law_deck_here", "_law_many"] spDraw) (G_one : FnOk P w K mg base CX0 2 fO fdO ["_law_deck_here", "_law_items"] (spOne K))
    (b_draw : Binds K fdD ["_law_deck_here", "_law_many"] []) (b_one : Binds K fdO ["_law_deck_here", "_law_items"] [])
    (m_draw : mg "_law_draw" = some (.ref fD)) (m_one : mg "_law_one" = some (.ref fO)) (z_len : mg "len" = none) : FnOk P w K mg base CX0 3 f fd ["_law_deck_here", "_law_program_here"] (spMore K) := by
  refine F.ok scWithMore (fun vs H Q E h => ?_) (fun cdv A outer s H vs Q E hr h => ?_)
  · obtain ⟨_, _, _, _, _, _, rfl, _⟩ := h
    rfl
  · obtain ⟨a, c, cs, k, v, l, rfl, DK, t, hl, hk, q⟩ := h
    refine ⟨_, (pss_cons (ps_set (i := 2) scWithMore.nd rfl (by first | exact Or.inl rfl | exact Or.inr rfl) (pe_call G_draw (hr.mono (by omega)) (by rfl) m_draw F_draw.kp b_draw .nil pass0 (pa_cons (pv 0) (pa_cons (pe_op op_add (pe_callB call_len_seq (by rfl) z_len boot_len (pa_cons (pv 1) pa_nil)) pe_int) pa_nil))))
      (pss_cons (ps_set (i := 3) scWithMore.nd rfl (by first | exact Or.inl rfl | exact Or.inr rfl) (pe_lst (pa_cons (pe_tup (pa_cons pe_str (pa_cons pe_str (pa_cons pe_str pa_nil)))) (pa_cons (pe_tup (pa_cons pe_str (pa_cons pe_int (pa_cons (pe_tup pa_nil) pa_nil)))) (pa_cons (pe_tup (pa_cons pe_str (pa_cons pe_int (pa_cons (pe_tup (pa_cons (pe_tup (pa_cons pe_str (pa_cons pe_str (pa_cons pe_int pa_nil)))) pa_nil)) pa_nil)))) (pa_cons (pe_tup (pa_cons pe_str (pa_cons pe_int pa_nil))) pa_nil))))))
      (pss_cons (ps_set (i := 3) scWithMore.nd rfl (by first | exact Or.inl rfl | exact Or.inr rfl) (pe_op op_cat (pv 3) (pe_lst (pa_cons (pe_tup (pa_cons pe_str (pa_cons pe_str pa_nil))) (pa_cons (pe_tup (pa_cons pe_str (pa_cons (pe_tup (pa_cons pe_str (pa_cons pe_int (pa_cons pe_int pa_nil)))) (pa_cons (pe_tup (pa_cons (pe_tup (pa_cons pe_str pa_nil)) pa_nil)) (pa_cons (pe_tup pa_nil) pa_nil))))) pa_nil)))))
      (pss_cons (ps_set (i := 3) scWithMore.nd rfl (by first | exact Or.inl rfl | exact Or.inr rfl) (pe_op op_cat (pv 3) (pe_lst (pa_cons (pe_tup (pa_cons pe_str (pa_cons (pe_tup (pa_cons pe_str (pa_cons (pe_tup (pa_cons pe_str (pa_cons pe_int (pa_cons pe_int (pa_cons pe_int pa_nil))))) pa_nil))) (pa_cons (pe_tup pa_nil) (pa_cons (pe_tup (pa_cons (pe_tup (pa_cons pe_str (pa_cons pe_int pa_nil))) pa_nil)) pa_nil))))) pa_nil))))
      (pss_one (ps_ret (pe_op op_catA (pe_op op_catA (pe_op op_catA (pe_op op_repA (pe_tup (pa_cons (pe_tup (pa_cons pe_str (pa_cons pe_str (pa_cons pe_str pa_nil)))) pa_nil)) (pe_call G_draw (hr.mono (by omega)) (by rfl) m_draw F_draw.kp b_draw .nil pass0 (pa_cons (pv 0) (pa_cons pe_int pa_nil)))) (pe_slice sl_tupA (pv 1) po_none (po_some (pv 2)))) (pe_tup (pa_cons (pe_call G_one (hr.mono (by omega)) (by rfl) m_one F_one.kp b_one .nil pass0 (pa_cons (pv 0) (pa_cons (pv 3) pa_nil))) pa_nil))) (pe_slice sl_tupA (pv 1) (po_some (pv 2)) po_none)))))))), ?_⟩
    obtain ⟨ap, xs, rfl, hap, hxs⟩ := id t.tuple
    have xl := hxs.len
    rw [List.length_map] at xl
    have hrl : ∀ n : Nat, ((List.replicate n [PyData.tuple [.str "set", .str "n", .str "n"]]).flatten).length = n := fun n => by
      induction n with
      | zero => rfl
      | succ n ih => rw [List.replicate_succ, List.flatten_cons, List.length_append, ih]; show 1 + n = n + 1; omega
    have hrd : ∀ n : Nat, (List.replicate n setN).map St.d = (List.replicate n [PyData.tuple [.str "set", .str "n", .str "n"]]).flatten := fun n => by
      induction n with
      | zero => rfl
      | succ n ih => rw [List.replicate_succ, List.replicate_succ, List.flatten_cons, List.map_cons, ih]; rfl
    refine ⟨_, rfl, _, rfl, ap, xs, rfl, .inr (SqT.of hap), _, 1, rfl, rfl, a, c, cs, k, _, rfl, DK, by omega, by omega, by omega, fun H1 cs1 r s D1 r0 r1 => ?_⟩
    have t := t.keep (DK.tk s)
    clear DK hap hxs
    have DK := D1
    clear D1
    obtain ⟨i, rfl⟩ := Int.eq_ofNat_of_zero_le r0
    refine ⟨by show 3 ≤ sizeLine; decide, fun p1 hp1 => ?_⟩
    have np1 := Sx.n0 (o := .tup [.str "set", .str "spare1", .str "n"]) hp1
    have DK := DK.same np1
    have t := t.keep np1.tk0
    have s := s.trans np1.nil
    have Tp1 : Tp (upd H1 p1 (.tup [.str "set", .str "spare1", .str "n"])) (.ref p1) (.tuple [.str "set", .str "spare1", .str "n"]) := .tup upd_same (.cons (.str _) (.cons (.str _) (.cons (.str _) .nil)))
    clear np1
    generalize upd H1 p1 (.tup [.str "set", .str "spare1", .str "n"]) = H11 at DK t s Tp1 ⊢
    refine ⟨by show 0 ≤ sizeLine; decide, fun p2 hp2 => ?_⟩
    have np2 := Sx.n0 (o := .tup []) hp2
    have DK := DK.same np2
    have t := t.keep np2.tk0
    have s := s.trans np2.nil
    have Tp1 := Tp1.keep np2.tk0
    have Tp2 : Tp (upd H11 p2 (.tup [])) (.ref p2) (.tuple []) := .tup upd_same (.nil)
    clear np2
    generalize upd H11 p2 (.tup []) = H12 at DK t s Tp1 Tp2 ⊢
    refine ⟨by show 3 ≤ sizeLine; decide, fun p3 hp3 => ?_⟩
    have np3 := Sx.n0 (o := .tup [.str "repeat", .int 3, .ref p2]) hp3
    have DK := DK.same np3
    have t := t.keep np3.tk0
    have s := s.trans np3.nil
    have Tp1 := Tp1.keep np3.tk0
    have Tp2 := Tp2.keep np3.tk0
    have Tp3 : Tp (upd H12 p3 (.tup [.str "repeat", .int 3, .ref p2])) (.ref p3) (.tuple [.str "repeat", .int 3, .tuple []]) := .tup upd_same (.cons (.str _) (.cons (.int _) (.cons Tp2 .nil)))
    clear Tp2
    clear np3
    generalize upd H12 p3 (.tup [.str "repeat", .int 3, .ref p2]) = H13 at DK t s Tp1 Tp3 ⊢
    refine ⟨by show 3 ≤ sizeLine; decide, fun p4 hp4 => ?_⟩
    have np4 := Sx.n0 (o := .tup [.str "set", .str "spare1", .int 1]) hp4
    have DK := DK.same np4
    have t := t.keep np4.tk0
    have s := s.trans np4.nil
    have Tp1 := Tp1.keep np4.tk0
    have Tp3 := Tp3.keep np4.tk0
    have Tp4 : Tp (upd H13 p4 (.tup [.str "set", .str "spare1", .int 1])) (.ref p4) (.tuple [.str "set", .str "spare1", .int 1]) := .tup upd_same (.cons (.str _) (.cons (.str _) (.cons (.int _) .nil)))
    clear np4
    generalize upd H13 p4 (.tup [.str "set", .str "spare1", .int 1]) = H14 at DK t s Tp1 Tp3 Tp4 ⊢
    refine ⟨by show 1 ≤ sizeLine; decide, fun p5 hp5 => ?_⟩
    have np5 := Sx.n0 (o := .tup [.ref p4]) hp5
    have DK := DK.same np5
    have t := t.keep np5.tk0
    have s := s.trans np5.nil
    have Tp1 := Tp1.keep np5.tk0
    have Tp3 := Tp3.keep np5.tk0
    have Tp4 := Tp4.keep np5.tk0
    have Tp5 : Tp (upd H14 p5 (.tup [.ref p4])) (.ref p5) (.tuple [.tuple [.str "set", .str "spare1", .int 1]]) := .tup upd_same (.cons Tp4 .nil)
    clear Tp4
    clear np5
    generalize upd H14 p5 (.tup [.ref p4]) = H15 at DK t s Tp1 Tp3 Tp5 ⊢
    refine ⟨by show 3 ≤ sizeLine; decide, fun p6 hp6 => ?_⟩
    have np6 := Sx.n0 (o := .tup [.str "repeat", .int 1, .ref p5]) hp6
    have DK := DK.same np6
    have t := t.keep np6.tk0
    have s := s.trans np6.nil
    have Tp1 := Tp1.keep np6.tk0
    have Tp3 := Tp3.keep np6.tk0
    have Tp5 := Tp5.keep np6.tk0
    have Tp6 : Tp (upd H15 p6 (.tup [.str "repeat", .int 1, .ref p5])) (.ref p6) (.tuple [.str "repeat", .int 1, .tuple [.tuple [.str "set", .str "spare1", .int 1]]]) := .tup upd_same (.cons (.str _) (.cons (.int _) (.cons Tp5 .nil)))
    clear Tp5
    clear np6
    generalize upd H15 p6 (.tup [.str "repeat", .int 1, .ref p5]) = H16 at DK t s Tp1 Tp3 Tp6 ⊢
    refine ⟨by show 2 ≤ sizeLine; decide, fun p7 hp7 => ?_⟩
    have np7 := Sx.n0 (o := .tup [.str "pay", .int 0]) hp7
    have DK := DK.same np7
    have t := t.keep np7.tk0
    have s := s.trans np7.nil
    have Tp1 := Tp1.keep np7.tk0
    have Tp3 := Tp3.keep np7.tk0
    have Tp6 := Tp6.keep np7.tk0
    have Tp7 : Tp (upd H16 p7 (.tup [.str "pay", .int 0])) (.ref p7) (.tuple [.str "pay", .int 0]) := .tup upd_same (.cons (.str _) (.cons (.int _) .nil))
    clear np7
    generalize upd H16 p7 (.tup [.str "pay", .int 0]) = H17 at DK t s Tp1 Tp3 Tp6 Tp7 ⊢
    refine ⟨by show 4 ≤ sizeLine; decide, fun L1 hL1 => ?_⟩
    have nL1 := Sx.n0 (o := .lst [.ref p1, .ref p3, .ref p6, .ref p7]) hL1
    have DK := DK.same nL1
    have t := t.keep nL1.tk0
    have s := s.trans nL1.nil
    have Tp1 := Tp1.keep nL1.tk0
    have Tp3 := Tp3.keep nL1.tk0
    have Tp6 := Tp6.keep nL1.tk0
    have Tp7 := Tp7.keep nL1.tk0
    have EL1 : (upd H17 L1 (.lst [.ref p1, .ref p3, .ref p6, .ref p7])) L1 = some (.lst [.ref p1, .ref p3, .ref p6, .ref p7]) := upd_same
    clear nL1
    generalize upd H17 L1 (.lst [.ref p1, .ref p3, .ref p6, .ref p7]) = H18 at DK t s Tp1 Tp3 Tp6 Tp7 EL1 ⊢
    refine gnm ?_
    refine ⟨_, rfl, ?_⟩
    refine ⟨by show 2 ≤ sizeLine; decide, fun p9 hp9 => ?_⟩
    have np9 := Sx.n0 (o := .tup [.str "pay", .str "spare1"]) hp9
    have DK := DK.same np9
    have t := t.keep np9.tk0
    have s := s.trans np9.nil
    have Tp1 := Tp1.keep np9.tk0
    have Tp3 := Tp3.keep np9.tk0
    have Tp6 := Tp6.keep np9.tk0
    have Tp7 := Tp7.keep np9.tk0
    have EL1 := np9 _ _ (by simp) EL1
    have Tp9 : Tp (upd H18 p9 (.tup [.str "pay", .str "spare1"])) (.ref p9) (.tuple [.str "pay", .str "spare1"]) := .tup upd_same (.cons (.str _) (.cons (.str _) .nil))
    clear np9
    generalize upd H18 p9 (.tup [.str "pay", .str "spare1"]) = H19 at DK t s Tp1 Tp3 Tp6 Tp7 EL1 Tp9 ⊢
    refine ⟨by show 3 ≤ sizeLine; decide, fun p10 hp10 => ?_⟩
    have np10 := Sx.n0 (o := .tup [.str "less", .int 1, .int 0]) hp10
    have DK := DK.same np10
    have t := t.keep np10.tk0
    have s := s.trans np10.nil
    have Tp1 := Tp1.keep np10.tk0
    have Tp3 := Tp3.keep np10.tk0
    have Tp6 := Tp6.keep np10.tk0
    have Tp7 := Tp7.keep np10.tk0
    have EL1 := np10 _ _ (by simp) EL1
    have Tp9 := Tp9.keep np10.tk0
    have Tp10 : Tp (upd H19 p10 (.tup [.str "less", .int 1, .int 0])) (.ref p10) (.tuple [.str "less", .int 1, .int 0]) := .tup upd_same (.cons (.str _) (.cons (.int _) (.cons (.int _) .nil)))
    clear np10
    generalize upd H19 p10 (.tup [.str "less", .int 1, .int 0]) = H20 at DK t s Tp1 Tp3 Tp6 Tp7 EL1 Tp9 Tp10 ⊢
    refine ⟨by show 1 ≤ sizeLine; decide, fun p11 hp11 => ?_⟩
    have np11 := Sx.n0 (o := .tup [.str "stop"]) hp11
    have DK := DK.same np11
    have t := t.keep np11.tk0
    have s := s.trans np11.nil
    have Tp1 := Tp1.keep np11.tk0
    have Tp3 := Tp3.keep np11.tk0
    have Tp6 := Tp6.keep np11.tk0
    have Tp7 := Tp7.keep np11.tk0
    have EL1 := np11 _ _ (by simp) EL1
    have Tp9 := Tp9.keep np11.tk0
    have Tp10 := Tp10.keep np11.tk0
    have Tp11 : Tp (upd H20 p11 (.tup [.str "stop"])) (.ref p11) (.tuple [.str "stop"]) := .tup upd_same (.cons (.str _) .nil)
    clear np11
    generalize upd H20 p11 (.tup [.str "stop"]) = H21 at DK t s Tp1 Tp3 Tp6 Tp7 EL1 Tp9 Tp10 Tp11 ⊢
    refine ⟨by show 1 ≤ sizeLine; decide, fun p12 hp12 => ?_⟩
    have np12 := Sx.n0 (o := .tup [.ref p11]) hp12
    have DK := DK.same np12
    have t := t.keep np12.tk0
    have s := s.trans np12.nil
    have Tp1 := Tp1.keep np12.tk0
    have Tp3 := Tp3.keep np12.tk0
    have Tp6 := Tp6.keep np12.tk0
    have Tp7 := Tp7.keep np12.tk0
    have EL1 := np12 _ _ (by simp) EL1
    have Tp9 := Tp9.keep np12.tk0
    have Tp10 := Tp10.keep np12.tk0
    have Tp11 := Tp11.keep np12.tk0
    have Tp12 : Tp (upd H21 p12 (.tup [.ref p11])) (.ref p12) (.tuple [.tuple [.str "stop"]]) := .tup upd_same (.cons Tp11 .nil)
    clear Tp11
    clear np12
    generalize upd H21 p12 (.tup [.ref p11]) = H22 at DK t s Tp1 Tp3 Tp6 Tp7 EL1 Tp9 Tp10 Tp12 ⊢
    refine ⟨by show 0 ≤ sizeLine; decide, fun p13 hp13 => ?_⟩
    have np13 := Sx.n0 (o := .tup []) hp13
    have DK := DK.same np13
    have t := t.keep np13.tk0
    have s := s.trans np13.nil
    have Tp1 := Tp1.keep np13.tk0
    have Tp3 := Tp3.keep np13.tk0
    have Tp6 := Tp6.keep np13.tk0
    have Tp7 := Tp7.keep np13.tk0
    have EL1 := np13 _ _ (by simp) EL1
    have Tp9 := Tp9.keep np13.tk0
    have Tp10 := Tp10.keep np13.tk0
    have Tp12 := Tp12.keep np13.tk0
    have Tp13 : Tp (upd H22 p13 (.tup [])) (.ref p13) (.tuple []) := .tup upd_same (.nil)
    clear np13
    generalize upd H22 p13 (.tup []) = H23 at DK t s Tp1 Tp3 Tp6 Tp7 EL1 Tp9 Tp10 Tp12 Tp13 ⊢
    refine ⟨by show 4 ≤ sizeLine; decide, fun p14 hp14 => ?_⟩
    have np14 := Sx.n0 (o := .tup [.str "if", .ref p10, .ref p12, .ref p13]) hp14
    have DK := DK.same np14
    have t := t.keep np14.tk0
    have s := s.trans np14.nil
    have Tp1 := Tp1.keep np14.tk0
    have Tp3 := Tp3.keep np14.tk0
    have Tp6 := Tp6.keep np14.tk0
    have Tp7 := Tp7.keep np14.tk0
    have EL1 := np14 _ _ (by simp) EL1
    have Tp9 := Tp9.keep np14.tk0
    have Tp10 := Tp10.keep np14.tk0
    have Tp12 := Tp12.keep np14.tk0
    have Tp13 := Tp13.keep np14.tk0
    have Tp14 : Tp (upd H23 p14 (.tup [.str "if", .ref p10, .ref p12, .ref p13])) (.ref p14) (.tuple [.str "if", .tuple [.str "less", .int 1, .int 0], .tuple [.tuple [.str "stop"]], .tuple []]) := .tup upd_same (.cons (.str _) (.cons Tp10 (.cons Tp12 (.cons Tp13 .nil))))
    clear Tp10 Tp12 Tp13
    clear np14
    generalize upd H23 p14 (.tup [.str "if", .ref p10, .ref p12, .ref p13]) = H24 at DK t s Tp1 Tp3 Tp6 Tp7 EL1 Tp9 Tp14 ⊢
    refine ⟨by show 2 ≤ sizeLine; decide, fun L2 hL2 => ?_⟩
    have nL2 := Sx.n0 (o := .lst [.ref p9, .ref p14]) hL2
    have DK := DK.same nL2
    have t := t.keep nL2.tk0
    have s := s.trans nL2.nil
    have Tp1 := Tp1.keep nL2.tk0
    have Tp3 := Tp3.keep nL2.tk0
    have Tp6 := Tp6.keep nL2.tk0
    have Tp7 := Tp7.keep nL2.tk0
    have EL1 := nL2 _ _ (by simp) EL1
    have Tp9 := Tp9.keep nL2.tk0
    have Tp14 := Tp14.keep nL2.tk0
    have EL2 : (upd H24 L2 (.lst [.ref p9, .ref p14])) L2 = some (.lst [.ref p9, .ref p14]) := upd_same
    clear nL2
    generalize upd H24 L2 (.lst [.ref p9, .ref p14]) = H25 at DK t s Tp1 Tp3 Tp6 Tp7 EL1 Tp9 Tp14 EL2 ⊢
    refine ⟨L1, L2, _, _, rfl, rfl, EL1, EL2, by show 6 ≤ sizeLine; decide, fun L3 hL3 => ?_⟩
    clear EL1 EL2
    have nL3 := Sx.n0 (o := .lst ([.ref p1, .ref p3, .ref p6, .ref p7] ++ [.ref p9, .ref p14])) hL3
    have DK := DK.same nL3
    have t := t.keep nL3.tk0
    have s := s.trans nL3.nil
    have Tp1 := Tp1.keep nL3.tk0
    have Tp3 := Tp3.keep nL3.tk0
    have Tp6 := Tp6.keep nL3.tk0
    have Tp7 := Tp7.keep nL3.tk0
    have Tp9 := Tp9.keep nL3.tk0
    have Tp14 := Tp14.keep nL3.tk0
    have EL3 : (upd H25 L3 (.lst ([.ref p1, .ref p3, .ref p6, .ref p7] ++ [.ref p9, .ref p14]))) L3 = some (.lst ([.ref p1, .ref p3, .ref p6, .ref p7] ++ [.ref p9, .ref p14])) := upd_same
    clear nL3
    generalize upd H25 L3 (.lst ([.ref p1, .ref p3, .ref p6, .ref p7] ++ [.ref p9, .ref p14])) = H26 at DK t s Tp1 Tp3 Tp6 Tp7 Tp9 Tp14 EL3 ⊢
    refine gnm ?_
    refine ⟨_, rfl, ?_⟩
    refine ⟨by show 4 ≤ sizeLine; decide, fun p17 hp17 => ?_⟩
    have np17 := Sx.n0 (o := .tup [.str "rest", .int 1, .int 2, .int 0]) hp17
    have DK := DK.same np17
    have t := t.keep np17.tk0
    have s := s.trans np17.nil
    have Tp1 := Tp1.keep np17.tk0
    have Tp3 := Tp3.keep np17.tk0
    have Tp6 := Tp6.keep np17.tk0
    have Tp7 := Tp7.keep np17.tk0
    have Tp9 := Tp9.keep np17.tk0
    have Tp14 := Tp14.keep np17.tk0
    have EL3 := np17 _ _ (by simp) EL3
    have Tp17 : Tp (upd H26 p17 (.tup [.str "rest", .int 1, .int 2, .int 0])) (.ref p17) (.tuple [.str "rest", .int 1, .int 2, .int 0]) := .tup upd_same (.cons (.str _) (.cons (.int _) (.cons (.int _) (.cons (.int _) .nil))))
    clear np17
    generalize upd H26 p17 (.tup [.str "rest", .int 1, .int 2, .int 0]) = H27 at DK t s Tp1 Tp3 Tp6 Tp7 Tp9 Tp14 EL3 Tp17 ⊢
    refine ⟨by show 2 ≤ sizeLine; decide, fun p18 hp18 => ?_⟩
    have np18 := Sx.n0 (o := .tup [.str "not", .ref p17]) hp18
    have DK := DK.same np18
    have t := t.keep np18.tk0
    have s := s.trans np18.nil
    have Tp1 := Tp1.keep np18.tk0
    have Tp3 := Tp3.keep np18.tk0
    have Tp6 := Tp6.keep np18.tk0
    have Tp7 := Tp7.keep np18.tk0
    have Tp9 := Tp9.keep np18.tk0
    have Tp14 := Tp14.keep np18.tk0
    have EL3 := np18 _ _ (by simp) EL3
    have Tp17 := Tp17.keep np18.tk0
    have Tp18 : Tp (upd H27 p18 (.tup [.str "not", .ref p17])) (.ref p18) (.tuple [.str "not", .tuple [.str "rest", .int 1, .int 2, .int 0]]) := .tup upd_same (.cons (.str _) (.cons Tp17 .nil))
    clear Tp17
    clear np18
    generalize upd H27 p18 (.tup [.str "not", .ref p17]) = H28 at DK t s Tp1 Tp3 Tp6 Tp7 Tp9 Tp14 EL3 Tp18 ⊢
    refine ⟨by show 0 ≤ sizeLine; decide, fun p19 hp19 => ?_⟩
    have np19 := Sx.n0 (o := .tup []) hp19
    have DK := DK.same np19
    have t := t.keep np19.tk0
    have s := s.trans np19.nil
    have Tp1 := Tp1.keep np19.tk0
    have Tp3 := Tp3.keep np19.tk0
    have Tp6 := Tp6.keep np19.tk0
    have Tp7 := Tp7.keep np19.tk0
    have Tp9 := Tp9.keep np19.tk0
    have Tp14 := Tp14.keep np19.tk0
    have EL3 := np19 _ _ (by simp) EL3
    have Tp18 := Tp18.keep np19.tk0
    have Tp19 : Tp (upd H28 p19 (.tup [])) (.ref p19) (.tuple []) := .tup upd_same (.nil)
    clear np19
    generalize upd H28 p19 (.tup []) = H29 at DK t s Tp1 Tp3 Tp6 Tp7 Tp9 Tp14 EL3 Tp18 Tp19 ⊢
    refine ⟨by show 2 ≤ sizeLine; decide, fun p20 hp20 => ?_⟩
    have np20 := Sx.n0 (o := .tup [.str "pay", .int 1]) hp20
    have DK := DK.same np20
    have t := t.keep np20.tk0
    have s := s.trans np20.nil
    have Tp1 := Tp1.keep np20.tk0
    have Tp3 := Tp3.keep np20.tk0
    have Tp6 := Tp6.keep np20.tk0
    have Tp7 := Tp7.keep np20.tk0
    have Tp9 := Tp9.keep np20.tk0
    have Tp14 := Tp14.keep np20.tk0
    have EL3 := np20 _ _ (by simp) EL3
    have Tp18 := Tp18.keep np20.tk0
    have Tp19 := Tp19.keep np20.tk0
    have Tp20 : Tp (upd H29 p20 (.tup [.str "pay", .int 1])) (.ref p20) (.tuple [.str "pay", .int 1]) := .tup upd_same (.cons (.str _) (.cons (.int _) .nil))
    clear np20
    generalize upd H29 p20 (.tup [.str "pay", .int 1]) = H30 at DK t s Tp1 Tp3 Tp6 Tp7 Tp9 Tp14 EL3 Tp18 Tp19 Tp20 ⊢
    refine ⟨by show 1 ≤ sizeLine; decide, fun p21 hp21 => ?_⟩
    have np21 := Sx.n0 (o := .tup [.ref p20]) hp21
    have DK := DK.same np21
    have t := t.keep np21.tk0
    have s := s.trans np21.nil
    have Tp1 := Tp1.keep np21.tk0
    have Tp3 := Tp3.keep np21.tk0
    have Tp6 := Tp6.keep np21.tk0
    have Tp7 := Tp7.keep np21.tk0
    have Tp9 := Tp9.keep np21.tk0
    have Tp14 := Tp14.keep np21.tk0
    have EL3 := np21 _ _ (by simp) EL3
    have Tp18 := Tp18.keep np21.tk0
    have Tp19 := Tp19.keep np21.tk0
    have Tp20 := Tp20.keep np21.tk0
    have Tp21 : Tp (upd H30 p21 (.tup [.ref p20])) (.ref p21) (.tuple [.tuple [.str "pay", .int 1]]) := .tup upd_same (.cons Tp20 .nil)
    clear Tp20
    clear np21
    generalize upd H30 p21 (.tup [.ref p20]) = H31 at DK t s Tp1 Tp3 Tp6 Tp7 Tp9 Tp14 EL3 Tp18 Tp19 Tp21 ⊢
    refine ⟨by show 4 ≤ sizeLine; decide, fun p22 hp22 => ?_⟩
    have np22 := Sx.n0 (o := .tup [.str "if", .ref p18, .ref p19, .ref p21]) hp22
    have DK := DK.same np22
    have t := t.keep np22.tk0
    have s := s.trans np22.nil
    have Tp1 := Tp1.keep np22.tk0
    have Tp3 := Tp3.keep np22.tk0
    have Tp6 := Tp6.keep np22.tk0
    have Tp7 := Tp7.keep np22.tk0
    have Tp9 := Tp9.keep np22.tk0
    have Tp14 := Tp14.keep np22.tk0
    have EL3 := np22 _ _ (by simp) EL3
    have Tp18 := Tp18.keep np22.tk0
    have Tp19 := Tp19.keep np22.tk0
    have Tp21 := Tp21.keep np22.tk0
    have Tp22 : Tp (upd H31 p22 (.tup [.str "if", .ref p18, .ref p19, .ref p21])) (.ref p22) (.tuple [.str "if", .tuple [.str "not", .tuple [.str "rest", .int 1, .int 2, .int 0]], .tuple [], .tuple [.tuple [.str "pay", .int 1]]]) := .tup upd_same (.cons (.str _) (.cons Tp18 (.cons Tp19 (.cons Tp21 .nil))))
    clear Tp18 Tp19 Tp21
    clear np22
    generalize upd H31 p22 (.tup [.str "if", .ref p18, .ref p19, .ref p21]) = H32 at DK t s Tp1 Tp3 Tp6 Tp7 Tp9 Tp14 EL3 Tp22 ⊢
    refine ⟨by show 1 ≤ sizeLine; decide, fun L4 hL4 => ?_⟩
    have nL4 := Sx.n0 (o := .lst [.ref p22]) hL4
    have DK := DK.same nL4
    have t := t.keep nL4.tk0
    have s := s.trans nL4.nil
    have Tp1 := Tp1.keep nL4.tk0
    have Tp3 := Tp3.keep nL4.tk0
    have Tp6 := Tp6.keep nL4.tk0
    have Tp7 := Tp7.keep nL4.tk0
    have Tp9 := Tp9.keep nL4.tk0
    have Tp14 := Tp14.keep nL4.tk0
    have EL3 := nL4 _ _ (by simp) EL3
    have Tp22 := Tp22.keep nL4.tk0
    have EL4 : (upd H32 L4 (.lst [.ref p22])) L4 = some (.lst [.ref p22]) := upd_same
    clear nL4
    generalize upd H32 L4 (.lst [.ref p22]) = H33 at DK t s Tp1 Tp3 Tp6 Tp7 Tp9 Tp14 EL3 Tp22 EL4 ⊢
    refine ⟨L3, L4, _, _, rfl, rfl, EL3, EL4, by show 7 ≤ sizeLine; decide, fun L5 hL5 => ?_⟩
    clear EL3 EL4
    have nL5 := Sx.n0 (o := .lst (([.ref p1, .ref p3, .ref p6, .ref p7] ++ [.ref p9, .ref p14]) ++ [.ref p22])) hL5
    have DK := DK.same nL5
    have t := t.keep nL5.tk0
    have s := s.trans nL5.nil
    have Tp1 := Tp1.keep nL5.tk0
    have Tp3 := Tp3.keep nL5.tk0
    have Tp6 := Tp6.keep nL5.tk0
    have Tp7 := Tp7.keep nL5.tk0
    have Tp9 := Tp9.keep nL5.tk0
    have Tp14 := Tp14.keep nL5.tk0
    have Tp22 := Tp22.keep nL5.tk0
    have EL5 : (upd H33 L5 (.lst (([.ref p1, .ref p3, .ref p6, .ref p7] ++ [.ref p9, .ref p14]) ++ [.ref p22]))) L5 = some (.lst (([.ref p1, .ref p3, .ref p6, .ref p7] ++ [.ref p9, .ref p14]) ++ [.ref p22])) := upd_same
    clear nL5
    generalize upd H33 L5 (.lst (([.ref p1, .ref p3, .ref p6, .ref p7] ++ [.ref p9, .ref p14]) ++ [.ref p22])) = H34 at DK t s Tp1 Tp3 Tp6 Tp7 Tp9 Tp14 Tp22 EL5 ⊢
    refine gnm ?_
    refine ⟨by show 3 ≤ sizeLine; decide, fun p25 hp25 => ?_⟩
    have np25 := Sx.n0 (o := .tup [.str "set", .str "n", .str "n"]) hp25
    have DK := DK.same np25
    have t := t.keep np25.tk0
    have s := s.trans np25.nil
    have Tp1 := Tp1.keep np25.tk0
    have Tp3 := Tp3.keep np25.tk0
    have Tp6 := Tp6.keep np25.tk0
    have Tp7 := Tp7.keep np25.tk0
    have Tp9 := Tp9.keep np25.tk0
    have Tp14 := Tp14.keep np25.tk0
    have Tp22 := Tp22.keep np25.tk0
    have EL5 := np25 _ _ (by simp) EL5
    have Tp25 : Tp (upd H34 p25 (.tup [.str "set", .str "n", .str "n"])) (.ref p25) (.tuple [.str "set", .str "n", .str "n"]) := .tup upd_same (.cons (.str _) (.cons (.str _) (.cons (.str _) .nil)))
    clear np25
    generalize upd H34 p25 (.tup [.str "set", .str "n", .str "n"]) = H35 at DK t s Tp1 Tp3 Tp6 Tp7 Tp9 Tp14 Tp22 EL5 Tp25 ⊢
    refine ⟨by show 1 ≤ sizeLine; decide, fun p26 hp26 => ?_⟩
    have np26 := Sx.n0 (o := .tup [.ref p25]) hp26
    have DK := DK.same np26
    have t := t.keep np26.tk0
    have s := s.trans np26.nil
    have Tp1 := Tp1.keep np26.tk0
    have Tp3 := Tp3.keep np26.tk0
    have Tp6 := Tp6.keep np26.tk0
    have Tp7 := Tp7.keep np26.tk0
    have Tp9 := Tp9.keep np26.tk0
    have Tp14 := Tp14.keep np26.tk0
    have Tp22 := Tp22.keep np26.tk0
    have EL5 := np26 _ _ (by simp) EL5
    have Tp25 := Tp25.keep np26.tk0
    have Tp26 : Tp (upd H35 p26 (.tup [.ref p25])) (.ref p26) (.tuple [.tuple [.str "set", .str "n", .str "n"]]) := .tup upd_same (.cons Tp25 .nil)
    clear Tp25
    clear np26
    generalize upd H35 p26 (.tup [.ref p25]) = H36 at DK t s Tp1 Tp3 Tp6 Tp7 Tp9 Tp14 Tp22 EL5 Tp26 ⊢
    refine ⟨_, rfl, a, c, cs1, k + 1, 2, rfl, DK, by decide, by decide, by omega, fun Hq cs2 r2 s2 D2 r20 r21 => ?_⟩
    have t := t.keep (DK.tk s2)
    have Tp1 := Tp1.keep (DK.tk s2)
    have Tp3 := Tp3.keep (DK.tk s2)
    have Tp6 := Tp6.keep (DK.tk s2)
    have Tp7 := Tp7.keep (DK.tk s2)
    have Tp9 := Tp9.keep (DK.tk s2)
    have Tp14 := Tp14.keep (DK.tk s2)
    have Tp22 := Tp22.keep (DK.tk s2)
    have Tp26 := Tp26.keep (DK.tk s2)
    have L5n : L5 ∉ [a, c] := fun hm => by
      rcases List.mem_cons.1 hm with e | hm
      · rw [e, DK.ha] at EL5; cases EL5
      · rw [List.mem_singleton.mp hm, DK.hc] at EL5; exact ne_nums EL5
    have EL5 := s2 _ _ L5n EL5
    have s := s.trans s2
    clear DK s2
    have DK := D2
    clear D2
    refine rep_any Tp26 (by show 1 ≤ 1000; decide) (by omega) (by omega) (fun Hr z1 s3 t1 => ?_)
    have DK := DK.same s3
    have s := s.trans s3.nil
    have t := t.keep s3.tk0
    have Tp1 := Tp1.keep s3.tk0
    have Tp3 := Tp3.keep s3.tk0
    have Tp6 := Tp6.keep s3.tk0
    have Tp7 := Tp7.keep s3.tk0
    have Tp9 := Tp9.keep s3.tk0
    have Tp14 := Tp14.keep s3.tk0
    have Tp22 := Tp22.keep s3.tk0
    have EL5 := s3 _ _ (by simp) EL5
    refine ⟨_, rfl, _, rfl, _, rfl, cut_to t (fun Hs z2 s4 t2 => ?_)⟩
    have DK := DK.same s4
    have s := s.trans s4.nil
    have t := t.keep s4.tk0
    have t1 := t1.keep s4.tk0
    have Tp1 := Tp1.keep s4.tk0
    have Tp3 := Tp3.keep s4.tk0
    have Tp6 := Tp6.keep s4.tk0
    have Tp7 := Tp7.keep s4.tk0
    have Tp9 := Tp9.keep s4.tk0
    have Tp14 := Tp14.keep s4.tk0
    have Tp22 := Tp22.keep s4.tk0
    have EL5 := s4 _ _ (by simp) EL5
    refine cat_tp t1 t2 (by rw [hrl]; rw [List.length_map]; have := List.length_take_le' i l; omega) (fun Ht z3 s5 _ t3 => ?_)
    have DK := DK.same s5
    have s := s.trans s5.nil
    have t := t.keep s5.tk0
    have Tp1 := Tp1.keep s5.tk0
    have Tp3 := Tp3.keep s5.tk0
    have Tp6 := Tp6.keep s5.tk0
    have Tp7 := Tp7.keep s5.tk0
    have Tp9 := Tp9.keep s5.tk0
    have Tp14 := Tp14.keep s5.tk0
    have Tp22 := Tp22.keep s5.tk0
    have EL5 := s5 _ _ (by simp) EL5
    refine ⟨_, rfl, _, rfl, a, c, cs2, _, _, rfl, DK, by omega, .inl ⟨L5, _, rfl, SqL.of EL5, by simp, by show 7 ≤ 100000; decide, fun e => L5n (by simp [e]), fun e => L5n (by simp [e]), fun Hu cs3 x s6 D3 hx => ?_⟩⟩
    have hx : ∃ st ∈ moreL, Tp Ht x st.d := by
      simp only [List.cons_append, List.nil_append, List.mem_cons, List.not_mem_nil, or_false] at hx
      rcases hx with rfl | rfl | rfl | rfl | rfl | rfl | rfl
      · exact ⟨_, List.mem_cons_self .., Tp1⟩
      · exact ⟨_, List.mem_cons_of_mem _ (List.mem_cons_self ..), Tp3⟩
      · exact ⟨_, List.mem_cons_of_mem _ (List.mem_cons_of_mem _ (List.mem_cons_self ..)), Tp6⟩
      · exact ⟨_, List.mem_cons_of_mem _ (List.mem_cons_of_mem _ (List.mem_cons_of_mem _ (List.mem_cons_self ..))), Tp7⟩
      · exact ⟨_, List.mem_cons_of_mem _ (List.mem_cons_of_mem _ (List.mem_cons_of_mem _ (List.mem_cons_of_mem _ (List.mem_cons_self ..)))), Tp9⟩
      · exact ⟨_, List.mem_cons_of_mem _ (List.mem_cons_of_mem _ (List.mem_cons_of_mem _ (List.mem_cons_of_mem _ (List.mem_cons_of_mem _ (List.mem_cons_self ..))))), Tp14⟩
      · exact ⟨_, List.mem_cons_of_mem _ (List.mem_cons_of_mem _ (List.mem_cons_of_mem _ (List.mem_cons_of_mem _ (List.mem_cons_of_mem _ (List.mem_cons_of_mem _ (List.mem_cons_self ..)))))), Tp22⟩
    obtain ⟨st, hst, tx⟩ := hx
    have tx := tx.keep (DK.tk s6)
    have t3 := t3.keep (DK.tk s6)
    have t := t.keep (DK.tk s6)
    have s := s.trans s6
    refine ⟨by show 1 ≤ sizeLine; decide, fun pz hpz => ?_⟩
    have t4 : Tp (upd Hu pz (.tup [x])) (.ref pz) (stD [st]) := .tup upd_same (.cons (tx.new hpz) .nil)
    refine cat_tp (t3.new hpz) t4 (by rw [List.length_append, hrl]; rw [List.length_map]; have := List.length_take_le' i l; show _ + 1 ≤ _; omega) (fun Hv z5 s7 _ t5 => ?_)
    have s := (s.new hpz).trans s7.nil
    have DK := (D3.new (o := .tup [x]) hpz).same s7
    refine ⟨_, rfl, _, rfl, _, rfl, gNo (cut_from ((t.new hpz).keep s7.tk0) (fun Hw z6 s8 t6 => ?_))⟩
    refine cat_tp (t5.keep s8.tk0) t6 (by rw [List.length_append, List.length_append, hrl]; simp only [List.length_map]; have := List.length_take_le' i l; have : (l.drop i).length ≤ l.length := (by rw [List.length_drop]; exact Nat.sub_le _ _); show _ + 1 + _ ≤ _; omega) (fun Hx z7 s9 _ t7 => ?_)
    refine q _ cs3 _ z7 r2.toNat i st ((s.trans s8.nil).trans s9.nil) ((DK.same s8).same s9) (by omega) (by omega) hst (by omega) ?_
    unfold stD at t7 ⊢
    rw [List.map_append, List.map_append, List.map_append, hrd]
    simpa using t7
end
/-! ### programs that can be compared -/
theorem Ex.ok_sh {ns : List Str} (hn : ∀ z ∈ ns, NmOk z) : ∀ (x : Ex) (n : Nat), x.ok ns n → Sh n x.d
  | .int i, n, _ => .int i
  | .name z, n, h => .str (hn z h.2).ok
  | .plus x y, n, ⟨h1, h2, h3⟩ => by
    obtain ⟨m, rfl⟩ : ∃ m : Nat, n = m + 1 := ⟨n - 1, by omega⟩
    exact .tup (.cons (.str (by decide +kernel)) (.cons (Ex.ok_sh hn x m h2) (.cons (Ex.ok_sh hn y m h3) .nil)))
  | .minus x y, n, ⟨h1, h2, h3⟩ => by
    obtain ⟨m, rfl⟩ : ∃ m : Nat, n = m + 1 := ⟨n - 1, by omega⟩
    exact .tup (.cons (.str (by decide +kernel)) (.cons (Ex.ok_sh hn x m h2) (.cons (Ex.ok_sh hn y m h3) .nil)))
  | .times f x, n, ⟨h1, h2, h3, h4⟩ => by
    obtain ⟨m, rfl⟩ : ∃ m : Nat, n = m + 1 := ⟨n - 1, by omega⟩
    exact .tup (.cons (.str (by decide +kernel)) (.cons (.int f) (.cons (Ex.ok_sh hn x m h4) .nil)))
theorem Ts.ok_sh {ns : List Str} (hn : ∀ z ∈ ns, NmOk z) : ∀ (t : Ts) (n : Nat), t.ok ns n → Sh (n + 4) t.d
  | .rest x b r, n, h => (Sh.tup (.cons (.str (by decide +kernel)) (.cons (Ex.ok_sh hn x 3 h.1) (.cons (.int b) (.cons (.int r) .nil))))).mono (by omega)
  | .less x y, n, h => (Sh.tup (.cons (.str (by decide +kernel)) (.cons (Ex.ok_sh hn x 3 h.1) (.cons (Ex.ok_sh hn y 3 h.2) .nil)))).mono (by omega)
  | .not t, n, ⟨h1, h2⟩ => by
    obtain ⟨m, rfl⟩ : ∃ m : Nat, n = m + 1 := ⟨n - 1, by omega⟩
    exact .tup (.cons (.str (by decide +kernel)) (.cons (Ts.ok_sh hn t m h2) .nil))
mutual
theorem St.ok_sh {ns : List Str} (hn : ∀ z ∈ ns, NmOk z) : ∀ (s : St) (d : Nat), s.ok ns d → Sh (2 * d + 9) s.d
  | .set z e, d, ⟨h1, h2⟩ => (Sh.tup (.cons (.str (by decide +kernel)) (.cons (.str (hn z h1).ok) (.cons (Ex.ok_sh hn e 3 h2) .nil)))).mono (by omega)
  | .pay e, d, h => (Sh.tup (.cons (.str (by decide +kernel)) (.cons (Ex.ok_sh hn e 3 h) .nil))).mono (by omega)
  | .stop, d, _ => (Sh.tup (n := 0) (.cons (.str (by decide +kernel)) .nil)).mono (by omega)
  | .ite t y n, d, ⟨h1, h2, h3⟩ => (Sh.tup (n := 2 * d + 8) (.cons (.str (by decide +kernel)) (.cons ((Ts.ok_sh hn t 2 h1).mono (by omega)) (.cons ((Sh.tup (Bk.ok_sh hn y d h2)).mono (by omega)) (.cons ((Sh.tup (Bk.ok_sh hn n d h3)).mono (by omega)) .nil))))).mono (by omega)
  | .rep k y, d, ⟨_, _, h3⟩ => (Sh.tup (n := 2 * d + 8) (.cons (.str (by decide +kernel)) (.cons (.int k) (.cons ((Sh.tup (Bk.ok_sh hn y d h3)).mono (by omega)) .nil)))).mono (by omega)
theorem Bk.ok_sh {ns : List Str} (hn : ∀ z ∈ ns, NmOk z) : ∀ (b : Bk) (d : Nat), b.ok ns d → ShA (2 * d + 7) b.ds
  | .nil, _, _ => .nil
  | .cons s b, d, ⟨h1, h2, h3⟩ => .cons ((St.ok_sh hn s (d - 1) h2).mono (by omega)) (Bk.ok_sh hn b d h3)
end
abbrev sRenamed : Stmt := topS 59
abbrev nRenamed : List Str := ["_law_value", "_law_names_here", "_law_first", "_law_part"]
theorem scRenamed : FnScope nRenamed ["_law_value", "_law_names_here"] (defScope sRenamed) := ⟨rfl, rfl, rfl, by decide +kernel, rfl, by decide +kernel, by decide +kernel⟩
/-! ### names exchanged in data -/
mutual
inductive RnD (f : Str → Str) : Nat → PyData → PyData → Prop where
  | str (n : Nat) (z : Str) : RnD f n (.str z) (.str (f z))
  | int (n : Nat) (i : Int) : RnD f n (.int i) (.int i)
  | head {n : Nat} {h : Str} {ds es : List PyData} (hl : ds.length ≤ 1000) : RnA f n ds es → RnD f (n + 1) (.tuple (.str h :: ds)) (.tuple (.str h :: es))
  | tup {n : Nat} {ds es : List PyData} (hd : ∀ x r, ds = x :: r → ∃ y, x = .tuple y) (hl : ds.length ≤ 1000) : RnA f n ds es → RnD f (n + 1) (.tuple ds) (.tuple es)
inductive RnA (f : Str → Str) : Nat → List PyData → List PyData → Prop where
  | nil {n : Nat} : RnA f n [] []
  | cons {n : Nat} {d e : PyData} {ds es : List PyData} : RnD f n d e → RnA f n ds es → RnA f n (d :: ds) (e :: es)
end
theorem RnA.get {f : Str → Str} {n : Nat} : ∀ {ds es : List PyData} {i : Nat} {d : PyData}, RnA f n ds es → ds[i]? = some d → ∃ e, es[i]? = some e ∧ RnD f n d e
  | _, _, 0, _, .cons a _, h => ⟨_, rfl, by cases h; exact a⟩
  | _, _, i + 1, _, .cons _ b, h => RnA.get (i := i) b h
theorem RnA.len {f : Str → Str} {n : Nat} : ∀ {ds es : List PyData}, RnA f n ds es → ds.length = es.length
  | _, _, .nil => rfl
  | _, _, .cons _ b => by rw [List.length_cons, List.length_cons, RnA.len b]
mutual
theorem RnD.up {f : Str → Str} : ∀ {n : Nat} {d e : PyData} (m : Nat), n ≤ m → RnD f n d e → RnD f m d e
  | _, _, _, m, _, .str _ z => .str m z
  | _, _, _, m, _, .int _ i => .int m i
  | _, _, _, 0, hm, .head _ _ => absurd hm (by omega)
  | _, _, _, m + 1, hm, .head hl a => .head hl (RnA.up m (by omega) a)
  | _, _, _, 0, hm, .tup _ _ _ => absurd hm (by omega)
  | _, _, _, m + 1, hm, .tup hd hl a => .tup hd hl (RnA.up m (by omega) a)
theorem RnA.up {f : Str → Str} : ∀ {n : Nat} {d e : List PyData} (m : Nat), n ≤ m → RnA f n d e → RnA f m d e
  | _, _, _, _, _, .nil => .nil
  | _, _, _, m, hm, .cons a b => .cons (RnD.up m hm a) (RnA.up m hm b)
end
section
variable {f : Str → Str} {ns : List Str}
theorem Ex.rn : ∀ (e : Ex) (n : Nat), e.ok ns n → RnD f n e.d (e.ren f).d
  | .int i, n, _ => .int n i
  | .name z, n, _ => .str n z
  | .plus x y, n, h => by
    obtain ⟨m, rfl⟩ : ∃ m, n = m + 1 := ⟨n - 1, by have := h.1; omega⟩
    exact .head (by simp) (.cons (Ex.rn x m h.2.1) (.cons (Ex.rn y m h.2.2) .nil))
  | .minus x y, n, h => by
    obtain ⟨m, rfl⟩ : ∃ m, n = m + 1 := ⟨n - 1, by have := h.1; omega⟩
    exact .head (by simp) (.cons (Ex.rn x m h.2.1) (.cons (Ex.rn y m h.2.2) .nil))
  | .times c x, n, h => by
    obtain ⟨m, rfl⟩ : ∃ m, n = m + 1 := ⟨n - 1, by have := h.1; omega⟩
    exact .head (by simp) (.cons (.int m c) (.cons (Ex.rn x m h.2.2.2) .nil))
theorem Ts.rn : ∀ (t : Ts) (n : Nat), t.ok ns n → RnD f (n + 4) t.d (t.ren f).d
  | .rest x b r, n, h => .head (by simp) (.cons ((Ex.rn x 3 h.1).up _ (by omega)) (.cons (.int _ b) (.cons (.int _ r) .nil)))
  | .less x y, n, h => .head (by simp) (.cons ((Ex.rn x 3 h.1).up _ (by omega)) (.cons ((Ex.rn y 3 h.2).up _ (by omega)) .nil))
  | .not t, n, h => by
    obtain ⟨m, rfl⟩ : ∃ m, n = m + 1 := ⟨n - 1, by have := h.1; omega⟩
    exact .head (by simp) (.cons ((Ts.rn t m h.2).up _ (by omega)) .nil)
theorem ds_tup (b : Bk) : ∀ x r, b.ds = x :: r → ∃ y, x = .tuple y := fun x r h => by
  cases b with
  | nil => cases h
  | cons s b =>
    cases h
    cases s <;> exact ⟨_, rfl⟩
theorem ds_len : ∀ b : Bk, b.ds.length ≤ b.sz
  | .nil => Nat.le_refl _
  | .cons s b => by
    have := ds_len b
    have := St.sz_pos s
    rw [Bk.ds, Bk.sz, List.length_cons]
    omega
mutual
theorem St.rn : ∀ (s : St) (d : Nat), s.ok ns d → s.sz ≤ 1000 → RnD f (2 * d + 9) s.d (s.ren f).d
  | .set z e, d, h, _ => .head (by simp) (.cons (.str _ z) (.cons ((Ex.rn e 3 h.2).up _ (by omega)) .nil))
  | .pay e, d, h, _ => .head (by simp) (.cons ((Ex.rn e 3 h).up _ (by omega)) .nil)
  | .stop, d, h, _ => .head (by simp) .nil
  | .ite t y n, d, h, hz => .head (n := 2 * d + 8) (by simp) (.cons ((Ts.rn t 2 h.1).up _ (by omega)) (.cons (.tup (ds_tup y) (by have := ds_len y; rw [St.sz] at hz; omega) (Bk.rn y d h.2.1 (by rw [St.sz] at hz; omega))) (.cons (.tup (ds_tup n) (by have := ds_len n; rw [St.sz] at hz; omega) (Bk.rn n d h.2.2 (by rw [St.sz] at hz; omega))) .nil)))
  | .rep k y, d, h, hz => .head (n := 2 * d + 8) (by simp) (.cons (.int _ k) (.cons (.tup (ds_tup y) (by have := ds_len y; rw [St.sz] at hz; omega) (Bk.rn y d h.2.2 (by rw [St.sz] at hz; omega))) .nil))
theorem Bk.rn : ∀ (b : Bk) (d : Nat), b.ok ns d → b.sz ≤ 1000 → RnA f (2 * d + 7) b.ds (b.ren f).ds
  | .nil, _, _, _ => .nil
  | .cons s b, d, h, hz => .cons ((St.rn s (d - 1) h.2.1 (by rw [Bk.sz] at hz; omega)).up _ (by have := h.1; omega)) (Bk.rn b d h.2.2 (by rw [Bk.sz] at hz; omega))
end
end
theorem eqvT_nil (x : PyData) (ds : List PyData) : PyData.eqv (.tuple (x :: ds)) (.tuple []) = false := rfl
theorem ShA.tail {n : Nat} {x : PyData} {ds : List PyData} (h : ShA n (x :: ds)) : ShA n ds := by
  have h1 := h.1
  have h2 := h.2
  simp only [PyData.canLayAll0, Bool.and_eq_true] at h1
  simp only [PyData.depthAll] at h2
  exact ⟨h1.2, by omega⟩
theorem gYes {σ : L2.St} {H : Hp} {Q : Bool → Hp → Prop} (h : Q true H) : tYes σ H Q := h
theorem Sh.mem {n : Nat} {ds : List PyData} (h : Sh (n + 1) (.tuple ds)) : ShA n ds := ⟨by have := h.1; simpa only [PyData.canLay0] using this, by have := h.2; simp only [PyData.depth] at this; omega⟩
theorem ShA.get {n : Nat} : ∀ {ds : List PyData} {i : Nat} {d : PyData}, ShA n ds → ds[i]? = some d → Sh n d
  | x :: ds, 0, d, h, e => by
    cases e
    have h1 := h.1
    have h2 := h.2
    simp only [PyData.canLayAll0, Bool.and_eq_true] at h1
    simp only [PyData.depthAll] at h2
    exact ⟨h1.1, by omega⟩
  | x :: ds, i + 1, d, h, e => by
    have h1 := h.1
    have h2 := h.2
    simp only [PyData.canLayAll0, Bool.and_eq_true] at h1
    simp only [PyData.depthAll] at h2
    exact ShA.get (i := i) ⟨h1.2, by omega⟩ e
/-- the dict at N tells the new names -/
def Dc (H : Hp) (N : Addr) (f : Str → Str) : Prop := ∃ kvs : List (Key × V), H N = some (.dK kvs) ∧ ∀ z, (valV kvs (.inr z)).getD (.str z) = .str (f z)
theorem Dc.keep {H H' : Hp} {N : Addr} {f : Str → Str} (h : Dc H N f) (s : Sx [] H H') : Dc H' N f := by
  obtain ⟨kvs, h1, h2⟩ := h
  exact ⟨kvs, s _ _ (by simp) h1, h2⟩
theorem head1 {K : PySem.W.Frag} {H : Hp} {a : Addr} {x : V} {xs : List V} {Q : VK} (h : H a = some (.tup (x :: xs))) (q : ∀ H' b, Sx [] H H' → H' b = some (.tup [x]) → Q (.ref b) H') : rSlA K (.ref a) none (some 1) H Q := by
  have e : HT.sIx (x :: xs).length (x :: xs).length (some 1) = 1 := by
    rw [show (some (1 : Int)) = some ((1 : Nat) : Int) from rfl, HT.sIx_nat, List.length_cons]
    omega
  refine ⟨a, _, rfl, SqT.of h, fun hw => ?_, fun _ p hp => ?_⟩
  · have h2 := hw.2
    rw [e, List.length_cons] at h2
    have xn : xs = [] := List.eq_nil_of_length_eq_zero (by omega)
    subst xn
    exact q H a (Sx.refl _) h
  · refine q _ p (Sx.n0 hp) ?_
    rw [upd_same]
    unfold cutV
    rw [HT.sIx_none, e]
    rfl
theorem drop1 {K : PySem.W.Frag} {H : Hp} {a : Addr} {x : V} {xs : List V} {Q : VK} (h : H a = some (.tup (x :: xs))) (q : ∀ H' b, Sx [] H H' → H' b = some (.tup xs) → Q (.ref b) H') : rSlA K (.ref a) (some 1) none H Q := by
  have e : HT.sIx (x :: xs).length 0 (some 1) = 1 := by
    rw [show (some (1 : Int)) = some ((1 : Nat) : Int) from rfl, HT.sIx_nat, List.length_cons]
    omega
  refine ⟨a, _, rfl, SqT.of h, fun hw => ?_, fun _ p hp => ?_⟩
  · have h2 := hw.1
    rw [e] at h2
    cases h2
  · refine q _ p (Sx.n0 hp) ?_
    rw [upd_same]
    unfold cutV
    rw [HT.sIx_none, e]
    simp
theorem drop0 {K : PySem.W.Frag} {H : Hp} {a : Addr} {xs : List V} {Q : VK} (h : H a = some (.tup xs)) (q : Q (.ref a) H) : rSlA K (.ref a) (some 0) none H Q := by
  have e : HT.sIx xs.length 0 (some 0) = 0 := by
    rw [show (some (0 : Int)) = some ((0 : Nat) : Int) from rfl, HT.sIx_nat]
    omega
  refine ⟨a, _, rfl, SqT.of h, fun _ => q, fun hw => absurd ⟨e, ?_⟩ hw⟩
  rw [HT.sIx_none]
def spRen (n : Nat) : Sp := fun vs H Q _ => ∃ (v : V) (N : Addr) (f : Str → Str) (d e : PyData), vs = [v, .ref N] ∧ Tp H v d ∧ RnD f n d e ∧ Sh 40 d ∧ Dc H N f ∧ ∀ H' r, Sx [] H H' → Tp H' r e → Q r H'
section
variable {w : World} {P : Program} {K : PySem.W.Frag} {mg : Str → Option Value} {base : Heap}
theorem ok_renamed {ff : Addr} {fd : FuncData} (F_renamed : Fun K "_law_renamed" "_law_renamed" sRenamed ff fd) (b_renamed : Binds K fd ["_law_value", "_law_names_here"] []) (m_renamed : mg "_law_renamed" = some (.ref ff))
    (z_isinstance : mg "isinstance" = none) (z_str : mg "str" = none) (z_tuple : mg "tuple" = none) (z_len : mg "len" = none) :
    ∀ n : Nat, FnOk P w K mg base CX0 (n + 1) ff fd ["_law_value", "_law_names_here"] (spRen n) := by
  intro n
  induction n with
  | zero =>
    refine F_renamed.ok scRenamed (fun vs H Q E h => ?_) (fun cdv A outer s H vs Q E hr h => ?_)
    · obtain ⟨_, _, _, _, _, rfl, _⟩ := h
      rfl
    · obtain ⟨v, N, f, d, e, rfl, t, rn, sh, ⟨kvs, hN, hv⟩, q⟩ := h
      have G_renamed : FnOk P w K mg base CX0 0 ff fd ["_law_value", "_law_names_here"] (fun _ _ _ _ => False) := ⟨fun _ _ _ _ h => h.elim, fun _ _ _ _ _ _ _ _ _ _ _ _ _ h => h.elim⟩
      refine ⟨_, (pss_cons (ps_if (pt_val (pe_callB call_isi (by rfl) z_isinstance (by decide +kernel) (pa_cons (pv 0) (pa_cons (pe_bltn (v := .ty "str") (by rfl) z_str (by decide +kernel) rfl) pa_nil)))) (pss_one (ps_ret (pe_dget2 (hu_of hr) (pv 1) (pv 0) (pv 0) ⟨rfl, rfl, rfl, rfl⟩))) pss_nil)
      (pss_cons (ps_if (pt_not (pt_val (pe_callB call_isi (by rfl) z_isinstance (by decide +kernel) (pa_cons (pv 0) (pa_cons (pe_bltn (v := .ty "tuple") (by rfl) z_tuple (by decide +kernel) rfl) pa_nil))))) (pss_one (ps_ret (pv 0))) pss_nil)
      (C8.pss_cut (ps_set (i := 2) scRenamed.nd rfl (by first | exact Or.inl rfl | exact Or.inr rfl) (pe_ifExp (PW.pt (pw_and (pt_cmpR (op_neD hr.units) (pv 0) (pe_tup pa_nil) (nomark _)) (pw_and1 (pt_val (pe_callB call_isi (by rfl) z_isinstance (by decide +kernel) (pa_cons (pe_ix ix_tup (pv 0) pe_int (fun _ _ => rfl)) (pa_cons (pe_bltn (v := .ty "str") (by rfl) z_str (by decide +kernel) rfl) pa_nil))))))) (pe_slice sl_tupA (pv 0) po_none (po_some pe_int)) (pe_tup pa_nil)))
      (pss_one (ps_ret (pe_op op_catA (pv 2) (pe_callTy call_tuple_of (by rfl) z_tuple boot_tuple (pa_cons (pe_lc (own := [("_law_part", 3)]) (g := gName 3) (tt := tYes) rfl scRenamed.nd (pi_tup (pe_slice sl_tupA (pv 0) (po_some (pe_callB call_len_seq (by rfl) z_len boot_len (pa_cons (pv 2) pa_nil))) po_none)) (blkOk_by (N := nRenamed) (sc := defScope sRenamed) (by decide +kernel)) (fun _ _ _ _ _ => (pg_name (i := 3) scRenamed.nd rfl (by first | exact Or.inl rfl | exact Or.inr rfl))) (fun _ _ _ _ _ => pts_nil) (fun _ _ _ _ _ => (pe_call G_renamed (hr.mono (by omega)) (by rfl) m_renamed F_renamed.kp b_renamed .nil pass0 (pa_cons (pv 3) (pa_cons (pv 1) pa_nil))))) pa_nil)))))))), ?_⟩
      cases rn with
      | str _ z =>
        obtain rfl := tpS t
        refine ⟨_, rfl, _, _, _, _, _, rfl, .ty _, .base (.str z), kit_ty (r := true) (by decide +kernel), _, rfl, iteT ⟨_, rfl, N, rfl, .inl ⟨kvs, .inl hN⟩, _, rfl, _, rfl, _, DGet.k (k := .inr z) hN, ?_⟩⟩
        rw [hv z]
        exact q H _ (Sx.refl _) (.str _)
      | int _ i =>
        obtain rfl := tpI t
        exact ⟨_, rfl, _, _, _, _, _, rfl, .ty _, .base (.int i), kit_ty (r := false) (by decide +kernel), _, rfl, iteF ⟨_, rfl, _, _, _, _, _, rfl, .ty _, .base (.int i), kit_ty (r := false) (by decide +kernel), _, rfl, iteT ⟨_, rfl, q H _ (Sx.refl _) (.int _)⟩⟩⟩
  | succ n G_renamed =>
    refine F_renamed.ok scRenamed (fun vs H Q E h => ?_) (fun cdv A outer s H vs Q E hr h => ?_)
    · obtain ⟨_, _, _, _, _, rfl, _⟩ := h
      rfl
    · obtain ⟨v, N, f, d, e, rfl, t, rn, sh, ⟨kvs, hN, hv⟩, q⟩ := h
      refine ⟨_, (pss_cons (ps_if (pt_val (pe_callB call_isi (by rfl) z_isinstance (by decide +kernel) (pa_cons (pv 0) (pa_cons (pe_bltn (v := .ty "str") (by rfl) z_str (by decide +kernel) rfl) pa_nil)))) (pss_one (ps_ret (pe_dget2 (hu_of hr) (pv 1) (pv 0) (pv 0) ⟨rfl, rfl, rfl, rfl⟩))) pss_nil)
      (pss_cons (ps_if (pt_not (pt_val (pe_callB call_isi (by rfl) z_isinstance (by decide +kernel) (pa_cons (pv 0) (pa_cons (pe_bltn (v := .ty "tuple") (by rfl) z_tuple (by decide +kernel) rfl) pa_nil))))) (pss_one (ps_ret (pv 0))) pss_nil)
      (C8.pss_cut (ps_set (i := 2) scRenamed.nd rfl (by first | exact Or.inl rfl | exact Or.inr rfl) (pe_ifExp (PW.pt (pw_and (pt_cmpR (op_neD hr.units) (pv 0) (pe_tup pa_nil) (nomark _)) (pw_and1 (pt_val (pe_callB call_isi (by rfl) z_isinstance (by decide +kernel) (pa_cons (pe_ix ix_tup (pv 0) pe_int (fun _ _ => rfl)) (pa_cons (pe_bltn (v := .ty "str") (by rfl) z_str (by decide +kernel) rfl) pa_nil))))))) (pe_slice sl_tupA (pv 0) po_none (po_some pe_int)) (pe_tup pa_nil)))
      (pss_one (ps_ret (pe_op op_catA (pv 2) (pe_callTy call_tuple_of (by rfl) z_tuple boot_tuple (pa_cons (pe_lc (own := [("_law_part", 3)]) (g := gName 3) (tt := tYes) rfl scRenamed.nd (pi_tup (pe_slice sl_tupA (pv 0) (po_some (pe_callB call_len_seq (by rfl) z_len boot_len (pa_cons (pv 2) pa_nil))) po_none)) (blkOk_by (N := nRenamed) (sc := defScope sRenamed) (by decide +kernel)) (fun _ _ _ _ _ => (pg_name (i := 3) scRenamed.nd rfl (by first | exact Or.inl rfl | exact Or.inr rfl))) (fun _ _ _ _ _ => pts_nil) (fun _ _ _ _ _ => (pe_call G_renamed (hr.mono (by omega)) (by rfl) m_renamed F_renamed.kp b_renamed .nil pass0 (pa_cons (pv 3) (pa_cons (pv 1) pa_nil))))) pa_nil)))))))), ?_⟩
      cases rn with
      | str _ z =>
        obtain rfl := tpS t
        refine ⟨_, rfl, _, _, _, _, _, rfl, .ty _, .base (.str z), kit_ty (r := true) (by decide +kernel), _, rfl, iteT ⟨_, rfl, N, rfl, .inl ⟨kvs, .inl hN⟩, _, rfl, _, rfl, _, DGet.k (k := .inr z) hN, ?_⟩⟩
        rw [hv z]
        exact q H _ (Sx.refl _) (.str _)
      | int _ i =>
        obtain rfl := tpI t
        exact ⟨_, rfl, _, _, _, _, _, rfl, .ty _, .base (.int i), kit_ty (r := false) (by decide +kernel), _, rfl, iteF ⟨_, rfl, _, _, _, _, _, rfl, .ty _, .base (.int i), kit_ty (r := false) (by decide +kernel), _, rfl, iteT ⟨_, rfl, q H _ (Sx.refl _) (.int _)⟩⟩⟩
      | @head _ h ds es hln ra =>
        obtain ⟨a, vs, rfl, ha, hvs⟩ := t.tuple
        cases hvs with
        | cons t0 hvs =>
          rename_i v0 vs
          obtain rfl := tpS t0
          refine ⟨_, rfl, _, _, _, _, _, rfl, .ty _, .base (.tup ha), kit_ty (r := false) (by decide +kernel), _, rfl, iteF ⟨_, rfl, _, _, _, _, _, rfl, .ty _, .base (.tup ha), kit_ty (r := true) (by decide +kernel), _, rfl, iteF ?_⟩⟩
          refine ⟨fun σ H' => ∃ b, σ = [some (.ref a), some (.ref N), some (.ref b), none] ∧ Sx [] H H' ∧ H' b = some (.tup [.str h]), ?_, ?_⟩
          · refine ⟨_, rfl, by show 0 ≤ sizeLine; decide, fun u hu => ⟨_, .tuple [], (t.new hu).dp, .tup (SqT.of upd_same) .nil, sh.shaped (by decide), (Sh.tup (n := 0) .nil).shaped (by decide), _, rfl, ?_⟩⟩
            have n1 := Sx.n0 (o := .tup []) hu
            have ha := n1 _ _ (by simp) ha
            generalize upd H u (.tup []) = H1 at n1 ha ⊢
            refine iteP (by rw [eqvT_nil]; rfl) ?_
            refine ⟨_, rfl, a, _, _, _, rfl, rfl, SqT.of ha, atI_nat (j := 0) rfl, _, _, _, _, _, rfl, .ty _, .base (.str h), kit_ty (r := true) (by decide +kernel), _, rfl, iteT ?_⟩
            refine ⟨_, rfl, 1, rfl, head1 ha (fun H2 b s2 hb => ⟨b, rfl, n1.trans s2, hb⟩)⟩
          · rintro _ H1 ⟨b, rfl, s1, hb⟩
            have ha1 := s1 _ _ (by simp) ha
            refine ⟨_, rfl, _, rfl, _, rfl, b, _, rfl, .inr (SqT.of hb), _, rfl, ?_⟩
            refine gNo (drop1 ha1 (fun H2 b2 s2 hb2 => ?_))
            have s12 := s1.trans s2
            have hvs2 := hvs.keep s12.tk0
            have vl := hvs.len
            have rl := ra.len
            refine ⟨b2, rfl, ⟨_, SqT.of hb2⟩, fun D hD => lc_tup (xs := vs) (fun i H1 => Sx [] H2 H1 ∧ ∃ ws, H1 D = some (.lst ws) ∧ TpAll H1 ws (es.take i)) ⟨Sx.n0 hD, [], upd_same, by rw [List.take_zero]; exact .nil⟩ (fun i H1 _ z => SqT.of (z.1 _ _ (by simp) hb2)) (fun i x H1 hi z => ?_) (fun H1 z => ?_)⟩
            · obtain ⟨s3, ws, e1, tw⟩ := z
              obtain ⟨d', hd', tx⟩ := hvs2.get hi
              obtain ⟨e', he', rd⟩ := ra.get hd'
              refine gnm ⟨rfl, gYes (iteT ?_)⟩
              refine ⟨_, rfl, _, rfl, x, N, f, d', e', rfl, tx.keep s3.tk0, rd, (ShA.get (Sh.mem sh).tail hd').mono (by omega), ⟨kvs, (s12.trans s3) _ _ (by simp) hN, hv⟩, fun H3 r3 s4 t3 => ?_⟩
              have e3 := s4 _ _ (by simp) e1
              have wl : ws.length = i := by
                rw [tw.len, List.length_take]
                have := (List.getElem?_eq_some_iff.mp he').1
                omega
              refine ⟨ws, e3, lt_line (by have := (List.getElem?_eq_some_iff.mp hi).1; omega), (s3.trans s4).own hD, _, upd_same, ?_⟩
              rw [List.take_add_one, he']
              exact ((tw.keep s4.tk0).keep (Tk.lst e3)).append (.cons (t3.keep (Tk.lst e3)) .nil)
            · obtain ⟨s3, ws, e1, tw⟩ := z
              rw [vl, rl, List.take_length] at tw
              refine ⟨D, ws, rfl, .inl ⟨SqL.of e1, fun p hp => ?_⟩⟩
              have s5 := s3.new (o := .tup ws) hp
              have tb : Tp (upd H1 p (.tup ws)) (.ref b) (.tuple [.str h]) := .tup (s5 _ _ (by simp) (s2 _ _ (by simp) hb)) (.cons (.str _) .nil)
              have tp : Tp (upd H1 p (.tup ws)) (.ref p) (.tuple es) := .tup upd_same (tw.new hp)
              refine cat_tp tb tp (by rw [← rl]; show _ + _ ≤ 16777216; simp only [List.length_cons, List.length_nil]; omega) (fun H3 z s6 _ t6 => ?_)
              exact q _ z ((s12.trans s5).trans s6) t6
      | @tup _ ds es hd hln ra =>
        obtain ⟨a, vs, rfl, ha, hvs⟩ := t.tuple
        refine ⟨_, rfl, _, _, _, _, _, rfl, .ty _, .base (.tup ha), kit_ty (r := false) (by decide +kernel), _, rfl, iteF ⟨_, rfl, _, _, _, _, _, rfl, .ty _, .base (.tup ha), kit_ty (r := true) (by decide +kernel), _, rfl, iteF ?_⟩⟩
        refine ⟨fun σ H' => ∃ b, σ = [some (.ref a), some (.ref N), some (.ref b), none] ∧ Sx [] H H' ∧ H' b = some (.tup []), ?_, ?_⟩
        · refine ⟨_, rfl, by show 0 ≤ sizeLine; decide, fun u hu => ⟨_, .tuple [], (t.new hu).dp, .tup (SqT.of upd_same) .nil, sh.shaped (by decide), (Sh.tup (n := 0) .nil).shaped (by decide), _, rfl, ?_⟩⟩
          have n1 := Sx.n0 (o := .tup []) hu
          have ha := n1 _ _ (by simp) ha
          have hvs := hvs.keep n1.tk0
          generalize upd H u (.tup []) = H1 at n1 ha hvs ⊢
          cases hvs with
          | nil =>
            refine iteN (by decide) ?_
            exact ⟨by show 0 ≤ sizeLine; decide, fun p hp => ⟨p, rfl, n1.new hp, upd_same⟩⟩
          | cons t0 hvs =>
            rename_i v0 vs d0 ds
            obtain ⟨y, rfl⟩ := hd _ _ rfl
            obtain ⟨a0, xs0, rfl, ha0, _⟩ := t0.tuple
            refine iteP (by rw [eqvT_nil]; rfl) ?_
            refine ⟨_, rfl, a, _, _, _, rfl, rfl, SqT.of ha, atI_nat (j := 0) rfl, _, _, _, _, _, rfl, .ty _, .base (.tup ha0), kit_ty (r := false) (by decide +kernel), _, rfl, iteF ?_⟩
            exact ⟨by show 0 ≤ sizeLine; decide, fun p hp => ⟨p, rfl, n1.new hp, upd_same⟩⟩
        · rintro _ H2 ⟨b, rfl, s2, hb⟩
          have ha2 := s2 _ _ (by simp) ha
          have s12 := s2
          have hvs2 := hvs.keep s2.tk0
          have vl := hvs.len
          have rl := ra.len
          refine ⟨_, rfl, _, rfl, _, rfl, b, _, rfl, .inr (SqT.of hb), _, rfl, ?_⟩
          refine gNo (drop0 ha2 ?_)
          refine ⟨a, rfl, ⟨_, SqT.of ha2⟩, fun D hD => lc_tup (xs := vs) (fun i H1 => Sx [] H2 H1 ∧ ∃ ws, H1 D = some (.lst ws) ∧ TpAll H1 ws (es.take i)) ⟨Sx.n0 hD, [], upd_same, by rw [List.take_zero]; exact .nil⟩ (fun i H1 _ z => SqT.of (z.1 _ _ (by simp) ha2)) (fun i x H1 hi z => ?_) (fun H1 z => ?_)⟩
          · obtain ⟨s3, ws, e1, tw⟩ := z
            obtain ⟨d', hd', tx⟩ := hvs2.get hi
            obtain ⟨e', he', rd⟩ := ra.get hd'
            refine gnm ⟨rfl, gYes (iteT ?_)⟩
            refine ⟨_, rfl, _, rfl, x, N, f, d', e', rfl, tx.keep s3.tk0, rd, (ShA.get (Sh.mem sh) hd').mono (by omega), ⟨kvs, (s12.trans s3) _ _ (by simp) hN, hv⟩, fun H3 r3 s4 t3 => ?_⟩
            have e3 := s4 _ _ (by simp) e1
            have wl : ws.length = i := by
              rw [tw.len, List.length_take]
              have := (List.getElem?_eq_some_iff.mp he').1
              omega
            refine ⟨ws, e3, lt_line (by have := (List.getElem?_eq_some_iff.mp hi).1; omega), (s3.trans s4).own hD, _, upd_same, ?_⟩
            rw [List.take_add_one, he']
            exact ((tw.keep s4.tk0).keep (Tk.lst e3)).append (.cons (t3.keep (Tk.lst e3)) .nil)
          · obtain ⟨s3, ws, e1, tw⟩ := z
            rw [vl, rl, List.take_length] at tw
            refine ⟨D, ws, rfl, .inl ⟨SqL.of e1, fun p hp => ?_⟩⟩
            have s5 := s3.new (o := .tup ws) hp
            have tb : Tp (upd H1 p (.tup ws)) (.ref b) (.tuple []) := .tup (s5 _ _ (by simp) hb) .nil
            have tp : Tp (upd H1 p (.tup ws)) (.ref p) (.tuple es) := .tup upd_same (tw.new hp)
            refine cat_tp tb tp (by rw [← rl]; show _ + _ ≤ 16777216; simp only [List.length_cons, List.length_nil]; omega) (fun H3 z s6 _ t6 => ?_)
            exact q _ z ((s12.trans s5).trans s6) t6
end
/-- neither lists nor tables are tuples -/
theorem tk_ex {H H' : Hp} {ex : List Addr} (s : Sx ex H H') (h : ∀ b ∈ ex, ∀ xs, H b ≠ some (.tup xs)) : Tk H H' := fun b xs e => s b _ (fun hb => h b hb xs e) e
theorem tab_at {PW PT : Addr} {H : Hp} (hT : LamX.Tabs (TL PW PT) H) : ∀ b ∈ [PW, PT], ∃ ps, H b = some (.tbl ps) := fun b hb => by
  rcases List.mem_cons.1 hb with rfl | hb
  · obtain ⟨ps, hP, _⟩ := hT _ (List.mem_cons_self ..)
    exact ⟨ps, hP⟩
  · obtain ⟨ps, hP, _⟩ := hT _ (List.mem_cons_of_mem _ (List.mem_cons_self ..))
    rw [List.mem_singleton.mp hb]
    exact ⟨ps, hP⟩
theorem ex_nt {PW PT D c : Addr} {H : Hp} {cs : List Int} {k : Int} (DK : Dk H D c cs k) (hT : LamX.Tabs (TL PW PT) H) : ∀ b ∈ [D, c, PW, PT], ∀ xs, H b ≠ some (.tup xs) := fun b hb xs e => by
  rcases List.mem_cons.1 hb with rfl | hb
  · rw [DK.ha] at e; cases e
  · rcases List.mem_cons.1 hb with rfl | hb
    · rw [DK.hc] at e; cases e
    · obtain ⟨ps, hP⟩ := tab_at hT b hb
      rw [hP] at e; cases e
theorem deck_nt {PW PT D c : Addr} {H : Hp} {cs : List Int} {k : Int} (DK : Dk H D c cs k) (hT : LamX.Tabs (TL PW PT) H) : (∀ b ∈ [D, c], b ∉ [PW, PT]) ∧ ∀ b ∈ [PW, PT], b ∉ [D, c] := by
  have z : ∀ b, b ∈ [D, c] → b ∈ [PW, PT] → False := fun b h1 h2 => by
    obtain ⟨ys, e⟩ := DK.lst b h1
    obtain ⟨ps, e2⟩ := tab_at hT b h2
    rw [e] at e2; cases e2
  exact ⟨fun b h1 h2 => z b h1 h2, fun b h1 h2 => z b h2 h1⟩
/-- the tables stay where the deck is drawn from -/
theorem tabs_deck {PW PT D c : Addr} {H H' : Hp} {cs : List Int} {k : Int} (DK : Dk H D c cs k) (hT : LamX.Tabs (TL PW PT) H) (s : Sx [D, c] H H') : LamX.Tabs (TL PW PT) H' := fun p hp => by
  obtain ⟨ps, h1, h2, h3⟩ := hT p hp
  have hb : p.1 ∈ [PW, PT] := by
    rcases List.mem_cons.1 hp with rfl | hp
    · exact List.mem_cons_self ..
    · rw [List.mem_singleton.mp hp]; exact List.mem_cons_of_mem _ (List.mem_cons_self ..)
  refine ⟨ps, s _ _ ((deck_nt DK hT).2 _ hb) h1, h2, fun pos cv hc => ?_⟩
  obtain ⟨cc, e, h4⟩ := h3 pos cv hc
  exact ⟨cc, e, s _ _ (fun hb => by obtain ⟨ys, e2⟩ := DK.lst cc hb; rw [h4] at e2; cases e2) h4⟩
/-- the deck stays where the tables grow -/
theorem deck_tabs {PW PT D c : Addr} {H H' : Hp} {cs : List Int} {k : Int} (DK : Dk H D c cs k) (hT : LamX.Tabs (TL PW PT) H) (s : Sx [PW, PT] H H') : Dk H' D c cs k := DK.sx s ((deck_nt DK hT).1 _ (List.mem_cons_self ..)) ((deck_nt DK hT).1 _ (List.mem_cons_of_mem _ (List.mem_cons_self ..)))
/-! ### repr of any data -/
structure RpA (K : PySem.W.Frag) (H : Hp) (v : V) (d : PyData) : Prop where
  r1 : Dp K H v d
  r2 : d.showable = true
  r3 : d.hasDict = false
  r4 : d.depth ≤ 60
  r5 : d.shown.length ≤ 16777216
theorem RpA.of {K : PySem.W.Frag} {H : Hp} {v : V} {d : PyData} {k n : Nat} (h : Dp K H v d) (z : Shw k n d) (hk : k ≤ 60) (hn : n ≤ 8000) : RpA K H v d :=
  ⟨h, z.s, z.h, by have := z.dp; omega, z.len hn⟩
def rReprA (K : PySem.W.Frag) : List V → Hp → VK → Prop := fun xs H Q => ∃ x d, xs = [x] ∧ RpA K H x d ∧ Q (.str d.shown) H
theorem call_reprA {X : Cx} (hgd : X.A.guards = some []) (hu : X.A.units + 64 < cLine) : CallR X (.builtin "repr") (rReprA X.K) := by
  intro pins s σ H xs us Q I r h0; have h := h0
  obtain ⟨x, d, rfl, ⟨hd, hs, hnd, hdp, hz⟩, q⟩ := h
  rcases vals1 r with ⟨u, rfl, rx⟩
  have fin : ∀ {as : List Addr} {a : Addr}, Reads s.heap (.ref a) d as → wpAny (model X.prog X.w) X.A (call (.builtin "repr") [.ref a]) (EP X pins σ Q) X.xe s := fun {as a} rd =>
    repr_of_reads' rd hs (fun h => by rw [hnd] at h; cases h) hgd (by omega) (fun _ _ e => e) (fun h' u' tk hk => ⟨.str d.shown, H, I.kept hk, ⟨u', rfl⟩, q⟩) hz
  obtain ⟨as, rd⟩ := Dp.reads I d x u hd rx
  cases hd with
  | non =>
    cases rx
    have e : PyData.shown .none = "None" := by simp only [PyData.shown]
    rw [e] at q
    exact PySem.P.repr_of_none ⟨.str _, H, I.tok _, ⟨_, rfl⟩, q⟩
  | bl b =>
    cases rx
    have e : (PyData.bool b).shown = (if b then "True" else "False" : Str) := by cases b <;> simp [PyData.shown]
    rw [e] at q
    exact PySem.P.repr_of_bool ⟨.str _, H, I.tok _, ⟨_, rfl⟩, q⟩
  | int i =>
    obtain ⟨t, rfl⟩ := rx
    have hi : i.natAbs.log2 < 1920 := by
      have : (PyData.int i).showable = true := hs
      simpa only [PyData.showable, decide_eq_true_eq] using this
    have e : (PyData.int i).shown = (toString i : String) := by simp only [PyData.shown]
    rw [e] at q
    exact PySem.P.repr_of_int hi ⟨.str _, H, I.tok _, ⟨_, rfl⟩, q⟩
  | str z =>
    obtain ⟨t, rfl⟩ := rx
    have e : (PyData.str z).shown = reprText z := by simp only [PyData.shown]
    rw [e] at q hz
    exact PySem.P.repr_of_str ⟨.str _, H, I.tok _, ⟨_, rfl⟩, q⟩ hz
  | lst hq ha => cases rx; exact fin rd
  | tup hq ha => cases rx; exact fin rd
abbrev sAlike : Stmt := topS 60
abbrev nAlike : List Str := ["_law_deck_here", "_law_one_here", "_law_other_here", "_law_number_here", "_law_due", "_law_k"]
theorem scAlike : FnScope nAlike ["_law_deck_here", "_law_one_here", "_law_other_here"] (defScope sAlike) := ⟨rfl, rfl, rfl, by decide +kernel, rfl, by decide +kernel, by decide +kernel⟩
set_option exponentiation.threshold 2000 in
theorem Bk.tot_shw {ns : List Str} {b : Bk} {d : Nat} {x : Int} (ho : b.ok ns d) (hw : b.wt ≤ 30) (h1 : -1000000000000000000000000000000000000000000000000000000000000 ≤ x) (h2 : x ≤ 1000000000000000000000000000000000000000000000000000000000000) (k : Nat) : Shw k 450 (.int (b.run 0 (Wd.at x)).1.tot) := by
  have h0 : Bd 1000000000000000000000000000000000000000000000000000000000000 (Wd.at x) := ⟨by decide, fun z => by
    show _ ≤ (if z = "n" then x else 0) ∧ (if z = "n" then x else 0) ≤ _
    split <;> omega, by show _ ≤ (0 : Int); decide, by show (0 : Int) ≤ _; decide⟩
  have h := (Bk.run_bd b d 0 _ _ ho h0).up (by decide) hw
  have e : (128 : Int) ^ 30 * 1000000000000000000000000000000000000000000000000000000000000 = 1645504557321206042154969182557350504982735865633579863348609024000000000000000000000000000000000000000000000000000000000000 := by decide
  rw [e] at h
  have t1 := h.t1
  have t2 := h.t2
  have e2 : (2 : Nat) ^ 450 > 1645504557321206042154969182557350504982735865633579863348609024000000000000000000000000000000000000000000000000000000000000 := by decide
  exact Shw.int (n := 450) (by omega) (by decide) (by decide) k
theorem sgn_shw (t : Int) (k : Nat) : Shw k 7 (.int (sgn t)) := by
  unfold sgn
  split
  · exact sm (by decide) (by decide) k
  · split
    · exact sm (by decide) (by decide) k
    · exact sm (by decide) (by decide) k
theorem Ex.nm_ok {ns : List Str} (hn : ∀ z ∈ ns, NmOk z) : ∀ (e : Ex) (n : Nat), e.ok ns n → e.nm
  | .int _, _, _ => trivial
  | .name z, _, h => hn z h.2
  | .plus x y, n, h => ⟨Ex.nm_ok hn x _ h.2.1, Ex.nm_ok hn y _ h.2.2⟩
  | .minus x y, n, h => ⟨Ex.nm_ok hn x _ h.2.1, Ex.nm_ok hn y _ h.2.2⟩
  | .times _ x, n, h => Ex.nm_ok hn x _ h.2.2.2
theorem Ts.nm_ok {ns : List Str} (hn : ∀ z ∈ ns, NmOk z) : ∀ (t : Ts) (n : Nat), t.ok ns n → t.nm
  | .rest x _ _, _, h => Ex.nm_ok hn x 3 h.1
  | .less x y, _, h => ⟨Ex.nm_ok hn x 3 h.1, Ex.nm_ok hn y 3 h.2⟩
  | .not t, n, h => Ts.nm_ok hn t (n - 1) h.2
theorem St.nm_ok {ns : List Str} (hn : ∀ z ∈ ns, NmOk z) (s : St) (n : Nat) (h : s.ok ns n) : s.nm := by
  cases s with
  | set z e => exact ⟨hn z h.1, Ex.nm_ok hn e _ h.2⟩
  | pay e => exact Ex.nm_ok hn e _ h
  | ite t y n => exact Ts.nm_ok hn t _ h.1
  | _ => trivial
mutual
theorem St.rws_ok {ns : List Str} : ∀ (s : St) (n : Nat) (d p : Int), s.ok ns n → ∀ r ∈ s.rws d p, ∃ m, r.2.2.ok ns m
  | .set _ _, n, _, _, h, r, hr => by rw [List.mem_singleton.mp hr]; exact ⟨n, h⟩
  | .pay _, n, _, _, h, r, hr => by rw [List.mem_singleton.mp hr]; exact ⟨n, h⟩
  | .stop, n, _, _, h, r, hr => by rw [List.mem_singleton.mp hr]; exact ⟨n, h⟩
  | .ite t y z, n, d, p, h, r, hr => by
    rcases List.mem_cons.1 hr with rfl | hr
    · exact ⟨n, h⟩
    · rcases List.mem_append.1 hr with hr | hr
      · exact Bk.rws_ok y n _ _ h.2.1 r hr
      · exact Bk.rws_ok z n _ _ h.2.2 r hr
  | .rep k y, n, d, p, h, r, hr => by
    rcases List.mem_cons.1 hr with rfl | hr
    · exact ⟨n, h⟩
    · exact Bk.rws_ok y n _ _ h.2.2 r hr
theorem Bk.rws_ok {ns : List Str} : ∀ (b : Bk) (n : Nat) (d p : Int), b.ok ns n → ∀ r ∈ b.rws d p, ∃ m, r.2.2.ok ns m
  | .nil, _, _, _, _, r, hr => by cases hr
  | .cons s b, n, d, p, h, r, hr => by
    rcases List.mem_append.1 hr with hr | hr
    · exact St.rws_ok s _ d p h.2.1 r hr
    · exact Bk.rws_ok b n d _ h.2.2 r hr
end
theorem Bk.fac_ok {ns : List Str} : ∀ (d : Nat) (b : Bk), b.ok ns d → b.sz < 16777216 → b.fac (d + 1)
  | d, b, ho, hz => by
    have hb := bk_le b
    refine ⟨by omega, fun s hs => ?_⟩
    obtain ⟨h1, h2⟩ := Bk.ok_mem ho hs
    have zs : s.sz ≤ b.sz := by rw [b.sz_lst]; exact sum_mem_le (List.mem_map_of_mem hs)
    have tm : -1000000 ≤ s.times ∧ s.times ≤ 1000000 := by
      cases s with
      | rep k y => obtain ⟨a, c, _⟩ := h2; simp only [St.times]; omega
      | _ => simp [St.times]
    refine ⟨tm.1, tm.2, fun y hy => ?_⟩
    obtain ⟨m, rfl⟩ : ∃ m, d = m + 1 := ⟨d - 1, by omega⟩
    have zy : y.sz ≤ s.sz := by rw [s.sz_blks]; have := sum_mem_le (List.mem_map_of_mem (f := Bk.sz) hy); omega
    have yo : y.ok ns m := by
      cases s with
      | ite t a b =>
        simp only [St.blks, List.mem_cons, List.not_mem_nil, or_false] at hy
        rcases hy with rfl | rfl
        · exact h2.2.1
        · exact h2.2.2
      | rep k a =>
        simp only [St.blks, List.mem_cons, List.not_mem_nil, or_false] at hy
        subst hy
        exact h2.2.2
      | _ => simp [St.blks] at hy
    exact Bk.fac_ok m y yo (by omega)
/-- what program_error and run may be asked about -/
def Vd (b : Bk) : Prop := ∃ ns, b.ok ns 4 ∧ (∀ z ∈ ns, NmOk z) ∧ b.sz ≤ 1000 ∧ b.wt ≤ 1000
theorem Vd.nm {b : Bk} (h : Vd b) : ∀ r ∈ b.rws 0 0, r.2.2.nm := fun r hr => by
  obtain ⟨ns, ho, hn, _⟩ := h
  obtain ⟨m, hm⟩ := Bk.rws_ok b 4 0 0 ho r hr
  exact St.nm_ok hn _ m hm
theorem Vd.fac {b : Bk} (h : Vd b) : b.fac 5 := by
  obtain ⟨ns, ho, hn, hz, _⟩ := h
  exact Bk.fac_ok 4 b ho (by omega)
def totB (b : Bk) (x : Int) : Int := (b.run 0 (Wd.at x)).1.tot
def spAlike (Pw Pt : Addr) : Sp := fun vs H Q _ => ∃ (a c : Addr) (cs : List Int) (k : Int) (v u : V) (b b' : Bk), vs = [.ref a, v, u] ∧ Dk H a c cs k ∧ Tp H v (.tuple b.ds) ∧ Tp H u (.tuple b'.ds) ∧ Vd b ∧ Vd b' ∧ b.wt ≤ 30 ∧ (∀ x, totB b' x = totB b x) ∧ LamX.Tabs (TL Pw Pt) H ∧ k + 16 ≤ KB ∧
  ∀ H' cs' k', Sx [a, c, Pw, Pt] H H' → Dk H' a c cs' k' → k ≤ k' → k' ≤ k + 16 → LamX.Tabs (TL Pw Pt) H' → Q (.bl true) H'
section
variable {w : World} {P : Program} {K : PySem.W.Frag} {mg : Str → Option Value} {base : Heap}
theorem ok_alike {f fE fN fR fS : Addr} {fd fdE fdN fdR fdS : FuncData} {Pw Pt : Addr} (F_alike : Fun K "_law_alike" "_law_alike" sAlike f fd) (F_pprogram_error : Fun K "program_error" "program_error" sPProgramError fE fdE) (F_number : Fun K "_law_number" "_law_number" sNumber fN fdN) (F_prun : Fun K "run" "run" sPRun fR fdR) (F_psign : Fun K "sign" "sign" sPSign fS fdS)
    (G_pprogram_error : FnOk P w K mg base CX0 17 fE fdE ["value"] (spPE Pw Pt 5)) (G_number : FnOk P w K mg base CX0 3 fN fdN ["_law_deck_here"] spNumber) (G_prun : FnOk P w K mg base CX0 10 fR fdR ["program", "number"] spRunA) (G_psign : FnOk P w K mg base CX0 11 fS fdS ["program", "number"] spSignA)
    (b_pprogram_error : Binds K fdE ["value"] []) (b_number : Binds K fdN ["_law_deck_here"] []) (b_prun : Binds K fdR ["program", "number"] []) (b_psign : Binds K fdS ["program", "number"] [])
    (m_pprogram_error : mg "program_error" = some (.ref fE)) (m_number : mg "_law_number" = some (.ref fN)) (m_prun : mg "run" = some (.ref fR)) (m_psign : mg "sign" = some (.ref fS)) (z_repr : mg "repr" = none) (z_range : mg "range" = none) :
    FnG P w K mg base 18 f fd ["_law_deck_here", "_law_one_here", "_law_other_here"] (spAlike Pw Pt) := by
  refine Fun.okG F_alike scAlike (fun vs H Q E h => ?_) (fun cdv A outer s H vs Q E hr hgd h => ?_)
  · obtain ⟨_, _, _, _, _, _, _, _, rfl, _⟩ := h
    rfl
  · obtain ⟨a, c, cs, k, v, u, b, b', rfl, DK, tv, tu, vb, vb', hw, ht, hT, hk, q⟩ := h
    have hu := hr.units
    refine ⟨_, (pss_cons (ps_if (pt_cmpR op_notN (pe_call G_pprogram_error (hr.mono (by omega)) (by rfl) m_pprogram_error F_pprogram_error.kp b_pprogram_error .nil pass0 (pa_cons (pv 2) pa_nil)) pe_non (nomark _)) (pss_one (ps_ret pe_bl)) pss_nil)
      (C8.pss_cut (ps_for PassesOwn.never rfl (pi_list (pe_lc (own := [("_law_k", 5)]) (g := gName 5) (tt := tYes) rfl scAlike.nd (pi_range1 (by rfl) z_range (pa_cons pe_int pa_nil)) (blkOk_by (N := nAlike) (sc := defScope sAlike) (by decide +kernel)) (fun _ _ _ _ _ => (pg_name (i := 5) scAlike.nd rfl (by first | exact Or.inl rfl | exact Or.inr rfl))) (fun _ _ _ _ _ => pts_nil) (fun _ _ _ _ _ => (pe_call G_number (hr.mono (by omega)) (by rfl) m_number F_number.kp b_number .nil pass0 (pa_cons (pv 0) pa_nil))))) (pg_name (i := 3) scAlike.nd rfl (by first | exact Or.inl rfl | exact Or.inr rfl)) (pss_cons (ps_set (i := 4) scAlike.nd rfl (by first | exact Or.inl rfl | exact Or.inr rfl) (pe_lst (pa_cons (pe_ix ix_tup (pe_call G_prun (hr.mono (by omega)) (by rfl) m_prun F_prun.kp b_prun .nil pass0 (pa_cons (pv 1) (pa_cons (pv 3) pa_nil))) pe_int (fun _ _ => rfl)) (pa_cons (pe_call G_psign (hr.mono (by omega)) (by rfl) m_psign F_psign.kp b_psign .nil pass0 (pa_cons (pv 1) (pa_cons (pv 3) pa_nil))) pa_nil))))
      (pss_one (ps_if (pt_cmpR op_ne (pe_callB (call_reprA hgd hu) (by rfl) z_repr boot_repr (pa_cons (pe_lst (pa_cons (pe_ix ix_tup (pe_call G_prun (hr.mono (by omega)) (by rfl) m_prun F_prun.kp b_prun .nil pass0 (pa_cons (pv 2) (pa_cons (pv 3) pa_nil))) pe_int (fun _ _ => rfl)) (pa_cons (pe_call G_psign (hr.mono (by omega)) (by rfl) m_psign F_psign.kp b_psign .nil pass0 (pa_cons (pv 2) (pa_cons (pv 3) pa_nil))) pa_nil))) pa_nil)) (pe_callB (call_reprA hgd hu) (by rfl) z_repr boot_repr (pa_cons (pv 4) pa_nil)) (nomark _)) (pss_one (ps_ret pe_bl)) pss_nil))))
      (pss_one (ps_ret pe_bl)))),
      ?_⟩
    have z' := vb'
    obtain ⟨ns', bo', _, bz', bw'⟩ := z'
    have z := vb
    obtain ⟨ns, bo, _, bz, bw⟩ := z
    refine ⟨_, rfl, u, b', rfl, tu, vb'.nm, vb'.fac, by omega, hT, fun H1 r s1 hT1 t1 => ?_⟩
    have D1 := deck_tabs DK hT s1
    have kk : Tk H H1 := tabs_tk hT s1
    have tv := tv.keep kk
    have tu := tu.keep kk
    have s1 : Sx [a, c, Pw, Pt] H H1 := s1.mono (fun z hz => by simp only [List.not_mem_nil, List.mem_cons, or_false] at hz ⊢; rcases hz with hz | hz <;> simp [hz])
    refine ⟨rfl, _, rfl, ite2 (fun _ => q H1 cs k s1 D1 (by omega) (by omega) hT1) (fun _ => ?_)⟩
    clear t1 kk
    have pP : ∀ z, z ∈ [a, c] → z ∈ [a, c, Pw, Pt] := fun z hz => by simp only [List.not_mem_nil, List.mem_cons, or_false] at hz ⊢; rcases hz with hz | hz <;> simp [hz]
    refine ⟨fun σ H' => ∃ cs' k', Sx [a, c, Pw, Pt] H H' ∧ Dk H' a c cs' k' ∧ k ≤ k' ∧ k' ≤ k + 16 ∧ LamX.Tabs (TL Pw Pt) H', ?_, ?_⟩
    · refine ⟨4, rfl, by decide, by decide, fun L hL => lc_range (lo := 0) (n := (4 : Int).toNat) (fun i H' => Sx [a, c] H1 H' ∧ ∃ (cs' : List Int) (k' : Int) (nums : List Int), Dk H' a c cs' k' ∧ k ≤ k' ∧ k' ≤ k + (i : Int) * 4 ∧ H' L = some (.lst (nums.map V.int)) ∧ nums.length = i ∧ ∀ x ∈ nums, -1000000000000000000000000000000000000000000000000000000000000 ≤ x ∧ x ≤ 1000000000000000000000000000000000000000000000000000000000000)
        ⟨(Sx.n0 hL).nil, cs, k, [], D1.new hL, by omega, by omega, upd_same, rfl, fun x hx => by cases hx⟩ (fun i H2 hi z => ?_) (fun H2 z => ?_)⟩
      · obtain ⟨s2, cs2, k2, nums, D2, k2a, k2b, e2, nl, nb⟩ := z
        have hi : i < 4 := hi
        obtain ⟨La, Lc⟩ := D1.nw hL
        refine gnm ⟨rfl, gYes (iteT ?_)⟩
        refine ⟨_, rfl, a, c, cs2, k2, rfl, D2, by omega, fun H3 cs3 k3 x s3 D3 k3a k3b x0 x1 => ?_⟩
        have e3 := s3 _ _ (by simp [La, Lc]) e2
        refine ⟨_, e3, lt_line (by rw [List.length_map]; omega), (s2.trans s3).own hL, cs3, k3, nums ++ [x], D3.sx ((Sx.refl (ex := [L]) _).put (by simp)) (by simp [La.symm]) (by simp [Lc.symm]), by omega, by omega, by rw [upd_same, List.map_append]; rfl, by rw [List.length_append, nl]; rfl, fun y hy => ?_⟩
        rcases List.mem_append.1 hy with hy | hy
        · exact nb y hy
        · rw [List.mem_singleton.mp hy]; exact ⟨x0, x1⟩
      · obtain ⟨s2, cs2, k2, nums, D2, k2a, k2b, e2, nl, nb⟩ := z
        have nl : nums.length = 4 := nl
        have tv := tv.keep (D1.tk s2)
        have tu := tu.keep (D1.tk s2)
        have hT2 := tabs_deck D1 hT1 s2
        have s12 := s1.trans (s2.mono pP)
        clear D1 hT1 s1 s2
        refine ⟨L, rfl, ⟨_, SqL.of e2⟩, for_list (xs := nums.map V.int) (fun j σ' H' => ∃ o3 o4 o5, σ' = [some (.ref a), some v, some u, o3, o4, o5] ∧ Sx [] H2 H')
          ⟨_, _, _, rfl, Sx.refl _⟩ (fun j σ' H' _ h => by obtain ⟨_, _, _, _, h⟩ := h; exact SqL.of (h _ _ (by simp) e2)) (fun j x σ' H' hx h => ?_) (fun σ' H' h => ?_)⟩
        · obtain ⟨o3, o4, o5, rfl, s3⟩ := h
          rw [List.getElem?_map] at hx
          obtain ⟨n, hn, rfl⟩ := Option.map_eq_some_iff.mp hx
          obtain ⟨n0, n1⟩ := nb n (List.mem_of_getElem? hn)
          have tv := tv.keep s3.tk0
          have tu := tu.keep s3.tk0
          have zt := Bk.tot_shw (x := n) bo hw n0 n1 0
          have zs := sgn_shw (totB b n) 0
          have zz : Shw 1 500 (.list [.int (totB b n), .int (sgn (totB b n))]) := (Shw.lst (.cons zt (.cons zs (.nil 0 0)))).mono (by omega) (by omega)
          refine gnm ?_
          refine ⟨_, rfl, _, rfl, ns, v, b, n, rfl, tv, bo, by omega, by omega, fun H4 r4 s4 t4 => ?_⟩
          obtain ⟨a4, y4, z4, rfl, h4, u4, _⟩ := tp2 t4
          obtain rfl := tpI u4
          refine ⟨a4, _, _, _, rfl, rfl, SqT.of h4, rfl, ?_⟩
          refine ⟨_, rfl, _, rfl, ns, v, b, n, rfl, tv.keep s4.tk0, bo, by omega, by omega, fun H5 s5 => ⟨by show 2 ≤ sizeLine; decide, fun p hp => ?_⟩⟩
          have e6 : (upd H5 p (.lst [.int (totB b n), .int (sgn (totB b n))])) p = some (.lst [.int (totB b n), .int (sgn (totB b n))]) := upd_same
          have s6 : Sx [] H' (upd H5 p (.lst [.int (totB b n), .int (sgn (totB b n))])) := (s4.trans s5).new hp
          change gName 4 _ _ (upd H5 p (.lst [.int (totB b n), .int (sgn (totB b n))])) _
          generalize upd H5 p (.lst [.int (totB b n), .int (sgn (totB b n))]) = H6 at e6 s6 ⊢
          refine gnm ?_
          refine ⟨_, rfl, _, rfl, ns', u, b', n, rfl, tu.keep s6.tk0, bo', by omega, by omega, fun H7 r7 s7 t7 => ?_⟩
          obtain ⟨a7, y7, z7, rfl, h7, u7, _⟩ := tp2 t7
          obtain rfl := tpI u7
          refine ⟨a7, _, _, _, rfl, rfl, SqT.of h7, rfl, ?_⟩
          refine ⟨_, rfl, _, rfl, ns', u, b', n, rfl, (tu.keep s6.tk0).keep s7.tk0, bo', by omega, by omega, fun H8 s8 => ⟨by show 2 ≤ sizeLine; decide, fun p8 hp8 => ?_⟩⟩
          have et : (b'.run 0 (Wd.at n)).1.tot = totB b n := ht n
          rw [et]
          refine ⟨_, _, rfl, RpA.of (d := .list [.int (totB b n), .int (sgn (totB b n))]) (.lst (SqL.of upd_same) (.cons (.int _) (.cons (.int _) .nil))) zz (by decide) (by decide), ?_⟩
          refine ⟨_, rfl, _, _, rfl, RpA.of (d := .list [.int (totB b n), .int (sgn (totB b n))]) (.lst (SqL.of ((s7.trans (s8.new hp8)) _ _ (by simp) e6)) (.cons (.int _) (.cons (.int _) .nil))) zz (by decide) (by decide), ?_⟩
          refine ⟨rfl, _, rfl, iteNS rfl ?_⟩
          exact ⟨_, _, _, rfl, ((s3.trans s6).trans s7).trans (s8.new hp8)⟩
        · obtain ⟨o3, o4, o5, rfl, s3⟩ := h
          exact ⟨cs2, k2, s12.trans s3.nil, D2.same s3, by omega, by omega, Tabs.sx hT2 s3⟩
    · rintro σ H7 ⟨cs', k', s7, D7, k7a, k7b, hT7⟩
      exact q H7 cs' k' s7 D7 k7a k7b hT7
end
/-! ### programs within all bounds -/
theorem Ex.okB_ok {ns : List Str} : ∀ (e : Ex) (n : Nat), e.ok ns n → e.okB n = true
  | .int i, n, ⟨h1, h2, h3⟩ => by
    rw [Ex.okB, decide_eq_true (show 0 < n by omega), decide_eq_true h2, decide_eq_true h3]; rfl
  | .name z, n, ⟨h1, _⟩ => by rw [Ex.okB, decide_eq_true (show 0 < n by omega)]
  | .plus x y, n, ⟨h1, h2, h3⟩ => by rw [Ex.okB, decide_eq_true (show 0 < n by omega), Ex.okB_ok x _ h2, Ex.okB_ok y _ h3]; rfl
  | .minus x y, n, ⟨h1, h2, h3⟩ => by rw [Ex.okB, decide_eq_true (show 0 < n by omega), Ex.okB_ok x _ h2, Ex.okB_ok y _ h3]; rfl
  | .times f x, n, ⟨h1, h2, h3, h4⟩ => by rw [Ex.okB, decide_eq_true (show 0 < n by omega), decide_eq_true h2, decide_eq_true h3, Ex.okB_ok x _ h4]; rfl
theorem Ts.okB_ok {ns : List Str} : ∀ (t : Ts) (n : Nat), t.ok ns n → t.okB n = true
  | .rest x b r, n, ⟨h1, h2, h3, h4, h5⟩ => by rw [Ts.okB, decide_eq_true h2, decide_eq_true h3, Ex.okB_ok x 3 h1, decide_eq_true h4, decide_eq_true (show r ≤ b - 1 by omega)]; rfl
  | .less x y, n, ⟨h1, h2⟩ => by rw [Ts.okB, Ex.okB_ok x 3 h1, Ex.okB_ok y 3 h2]; rfl
  | .not t, n, ⟨h1, h2⟩ => by rw [Ts.okB, decide_eq_true (show 0 < n by omega), Ts.okB_ok t _ h2]; rfl
theorem St.okB_ok {ns : List Str} (s : St) (d : Nat) (h : s.ok ns d) : s.okB = true := by
  cases s with
  | set z e => exact Ex.okB_ok e 3 h.2
  | pay e => exact Ex.okB_ok e 3 h
  | stop => rfl
  | ite t y n => exact Ts.okB_ok t 2 h.1
  | rep k y => rw [St.okB, decide_eq_true h.1, decide_eq_true h.2.1]; rfl
mutual
theorem St.rws_dp {ns : List Str} : ∀ (s : St) (n : Nat) (d p : Int), s.ok ns n → ∀ r ∈ s.rws d p, r.2.1 ≤ d + n
  | .set _ _, n, d, _, _, r, hr => by rw [List.mem_singleton.mp hr]; show d ≤ d + n; omega
  | .pay _, n, d, _, _, r, hr => by rw [List.mem_singleton.mp hr]; show d ≤ d + n; omega
  | .stop, n, d, _, _, r, hr => by rw [List.mem_singleton.mp hr]; show d ≤ d + n; omega
  | .ite t y z, n, d, p, h, r, hr => by
    rcases List.mem_cons.1 hr with rfl | hr
    · show d ≤ d + n; omega
    · rcases List.mem_append.1 hr with hr | hr
      · have := Bk.rws_dp y n _ _ h.2.1 r hr; omega
      · have := Bk.rws_dp z n _ _ h.2.2 r hr; omega
  | .rep k y, n, d, p, h, r, hr => by
    rcases List.mem_cons.1 hr with rfl | hr
    · show d ≤ d + n; omega
    · have := Bk.rws_dp y n _ _ h.2.2 r hr; omega
theorem Bk.rws_dp {ns : List Str} : ∀ (b : Bk) (n : Nat) (d p : Int), b.ok ns n → ∀ r ∈ b.rws d p, r.2.1 ≤ d + n - 1
  | .nil, _, _, _, _, r, hr => by cases hr
  | .cons s b, n, d, p, h, r, hr => by
    have h1 := h.1
    rcases List.mem_append.1 hr with hr | hr
    · have := St.rws_dp s _ d p h.2.1 r hr; omega
    · exact Bk.rws_dp b n d _ h.2.2 r hr
end
mutual
theorem St.sum_wt {ns : List Str} : ∀ (s : St) (n : Nat), s.ok ns n → s.sumO (fun _ => 1) = (s.wt : Int)
  | .set _ _, _, _ => rfl
  | .pay _, _, _ => rfl
  | .stop, _, _ => rfl
  | .ite t y z, n, h => by rw [St.sumO, St.wt, Bk.sum_wt y n h.2.1, Bk.sum_wt z n h.2.2]; omega
  | .rep k y, n, h => by
    rw [St.sumO, St.wt, Bk.sum_wt y n h.2.2, Int.natCast_add, Int.natCast_mul, Int.toNat_of_nonneg (by have := h.1; omega)]; rfl
theorem Bk.sum_wt {ns : List Str} : ∀ (b : Bk) (n : Nat), b.ok ns n → b.sumO (fun _ => 1) = (b.wt : Int)
  | .nil, _, _ => rfl
  | .cons s b, n, h => by rw [Bk.sumO, Bk.wt, St.sum_wt s _ h.2.1, Bk.sum_wt b n h.2.2]; omega
end
theorem Ts.bare_hd : ∀ t : Ts, t.bare.hd = if t.isR = true then "rest" else "less"
  | .rest _ _ _ => rfl
  | .less _ _ => rfl
  | .not t => by rw [Ts.bare, Ts.isR]; exact Ts.bare_hd t
theorem own_q (q : Bool) (t : Ts) (y n : Bk) : ownT (if q = true then "rest" else "less") (.ite t y n) = if t.isR = q then 1 else 0 := by
  have h1 : ¬ (V.str "less" = V.str "rest") := by decide +kernel
  have h2 : ¬ (V.str "rest" = V.str "less") := by decide +kernel
  unfold ownT
  rw [St.tw, Ts.bare_hd]
  cases t.isR <;> cases q <;> simp [h1, h2]
mutual
theorem St.sum_tn {ns : List Str} (q : Bool) : ∀ (s : St) (n : Nat), s.ok ns n → s.sumO (ownT (if q = true then "rest" else "less")) = (s.tn q : Int)
  | .set _ _, _, _ => rfl
  | .pay _, _, _ => rfl
  | .stop, _, _ => rfl
  | .ite t y z, n, h => by
    rw [St.sumO, St.tn, Bk.sum_tn q y n h.2.1, Bk.sum_tn q z n h.2.2, own_q]
    split <;> omega
  | .rep k y, n, h => by
    rw [St.sumO, St.tn, Bk.sum_tn q y n h.2.2, Int.natCast_mul, Int.toNat_of_nonneg (by have := h.1; omega)]
    show 0 + _ = _
    omega
theorem Bk.sum_tn {ns : List Str} (q : Bool) : ∀ (b : Bk) (n : Nat), b.ok ns n → b.sumO (ownT (if q = true then "rest" else "less")) = (b.tn q : Int)
  | .nil, _, _ => rfl
  | .cons s b, n, h => by rw [Bk.sumO, Bk.tn, St.sum_tn q s _ h.2.1, Bk.sum_tn q b n h.2.2]; omega
end
theorem perrL_all {e : PyData} : ∀ {l : List Rw}, (∀ r ∈ l, r.2.1 ≤ 3 ∧ r.2.2.okB = true) → perrL l e = e
  | [], _ => rfl
  | (p, d, s) :: l, h => by
    obtain ⟨h1, h2⟩ := h (p, d, s) (List.mem_cons_self ..)
    have h1 : d ≤ 3 := h1
    have h2 : s.okB = true := h2
    rw [perrL, if_neg (by omega), if_neg (by rw [h2]; decide)]
    exact perrL_all fun r hr => h r (List.mem_cons_of_mem _ hr)
theorem Bk.perr_no {ns : List Str} {b : Bk} (ho : b.ok ns 4) (h1 : b.sz ≤ 24) (h2 : b.wt ≤ 30) (h3 : b.tn true ≤ 2) (h4 : b.tn false ≤ 2) : b.perr = .none := by
  unfold Bk.perr
  rw [perrL_all fun r hr => ⟨by have := Bk.rws_dp b 4 0 0 ho r hr; omega, by obtain ⟨m, hm⟩ := Bk.rws_ok b 4 0 0 ho r hr; exact St.okB_ok _ m hm⟩]
  have w := Bk.sum_wt b 4 ho
  have r := Bk.sum_tn true b 4 ho
  have l := Bk.sum_tn false b 4 ho
  rw [if_pos rfl] at r
  rw [if_neg (by decide)] at l
  unfold Bk.bnd
  rw [if_neg (by omega), if_neg (by omega), if_neg (by omega), if_neg (by omega)]
theorem Ts.ren_isR {f : Str → Str} : ∀ t : Ts, (t.ren f).isR = t.isR
  | .rest _ _ _ => rfl
  | .less _ _ => rfl
  | .not t => by rw [Ts.ren, Ts.isR, Ts.isR, Ts.ren_isR t]
mutual
theorem St.ren_tn {f : Str → Str} (q : Bool) : ∀ s : St, (s.ren f).tn q = s.tn q
  | .set _ _ => rfl
  | .pay _ => rfl
  | .stop => rfl
  | .ite t y n => by rw [St.ren, St.tn, St.tn, Bk.ren_tn q y, Bk.ren_tn q n, Ts.ren_isR t]
  | .rep k y => by rw [St.ren, St.tn, St.tn, Bk.ren_tn q y]
theorem Bk.ren_tn {f : Str → Str} (q : Bool) : ∀ b : Bk, (b.ren f).tn q = b.tn q
  | .nil => rfl
  | .cons s b => by rw [Bk.ren, Bk.tn, Bk.tn, St.ren_tn q s, Bk.ren_tn q b]
end
/-! ### the versions -/
theorem St.ok_ns {ns ms : List Str} (h : ∀ z ∈ ns, z ∈ ms) (s : St) (d : Nat) (ho : s.ok ns d) : s.ok ms d := by
  have z := St.ren_ok (f := id) h s d ho
  rw [St.ren_id] at z
  exact z
structure Vn (b : Bk) (l : List St) : Prop where
  vd : Vd (Bk.ofL l)
  tot : ∀ x, totB (Bk.ofL l) x = totB b x
theorem sp_nm : NmOk "spare1" := nmOk_of (by decide +kernel)
theorem nm_cons {ns : List Str} (h : ∀ z ∈ ns, NmOk z) : ∀ z ∈ ("spare1" : Str) :: ns, NmOk z := fun z hz => by
  rcases List.mem_cons.1 hz with rfl | hz
  · exact sp_nm
  · exact h z hz
theorem vd_of {ns : List Str} {l : List St} (hn : ∀ z ∈ ns, NmOk z) (h : ∀ s ∈ l, s.ok ns 3) (h1 : ssz l ≤ 1000) (h2 : swt l ≤ 1000) : Vd (Bk.ofL l) := ⟨ns, Bk.ofL_ok h, hn, by rw [ofL_ssz]; exact h1, by rw [ofL_swt]; exact h2⟩
theorem lst_ok {ns : List Str} {b : Bk} (h : b.ok ns 4) : ∀ s ∈ b.lst, s.ok ns 3 := fun s hs => (Bk.ok_mem h hs).2
theorem lst_ssz (b : Bk) : ssz b.lst = b.sz := by rw [← ofL_ssz, ofL_of]
theorem lst_swt (b : Bk) : swt b.lst = b.wt := by rw [← ofL_swt, ofL_of]
theorem ssz_repl (s : St) : ∀ n : Nat, ssz (List.replicate n s) = n * s.sz
  | 0 => by simp [ssz]
  | n + 1 => by
    have := ssz_repl s n
    unfold ssz at this ⊢
    rw [List.replicate_succ, List.map_cons, List.sum_cons, this, Nat.succ_mul, Nat.add_comm]
theorem swt_repl (s : St) : ∀ n : Nat, swt (List.replicate n s) = n * s.wt
  | 0 => by simp [swt]
  | n + 1 => by
    have := swt_repl s n
    unfold swt at this ⊢
    rw [List.replicate_succ, List.map_cons, List.sum_cons, this, Nat.succ_mul, Nat.add_comm]
theorem Vn.other {ns : List Str} {b : Bk} (ho : b.ok ns 4) (hn : ∀ z ∈ ns, NmOk z) (hw : b.wt ≤ 30) (lg : Bool) : Vn b (b.oth lg) := by
  have z := Bk.oth_le lg b 4 ho
  refine ⟨vd_of hn (fun s hs => (Bk.oth_ok lg b 4 ho s hs).2) (by omega) (by omega), fun x => ?_⟩
  exact (Bk.run_oth lg b 4 0 0 (Wd.at x) (Wd.at x) ho ⟨rfl, rfl⟩).1.2
theorem Vn.put {ns : List Str} {b : Bk} {l : List St} (hl : ∀ s ∈ l, s.ok ns 3) (hn : ∀ z ∈ ns, NmOk z) (hnn : ("n" : Str) ∈ ns) (hs : ("spare1" : Str) ∉ ns) (h1 : ssz l ≤ 100) (h2 : swt l ≤ 100) (ht : ∀ x, totB (Bk.ofL l) x = totB b x) {n i : Nat} {x : St} (h3 : n ≤ 1) (hx : x ∈ moreL) :
    Vn b (List.replicate n setN ++ (l.take i ++ ([x] ++ l.drop i))) := by
  have z := moreL_le hx
  have q1 : ssz (l.take i) + ssz (l.drop i) = ssz l := by rw [← ssz_append, List.take_append_drop]
  have q2 : swt (l.take i) + swt (l.drop i) = swt l := by rw [← swt_append, List.take_append_drop]
  have x1 : ssz [x] = x.sz := by simp [ssz]
  have x2 : swt [x] = x.wt := by simp [swt]
  have r1 : ssz (List.replicate n setN) ≤ 1 := by rw [ssz_repl]; show n * 1 ≤ 1; omega
  have r2 : swt (List.replicate n setN) ≤ 1 := by rw [swt_repl]; show n * 1 ≤ 1; omega
  refine ⟨vd_of (nm_cons hn) (fun s hs => ?_) (by rw [ssz_append, ssz_append, ssz_append]; omega) (by rw [swt_append, swt_append, swt_append]; omega), fun v => ?_⟩
  · rcases List.mem_append.1 hs with hs | hs
    · rw [(List.mem_replicate.mp hs).2]
      exact ⟨List.mem_cons_of_mem _ hnn, by decide, List.mem_cons_of_mem _ hnn⟩
    · rcases List.mem_append.1 hs with hs | hs
      · exact St.ok_ns (fun z hz => List.mem_cons_of_mem _ hz) s 3 (hl s (List.mem_of_mem_take hs))
      · rcases List.mem_append.1 hs with hs | hs
        · rw [List.mem_singleton.mp hs]; exact moreL_ok hnn hx
        · exact St.ok_ns (fun z hz => List.mem_cons_of_mem _ hz) s 3 (hl s (List.mem_of_mem_drop hs))
  · have w := more_tot hl hs n i hx v
    exact w.trans (ht v)
theorem Vn.ahead {f : Str → Str} {ns ms : List Str} {b : Bk} (inj : ∀ x ∈ ns, ∀ y ∈ ns, f x = f y → x = y) (hb : b.ok ns 4) (hf : ∀ z ∈ ns, f z ∈ ms) (hm : ∀ z ∈ ms, NmOk z) (hmn : ("n" : Str) ∈ ms) (h0 : ∀ (v : Int), ∀ z ∈ ns, (Wd.at v).en (f z) = (Wd.at v).en z) (hs : ∀ z ∈ ns, f z ≠ "spare1") {y : Str} (hy : y ≠ "n") (hym : y ∈ ms)
    (h1 : b.sz ≤ 100) (h2 : b.wt ≤ 100) {a c : Nat} (ha : a ≤ 1) (hc : c ≤ 1) : Vn b (List.replicate a (.set "spare1" (.plus (.name "n") (.int 5))) ++ List.replicate c (.set y (.int 0)) ++ (b.ren f).lst) := by
  have rz := Bk.ren_sz (f := f) b
  have r1 : ssz (List.replicate a (.set "spare1" (.plus (.name "n") (.int 5)))) ≤ 1 := by rw [ssz_repl]; show a * 1 ≤ 1; omega
  have r2 : swt (List.replicate a (.set "spare1" (.plus (.name "n") (.int 5)))) ≤ 1 := by rw [swt_repl]; show a * 1 ≤ 1; omega
  have c1 : ssz (List.replicate c (.set y (.int 0))) ≤ 1 := by rw [ssz_repl]; show c * 1 ≤ 1; omega
  have c2 : swt (List.replicate c (.set y (.int 0))) ≤ 1 := by rw [swt_repl]; show c * 1 ≤ 1; omega
  refine ⟨vd_of (nm_cons hm) (fun s hs => ?_) (by rw [ssz_append, ssz_append, lst_ssz]; omega) (by rw [swt_append, swt_append, lst_swt]; omega), fun v => ?_⟩
  · rcases List.mem_append.1 hs with hs | hs
    · rcases List.mem_append.1 hs with hs | hs
      · rw [(List.mem_replicate.mp hs).2]
        exact ⟨List.mem_cons_self .., by decide, ⟨by decide, List.mem_cons_of_mem _ hmn⟩, by decide, by decide, by decide⟩
      · rw [(List.mem_replicate.mp hs).2]
        exact ⟨List.mem_cons_of_mem _ hym, by decide, by decide, by decide⟩
    · exact St.ok_ns (fun z hz => List.mem_cons_of_mem _ hz) s 3 (lst_ok (Bk.ren_ok hf b 4 hb) s hs)
  · exact ahead_tot inj hb v (h0 v) hs hy a c
theorem told_ren {f : Str → Str} {ns : List Str} {b : Bk} (inj : ∀ x ∈ ns, ∀ y ∈ ns, f x = f y → x = y) (hb : b.ok ns 4) (h0 : ∀ (v : Int), ∀ z ∈ ns, (Wd.at v).en (f z) = (Wd.at v).en z) (v : Int) : (b.ren f).told v = b.told v := by
  obtain ⟨⟨_, h1, h2⟩, _⟩ := Bk.run_ren (q := true) inj b 4 0 0 (Wd.at v) (Wd.at v) hb (fun _ => rfl) ⟨h0 v, rfl, fun _ => rfl⟩
  unfold Bk.told
  rw [h1, h2 rfl]
abbrev sPLaw : Stmt := topS 61
abbrev nPLaw : List Str := ["_law_script", "_law_deck_here", "_law_turn", "_law_own", "_law_others", "_law_program_here", "_law_later", "_law_ahead", "_law_number_here", "_law_other_here", "_law_version", "_law_k"]
theorem scPLaw : FnScope nPLaw ["_law_script"] (defScope sPLaw) := ⟨rfl, rfl, rfl, by decide +kernel, rfl, by decide +kernel, by decide +kernel⟩
def spLawT (K : PySem.W.Frag) (Pw Pt : Addr) : Sp := fun vs H Q _ => ∃ (a : Addr) (ns : List Int), vs = [.ref a] ∧ SqL K H a (ns.map V.int) ∧ ns.length ≤ 63 ∧ LamX.Tabs (TL Pw Pt) H ∧ ∀ H', Q (.bl true) H'
theorem ix_listK {X : Cx} {K : PySem.W.Frag} (h : X.K = K) : IxR X (rIxL K) := h ▸ ix_list
/-- the new names -/
def fN (xs ys : List Str) (z : Str) : Str := match xs, ys with
  | [x1, x2, x3], [y1, y2, y3] => if z = x1 then y3 else if z = x2 then y2 else if z = x3 then y1 else z
  | _, _ => z
theorem nm3_three {ws : List Str} (h : Nm3 ws) : ∃ x y z, ws = [x, y, z] ∧ x ≠ "n" ∧ y ≠ "n" ∧ z ≠ "n" ∧ x ≠ y ∧ x ≠ z ∧ y ≠ z ∧ x ≠ "spare1" ∧ y ≠ "spare1" ∧ z ≠ "spare1" := by
  obtain ⟨hl, hn, hs⟩ := h
  match ws, hl with
  | [x, y, z], _ =>
    simp only [List.nodup_cons, List.mem_cons, List.not_mem_nil, or_false, not_or, not_false_eq_true, List.nodup_nil, and_true] at hn hs
    exact ⟨x, y, z, rfl, fun e => hn.1.1 e.symm, fun e => hn.1.2.1 e.symm, fun e => hn.1.2.2 e.symm, hn.2.1.1, hn.2.1.2, hn.2.2, fun e => hs.1 e.symm, fun e => hs.2.1 e.symm, fun e => hs.2.2 e.symm⟩
theorem dict3 {x1 x2 x3 : Str} {v1 v2 v3 : V} (h1 : x1 ≠ x2) (h2 : x1 ≠ x3) (h3 : x2 ≠ x3) : mergeK [] [((.inr x1 : Key), v1), (.inr x2, v2), (.inr x3, v3)] = [(.inr x1, v1), (.inr x2, v2), (.inr x3, v3)] := by
  simp [mergeK, putK, h1, h2, h3]
theorem dict3_at {x1 x2 x3 y1 y2 y3 : Str} (h1 : x1 ≠ x2) (h2 : x1 ≠ x3) (h3 : x2 ≠ x3) (z : Str) : (valV [((.inr x1 : Key), V.str y3), (.inr x2, .str y2), (.inr x3, .str y1)] (.inr z)).getD (.str z) = .str (fN [x1, x2, x3] [y1, y2, y3] z) := by
  unfold fN valV
  by_cases e1 : z = x1
  · subst e1; simp
  · by_cases e2 : z = x2
    · subst e2; simp [e1, h1]
    · by_cases e3 : z = x3
      · subst e3; simp [e1, e2, h2, h3]
      · simp [e1, e2, e3, Ne.symm e1, Ne.symm e2, Ne.symm e3]
theorem fN_facts {x1 x2 x3 y1 y2 y3 : Str} (xn1 : x1 ≠ "n") (xn2 : x2 ≠ "n") (xn3 : x3 ≠ "n") (x12 : x1 ≠ x2) (x13 : x1 ≠ x3) (x23 : x2 ≠ x3) (yn1 : y1 ≠ "n") (yn2 : y2 ≠ "n") (yn3 : y3 ≠ "n") (y12 : y1 ≠ y2) (y13 : y1 ≠ y3) (y23 : y2 ≠ y3) (ys1 : y1 ≠ "spare1") (ys2 : y2 ≠ "spare1") (ys3 : y3 ≠ "spare1") :
    (∀ x ∈ [("n" : Str), x1, x2, x3], ∀ y ∈ [("n" : Str), x1, x2, x3], fN [x1, x2, x3] [y1, y2, y3] x = fN [x1, x2, x3] [y1, y2, y3] y → x = y) ∧
    (∀ z ∈ [("n" : Str), x1, x2, x3], fN [x1, x2, x3] [y1, y2, y3] z ∈ [("n" : Str), y1, y2, y3]) ∧
    (∀ z ∈ [("n" : Str), x1, x2, x3], fN [x1, x2, x3] [y1, y2, y3] z ≠ "spare1") ∧
    (∀ (v : Int), ∀ z ∈ [("n" : Str), x1, x2, x3], (Wd.at v).en (fN [x1, x2, x3] [y1, y2, y3] z) = (Wd.at v).en z) := by
  have ns : ("n" : Str) ≠ "spare1" := by decide +kernel
  have f0 : fN [x1, x2, x3] [y1, y2, y3] "n" = "n" := by
    unfold fN
    simp only
    rw [if_neg (Ne.symm xn1), if_neg (Ne.symm xn2), if_neg (Ne.symm xn3)]
  have f1 : fN [x1, x2, x3] [y1, y2, y3] x1 = y3 := by simp [fN]
  have f2 : fN [x1, x2, x3] [y1, y2, y3] x2 = y2 := by simp [fN, Ne.symm x12]
  have f3 : fN [x1, x2, x3] [y1, y2, y3] x3 = y1 := by simp [fN, Ne.symm x13, Ne.symm x23]
  refine ⟨fun x hx y hy e => ?_, fun z hz => ?_, fun z hz => ?_, fun v z hz => ?_⟩
  · simp only [List.not_mem_nil, List.mem_cons, or_false] at hx hy
    rcases hx with rfl | rfl | rfl | rfl <;> rcases hy with rfl | rfl | rfl | rfl <;> (try rfl) <;> (simp only [f0, f1, f2, f3] at e) <;> first
      | exact absurd e yn3 | exact absurd e.symm yn3 | exact absurd e yn2 | exact absurd e.symm yn2 | exact absurd e yn1 | exact absurd e.symm yn1 | exact absurd e y12 | exact absurd e.symm y12 | exact absurd e y13 | exact absurd e.symm y13 | exact absurd e y23 | exact absurd e.symm y23
  · simp only [List.not_mem_nil, List.mem_cons, or_false] at hz ⊢
    rcases hz with rfl | rfl | rfl | rfl
    · rw [f0]; exact .inl rfl
    · rw [f1]; exact .inr (.inr (.inr rfl))
    · rw [f2]; exact .inr (.inr (.inl rfl))
    · rw [f3]; exact .inr (.inl rfl)
  · simp only [List.not_mem_nil, List.mem_cons, or_false] at hz
    rcases hz with rfl | rfl | rfl | rfl
    · rw [f0]; exact ns
    · rw [f1]; exact ys3
    · rw [f2]; exact ys2
    · rw [f3]; exact ys1
  · have en : ∀ z : Str, (Wd.at v).en z = if z = "n" then v else 0 := fun z => rfl
    simp only [List.not_mem_nil, List.mem_cons, or_false] at hz
    rcases hz with rfl | rfl | rfl | rfl
    · rw [f0]
    · rw [f1, en, en, if_neg yn3, if_neg xn1]
    · rw [f2, en, en, if_neg yn2, if_neg xn2]
    · rw [f3, en, en, if_neg yn1, if_neg xn3]
theorem tpNone' {H : Hp} {v : V} (h : Tp H v .none) : v = .non := by cases h; rfl
theorem rep1_len (d : PyData) : ∀ n : Nat, (List.replicate n [d]).flatten.length = n
  | 0 => rfl
  | n + 1 => by rw [List.replicate_succ, List.flatten_cons, List.length_append, rep1_len d n, List.length_singleton, Nat.add_comm]
theorem rep1_map (s : St) : ∀ n : Nat, (List.replicate n s).map St.d = (List.replicate n [s.d]).flatten
  | 0 => rfl
  | n + 1 => by rw [List.replicate_succ, List.replicate_succ, List.flatten_cons, List.map_cons, rep1_map s n]; rfl
theorem paired_imp {α β : Type} {F G : α → β → Prop} (h : ∀ a b, F a b → G a b) : ∀ {as : List α} {bs : List β}, Paired F as bs → Paired G as bs
  | _, _, .nil => .nil
  | _, _, .cons x y => .cons (h _ _ x) (paired_imp h y)
section
variable {w : World} {P : Program} {K : PySem.W.Frag} {mg : Str → Option Value} {base : Heap}
set_option maxHeartbeats 8000001 in
theorem ok_law29 {f fA fB fC fD fE fF fG fH fI fJ fK fL : Addr} {fd fdA fdB fdC fdD fdE fdF fdG fdH fdI fdJ fdK fdL : FuncData} {Pw Pt : Addr} (F_law : Fun K "law" "law" sPLaw f fd)
    (F_deck : Fun K "_law_deck" "_law_deck" sDeck fA fdA) (F_draw : Fun K "_law_draw" "_law_draw" sDraw fB fdB) (F_names : Fun K "_law_names" "_law_names" sNames fC fdC) (F_program : Fun K "_law_program" "_law_program" sProgram fD fdD) (F_renamed : Fun K "_law_renamed" "_law_renamed" sRenamed fE fdE)
    (F_number : Fun K "_law_number" "_law_number" sNumber fF fdF) (F_rows_other : Fun K "_law_rows_other" "_law_rows_other" sRowsOther fG fdG) (F_with_more : Fun K "_law_with_more" "_law_with_more" sWithMore fH fdH) (F_alike : Fun K "_law_alike" "_law_alike" sAlike fI fdI)
    (F_pprogram_error : Fun K "program_error" "program_error" sPProgramError fJ fdJ) (F_prun : Fun K "run" "run" sPRun fK fdK) (F_psign : Fun K "sign" "sign" sPSign fL fdL)
    (G_deck : FnOk P w K mg base CX0 1 fA fdA ["_law_script"] (spDeck K)) (G_draw : FnOk P w K mg base CX0 1 fB fdB ["_law_deck_here", "_law_many"] spDraw) (G_names : FnOk P w K mg base CX0 3 fC fdC ["_law_deck_here"] (spNames29 K)) (G_program : FnOk P w K mg base CX0 15 fD fdD ["_law_deck_here", "_law_names_here"] (spProgram K))
    (G_renamed : FnOk P w K mg base CX0 17 fE fdE ["_law_value", "_law_names_here"] (spRen 16)) (G_number : FnOk P w K mg base CX0 3 fF fdF ["_law_deck_here"] spNumber) (G_rows_other : FnOk P w K mg base CX0 14 fG fdG ["_law_block_here", "_law_is_long"] (spRowsO 4)) (G_with_more : FnOk P w K mg base CX0 3 fH fdH ["_law_deck_here", "_law_program_here"] (spMore K))
    (G_alike : FnG P w K mg base 18 fI fdI ["_law_deck_here", "_law_one_here", "_law_other_here"] (spAlike Pw Pt)) (G_pprogram_error : FnOk P w K mg base CX0 17 fJ fdJ ["value"] (spPE Pw Pt 5)) (G_prun : FnOk P w K mg base CX0 10 fK fdK ["program", "number"] spRunA) (G_psign : FnOk P w K mg base CX0 11 fL fdL ["program", "number"] spSignA)
    (b_deck : Binds K fdA ["_law_script"] []) (b_draw : Binds K fdB ["_law_deck_here", "_law_many"] []) (b_names : Binds K fdC ["_law_deck_here"] []) (b_program : Binds K fdD ["_law_deck_here", "_law_names_here"] []) (b_renamed : Binds K fdE ["_law_value", "_law_names_here"] []) (b_number : Binds K fdF ["_law_deck_here"] []) (b_rows_other : Binds K fdG ["_law_block_here", "_law_is_long"] [])
    (b_with_more : Binds K fdH ["_law_deck_here", "_law_program_here"] []) (b_alike : Binds K fdI ["_law_deck_here", "_law_one_here", "_law_other_here"] []) (b_pprogram_error : Binds K fdJ ["value"] []) (b_prun : Binds K fdK ["program", "number"] []) (b_psign : Binds K fdL ["program", "number"] [])
    (m_deck : mg "_law_deck" = some (.ref fA)) (m_draw : mg "_law_draw" = some (.ref fB)) (m_names : mg "_law_names" = some (.ref fC)) (m_program : mg "_law_program" = some (.ref fD)) (m_renamed : mg "_law_renamed" = some (.ref fE)) (m_number : mg "_law_number" = some (.ref fF)) (m_rows_other : mg "_law_rows_other" = some (.ref fG)) (m_with_more : mg "_law_with_more" = some (.ref fH)) (m_alike : mg "_law_alike" = some (.ref fI)) (m_pprogram_error : mg "program_error" = some (.ref fJ)) (m_prun : mg "run" = some (.ref fK)) (m_psign : mg "sign" = some (.ref fL))
    (z_repr : mg "repr" = none) (z_range : mg "range" = none) (z_dict : mg "dict" = none) : FnG P w K mg base 19 f fd ["_law_script"] (spLawT K Pw Pt) := by
  refine Fun.okG F_law scPLaw (fun vs H Q E h => ?_) (fun cdv A outer s H vs Q E hr hgd h => ?_)
  · obtain ⟨_, _, rfl, _⟩ := h
    rfl
  · obtain ⟨a, ns, rfl, hS, hlen, hT, q⟩ := h
    have hu := hr.units
    have KBe : KB = 1099511627776 := rfl
    have cPe : cP = 700000 := rfl
    refine ⟨_, (pss_cons (ps_set (i := 1) scPLaw.nd rfl (by first | exact Or.inl rfl | exact Or.inr rfl) (pe_call G_deck (hr.mono (by omega)) (by rfl) m_deck F_deck.kp b_deck .nil pass0 (pa_cons (pv 0) pa_nil)))
      (C8.pss_cut (ps_for PassesOwn.never rfl (pi_range1 (by rfl) z_range (pa_cons pe_int pa_nil)) (pg_name (i := 2) scPLaw.nd rfl (by first | exact Or.inl rfl | exact Or.inr rfl)) (pss_cons (ps_asg (pe_tup (pa_cons (pe_call G_names (hr.mono (by omega)) (by rfl) m_names F_names.kp b_names .nil pass0 (pa_cons (pv 1) pa_nil)) (pa_cons (pe_revL (pe_call G_names (hr.mono (by omega)) (by rfl) m_names F_names.kp b_names .nil pass0 (pa_cons (pv 1) pa_nil))) pa_nil))) (pg_tup rfl (pgs_cons (pg_name (i := 3) scPLaw.nd rfl (by first | exact Or.inl rfl | exact Or.inr rfl)) (pgs_cons (pg_name (i := 4) scPLaw.nd rfl (by first | exact Or.inl rfl | exact Or.inr rfl)) pgs_nil))))
      (pss_cons (ps_set (i := 5) scPLaw.nd rfl (by first | exact Or.inl rfl | exact Or.inr rfl) (pe_call G_program (hr.mono (by omega)) (by rfl) m_program F_program.kp b_program .nil pass0 (pa_cons (pv 1) (pa_cons (pv 3) pa_nil))))
      (pss_cons (ps_set (i := 6) scPLaw.nd rfl (by first | exact Or.inl rfl | exact Or.inr rfl) (pe_call G_renamed (hr.mono (by omega)) (by rfl) m_renamed F_renamed.kp b_renamed .nil pass0 (pa_cons (pv 5) (pa_cons (pe_callTy (call_dictP rfl) (by rfl) z_dict boot_dict (pa_cons (pe_lc (own := [("_law_k", 11)]) (g := gName 11) (tt := tYes) rfl scPLaw.nd (pi_range2 (by rfl) z_range (pa_cons pe_int (pa_cons pe_int pa_nil))) (blkOk_by (N := nPLaw) (sc := defScope sPLaw) (by decide +kernel)) (fun _ _ _ _ _ => (pg_name (i := 11) scPLaw.nd rfl (by first | exact Or.inl rfl | exact Or.inr rfl))) (fun _ _ _ _ _ => pts_nil) (fun _ _ _ _ _ => (pe_tup (pa_cons (pe_ix (ix_listK (K := K) rfl) (pv 3) (pv 11) (fun _ _ => rfl)) (pa_cons (pe_ix (ix_listK (K := K) rfl) (pv 4) (pe_op op_sub (pv 11) pe_int) (fun _ _ => rfl)) pa_nil))))) pa_nil)) pa_nil))))
      (pss_cons (ps_set (i := 7) scPLaw.nd rfl (by first | exact Or.inl rfl | exact Or.inr rfl) (pe_op op_repA (pe_tup (pa_cons (pe_tup (pa_cons pe_str (pa_cons pe_str (pa_cons (pe_tup (pa_cons pe_str (pa_cons pe_str (pa_cons pe_int pa_nil)))) pa_nil)))) pa_nil)) (pe_call G_draw (hr.mono (by omega)) (by rfl) m_draw F_draw.kp b_draw .nil pass0 (pa_cons (pv 1) (pa_cons pe_int pa_nil)))))
      (pss_cons (ps_set (i := 7) scPLaw.nd rfl (by first | exact Or.inl rfl | exact Or.inr rfl) (pe_op op_catA (pv 7) (pe_op op_repA (pe_tup (pa_cons (pe_tup (pa_cons pe_str (pa_cons (pe_ix ix_list (pv 4) pe_int (fun _ _ => rfl)) (pa_cons pe_int pa_nil)))) pa_nil)) (pe_call G_draw (hr.mono (by omega)) (by rfl) m_draw F_draw.kp b_draw .nil pass0 (pa_cons (pv 1) (pa_cons pe_int pa_nil))))))
      (pss_cons (ps_if (pt_cmpR op_notN (pe_call G_pprogram_error (hr.mono (by omega)) (by rfl) m_pprogram_error F_pprogram_error.kp b_pprogram_error .nil pass0 (pa_cons (pv 6) pa_nil)) pe_non (nomark _)) (pss_one (ps_ret pe_bl)) pss_nil)
      (C8.pss_cut (ps_for PassesOwn.never rfl (pi_list (pe_lc (own := [("_law_k", 11)]) (g := gName 11) (tt := tYes) rfl scPLaw.nd (pi_range1 (by rfl) z_range (pa_cons pe_int pa_nil)) (blkOk_by (N := nPLaw) (sc := defScope sPLaw) (by decide +kernel)) (fun _ _ _ _ _ => (pg_name (i := 11) scPLaw.nd rfl (by first | exact Or.inl rfl | exact Or.inr rfl))) (fun _ _ _ _ _ => pts_nil) (fun _ _ _ _ _ => (pe_call G_number (hr.mono (by omega)) (by rfl) m_number F_number.kp b_number .nil pass0 (pa_cons (pv 1) pa_nil))))) (pg_name (i := 8) scPLaw.nd rfl (by first | exact Or.inl rfl | exact Or.inr rfl)) (pss_one (ps_if (pt_cmpR op_ne (pe_callB (call_reprA hgd hu) (by rfl) z_repr boot_repr (pa_cons (pe_lst (pa_cons (pe_call G_prun (hr.mono (by omega)) (by rfl) m_prun F_prun.kp b_prun .nil pass0 (pa_cons (pv 6) (pa_cons (pv 8) pa_nil))) (pa_cons (pe_call G_psign (hr.mono (by omega)) (by rfl) m_psign F_psign.kp b_psign .nil pass0 (pa_cons (pv 6) (pa_cons (pv 8) pa_nil))) pa_nil))) pa_nil)) (pe_callB (call_reprA hgd hu) (by rfl) z_repr boot_repr (pa_cons (pe_lst (pa_cons (pe_call G_prun (hr.mono (by omega)) (by rfl) m_prun F_prun.kp b_prun .nil pass0 (pa_cons (pv 5) (pa_cons (pv 8) pa_nil))) (pa_cons (pe_call G_psign (hr.mono (by omega)) (by rfl) m_psign F_psign.kp b_psign .nil pass0 (pa_cons (pv 5) (pa_cons (pv 8) pa_nil))) pa_nil))) pa_nil)) (nomark _)) (pss_one (ps_ret pe_bl)) pss_nil)))
      (pss_cons (ps_set (i := 9) scPLaw.nd rfl (by first | exact Or.inl rfl | exact Or.inr rfl) (pe_call G_rows_other (hr.mono (by omega)) (by rfl) m_rows_other F_rows_other.kp b_rows_other .nil pass0 (pa_cons (pv 5) (pa_cons (pe_cmpR op_eq (pe_call G_draw (hr.mono (by omega)) (by rfl) m_draw F_draw.kp b_draw .nil pass0 (pa_cons (pv 1) (pa_cons pe_int pa_nil))) pe_int (nomark _)) pa_nil))))
      (pss_one (ps_for PassesOwn.never rfl (pi_list (pe_lst (pa_cons (pe_op op_catA (pv 7) (pv 6)) (pa_cons (pv 9) (pa_cons (pe_call G_with_more (hr.mono (by omega)) (by rfl) m_with_more F_with_more.kp b_with_more .nil pass0 (pa_cons (pv 1) (pa_cons (pv 5) pa_nil))) (pa_cons (pe_call G_with_more (hr.mono (by omega)) (by rfl) m_with_more F_with_more.kp b_with_more .nil pass0 (pa_cons (pv 1) (pa_cons (pv 9) pa_nil))) pa_nil)))))) (pg_name (i := 10) scPLaw.nd rfl (by first | exact Or.inl rfl | exact Or.inr rfl)) (pss_one (ps_if (pt_not (pt_val (pe_callG G_alike (hr.mono (by omega)) hgd (by rfl) m_alike F_alike.kp b_alike .nil (pa_cons (pv 1) (pa_cons (pv 5) (pa_cons (pv 10) pa_nil)))))) (pss_one (ps_ret pe_bl)) pss_nil)))))))))))))
      (pss_one (ps_ret pe_bl)))),
      ?_⟩
    refine ⟨_, rfl, a, ns, rfl, hS, hlen, fun H1 D c cs s1 _ _ DK => ?_⟩
    have hT1 := Tabs.sx hT s1
    refine ⟨fun _ _ => True, ?_, fun _ H' _ => q H'⟩
    refine ⟨6, rfl, by decide, by decide, for_range (n := 6) (fun i σ' H' => ∃ o2 o3 o4 o5 o6 o7 o8 o9 o10 o11, σ' = [some (.ref a), some (.ref D), o2, o3, o4, o5, o6, o7, o8, o9, o10, o11] ∧ LamX.Tabs (TL Pw Pt) H' ∧ ∃ cs k, Dk H' D c cs k ∧ k ≤ (i : Int) * 700300)
      ⟨_, _, _, _, _, _, _, _, _, _, rfl, hT1, _, _, DK, by omega⟩ (fun i σ' H' hi h => ?_) (fun σ' H' h => trivial)⟩
    clear hT1 hT DK
    obtain ⟨o2, o3, o4, o5, o6, o7, o8, o9, o10, o11, rfl, hT, cs1, k1, DK, hk1⟩ := h
    refine gnm ?_
    refine ⟨_, rfl, D, c, cs1, k1, rfl, DK, by omega, fun H2 cs2 k2 p1 ns1 s2 D2 k2a k2b hp1 p1D p1c N1 hw1 => ?_⟩
    have hT := tabs_deck DK hT s2
    refine ⟨_, rfl, D, c, cs2, k2, rfl, D2, by omega, fun H3 cs3 k3 p2 ns2 s3 D3 k3a k3b hp2 p2D p2c N2 hw2 => ?_⟩
    have hT := tabs_deck D2 hT s3
    have N1 := N1.keep s3 (by simp [p1D, p1c])
    clear DK D2 s2 s3
    obtain ⟨ws1, rfl, W1⟩ := hw1
    obtain ⟨ws2, rfl, W2⟩ := hw2
    obtain ⟨x1, x2, x3, rfl, xn1, xn2, xn3, x12, x13, x23, xs1, xs2, xs3⟩ := nm3_three W1
    have spn : ("spare1" : Str) ∉ [("n" : Str), x1, x2, x3] := fun h => by
      simp only [List.not_mem_nil, List.mem_cons, or_false] at h
      rcases h with h | h | h | h
      · exact absurd h (by decide +kernel)
      · exact xs1 h.symm
      · exact xs2 h.symm
      · exact xs3 h.symm
    obtain ⟨y1, y2, y3, rfl, yn1, yn2, yn3, y12, y13, y23, ys1, ys2, ys3⟩ := nm3_three W2
    have e1 := N1.tr
    refine ⟨p2, _, rfl, SqL.of N2.tr, fun q2 hq2 => ⟨by show 2 ≤ sizeLine; decide, fun T hTn => ?_⟩⟩
    have n2 : Sx [] H3 (upd (upd H3 q2 (.lst ((List.map V.str ["n", y1, y2, y3]).reverse))) T (.tup [.ref p1, .ref q2])) := (Sx.n0 hq2).new hTn
    have eT : (upd (upd H3 q2 (.lst ((List.map V.str ["n", y1, y2, y3]).reverse))) T (.tup [.ref p1, .ref q2])) T = some (.tup [.ref p1, .ref q2]) := upd_same
    have eq2 : (upd (upd H3 q2 (.lst ((List.map V.str ["n", y1, y2, y3]).reverse))) T (.tup [.ref p1, .ref q2])) q2 = some (.lst [.str y3, .str y2, .str y1, .str "n"]) := (Sx.n0 hTn) _ _ (by simp) upd_same
    have hT := Tabs.sx hT n2
    have DK := D3.same n2
    have NN := N1.keep n2 (by simp)
    have e1 := n2 _ _ (by simp) e1
    obtain ⟨qD, qc⟩ := D3.nw hq2
    have m2 := N2.ok
    have m1 := N1.ok
    clear D3 N1 N2 hTn
    generalize upd (upd H3 q2 (.lst ((List.map V.str ["n", y1, y2, y3]).reverse))) T (.tup [.ref p1, .ref q2]) = H4 at eT eq2 hT DK NN e1 ⊢
    clear n2
    refine ⟨T, _, rfl, SqT.of eT, rfl, _, _, rfl, gnm ⟨_, _, rfl, gnm ⟨rfl, ?_⟩⟩⟩
    refine ⟨_, rfl, _, rfl, D, c, cs3, k3, p1, _, rfl, DK, NN, p1D, p1c, by omega, fun H5 cs5 k5 v es n w' r' cc s5 D5 k5a k5b T5 bk hn hw hr' hc => ?_⟩
    have hT := tabs_deck DK hT s5
    have e1 := s5 _ _ (by simp [p1D, p1c]) e1
    have eq2 := s5 _ _ (by simp [qD, qc]) eq2
    clear DK NN eT s5
    obtain ⟨b, rfl, bo, bsz, bwt, br, bc⟩ := Bk.of bk
    clear bk
    refine gnm ?_
    refine ⟨_, rfl, ?_⟩
    refine ⟨1, 4, rfl, ⟨by decide, by decide, by decide, by decide⟩, fun L hL => ?_⟩
    refine lc_range (lo := 1) (n := ((4 : Int) - 1).toNat) (fun i H' => Sx [] H5 H' ∧ ∃ ps : List Addr, H' L = some (.lst (ps.map V.ref)) ∧ ps.length = i ∧ Paired (fun p (kv : Key × V) => H' p = some (.tup [kV kv.1, kv.2])) ps (([((.inr x1 : Key), V.str y3), (.inr x2, .str y2), (.inr x3, .str y1)]).take i))
      ⟨Sx.n0 hL, [], upd_same, rfl, .nil⟩ (fun j H6 hj z => ?_) (fun H6 z => ?_)
    · obtain ⟨s6, ps, eL, pl, pp⟩ := z
      have hj : j < 3 := hj
      have e1 := s6 _ _ (by simp) e1
      have eq2 := s6 _ _ (by simp) eq2
      have key : ∃ xj yj, atI (List.map V.str ["n", x1, x2, x3]) (1 + (j : Int)) = some (V.str xj) ∧ atI [V.str y3, .str y2, .str y1, .str "n"] (1 + (j : Int) - 1) = some (V.str yj) ∧ ([((.inr x1 : Key), V.str y3), (.inr x2, .str y2), (.inr x3, .str y1)]).take (j + 1) = ([((.inr x1 : Key), V.str y3), (.inr x2, .str y2), (.inr x3, .str y1)]).take j ++ [(.inr xj, .str yj)] := by
        rcases (show j = 0 ∨ j = 1 ∨ j = 2 by omega) with rfl | rfl | rfl
        · exact ⟨x1, y3, rfl, rfl, rfl⟩
        · exact ⟨x2, y2, rfl, rfl, rfl⟩
        · exact ⟨x3, y1, rfl, rfl, rfl⟩
      obtain ⟨xj, yj, k1', k2', k3'⟩ := key
      refine gnm ⟨rfl, gYes (iteT ?_)⟩
      refine ⟨_, rfl, _, rfl, p1, _, _, _, rfl, rfl, SqL.of e1, k1', _, rfl, _, rfl, _, 1, rfl, rfl, q2, _, _, _, rfl, rfl, SqL.of eq2, k2', by show 2 ≤ sizeLine; decide, fun p hp => ?_⟩
      have n7 := Sx.n0 (o := .tup [.str xj, .str yj]) hp
      have eL7 := n7 _ _ (by simp) eL
      refine ⟨_, eL7, lt_line (by rw [List.length_map]; omega), (s6.trans n7).own hL, ps ++ [p], by rw [upd_same, List.map_append]; rfl, by rw [List.length_append, pl]; rfl, ?_⟩
      rw [k3']
      refine Paired.snoc (paired_imp (fun p' kv h => ?_) pp) ?_
      · have h7 := n7 _ _ (by simp) h
        rw [upd_ne (fun e => by rw [e, eL7] at h7; cases h7)]
        exact h7
      · rw [upd_ne (fun e => by rw [e, eL] at hp; cases hp)]
        exact upd_same
    · obtain ⟨s6, ps, eL, pl, pp⟩ := z
      refine ⟨L, ps, _, rfl, SqL.of eL, paired_imp (fun p' kv h => SqT.of h) pp, fun N hN => ?_⟩
      have n7 := Sx.n0 (o := .dK (mergeK [] (([((.inr x1 : Key), V.str y3), (.inr x2, .str y2), (.inr x3, .str y1)]).take 3))) hN
      have hd : Dc (upd H6 N (.dK (mergeK [] (([((.inr x1 : Key), V.str y3), (.inr x2, .str y2), (.inr x3, .str y1)]).take 3)))) N (fN [x1, x2, x3] [y1, y2, y3]) := by
        refine ⟨_, upd_same, fun z => ?_⟩
        rw [show ([((.inr x1 : Key), V.str y3), (.inr x2, .str y2), (.inr x3, .str y1)]).take 3 = [((.inr x1 : Key), V.str y3), (.inr x2, .str y2), (.inr x3, .str y1)] from rfl, dict3 x12 x13 x23]
        exact dict3_at x12 x13 x23 z
      have s7 := s6.trans n7
      have T7 := T5.keep s7.tk0
      have rn : RnD (fN [x1, x2, x3] [y1, y2, y3]) 16 (.tuple b.ds) (.tuple (b.ren (fN [x1, x2, x3] [y1, y2, y3])).ds) := .tup (ds_tup b) (by have := ds_len b; omega) (Bk.rn b 4 bo (by omega))
      have shb : Sh 40 (.tuple b.ds) := (Sh.tup (Bk.ok_sh m1 b 4 bo)).mono (by decide)
      refine ⟨v, N, _, _, _, rfl, T7, rn, shb, hd, fun H8 vl s8 T8 => ?_⟩
      have s58 := s7.trans s8
      have hT := Tabs.sx hT s58
      have DK := D5.same s58
      have Tb := T5.keep s58.tk0
      have eq2 := s58 _ _ (by simp) eq2
      clear hd rn T7 n7 s7 s8 s6 s58 D5 T5 e1 eL pp pl hL hN
      obtain ⟨inj, hms, hsp, h0⟩ := fN_facts xn1 xn2 xn3 x12 x13 x23 yn1 yn2 yn3 y12 y13 y23 ys1 ys2 ys3
      generalize hf : fN [x1, x2, x3] [y1, y2, y3] = ff at T8 inj hms hsp h0
      have vd : Vd b := ⟨_, bo, m1, by omega, by omega⟩
      have ro := Bk.ren_ok hms b 4 bo
      have rz := Bk.ren_sz (f := ff) b
      have vdr : Vd (b.ren ff) := ⟨_, ro, m2, by omega, by omega⟩
      have pn : (b.ren ff).perr = .none := Bk.perr_no ro (by omega) (by omega) (by rw [Bk.ren_tn]; omega) (by rw [Bk.ren_tn]; omega)
      clear hf
      refine gnm ?_
      -- what is set ahead
      refine ⟨by show 3 ≤ sizeLine; decide, fun a1 h1 => ⟨by show 3 ≤ sizeLine; decide, fun a2 h2 => ⟨by show 1 ≤ sizeLine; decide, fun a3 h3 => ?_⟩⟩⟩
      have i1 : Tp (upd H8 a1 (.tup [.str "plus", .str "n", .int 5])) (.ref a1) (Ex.plus (.name "n") (.int 5)).d := .tup upd_same (.cons (.str _) (.cons (.str _) (.cons (.int _) .nil)))
      have i2 : Tp (upd (upd H8 a1 (.tup [.str "plus", .str "n", .int 5])) a2 (.tup [.str "set", .str "spare1", .ref a1])) (.ref a2) (St.set "spare1" (.plus (.name "n") (.int 5))).d := .tup upd_same (.cons (.str _) (.cons (.str _) (.cons (i1.new h2) .nil)))
      have i3 : Tp (upd (upd (upd H8 a1 (.tup [.str "plus", .str "n", .int 5])) a2 (.tup [.str "set", .str "spare1", .ref a1])) a3 (.tup [.ref a2])) (.ref a3) (.tuple [(St.set "spare1" (.plus (.name "n") (.int 5))).d]) := .tup upd_same (.cons (i2.new h3) .nil)
      have nA : Sx [] H8 (upd (upd (upd H8 a1 (.tup [.str "plus", .str "n", .int 5])) a2 (.tup [.str "set", .str "spare1", .ref a1])) a3 (.tup [.ref a2])) := ((Sx.n0 h1).new h2).new h3
      have hT := Tabs.sx hT nA
      have DK := DK.same nA
      have Tb := Tb.keep nA.tk0
      have Tl := T8.keep nA.tk0
      have eq2 := nA _ _ (by simp) eq2
      clear i1 i2 T8 h1 h2 h3
      generalize upd (upd (upd H8 a1 (.tup [.str "plus", .str "n", .int 5])) a2 (.tup [.str "set", .str "spare1", .ref a1])) a3 (.tup [.ref a2]) = H9 at i3 hT DK Tb Tl eq2 ⊢
      clear nA
      refine ⟨_, rfl, D, c, cs5, k5, 2, rfl, DK, by decide, by decide, by omega, fun Ha csa ra sa Da ra0 ra1 => ?_⟩
      have hT := tabs_deck DK hT sa
      have ka := DK.tk sa
      refine rep_any (i3.keep ka) (by show 1 ≤ 1000; decide) (by omega) (by omega) (fun Hb zb sb tb => ?_)
      have hT := Tabs.sx hT sb
      have Tb := (Tb.keep ka).keep sb.tk0
      have Tl := (Tl.keep ka).keep sb.tk0
      have eq2 := sb _ _ (by simp) (sa _ _ (by simp [qD, qc]) eq2)
      have DK := Da.same sb
      clear i3 ka sa sb Da
      refine gnm ?_
      refine ⟨_, rfl, _, rfl, q2, _, _, _, rfl, rfl, SqL.of eq2, atI_nat (j := 0) rfl, by show 3 ≤ sizeLine; decide, fun a4 h4 => ⟨by show 1 ≤ sizeLine; decide, fun a5 h5 => ?_⟩⟩
      have i4 : Tp (upd Hb a4 (.tup [.str "set", .str y3, .int 0])) (.ref a4) (St.set y3 (.int 0)).d := .tup upd_same (.cons (.str _) (.cons (.str _) (.cons (.int _) .nil)))
      have i5 : Tp (upd (upd Hb a4 (.tup [.str "set", .str y3, .int 0])) a5 (.tup [.ref a4])) (.ref a5) (.tuple [(St.set y3 (.int 0)).d]) := .tup upd_same (.cons (i4.new h5) .nil)
      have nB : Sx [] Hb (upd (upd Hb a4 (.tup [.str "set", .str y3, .int 0])) a5 (.tup [.ref a4])) := (Sx.n0 h4).new h5
      have hT := Tabs.sx hT nB
      have DK := DK.same nB
      have Tb := Tb.keep nB.tk0
      have Tl := Tl.keep nB.tk0
      have tb := tb.keep nB.tk0
      clear i4 h4 h5 eq2
      generalize upd (upd Hb a4 (.tup [.str "set", .str y3, .int 0])) a5 (.tup [.ref a4]) = Hc at i5 hT DK Tb Tl tb ⊢
      clear nB
      refine ⟨_, rfl, D, c, csa, _, 2, rfl, DK, by decide, by decide, by omega, fun Hd csd rd sd Dd rd0 rd1 => ?_⟩
      have hT := tabs_deck DK hT sd
      have kd := DK.tk sd
      refine rep_any (i5.keep kd) (by show 1 ≤ 1000; decide) (by omega) (by omega) (fun He ze se te => ?_)
      refine cat_tp ((tb.keep kd).keep se.tk0) te (by rw [rep1_len, rep1_len]; omega) (fun Hf zf sf _ tf => ?_)
      have sef := se.trans sf
      have hT := Tabs.sx hT sef
      have Tb := (Tb.keep kd).keep sef.tk0
      have Tl := (Tl.keep kd).keep sef.tk0
      have DK := Dd.same sef
      clear i5 kd sd se sf sef Dd te tb
      refine gnm ?_
      have tf : Tp Hf zf (stD (List.replicate ra.toNat (.set "spare1" (.plus (.name "n") (.int 5))) ++ List.replicate rd.toNat (.set y3 (.int 0)))) := by
        unfold stD
        rw [List.map_append, rep1_map, rep1_map]
        exact tf
      -- the program with other names is one
      refine ⟨_, rfl, vl, b.ren ff, rfl, Tl, vdr.nm, vdr.fac, by omega, hT, fun Hg rg sg hTg tg => ?_⟩
      rw [pn] at tg
      obtain rfl := tpNone' tg
      refine ⟨rfl, _, rfl, iteF ?_⟩
      have DK := deck_tabs DK hT sg
      have kg := tabs_tk hT sg
      have Tb := Tb.keep kg
      have Tl := Tl.keep kg
      have tf := tf.keep kg
      have hT := hTg
      clear kg sg tg hTg pn
      refine ⟨fun σ H' => ∃ (cs' : List Int) (k' : Int) (o8 o9 o10 o11 : Option V), σ = [some (.ref a), some (.ref D), some (.int (0 + (i : Int))), some (.ref p1), some (.ref q2), some v, some vl, some zf, o8, o9, o10, o11] ∧ Sx [D, c] Hg H' ∧ Dk H' D c cs' k' ∧ k5 ≤ k' ∧ k' ≤ k5 + 20, ?_, ?_⟩
      · refine ⟨4, rfl, by decide, by decide, fun L hL => lc_range (lo := 0) (n := (4 : Int).toNat) (fun i H' => Sx [D, c] Hg H' ∧ ∃ (cs' : List Int) (k' : Int) (nums : List Int), Dk H' D c cs' k' ∧ k5 ≤ k' ∧ k' ≤ k5 + 1 + 1 + (i : Int) * 4 ∧ H' L = some (.lst (nums.map V.int)) ∧ nums.length = i ∧ ∀ x ∈ nums, -1000000000000000000000000000000000000000000000000000000000000 ≤ x ∧ x ≤ 1000000000000000000000000000000000000000000000000000000000000)
          ⟨(Sx.n0 hL).nil, csd, _, [], DK.new hL, by omega, by omega, upd_same, rfl, fun x hx => by cases hx⟩ (fun i H2 hi z => ?_) (fun H2 z => ?_)⟩
        · obtain ⟨s2, cs2, k2, nums, D2, k2a, k2b, e2, nl, nb⟩ := z
          have hi : i < 4 := hi
          obtain ⟨La, Lc⟩ := DK.nw hL
          refine gnm ⟨rfl, gYes (iteT ?_)⟩
          refine ⟨_, rfl, D, c, cs2, k2, rfl, D2, by omega, fun H3 cs3 k3 x s3 D3 k3a k3b x0 x1 => ?_⟩
          have e3 := s3 _ _ (by simp [La, Lc]) e2
          refine ⟨_, e3, lt_line (by rw [List.length_map]; omega), (s2.trans s3).own hL, cs3, k3, nums ++ [x], D3.sx ((Sx.refl (ex := [L]) _).put (by simp)) (by simp [La.symm]) (by simp [Lc.symm]), by omega, by omega, by rw [upd_same, List.map_append]; rfl, by rw [List.length_append, nl]; rfl, fun y hy => ?_⟩
          rcases List.mem_append.1 hy with hy | hy
          · exact nb y hy
          · rw [List.mem_singleton.mp hy]; exact ⟨x0, x1⟩
        · obtain ⟨s2, cs2, k2, nums, D2, k2a, k2b, e2, nl, nb⟩ := z
          have nl : nums.length = 4 := nl
          have Tb := Tb.keep (DK.tk s2)
          have Tl := Tl.keep (DK.tk s2)
          refine ⟨L, rfl, ⟨_, SqL.of e2⟩, for_list (xs := nums.map V.int) (fun j σ' H' => ∃ o8 o9 o10 o11, σ' = [some (.ref a), some (.ref D), some (.int (0 + (i : Int))), some (.ref p1), some (.ref q2), some v, some vl, some zf, o8, o9, o10, o11] ∧ Sx [] H2 H')
            ⟨_, _, _, _, rfl, Sx.refl _⟩ (fun j σ' H' _ h => by obtain ⟨_, _, _, _, _, h⟩ := h; exact SqL.of (h _ _ (by simp) e2)) (fun j x σ' H' hx h => ?_) (fun σ' H' h => ?_)⟩
          · obtain ⟨o8, o9, o10, o11, rfl, s3⟩ := h
            rw [List.getElem?_map] at hx
            obtain ⟨n, hn, rfl⟩ := Option.map_eq_some_iff.mp hx
            obtain ⟨n0, n1⟩ := nb n (List.mem_of_getElem? hn)
            have Tb := Tb.keep s3.tk0
            have Tl := Tl.keep s3.tk0
            have zt : Shw 2 800 (b.told n) := Bk.told_shw bo (by omega) (by omega) n0 n1
            have zs := sgn_shw (totB b n) 2
            have zz : Shw 3 900 (.list [b.told n, .int (sgn (totB b n))]) := (Shw.lst (.cons zt (.cons zs (.nil 2 0)))).mono (by omega) (by omega)
            have tr := told_ren inj bo h0 n
            have tt : totB (b.ren ff) n = totB b n := by
              unfold Bk.told at tr
              injection tr with tr
              injection tr with tr
              injection tr
            refine gnm ?_
            refine ⟨_, rfl, _, rfl, _, vl, b.ren ff, n, rfl, Tl, ro, by omega, by omega, fun H4 r4 s4 t4 => ?_⟩
            refine ⟨_, rfl, _, rfl, _, vl, b.ren ff, n, rfl, Tl.keep s4.tk0, ro, by omega, by omega, fun H5 s5 => ⟨by show 2 ≤ sizeLine; decide, fun p hp => ?_⟩⟩
            rw [tr] at t4
            have et : ((b.ren ff).run 0 (Wd.at n)).1.tot = totB b n := tt
            rw [et]
            have t4' := (t4.keep s5.tk0).new (o := .lst [r4, .int (sgn (totB b n))]) hp
            refine ⟨_, _, rfl, RpA.of (d := .list [b.told n, .int (sgn (totB b n))]) (.lst (SqL.of upd_same) (.cons t4'.dp (.cons (.int _) .nil))) zz (by decide) (by decide), ?_⟩
            have s6 := (s4.trans s5).new (o := .lst [r4, .int (sgn (totB b n))]) hp
            have Tb := Tb.keep s6.tk0
            change tCons _ _ _ (upd H5 p (.lst [r4, .int (sgn (totB b n))])) _
            generalize upd H5 p (.lst [r4, .int (sgn (totB b n))]) = H6 at s6 Tb ⊢
            refine ⟨_, rfl, _, rfl, _, v, b, n, rfl, Tb, bo, by omega, by omega, fun H7 r7 s7 t7 => ?_⟩
            refine ⟨_, rfl, _, rfl, _, v, b, n, rfl, Tb.keep s7.tk0, bo, by omega, by omega, fun H8 s8 => ⟨by show 2 ≤ sizeLine; decide, fun p8 hp8 => ?_⟩⟩
            have t7' := (t7.keep s8.tk0).new (o := .lst [r7, .int (sgn (totB b n))]) hp8
            refine ⟨_, _, rfl, RpA.of (d := .list [b.told n, .int (sgn (totB b n))]) (.lst (SqL.of upd_same) (.cons t7'.dp (.cons (.int _) .nil))) zz (by decide) (by decide), ?_⟩
            refine ⟨rfl, _, rfl, iteNS rfl ?_⟩
            exact ⟨_, _, _, _, rfl, ((s3.trans s6).trans s7).trans (s8.new hp8)⟩
          · obtain ⟨o8, o9, o10, o11, rfl, s3⟩ := h
            exact ⟨cs2, k2, _, _, _, _, rfl, s2.trans s3.nil, D2.same s3, by omega, by omega⟩
      · rintro _ Hh ⟨csh, kh, o8, o9, o10, o11, rfl, sh', Dh, kha, khb⟩
        have hT := tabs_deck DK hT sh'
        have Tb := Tb.keep (DK.tk sh')
        have Tl := Tl.keep (DK.tk sh')
        have tf := tf.keep (DK.tk sh')
        clear DK sh'
        refine ⟨_, rfl, _, rfl, D, c, csh, kh, 2, rfl, Dh, by decide, by decide, by omega, fun Hi csi ri si Di ri0 ri1 => ⟨rfl, ?_⟩⟩
        have hT := tabs_deck Dh hT si
        have Tb := Tb.keep (Dh.tk si)
        have Tl := Tl.keep (Dh.tk si)
        have tf := tf.keep (Dh.tk si)
        clear Dh si
        generalize hlg : decide (V.int ri = V.int 0) = lg
        refine ⟨v, b, lg, _, rfl, Tb, bo, m1, by omega, fun Hj rj sj tj => ?_⟩
        have hT := Tabs.sx hT sj
        have Tb := Tb.keep sj.tk0
        have Tl := Tl.keep sj.tk0
        have tf := tf.keep sj.tk0
        have DK := Di.same sj
        have von := Vn.other bo m1 (by omega) lg
        have vah := Vn.ahead inj bo hms m2 (List.mem_cons_self ..) h0 hsp yn3 (by simp) (by omega) (by omega) (a := ra.toNat) (c := rd.toNat) (by omega) (by omega)
        clear Di sj
        refine gnm ?_
        have Tl : Tp Hj vl (stD (b.ren ff).lst) := by unfold stD; rw [← Bk.ds_lst]; exact Tl
        have Ts : Tp Hj v (stD b.lst) := by unfold stD; rw [← Bk.ds_lst]; exact Tb
        have bl := bk_le b
        have bl2 := bk_le (b.ren ff)
        refine ⟨_, rfl, _, rfl, cat_tp tf Tl (by rw [List.length_map, List.length_map, List.length_append, List.length_replicate, List.length_replicate]; omega) (fun Hk zk sk _ tk => ?_)⟩
        have tk : Tp Hk zk (stD (List.replicate ra.toNat (.set "spare1" (.plus (.name "n") (.int 5))) ++ List.replicate rd.toNat (.set y3 (.int 0)) ++ (b.ren ff).lst)) := by
          unfold stD
          rw [List.map_append]
          exact tk
        have hT := Tabs.sx hT sk
        have Tb := Tb.keep sk.tk0
        have Ts := Ts.keep sk.tk0
        have tj := tj.keep sk.tk0
        have DK := DK.same sk
        clear Tl tf sk
        have snn : ("spare1" : Str) ∉ [("n" : Str), x1, x2, x3] := spn
        have nin : ("n" : Str) ∈ [("n" : Str), x1, x2, x3] := List.mem_cons_self ..
        have oz := Bk.oth_le lg b 4 bo
        refine ⟨_, rfl, _, rfl, _, rfl, D, c, csi, _, v, b.lst, rfl, DK, Ts, by omega, by omega, fun Hm csm km rm nm im xm sm Dm kma kmb hxm hnm tm => ?_⟩
        have hT := tabs_deck DK hT sm
        have km' := DK.tk sm
        have Tb := Tb.keep km'
        have tj := tj.keep km'
        have tk := tk.keep km'
        have vm1 : Vn b _ := Vn.put (l := b.lst) (i := im) (lst_ok bo) m1 nin snn (by rw [lst_ssz]; omega) (by rw [lst_swt]; omega) (fun x => by rw [ofL_of]) hnm hxm
        clear DK sm km' Ts
        have ol := len_ssz (b.oth lg)
        refine ⟨_, rfl, _, rfl, D, c, csm, km, rj, b.oth lg, rfl, Dm, tj, by omega, by omega, fun Hn csn kn rn nn im2 xm2 sn Dn kna knb hxn hnn tn => ?_⟩
        have hT := tabs_deck Dm hT sn
        have kn' := Dm.tk sn
        have Tb := Tb.keep kn'
        have tj := tj.keep kn'
        have tk := tk.keep kn'
        have tm := tm.keep kn'
        have vm2 : Vn b _ := Vn.put (l := b.oth lg) (i := im2) (fun s hs => (Bk.oth_ok lg b 4 bo s hs).2) m1 nin snn (by omega) (by omega) von.tot hnn hxn
        clear Dm sn kn'
        refine ⟨by show 4 ≤ sizeLine; decide, fun L hL => ?_⟩
        obtain ⟨LD, Lc⟩ := Dn.nw hL
        have nL := Sx.n0 (o := .lst [zk, rj, rm, rn]) hL
        have hT := Tabs.sx hT nL
        have Tb := Tb.keep nL.tk0
        have tj := tj.keep nL.tk0
        have tk := tk.keep nL.tk0
        have tm := tm.keep nL.tk0
        have tn := tn.keep nL.tk0
        have DK := Dn.same nL
        have eL : (upd Hn L (.lst [zk, rj, rm, rn])) L = some (.lst [zk, rj, rm, rn]) := upd_same
        clear Dn nL
        generalize upd Hn L (.lst [zk, rj, rm, rn]) = Ho at hT Tb tj tk tm tn DK eL ⊢
        have each : ∀ (j : Nat) (x : V), [zk, rj, rm, rn][j]? = some x → ∃ l : List St, Tp Ho x (stD l) ∧ Vn b l := fun j x hx => by
          match j, hx with
          | 0, hx => cases hx; exact ⟨_, tk, vah⟩
          | 1, hx => cases hx; exact ⟨_, tj, von⟩
          | 2, hx => cases hx; exact ⟨_, tm, vm1⟩
          | 3, hx => cases hx; exact ⟨_, tn, vm2⟩
          | j + 4, hx => simp at hx
        have lne : L ∉ [D, c, Pw, Pt] := fun hm => by
          rcases List.mem_cons.1 hm with e | hm
          · exact LD e
          · rcases List.mem_cons.1 hm with e | hm
            · exact Lc e
            · obtain ⟨ps, hP⟩ := tab_at hT L hm
              rw [eL] at hP; cases hP
        have nt := ex_nt DK hT
        clear tk tj tm tn vah von vm1 vm2
        refine ⟨L, rfl, ⟨_, SqL.of eL⟩, for_list (xs := [zk, rj, rm, rn]) (fun j σ' H' => ∃ o10 o11, σ' = [some (.ref a), some (.ref D), some (.int (0 + (i : Int))), some (.ref p1), some (.ref q2), some v, some vl, some zf, o8, some rj, o10, o11] ∧ Sx [D, c, Pw, Pt] Ho H' ∧ LamX.Tabs (TL Pw Pt) H' ∧ ∃ cs k, Dk H' D c cs k ∧ k ≤ kn + (j : Int) * 16)
          ⟨_, _, rfl, Sx.refl _, hT, _, _, DK, by omega⟩ (fun j σ' H' _ h => by obtain ⟨_, _, _, h, _⟩ := h; exact SqL.of (h _ _ lne eL)) (fun j x σ' H' hx h => ?_) (fun σ' H' h => ?_)⟩
        · obtain ⟨o10, o11, rfl, sB, hTB, csB, kB, DB, kB1⟩ := h
          have hj : j < 4 := (List.getElem?_eq_some_iff.mp hx).1
          obtain ⟨l, tl, vn⟩ := each j x hx
          have kk := tk_ex sB nt
          have tx : Tp H' x (.tuple (Bk.ofL l).ds) := by rw [Bk.ofL_ds]; exact tl.keep kk
          refine gnm ?_
          refine ⟨_, rfl, _, rfl, _, rfl, D, c, csB, kB, v, x, b, Bk.ofL l, rfl, DB, Tb.keep kk, tx, vd, vn.vd, by omega, vn.tot, hTB, by omega, fun H9 cs9 k9 s9 D9 k9a k9b hT9 => ?_⟩
          exact ⟨_, rfl, iteF ⟨_, _, rfl, sB.trans s9, hT9, cs9, k9, D9, by omega⟩⟩
        · obtain ⟨o10, o11, rfl, sB, hTB, csB, kB, DB, kB1⟩ := h
          have kB1 : kB ≤ kn + 4 * 16 := kB1
          exact ⟨_, _, _, _, _, _, _, _, _, _, rfl, hTB, csB, kB, DB, by omega⟩
end
/-! ### the end where code objects are made within defs -/
/-- an empty table of code objects -/
abbrev tabNil : Obj := { cls := .none, data := .fields #[] }
theorem law_callGT {P : Program} {w : World} {K : PySem.W.Frag} {mg mb : Str → Option Value} {k : Nat} {fa a : Addr} {cs : List (Addr × Addr)} {fd : FuncData} {x : Str} {sp : Sp} {s : Shared} {vs : List Value} {ns : List Int}
    (KX : K.In s.heap) (h1 : s.heap.Ns mainGlobals mg) (h2 : s.heap.Ns builtinsNs mb) (h3 : ∀ x : Str, x ≠ "__name__" → mb x = bootBuiltins x) (h4 : s.heap.NoLimit) (h5 : s.gens = #[])
    (tE : ∀ p ∈ cs, s.heap.get? p.2 = some tabNil) (tO : ∀ p ∈ cs, K.lookup p.2 = none) (tC : ∀ p ∈ cs, PySem.W.CodeHd s.heap p.1 p.2)
    (tM : ∃ (bm : Addr) (o : Obj), mg "__builtins__" = some (.ref bm) ∧ bm ≠ builtinsNs ∧ s.heap.get? bm = some o ∧ o.cls = .type "module" ∧ o.dict = some builtinsNs ∧ o.data = .plain)
    (ha : s.heap.get? a = some { cls := .type "list", data := .seq vs.toArray }) (hi : IntsAre vs ns) (hl : ns.length ≤ sizeLine) (hr : Room k callerA)
    (F : ∀ base : Heap, K.In base → base.Ns mainGlobals mg → (∀ p ∈ cs, LamX.TabB base mg p.1 p.2) → FnG P w K mg base k fa fd [x] sp) (hb : ∀ (s : Shared) (u : Value), BindsTo s fd ⟨[u], []⟩ [(x, u)])
    (hsp : ∀ H : Hp, (∀ p ∈ cs, H p.2 = some (.tbl #[])) → SqL K H a (ns.map V.int) → sp [.ref a] H (fun v _ => v = .bl true) E0) :
    codeAny (model P w) callerA (.call (.ref fa) ⟨[.ref a], []⟩) (fun r s' => r = .ok (.ret (.bool true)) ∧ OldK s.heap s'.heap ∧ s'.os = s.os ∧ AllBare s'.gens) s := by
  obtain ⟨H0, hO, hS0, hok0, hA, hK⟩ := script_hp (P := P) (w := w) KX ha hi hl
  obtain ⟨T, eT⟩ : ∃ T : List Addr, T = cs.map Prod.snd := ⟨_, rfl⟩
  have inT : ∀ p ∈ cs, p.2 ∈ T := fun p hp => by rw [eT]; exact List.mem_map_of_mem hp
  have ofT : ∀ b ∈ T, ∃ p ∈ cs, p.2 = b := fun b h => by rw [eT] at h; exact List.mem_map.mp h
  have atT : ∀ b ∈ T, s.heap.get? b = some tabNil := fun b h => by
    obtain ⟨p, hp, e⟩ := ofT b h
    exact e ▸ tE p hp
  have aT : a ∉ T := fun z => by
    have e := (atT a z).symm.trans ha
    have e2 : Data.fields #[] = Data.seq vs.toArray _ := congrArg Obj.data (Option.some.inj e)
    cases e2
  obtain ⟨H, Hin, Hout⟩ : ∃ H : Hp, (∀ b ∈ T, H b = some (.tbl #[])) ∧ ∀ b, b ∉ T → H b = H0 b := ⟨fun b => if b ∈ T then some (.tbl #[]) else H0 b, fun b h => if_pos h, fun b h => if_neg h⟩
  have hS : SqL K H a (ns.map V.int) := hS0.imp (fun z => z.imp (fun z => (Hout a aT).trans z) fun ⟨o, z⟩ => ⟨o, (Hout a aT).trans z⟩) id
  have hok : HOk P w H s.heap := fun b u z => by
    by_cases h : b ∈ T
    · have e := (Hin b h).symm.trans z
      cases e
      exact atT b h
    · have z2 := (Hout b h).symm.trans z
      obtain z3 | ⟨ob, xs, z3⟩ := hO b
      · rw [z3] at z2; cases z2
      · have z4 := z3.symm.trans z2
        cases z4
        exact (show ObjOk P w H s.heap b (.frz ob (.lst xs)) from hok0 b _ z3)
  have far : ∀ {b : Addr} {o : Obj}, s.heap.get? b = some o → (∀ us n, o.data ≠ .seq us n) → o.data ≠ .fields #[] → H b = none := fun {b o} e n1 n2 => by
    have hbT : b ∉ T := fun z => by
      have q := (atT b z).symm.trans e
      cases q
      exact n2 rfl
    rw [Hout b hbT]
    cases q : H0 b with
    | none => rfl
    | some u =>
      have z := hA b (by simp [q])
      rw [z] at e
      have q2 := ha.symm.trans e
      cases q2
      exact absurd rfl (n1 _ _)
  have keepB : ∀ {b : Addr} {o : Obj}, s.heap.get? b = some o → H b = none → (hidT s.heap H).get? b = some o := fun e n => hidT_get e n
  have nsB : ∀ {b : Addr} {m : Str → Option Value}, s.heap.Ns b m → (hidT s.heap H).Ns b m := fun {b m} ⟨o, es, ep, e, d, r⟩ => ⟨o, es, ep, keepB e (far e (fun us n z => by rw [d] at z; cases z) fun z => by rw [d] at z; cases z), d, r⟩
  have inB : K.In (hidT s.heap H) := fun b o e => by
    refine keepB (KX b o e) ?_
    by_cases h : b ∈ T
    · obtain ⟨p, hp, rfl⟩ := ofT b h
      rw [tO p hp] at e
      cases e
    · rw [Hout b h]
      cases q : H0 b with
      | none => rfl
      | some u =>
        have z := hA b (by simp [q])
        rw [z] at e q
        rw [hK (by simp [q])] at e
        cases e
  have md : Mod K mg (hidT s.heap H) := ⟨inB, nsB h1, ⟨mb, nsB h2, h3⟩, let ⟨mc, y1, y2⟩ := h4; ⟨mc, nsB y1, y2⟩⟩
  have tabs : ∀ p ∈ cs, LamX.TabB (hidT s.heap H) mg p.1 p.2 := fun p hp => by
    refine ⟨?_, ?_, fun z => ?_⟩
    · rcases tC p hp with ⟨o, us, file, tf, fl, tg, inF, txt, tt, e1, q1, q2, q3, q4⟩
      refine ⟨o, us, file, tf, fl, tg, inF, txt, tt, keepB e1 (far e1 (fun us' n z => by rw [q2] at z; cases z) fun z => ?_), q1, q2, q3, q4⟩
      rw [q2] at z
      cases z
      simp at q3
    · rcases tM with ⟨bm, o, m1, m2, m3, m4, m5, m6⟩
      refine ⟨bm, o, m1, m2, fun z => ?_, fun z => ?_, keepB m3 (far m3 (fun us n z => by rw [m6] at z; cases z) fun z => by rw [m6] at z; cases z), m4, m5, m6⟩
      · rcases h1 with ⟨o1, es, ep, e, d, _⟩
        have q := (z ▸ m3 : s.heap.get? mainGlobals = some o).symm.trans e
        cases q
        rw [m6] at d
        cases d
      · have q := (z ▸ m3 : s.heap.get? p.2 = some o).symm.trans (tE p hp)
        cases q
        cases m6
    · rcases h1 with ⟨o1, es, ep, e, d, _⟩
      have q := (z ▸ tE p hp : s.heap.get? mainGlobals = some tabNil).symm.trans e
      cases q
      cases d
  have e0 : Env0 P w K mg (hidT s.heap H) callerA [] s H := ⟨rfl, md, fun b o e => of_hidT e, Nat.le_of_eq (hidT_size _ _), trivial, (fun b z => absurd (show b ∈ ([] : List Addr) from z) (List.not_mem_nil (a := b))), hok, .of_eq h5⟩
  refine codeAny_mono ((F _ inB (nsB h1) tabs).go callerA [] s H ⟨[.ref a], []⟩ [.ref a] [.ref a] _ hr rfl e0 (hb s (.ref a)) (.cons rfl .nil) (hsp H (fun p hp => Hin _ (inT p hp)) hS)) fun r s' h => ?_
  match r, h with
  | .ok (.ret u), h =>
    rcases h with ⟨v, H', os, bare, un, hok', r', q⟩
    have q' : v = .bl true := q
    subst q'
    have eu : u = Value.bool true := r'
    subst eu
    have old : ∀ b o, b ∉ T → s.heap.get? b = some o → s'.heap.get? b = some o := fun b o hbT e => by
      cases q2 : H b with
      | none => exact un.keep b o e q2 (fun z => absurd (show b ∈ ([] : List Addr) from z) (List.not_mem_nil (a := b))) (by simp)
      | some u =>
        have q3 := (Hout b hbT).symm.trans q2
        obtain z | ⟨ob, xs, z⟩ := hO b
        · rw [z] at q3; cases q3
        · have z' := (Hout b hbT).trans z
          obtain ⟨e1, _⟩ := hok b _ z'
          obtain ⟨e2, _⟩ := hok' b _ (un.frzs b ob _ z')
          have e3 := e.symm.trans e1
          cases e3
          exact e2
    have grow : ∀ p ∈ cs, ∃ us : Array Value, s'.heap.get? p.2 = some { cls := .none, data := .fields us } := fun p hp => by
      obtain ⟨us, z⟩ := un.tbls p.2 #[] (Hin _ (inT p hp))
      exact ⟨_, hok' p.2 _ z⟩
    refine (⟨rfl, ⟨fun b o e => ?_, fun b o e => ?_⟩, os, bare⟩)
    · by_cases h : b ∈ T
      · obtain ⟨p, hp, rfl⟩ := ofT b h
        obtain ⟨us, z⟩ := grow p hp
        have e2 := (tE p hp).symm.trans e
        cases e2
        exact .inr (.inl ⟨((tC p hp).tab (tE p hp)).isCodeTable, rfl, #[], us, rfl, z.trans (by simp)⟩)
      · exact .inl (old b o h e)
    · by_cases h : b ∈ T
      · obtain ⟨p, hp, rfl⟩ := ofT b h
        obtain ⟨us, z⟩ := grow p hp
        exact ⟨_, z⟩
      · exact ⟨o, old b o h e⟩
theorem walk_ofEGT {l : PySem.W.OpenLaw} {n k : Nat} {q : Program} {loose : List Str} {XP : (Str → Option Value) → Heap → Prop} {YP : World → Heap → Prop} {d : DefRec} {x : Str}
    (hn : l.most = some n) (hn2 : n ≤ sizeLine) (hr : Room k callerA) (hdf : d.params.defaults = [])
    (F : ∀ (w : World) (mg : Str → Option Value) (fa : Addr) (h : PySem.Heap), YP w h → h.Ns mainGlobals mg → mg d.name = some (.ref fa) →
      ∃ (K : PySem.W.Frag) (cs : List (Addr × Addr)) (fd : FuncData) (sp : Sp), K.In h ∧ (∀ p ∈ cs, h.get? p.2 = some tabNil) ∧ (∀ p ∈ cs, K.lookup p.2 = none) ∧ (∀ p ∈ cs, PySem.W.CodeHd h p.1 p.2) ∧ (∀ (s : Shared) (u : Value), BindsTo s fd ⟨[u], []⟩ [(x, u)]) ∧
        (∀ (H : Hp) (a : Addr) (ns : List Int), ns.length ≤ n → (∀ p ∈ cs, H p.2 = some (.tbl #[])) → SqL K H a (ns.map V.int) → sp [.ref a] H (fun v _ => v = .bl true) E0) ∧ ∀ base : Heap, K.In base → base.Ns mainGlobals mg → (∀ p ∈ cs, LamX.TabB base mg p.1 p.2) → FnG l.prog w K mg base k fa fd [x] sp) :
    PySem.W.WalkO q loose XP YP l.row.toRowW d [] (fun g us => PySem.call g us) := by
  refine Att.attach_call hn hdf fun w s₀ s₁ mg mb fa o pm cd doc a vs ns G Y _ _ _ hmg hobj hints hlen hg => ?_
  obtain ⟨K, cs, fd, sp, KX, tE, tO, tC, hb, hsp, hF⟩ := F w mg fa _ Y G.T.g hmg
  exact law_callGT KX G.T.g G.T.b G.T.builtins G.T.nolimit hg tE tO tC G.T.bmain hobj hints (Nat.le_trans hlen hn2) hr hF hb fun H hH hS => hsp H a ns hlen hH hS
/-! ### the head, with code objects made within defs -/
theorem Fun.of {K : PySem.W.Frag} {x qual : Str} {st : Stmt} {kws : List (Str × V)} {f : Addr} {fd : FuncData} (F : FunD K x qual (defArgs st) (defBody st) (defScope st) [] kws f fd) : Fun K x qual st f fd := by
  rcases F.ex with ⟨oc, od, dV, kV, doc, pm, an, cdv, ct, osl, rfl, lk, hcd, hD, hK⟩
  obtain ⟨_, rfl⟩ | ⟨e, _⟩ := hD
  · exact ⟨⟨oc, od, kV, doc, pm, an, cdv, ct, osl, rfl, lk, hcd⟩, F.kp⟩
  · exact absurd rfl e
theorem FunC.of {K : PySem.W.Frag} {x qual : Str} {st : Stmt} {kws : List (Str × V)} {p : He.Defn} {fd : FuncData} (F : FunD K x qual (defArgs st) (defBody st) (defScope st) [] kws (He.fAd K p) fd) : FunC K x qual st (He.fAd K p) fd (He.cT K p).1 := by
  rcases F.ex with ⟨oc, od, dV, kV, doc, pm, an, cdv, ct, osl, efd, lk, hcd, hD, hK⟩
  rcases hD with ⟨_, e0⟩ | ⟨e, _⟩
  · obtain ⟨c, ec⟩ := He.codeIn_ref hcd
    subst ec e0 efd
    have e2 : (He.cT K p).1 = c := He.codeOf_eq lk rfl
    exact e2.symm ▸ ⟨⟨oc, od, kV, doc, pm, an, ct, osl, rfl, lk, hcd⟩, F.kp⟩
  · exact absurd rfl e
def dPIsInteger : He.DefD := ⟨("is_integer", none), "is_integer", "is_integer", defArgs sPIsInteger, defBody sPIsInteger, defScope sPIsInteger, [], []⟩
def dPIsBetween : He.DefD := ⟨("is_between", none), "is_between", "is_between", defArgs sPIsBetween, defBody sPIsBetween, defScope sPIsBetween, [], []⟩
def dPIsHeaded : He.DefD := ⟨("is_headed", none), "is_headed", "is_headed", defArgs sPIsHeaded, defBody sPIsHeaded, defScope sPIsHeaded, [], []⟩
def dPIsName : He.DefD := ⟨("is_name", none), "is_name", "is_name", defArgs sPIsName, defBody sPIsName, defScope sPIsName, [], []⟩
def dPIsExpression : He.DefD := ⟨("is_expression", none), "is_expression", "is_expression", defArgs sPIsExpression, defBody sPIsExpression, defScope sPIsExpression, [.int 3], []⟩
def dPIsTest : He.DefD := ⟨("is_test", none), "is_test", "is_test", defArgs sPIsTest, defBody sPIsTest, defScope sPIsTest, [.int 2], []⟩
def dPIsStatement : He.DefD := ⟨("is_statement", none), "is_statement", "is_statement", defArgs sPIsStatement, defBody sPIsStatement, defScope sPIsStatement, [], []⟩
def dPBareTest : He.DefD := ⟨("bare_test", none), "bare_test", "bare_test", defArgs sPBareTest, defBody sPBareTest, defScope sPBareTest, [], []⟩
def dPBlocksOf : He.DefD := ⟨("blocks_of", none), "blocks_of", "blocks_of", defArgs sPBlocksOf, defBody sPBlocksOf, defScope sPBlocksOf, [], []⟩
def dPProgramError : He.DefD := ⟨("program_error", none), "program_error", "program_error", defArgs sPProgramError, defBody sPProgramError, defScope sPProgramError, [], []⟩
def dPBoundError : He.DefD := ⟨("bound_error", none), "bound_error", "bound_error", defArgs sPBoundError, defBody sPBoundError, defScope sPBoundError, [], []⟩
def dPEachStatement : He.DefD := ⟨("each_statement", none), "each_statement", "each_statement", defArgs sPEachStatement, defBody sPEachStatement, defScope sPEachStatement, [], []⟩
def dPPlacesIn : He.DefD := ⟨("places_in", none), "places_in", "places_in", defArgs sPPlacesIn, defBody sPPlacesIn, defScope sPPlacesIn, [], []⟩
def dPWeight : He.DefD := ⟨("weight", none), "weight", "weight", defArgs sPWeight, defBody sPWeight, defScope sPWeight, [], []⟩
def dPTestedIn : He.DefD := ⟨("tested_in", none), "tested_in", "tested_in", defArgs sPTestedIn, defBody sPTestedIn, defScope sPTestedIn, [], []⟩
def dPTestsWith : He.DefD := ⟨("tests_with", none), "tests_with", "tests_with", defArgs sPTestsWith, defBody sPTestsWith, defScope sPTestsWith, [], []⟩
def dPSumOver : He.DefD := ⟨("sum_over", none), "sum_over", "sum_over", defArgs sPSumOver, defBody sPSumOver, defScope sPSumOver, [], []⟩
def dPRun : He.DefD := ⟨("run", none), "run", "run", defArgs sPRun, defBody sPRun, defScope sPRun, [], []⟩
def dPSign : He.DefD := ⟨("sign", none), "sign", "sign", defArgs sPSign, defBody sPSign, defScope sPSign, [], []⟩
def dPNumbered : He.DefD := ⟨("numbered", none), "numbered", "numbered", defArgs sPNumbered, defBody sPNumbered, defScope sPNumbered, [], []⟩
def dPEntered : He.DefD := ⟨("entered", none), "entered", "entered", defArgs sPEntered, defBody sPEntered, defScope sPEntered, [], []⟩
def dPValueOf : He.DefD := ⟨("value_of", none), "value_of", "value_of", defArgs sPValueOf, defBody sPValueOf, defScope sPValueOf, [], []⟩
def dPIsTrue : He.DefD := ⟨("is_true", none), "is_true", "is_true", defArgs sPIsTrue, defBody sPIsTrue, defScope sPIsTrue, [], []⟩
def dDeck : He.DefD := ⟨("_law_deck", none), "_law_deck", "_law_deck", defArgs sDeck, defBody sDeck, defScope sDeck, [], []⟩
def dDraw : He.DefD := ⟨("_law_draw", none), "_law_draw", "_law_draw", defArgs sDraw, defBody sDraw, defScope sDraw, [], []⟩
def dOne : He.DefD := ⟨("_law_one", none), "_law_one", "_law_one", defArgs sOne, defBody sOne, defScope sOne, [], []⟩
def dNames : He.DefD := ⟨("_law_names", none), "_law_names", "_law_names", defArgs sNames, defBody sNames, defScope sNames, [], []⟩
def dExpression : He.DefD := ⟨("_law_expression", none), "_law_expression", "_law_expression", defArgs sExpression, defBody sExpression, defScope sExpression, [], []⟩
def dTest : He.DefD := ⟨("_law_test", none), "_law_test", "_law_test", defArgs sTest, defBody sTest, defScope sTest, [], []⟩
def dPlain : He.DefD := ⟨("_law_plain", none), "_law_plain", "_law_plain", defArgs sPlain, defBody sPlain, defScope sPlain, [], []⟩
def dRow : He.DefD := ⟨("_law_row", none), "_law_row", "_law_row", defArgs sRow, defBody sRow, defScope sRow, [], []⟩
def dBlock : He.DefD := ⟨("_law_block", none), "_law_block", "_law_block", defArgs sBlock, defBody sBlock, defScope sBlock, [], []⟩
def dProgram : He.DefD := ⟨("_law_program", none), "_law_program", "_law_program", defArgs sProgram, defBody sProgram, defScope sProgram, [], []⟩
def dNumber : He.DefD := ⟨("_law_number", none), "_law_number", "_law_number", defArgs sNumber, defBody sNumber, defScope sNumber, [], []⟩
def dOther : He.DefD := ⟨("_law_other", none), "_law_other", "_law_other", defArgs sOther, defBody sOther, defScope sOther, [], []⟩
def dTestOther : He.DefD := ⟨("_law_test_other", none), "_law_test_other", "_law_test_other", defArgs sTestOther, defBody sTestOther, defScope sTestOther, [], []⟩
def dRowOther : He.DefD := ⟨("_law_row_other", none), "_law_row_other", "_law_row_other", defArgs sRowOther, defBody sRowOther, defScope sRowOther, [], []⟩
def dRowsOther : He.DefD := ⟨("_law_rows_other", none), "_law_rows_other", "_law_rows_other", defArgs sRowsOther, defBody sRowsOther, defScope sRowsOther, [], []⟩
def dWithMore : He.DefD := ⟨("_law_with_more", none), "_law_with_more", "_law_with_more", defArgs sWithMore, defBody sWithMore, defScope sWithMore, [], []⟩
def dRenamed : He.DefD := ⟨("_law_renamed", none), "_law_renamed", "_law_renamed", defArgs sRenamed, defBody sRenamed, defScope sRenamed, [], []⟩
def dAlike : He.DefD := ⟨("_law_alike", none), "_law_alike", "_law_alike", defArgs sAlike, defBody sAlike, defScope sAlike, [], []⟩
def dPLaw : He.DefD := ⟨("law", none), "law", "law", defArgs sPLaw, defBody sPLaw, defScope sPLaw, [], []⟩
def fn0 : List He.DefD := [dPIsInteger, dPIsBetween, dPIsHeaded, dPIsName, dPIsExpression, dPIsTest, dPIsStatement, dPBareTest, dPBlocksOf, dPProgramError, dPBoundError, dPEachStatement]
def fn1 : List He.DefD := [dPPlacesIn, dPWeight, dPTestedIn, dPTestsWith, dPSumOver, dPRun, dPSign, dPNumbered, dPEntered, dPValueOf, dPIsTrue, dDeck]
def fn2 : List He.DefD := [dDraw, dOne, dNames, dExpression, dTest, dPlain, dRow, dBlock, dProgram, dNumber, dOther, dTestOther]
def fn3 : List He.DefD := [dRowOther, dRowsOther, dWithMore, dRenamed, dAlike, dPLaw]
def fn : List He.DefD := fn0 ++ fn1 ++ fn2 ++ fn3
def fa0 : List He.Fa := [.glo "is_integer", .glo "is_between", .glo "is_headed", .glo "is_name", .glo "is_expression", .glo "is_test", .glo "is_statement", .glo "bare_test", .glo "blocks_of", .glo "program_error", .glo "bound_error", .glo "each_statement", .glo "places_in", .glo "weight", .glo "tested_in", .glo "tests_with", .glo "sum_over", .glo "run", .glo "sign", .glo "numbered"]
def fa1 : List He.Fa := [.glo "entered", .glo "value_of", .glo "is_true", .glo "_law_deck", .glo "_law_draw", .glo "_law_one", .glo "_law_names", .glo "_law_expression", .glo "_law_test", .glo "_law_plain", .glo "_law_row", .glo "_law_block", .glo "_law_program", .glo "_law_number", .glo "_law_other", .glo "_law_test_other", .glo "_law_row_other", .glo "_law_rows_other", .glo "_law_with_more", .glo "_law_renamed"]
def fa2 : List He.Fa := [.glo "_law_alike", .glo "law", .free "abs", .free "all", .free "bool", .free "dict", .free "int", .free "isinstance", .free "len", .free "list", .free "max", .free "range", .free "repr", .free "str", .free "sum", .free "tuple", .int "MAX_NAME" 8, .int "MAX_TIMES" 8, .int "MAX_DEEP" 3, .int "MAX_NOTS" 2]
def fa3 : List He.Fa := [.int "MAX_BY" 6, .int "MAX_PLACES" 24, .int "MAX_WEIGHT" 30, .int "MAX_RESTS" 2, .int "MAX_COMPARINGS" 2, .int "MAX_NEST" 3, .int "MAX_CONSTANT" 99, .int "MAX_FACTOR" 9, .int "MIN_BY" 2, .str "LETTERS" "abcdefghijklmnopqrstuvwxyz", .str "DIGITS" "0123456789", .glo "WORDS"]
def fa : List He.Fa := fa0 ++ fa1 ++ fa2 ++ fa3
def loose0 : List PySem.Str := ["is_integer", "is_between", "is_headed", "is_name", "is_expression", "is_test", "is_statement", "bare_test", "blocks_of", "program_error", "bound_error", "each_statement", "places_in", "weight", "tested_in", "tests_with", "sum_over", "run", "sign", "numbered"]
def loose1 : List PySem.Str := ["entered", "value_of", "is_true", "_law_deck", "_law_draw", "_law_one", "_law_names", "_law_expression", "_law_test", "_law_plain", "_law_row", "_law_block", "_law_program", "_law_number", "_law_other", "_law_test_other", "_law_row_other", "_law_rows_other", "_law_with_more", "_law_renamed"]
def loose2 : List PySem.Str := ["_law_alike", "MAX_NAME", "MAX_TIMES", "MAX_DEEP", "MAX_NOTS", "MAX_BY", "MAX_PLACES", "MAX_WEIGHT", "MAX_RESTS", "MAX_COMPARINGS", "MAX_NEST", "MAX_CONSTANT", "MAX_FACTOR", "MIN_BY", "LETTERS", "DIGITS", "WORDS"]
def looseN : List PySem.Str := loose0 ++ loose1 ++ loose2
def dW : He.Defn := ("weight", none)
def dT : He.Defn := ("tested_in", none)
def wordsD : List He.Dv := [.str "box", .str "set", .str "pay", .str "stop", .str "if", .str "else", .str "repeat", .str "pass", .str "rest", .str "of", .str "not", .str "program"]
def exK (K : PySem.W.Frag) : Bool := He.tupB K "WORDS" wordsD && !decide ((He.cT K dW).2 = (He.cT K dT).2)
abbrev R : PySem.W.OpenRow := PySem.W.OpenLaw.row PySem.Challenge.rw_whichheld_k29_whole_programs_written_oth
abbrev hookH : PySem.W.Hook := He.hookX 4 fa fn [] [dW, dT] exK
def obsH (s : PySem.W.SharedT) : He.AlX := He.obsX 4 fa fn [] [dW, dT] exK (HandSHeadRun.getT s)
theorem obsH_eq (s : PySem.W.SharedT) : obsH s = hookH.obs s.abs := He.obsX_eq (HandSHeadRun.getT_eq s)
set_option maxHeartbeats 0 in
theorem run_head (w : World) : HandSHeadRun.RunEq R (PySem.W.view R.prog [61]) hookH obsH 7000 looseN w := by
  intro os; kernel_rfl
def csK (K : PySem.W.Frag) : List (Addr × Addr) := [He.cT K dW, He.cT K dT]
set_option maxHeartbeats 0 in
theorem facts {w : World} {P : Program} {K : PySem.W.Frag} {h : Heap} {mg : Str → Option Value} {f : Addr} (X : K.In h) (G : h.Ns mainGlobals mg) (hfa : mg ("law" : Str) = some (.ref f)) (cX : He.SaysX fa fn [] [dW, dT] exK w h K) :
    ∃ fd : FuncData, (∀ (s : Shared) (v : Value), BindsTo s fd ⟨[v], []⟩ [("_law_script", v)]) ∧ ∀ base : Heap, K.In base → base.Ns mainGlobals mg → (∀ p ∈ csK K, LamX.TabB base mg p.1 p.2) → FnG P w K mg base 19 f fd ["_law_script"] (spLawT K (He.cT K dW).2 (He.cT K dT).2) := by
  have c := cX.t.d
  obtain ⟨ex1, ex2⟩ := He.ba (show (He.tupB K "WORDS" wordsD && !decide ((He.cT K dW).2 = (He.cT K dT).2)) = true from cX.more)
  have hne : (He.cT K dW).2 ≠ (He.cT K dT).2 := fun e => by rw [decide_eq_true e] at ex2; cases ex2
  have h_WORDS : ∀ H : Hp, SqT K H (He.ga K "WORDS") (WordsK.map V.str) := fun H => He.tupB_ok ex1 H
  obtain ⟨fd_pis_integer, D_pis_integer⟩ := c.def_ 0 (d := dPIsInteger) rfl
  obtain ⟨fd_pis_between, D_pis_between⟩ := c.def_ 1 (d := dPIsBetween) rfl
  obtain ⟨fd_pis_headed, D_pis_headed⟩ := c.def_ 2 (d := dPIsHeaded) rfl
  obtain ⟨fd_pis_name, D_pis_name⟩ := c.def_ 3 (d := dPIsName) rfl
  obtain ⟨fd_pis_expression, D_pis_expression⟩ := c.def_ 4 (d := dPIsExpression) rfl
  obtain ⟨fd_pis_test, D_pis_test⟩ := c.def_ 5 (d := dPIsTest) rfl
  obtain ⟨fd_pis_statement, D_pis_statement⟩ := c.def_ 6 (d := dPIsStatement) rfl
  obtain ⟨fd_pbare_test, D_pbare_test⟩ := c.def_ 7 (d := dPBareTest) rfl
  obtain ⟨fd_pblocks_of, D_pblocks_of⟩ := c.def_ 8 (d := dPBlocksOf) rfl
  obtain ⟨fd_pprogram_error, D_pprogram_error⟩ := c.def_ 9 (d := dPProgramError) rfl
  obtain ⟨fd_pbound_error, D_pbound_error⟩ := c.def_ 10 (d := dPBoundError) rfl
  obtain ⟨fd_peach_statement, D_peach_statement⟩ := c.def_ 11 (d := dPEachStatement) rfl
  obtain ⟨fd_pplaces_in, D_pplaces_in⟩ := c.def_ 12 (d := dPPlacesIn) rfl
  obtain ⟨fd_pweight, D_pweight⟩ := c.def_ 13 (d := dPWeight) rfl
  obtain ⟨fd_ptested_in, D_ptested_in⟩ := c.def_ 14 (d := dPTestedIn) rfl
  obtain ⟨fd_ptests_with, D_ptests_with⟩ := c.def_ 15 (d := dPTestsWith) rfl
  obtain ⟨fd_psum_over, D_psum_over⟩ := c.def_ 16 (d := dPSumOver) rfl
  obtain ⟨fd_prun, D_prun⟩ := c.def_ 17 (d := dPRun) rfl
  obtain ⟨fd_psign, D_psign⟩ := c.def_ 18 (d := dPSign) rfl
  obtain ⟨fd_pnumbered, D_pnumbered⟩ := c.def_ 19 (d := dPNumbered) rfl
  obtain ⟨fd_pentered, D_pentered⟩ := c.def_ 20 (d := dPEntered) rfl
  obtain ⟨fd_pvalue_of, D_pvalue_of⟩ := c.def_ 21 (d := dPValueOf) rfl
  obtain ⟨fd_pis_true, D_pis_true⟩ := c.def_ 22 (d := dPIsTrue) rfl
  obtain ⟨fd_deck, D_deck⟩ := c.def_ 23 (d := dDeck) rfl
  obtain ⟨fd_draw, D_draw⟩ := c.def_ 24 (d := dDraw) rfl
  obtain ⟨fd_one, D_one⟩ := c.def_ 25 (d := dOne) rfl
  obtain ⟨fd_names, D_names⟩ := c.def_ 26 (d := dNames) rfl
  obtain ⟨fd_expression, D_expression⟩ := c.def_ 27 (d := dExpression) rfl
  obtain ⟨fd_test, D_test⟩ := c.def_ 28 (d := dTest) rfl
  obtain ⟨fd_plain, D_plain⟩ := c.def_ 29 (d := dPlain) rfl
  obtain ⟨fd_row, D_row⟩ := c.def_ 30 (d := dRow) rfl
  obtain ⟨fd_block, D_block⟩ := c.def_ 31 (d := dBlock) rfl
  obtain ⟨fd_program, D_program⟩ := c.def_ 32 (d := dProgram) rfl
  obtain ⟨fd_number, D_number⟩ := c.def_ 33 (d := dNumber) rfl
  obtain ⟨fd_other, D_other⟩ := c.def_ 34 (d := dOther) rfl
  obtain ⟨fd_test_other, D_test_other⟩ := c.def_ 35 (d := dTestOther) rfl
  obtain ⟨fd_row_other, D_row_other⟩ := c.def_ 36 (d := dRowOther) rfl
  obtain ⟨fd_rows_other, D_rows_other⟩ := c.def_ 37 (d := dRowsOther) rfl
  obtain ⟨fd_with_more, D_with_more⟩ := c.def_ 38 (d := dWithMore) rfl
  obtain ⟨fd_renamed, D_renamed⟩ := c.def_ 39 (d := dRenamed) rfl
  obtain ⟨fd_alike, D_alike⟩ := c.def_ 40 (d := dAlike) rfl
  obtain ⟨fd_law, D_law⟩ := c.def_ 41 (d := dPLaw) rfl
  have e := hfa.symm.trans (He.glo_ok X G (c.fact 41 (f := .glo "law") rfl))
  cases e
  have bl := FunD.bindsA (ps := ["_law_script"]) D_law fun _ _ _ _ _ _ us hl => match us, hl with | [_], _ => rfl
  refine ⟨fd_law, fun s v => bl s [v] rfl, fun base _ _ TB => ?_⟩
  have TB1 : LamX.TabB base mg (He.cT K dW).1 (He.cT K dW).2 := TB _ (List.mem_cons_self ..)
  have TB2 : LamX.TabB base mg (He.cT K dT).1 (He.cT K dT).2 := TB _ (List.mem_cons_of_mem _ (List.mem_cons_self ..))
  have F_pis_integer : Fun K "is_integer" "is_integer" sPIsInteger (He.ga K "is_integer") fd_pis_integer := Fun.of D_pis_integer
  have b_pis_integer : Binds K fd_pis_integer ["value"] [] := F_pis_integer.binds (ps := ["value"]) fun _ _ _ _ _ _ us hl => match us, hl with | [_], _ => rfl
  have F_pis_between : Fun K "is_between" "is_between" sPIsBetween (He.ga K "is_between") fd_pis_between := Fun.of D_pis_between
  have b_pis_between : Binds K fd_pis_between ["value", "low", "high"] [] := F_pis_between.binds (ps := ["value", "low", "high"]) fun _ _ _ _ _ _ us hl => match us, hl with | [_, _, _], _ => rfl
  have F_pis_headed : Fun K "is_headed" "is_headed" sPIsHeaded (He.ga K "is_headed") fd_pis_headed := Fun.of D_pis_headed
  have b_pis_headed : Binds K fd_pis_headed ["value", "word", "size"] [] := F_pis_headed.binds (ps := ["value", "word", "size"]) fun _ _ _ _ _ _ us hl => match us, hl with | [_, _, _], _ => rfl
  have F_pis_name : Fun K "is_name" "is_name" sPIsName (He.ga K "is_name") fd_pis_name := Fun.of D_pis_name
  have b_pis_name : Binds K fd_pis_name ["value"] [] := F_pis_name.binds (ps := ["value"]) fun _ _ _ _ _ _ us hl => match us, hl with | [_], _ => rfl
  have F_pis_expression : FunD K "is_expression" "is_expression" (defArgs sPIsExpression) (defBody sPIsExpression) (defScope sPIsExpression) [.int 3] [] (He.ga K "is_expression") fd_pis_expression := D_pis_expression
  obtain ⟨ds0_pis_expression, v0_pis_expression, b_pis_expression⟩ := FunD.binds1 (ps := ["value", "deep"]) F_pis_expression 2 1 (by simp) rfl fun _ _ _ _ _ _ _ us its hu hi => match us, its, hu, hi with | [_, _], [_], _, _ => ⟨_, rfl, rfl⟩
  cases v0_pis_expression
  obtain ⟨ds1_pis_expression, v1_pis_expression, b_pis_expression1⟩ := FunD.binds1 (ps := ["value", "deep"]) F_pis_expression 1 0 (by simp) rfl fun _ _ _ _ _ _ _ us its hu hi => match us, its, hu, hi with | [_], [_], _, _ => ⟨_, rfl, rfl⟩
  obtain ⟨dv_pis_expression, e1_pis_expression, v_pis_expression⟩ : ∃ dv, ds1_pis_expression = [dv] ∧ RelV (.int 3) dv := by
    cases v1_pis_expression with
    | cons a b => cases b; exact ⟨_, rfl, a⟩
  subst e1_pis_expression
  have F_pis_test : FunD K "is_test" "is_test" (defArgs sPIsTest) (defBody sPIsTest) (defScope sPIsTest) [.int 2] [] (He.ga K "is_test") fd_pis_test := D_pis_test
  obtain ⟨ds0_pis_test, v0_pis_test, b_pis_test⟩ := FunD.binds1 (ps := ["value", "nots"]) F_pis_test 2 1 (by simp) rfl fun _ _ _ _ _ _ _ us its hu hi => match us, its, hu, hi with | [_, _], [_], _, _ => ⟨_, rfl, rfl⟩
  cases v0_pis_test
  obtain ⟨ds1_pis_test, v1_pis_test, b_pis_test1⟩ := FunD.binds1 (ps := ["value", "nots"]) F_pis_test 1 0 (by simp) rfl fun _ _ _ _ _ _ _ us its hu hi => match us, its, hu, hi with | [_], [_], _, _ => ⟨_, rfl, rfl⟩
  obtain ⟨dv_pis_test, e1_pis_test, v_pis_test⟩ : ∃ dv, ds1_pis_test = [dv] ∧ RelV (.int 2) dv := by
    cases v1_pis_test with
    | cons a b => cases b; exact ⟨_, rfl, a⟩
  subst e1_pis_test
  have F_pis_statement : Fun K "is_statement" "is_statement" sPIsStatement (He.ga K "is_statement") fd_pis_statement := Fun.of D_pis_statement
  have b_pis_statement : Binds K fd_pis_statement ["value"] [] := F_pis_statement.binds (ps := ["value"]) fun _ _ _ _ _ _ us hl => match us, hl with | [_], _ => rfl
  have F_pbare_test : Fun K "bare_test" "bare_test" sPBareTest (He.ga K "bare_test") fd_pbare_test := Fun.of D_pbare_test
  have b_pbare_test : Binds K fd_pbare_test ["test"] [] := F_pbare_test.binds (ps := ["test"]) fun _ _ _ _ _ _ us hl => match us, hl with | [_], _ => rfl
  have F_pblocks_of : Fun K "blocks_of" "blocks_of" sPBlocksOf (He.ga K "blocks_of") fd_pblocks_of := Fun.of D_pblocks_of
  have b_pblocks_of : Binds K fd_pblocks_of ["statement"] [] := F_pblocks_of.binds (ps := ["statement"]) fun _ _ _ _ _ _ us hl => match us, hl with | [_], _ => rfl
  have F_pprogram_error : Fun K "program_error" "program_error" sPProgramError (He.ga K "program_error") fd_pprogram_error := Fun.of D_pprogram_error
  have b_pprogram_error : Binds K fd_pprogram_error ["value"] [] := F_pprogram_error.binds (ps := ["value"]) fun _ _ _ _ _ _ us hl => match us, hl with | [_], _ => rfl
  have F_pbound_error : Fun K "bound_error" "bound_error" sPBoundError (He.ga K "bound_error") fd_pbound_error := Fun.of D_pbound_error
  have b_pbound_error : Binds K fd_pbound_error ["program"] [] := F_pbound_error.binds (ps := ["program"]) fun _ _ _ _ _ _ us hl => match us, hl with | [_], _ => rfl
  have F_peach_statement : Fun K "each_statement" "each_statement" sPEachStatement (He.ga K "each_statement") fd_peach_statement := Fun.of D_peach_statement
  have b_peach_statement : Binds K fd_peach_statement ["program"] [] := F_peach_statement.binds (ps := ["program"]) fun _ _ _ _ _ _ us hl => match us, hl with | [_], _ => rfl
  have F_pplaces_in : Fun K "places_in" "places_in" sPPlacesIn (He.ga K "places_in") fd_pplaces_in := Fun.of D_pplaces_in
  have b_pplaces_in : Binds K fd_pplaces_in ["block"] [] := F_pplaces_in.binds (ps := ["block"]) fun _ _ _ _ _ _ us hl => match us, hl with | [_], _ => rfl
  have F_pweight : Fun K "weight" "weight" sPWeight (He.ga K "weight") fd_pweight := Fun.of D_pweight
  have C_pweight : FunC K "weight" "weight" sPWeight (He.ga K "weight") fd_pweight (He.cT K dW).1 := FunC.of (p := dW) D_pweight
  have b_pweight : Binds K fd_pweight ["program"] [] := F_pweight.binds (ps := ["program"]) fun _ _ _ _ _ _ us hl => match us, hl with | [_], _ => rfl
  have F_ptested_in : Fun K "tested_in" "tested_in" sPTestedIn (He.ga K "tested_in") fd_ptested_in := Fun.of D_ptested_in
  have C_ptested_in : FunC K "tested_in" "tested_in" sPTestedIn (He.ga K "tested_in") fd_ptested_in (He.cT K dT).1 := FunC.of (p := dT) D_ptested_in
  have b_ptested_in : Binds K fd_ptested_in ["block", "word"] [] := F_ptested_in.binds (ps := ["block", "word"]) fun _ _ _ _ _ _ us hl => match us, hl with | [_, _], _ => rfl
  have F_ptests_with : Fun K "tests_with" "tests_with" sPTestsWith (He.ga K "tests_with") fd_ptests_with := Fun.of D_ptests_with
  have b_ptests_with : Binds K fd_ptests_with ["statement", "word"] [] := F_ptests_with.binds (ps := ["statement", "word"]) fun _ _ _ _ _ _ us hl => match us, hl with | [_, _], _ => rfl
  have F_psum_over : Fun K "sum_over" "sum_over" sPSumOver (He.ga K "sum_over") fd_psum_over := Fun.of D_psum_over
  have b_psum_over : Binds K fd_psum_over ["block", "own"] [] := F_psum_over.binds (ps := ["block", "own"]) fun _ _ _ _ _ _ us hl => match us, hl with | [_, _], _ => rfl
  have F_prun : Fun K "run" "run" sPRun (He.ga K "run") fd_prun := Fun.of D_prun
  have b_prun : Binds K fd_prun ["program", "number"] [] := F_prun.binds (ps := ["program", "number"]) fun _ _ _ _ _ _ us hl => match us, hl with | [_, _], _ => rfl
  have F_psign : Fun K "sign" "sign" sPSign (He.ga K "sign") fd_psign := Fun.of D_psign
  have b_psign : Binds K fd_psign ["program", "number"] [] := F_psign.binds (ps := ["program", "number"]) fun _ _ _ _ _ _ us hl => match us, hl with | [_, _], _ => rfl
  have F_pnumbered : Fun K "numbered" "numbered" sPNumbered (He.ga K "numbered") fd_pnumbered := Fun.of D_pnumbered
  have b_pnumbered : Binds K fd_pnumbered ["block", "place"] [] := F_pnumbered.binds (ps := ["block", "place"]) fun _ _ _ _ _ _ us hl => match us, hl with | [_, _], _ => rfl
  have F_pentered : Fun K "entered" "entered" sPEntered (He.ga K "entered") fd_pentered := Fun.of D_pentered
  have b_pentered : Binds K fd_pentered ["statement", "place", "names"] [] := F_pentered.binds (ps := ["statement", "place", "names"]) fun _ _ _ _ _ _ us hl => match us, hl with | [_, _, _], _ => rfl
  have F_pvalue_of : Fun K "value_of" "value_of" sPValueOf (He.ga K "value_of") fd_pvalue_of := Fun.of D_pvalue_of
  have b_pvalue_of : Binds K fd_pvalue_of ["expression", "names"] [] := F_pvalue_of.binds (ps := ["expression", "names"]) fun _ _ _ _ _ _ us hl => match us, hl with | [_, _], _ => rfl
  have F_pis_true : Fun K "is_true" "is_true" sPIsTrue (He.ga K "is_true") fd_pis_true := Fun.of D_pis_true
  have b_pis_true : Binds K fd_pis_true ["test", "names"] [] := F_pis_true.binds (ps := ["test", "names"]) fun _ _ _ _ _ _ us hl => match us, hl with | [_, _], _ => rfl
  have F_deck : Fun K "_law_deck" "_law_deck" sDeck (He.ga K "_law_deck") fd_deck := Fun.of D_deck
  have b_deck : Binds K fd_deck ["_law_script"] [] := F_deck.binds (ps := ["_law_script"]) fun _ _ _ _ _ _ us hl => match us, hl with | [_], _ => rfl
  have F_draw : Fun K "_law_draw" "_law_draw" sDraw (He.ga K "_law_draw") fd_draw := Fun.of D_draw
  have b_draw : Binds K fd_draw ["_law_deck_here", "_law_many"] [] := F_draw.binds (ps := ["_law_deck_here", "_law_many"]) fun _ _ _ _ _ _ us hl => match us, hl with | [_, _], _ => rfl
  have F_one : Fun K "_law_one" "_law_one" sOne (He.ga K "_law_one") fd_one := Fun.of D_one
  have b_one : Binds K fd_one ["_law_deck_here", "_law_items"] [] := F_one.binds (ps := ["_law_deck_here", "_law_items"]) fun _ _ _ _ _ _ us hl => match us, hl with | [_, _], _ => rfl
  have F_names : Fun K "_law_names" "_law_names" sNames (He.ga K "_law_names") fd_names := Fun.of D_names
  have b_names : Binds K fd_names ["_law_deck_here"] [] := F_names.binds (ps := ["_law_deck_here"]) fun _ _ _ _ _ _ us hl => match us, hl with | [_], _ => rfl
  have F_expression : Fun K "_law_expression" "_law_expression" sExpression (He.ga K "_law_expression") fd_expression := Fun.of D_expression
  have b_expression : Binds K fd_expression ["_law_deck_here", "_law_names_here", "_law_deep"] [] := F_expression.binds (ps := ["_law_deck_here", "_law_names_here", "_law_deep"]) fun _ _ _ _ _ _ us hl => match us, hl with | [_, _, _], _ => rfl
  have F_test : Fun K "_law_test" "_law_test" sTest (He.ga K "_law_test") fd_test := Fun.of D_test
  have b_test : Binds K fd_test ["_law_deck_here", "_law_names_here", "_law_room", "_law_times"] [] := F_test.binds (ps := ["_law_deck_here", "_law_names_here", "_law_room", "_law_times"]) fun _ _ _ _ _ _ us hl => match us, hl with | [_, _, _, _], _ => rfl
  have F_plain : Fun K "_law_plain" "_law_plain" sPlain (He.ga K "_law_plain") fd_plain := Fun.of D_plain
  have b_plain : Binds K fd_plain ["_law_deck_here", "_law_names_here"] [] := F_plain.binds (ps := ["_law_deck_here", "_law_names_here"]) fun _ _ _ _ _ _ us hl => match us, hl with | [_, _], _ => rfl
  have F_row : Fun K "_law_row" "_law_row" sRow (He.ga K "_law_row") fd_row := Fun.of D_row
  have b_row : Binds K fd_row ["_law_deck_here", "_law_names_here", "_law_room", "_law_times", "_law_depth"] [] := F_row.binds (ps := ["_law_deck_here", "_law_names_here", "_law_room", "_law_times", "_law_depth"]) fun _ _ _ _ _ _ us hl => match us, hl with | [_, _, _, _, _], _ => rfl
  have F_block : Fun K "_law_block" "_law_block" sBlock (He.ga K "_law_block") fd_block := Fun.of D_block
  have b_block : Binds K fd_block ["_law_deck_here", "_law_names_here", "_law_room", "_law_times", "_law_depth"] [] := F_block.binds (ps := ["_law_deck_here", "_law_names_here", "_law_room", "_law_times", "_law_depth"]) fun _ _ _ _ _ _ us hl => match us, hl with | [_, _, _, _, _], _ => rfl
  have F_program : Fun K "_law_program" "_law_program" sProgram (He.ga K "_law_program") fd_program := Fun.of D_program
  have b_program : Binds K fd_program ["_law_deck_here", "_law_names_here"] [] := F_program.binds (ps := ["_law_deck_here", "_law_names_here"]) fun _ _ _ _ _ _ us hl => match us, hl with | [_, _], _ => rfl
  have F_number : Fun K "_law_number" "_law_number" sNumber (He.ga K "_law_number") fd_number := Fun.of D_number
  have b_number : Binds K fd_number ["_law_deck_here"] [] := F_number.binds (ps := ["_law_deck_here"]) fun _ _ _ _ _ _ us hl => match us, hl with | [_], _ => rfl
  have F_other : Fun K "_law_other" "_law_other" sOther (He.ga K "_law_other") fd_other := Fun.of D_other
  have b_other : Binds K fd_other ["_law_expression_here"] [] := F_other.binds (ps := ["_law_expression_here"]) fun _ _ _ _ _ _ us hl => match us, hl with | [_], _ => rfl
  have F_test_other : Fun K "_law_test_other" "_law_test_other" sTestOther (He.ga K "_law_test_other") fd_test_other := Fun.of D_test_other
  have b_test_other : Binds K fd_test_other ["_law_test_here"] [] := F_test_other.binds (ps := ["_law_test_here"]) fun _ _ _ _ _ _ us hl => match us, hl with | [_], _ => rfl
  have F_row_other : Fun K "_law_row_other" "_law_row_other" sRowOther (He.ga K "_law_row_other") fd_row_other := Fun.of D_row_other
  have b_row_other : Binds K fd_row_other ["_law_row_here", "_law_is_long"] [] := F_row_other.binds (ps := ["_law_row_here", "_law_is_long"]) fun _ _ _ _ _ _ us hl => match us, hl with | [_, _], _ => rfl
  have F_rows_other : Fun K "_law_rows_other" "_law_rows_other" sRowsOther (He.ga K "_law_rows_other") fd_rows_other := Fun.of D_rows_other
  have b_rows_other : Binds K fd_rows_other ["_law_block_here", "_law_is_long"] [] := F_rows_other.binds (ps := ["_law_block_here", "_law_is_long"]) fun _ _ _ _ _ _ us hl => match us, hl with | [_, _], _ => rfl
  have F_with_more : Fun K "_law_with_more" "_law_with_more" sWithMore (He.ga K "_law_with_more") fd_with_more := Fun.of D_with_more
  have b_with_more : Binds K fd_with_more ["_law_deck_here", "_law_program_here"] [] := F_with_more.binds (ps := ["_law_deck_here", "_law_program_here"]) fun _ _ _ _ _ _ us hl => match us, hl with | [_, _], _ => rfl
  have F_renamed : Fun K "_law_renamed" "_law_renamed" sRenamed (He.ga K "_law_renamed") fd_renamed := Fun.of D_renamed
  have b_renamed : Binds K fd_renamed ["_law_value", "_law_names_here"] [] := F_renamed.binds (ps := ["_law_value", "_law_names_here"]) fun _ _ _ _ _ _ us hl => match us, hl with | [_, _], _ => rfl
  have F_alike : Fun K "_law_alike" "_law_alike" sAlike (He.ga K "_law_alike") fd_alike := Fun.of D_alike
  have b_alike : Binds K fd_alike ["_law_deck_here", "_law_one_here", "_law_other_here"] [] := F_alike.binds (ps := ["_law_deck_here", "_law_one_here", "_law_other_here"]) fun _ _ _ _ _ _ us hl => match us, hl with | [_, _, _], _ => rfl
  have F_law : Fun K "law" "law" sPLaw (He.ga K "law") fd_law := Fun.of D_law
  have m_pis_integer : mg "is_integer" = some (.ref (He.ga K "is_integer")) := He.glo_ok X G (c.fact 0 (f := .glo "is_integer") rfl)
  have m_pis_between : mg "is_between" = some (.ref (He.ga K "is_between")) := He.glo_ok X G (c.fact 1 (f := .glo "is_between") rfl)
  have m_pis_headed : mg "is_headed" = some (.ref (He.ga K "is_headed")) := He.glo_ok X G (c.fact 2 (f := .glo "is_headed") rfl)
  have m_pis_name : mg "is_name" = some (.ref (He.ga K "is_name")) := He.glo_ok X G (c.fact 3 (f := .glo "is_name") rfl)
  have m_pis_expression : mg "is_expression" = some (.ref (He.ga K "is_expression")) := He.glo_ok X G (c.fact 4 (f := .glo "is_expression") rfl)
  have m_pis_test : mg "is_test" = some (.ref (He.ga K "is_test")) := He.glo_ok X G (c.fact 5 (f := .glo "is_test") rfl)
  have m_pis_statement : mg "is_statement" = some (.ref (He.ga K "is_statement")) := He.glo_ok X G (c.fact 6 (f := .glo "is_statement") rfl)
  have m_pbare_test : mg "bare_test" = some (.ref (He.ga K "bare_test")) := He.glo_ok X G (c.fact 7 (f := .glo "bare_test") rfl)
  have m_pblocks_of : mg "blocks_of" = some (.ref (He.ga K "blocks_of")) := He.glo_ok X G (c.fact 8 (f := .glo "blocks_of") rfl)
  have m_pprogram_error : mg "program_error" = some (.ref (He.ga K "program_error")) := He.glo_ok X G (c.fact 9 (f := .glo "program_error") rfl)
  have m_pbound_error : mg "bound_error" = some (.ref (He.ga K "bound_error")) := He.glo_ok X G (c.fact 10 (f := .glo "bound_error") rfl)
  have m_peach_statement : mg "each_statement" = some (.ref (He.ga K "each_statement")) := He.glo_ok X G (c.fact 11 (f := .glo "each_statement") rfl)
  have m_pplaces_in : mg "places_in" = some (.ref (He.ga K "places_in")) := He.glo_ok X G (c.fact 12 (f := .glo "places_in") rfl)
  have m_pweight : mg "weight" = some (.ref (He.ga K "weight")) := He.glo_ok X G (c.fact 13 (f := .glo "weight") rfl)
  have m_ptested_in : mg "tested_in" = some (.ref (He.ga K "tested_in")) := He.glo_ok X G (c.fact 14 (f := .glo "tested_in") rfl)
  have m_ptests_with : mg "tests_with" = some (.ref (He.ga K "tests_with")) := He.glo_ok X G (c.fact 15 (f := .glo "tests_with") rfl)
  have m_psum_over : mg "sum_over" = some (.ref (He.ga K "sum_over")) := He.glo_ok X G (c.fact 16 (f := .glo "sum_over") rfl)
  have m_prun : mg "run" = some (.ref (He.ga K "run")) := He.glo_ok X G (c.fact 17 (f := .glo "run") rfl)
  have m_psign : mg "sign" = some (.ref (He.ga K "sign")) := He.glo_ok X G (c.fact 18 (f := .glo "sign") rfl)
  have m_pnumbered : mg "numbered" = some (.ref (He.ga K "numbered")) := He.glo_ok X G (c.fact 19 (f := .glo "numbered") rfl)
  have m_pentered : mg "entered" = some (.ref (He.ga K "entered")) := He.glo_ok X G (c.fact 20 (f := .glo "entered") rfl)
  have m_pvalue_of : mg "value_of" = some (.ref (He.ga K "value_of")) := He.glo_ok X G (c.fact 21 (f := .glo "value_of") rfl)
  have m_pis_true : mg "is_true" = some (.ref (He.ga K "is_true")) := He.glo_ok X G (c.fact 22 (f := .glo "is_true") rfl)
  have m_deck : mg "_law_deck" = some (.ref (He.ga K "_law_deck")) := He.glo_ok X G (c.fact 23 (f := .glo "_law_deck") rfl)
  have m_draw : mg "_law_draw" = some (.ref (He.ga K "_law_draw")) := He.glo_ok X G (c.fact 24 (f := .glo "_law_draw") rfl)
  have m_one : mg "_law_one" = some (.ref (He.ga K "_law_one")) := He.glo_ok X G (c.fact 25 (f := .glo "_law_one") rfl)
  have m_names : mg "_law_names" = some (.ref (He.ga K "_law_names")) := He.glo_ok X G (c.fact 26 (f := .glo "_law_names") rfl)
  have m_expression : mg "_law_expression" = some (.ref (He.ga K "_law_expression")) := He.glo_ok X G (c.fact 27 (f := .glo "_law_expression") rfl)
  have m_test : mg "_law_test" = some (.ref (He.ga K "_law_test")) := He.glo_ok X G (c.fact 28 (f := .glo "_law_test") rfl)
  have m_plain : mg "_law_plain" = some (.ref (He.ga K "_law_plain")) := He.glo_ok X G (c.fact 29 (f := .glo "_law_plain") rfl)
  have m_row : mg "_law_row" = some (.ref (He.ga K "_law_row")) := He.glo_ok X G (c.fact 30 (f := .glo "_law_row") rfl)
  have m_block : mg "_law_block" = some (.ref (He.ga K "_law_block")) := He.glo_ok X G (c.fact 31 (f := .glo "_law_block") rfl)
  have m_program : mg "_law_program" = some (.ref (He.ga K "_law_program")) := He.glo_ok X G (c.fact 32 (f := .glo "_law_program") rfl)
  have m_number : mg "_law_number" = some (.ref (He.ga K "_law_number")) := He.glo_ok X G (c.fact 33 (f := .glo "_law_number") rfl)
  have m_other : mg "_law_other" = some (.ref (He.ga K "_law_other")) := He.glo_ok X G (c.fact 34 (f := .glo "_law_other") rfl)
  have m_test_other : mg "_law_test_other" = some (.ref (He.ga K "_law_test_other")) := He.glo_ok X G (c.fact 35 (f := .glo "_law_test_other") rfl)
  have m_row_other : mg "_law_row_other" = some (.ref (He.ga K "_law_row_other")) := He.glo_ok X G (c.fact 36 (f := .glo "_law_row_other") rfl)
  have m_rows_other : mg "_law_rows_other" = some (.ref (He.ga K "_law_rows_other")) := He.glo_ok X G (c.fact 37 (f := .glo "_law_rows_other") rfl)
  have m_with_more : mg "_law_with_more" = some (.ref (He.ga K "_law_with_more")) := He.glo_ok X G (c.fact 38 (f := .glo "_law_with_more") rfl)
  have m_renamed : mg "_law_renamed" = some (.ref (He.ga K "_law_renamed")) := He.glo_ok X G (c.fact 39 (f := .glo "_law_renamed") rfl)
  have m_alike : mg "_law_alike" = some (.ref (He.ga K "_law_alike")) := He.glo_ok X G (c.fact 40 (f := .glo "_law_alike") rfl)
  have z_abs : mg "abs" = none := He.free_ok X G (c.fact 42 (f := .free "abs") rfl)
  have z_all : mg "all" = none := He.free_ok X G (c.fact 43 (f := .free "all") rfl)
  have z_bool : mg "bool" = none := He.free_ok X G (c.fact 44 (f := .free "bool") rfl)
  have z_dict : mg "dict" = none := He.free_ok X G (c.fact 45 (f := .free "dict") rfl)
  have z_int : mg "int" = none := He.free_ok X G (c.fact 46 (f := .free "int") rfl)
  have z_isinstance : mg "isinstance" = none := He.free_ok X G (c.fact 47 (f := .free "isinstance") rfl)
  have z_len : mg "len" = none := He.free_ok X G (c.fact 48 (f := .free "len") rfl)
  have z_list : mg "list" = none := He.free_ok X G (c.fact 49 (f := .free "list") rfl)
  have z_max : mg "max" = none := He.free_ok X G (c.fact 50 (f := .free "max") rfl)
  have z_range : mg "range" = none := He.free_ok X G (c.fact 51 (f := .free "range") rfl)
  have z_repr : mg "repr" = none := He.free_ok X G (c.fact 52 (f := .free "repr") rfl)
  have z_str : mg "str" = none := He.free_ok X G (c.fact 53 (f := .free "str") rfl)
  have z_sum : mg "sum" = none := He.free_ok X G (c.fact 54 (f := .free "sum") rfl)
  have z_tuple : mg "tuple" = none := He.free_ok X G (c.fact 55 (f := .free "tuple") rfl)
  obtain ⟨t_MAX_NAME, m_MAX_NAME⟩ := He.int_ok X G (c.fact 56 (f := .int "MAX_NAME" 8) rfl)
  obtain ⟨t_MAX_TIMES, m_MAX_TIMES⟩ := He.int_ok X G (c.fact 57 (f := .int "MAX_TIMES" 8) rfl)
  obtain ⟨t_MAX_DEEP, m_MAX_DEEP⟩ := He.int_ok X G (c.fact 58 (f := .int "MAX_DEEP" 3) rfl)
  obtain ⟨t_MAX_NOTS, m_MAX_NOTS⟩ := He.int_ok X G (c.fact 59 (f := .int "MAX_NOTS" 2) rfl)
  obtain ⟨t_MAX_BY, m_MAX_BY⟩ := He.int_ok X G (c.fact 60 (f := .int "MAX_BY" 6) rfl)
  obtain ⟨t_MAX_PLACES, m_MAX_PLACES⟩ := He.int_ok X G (c.fact 61 (f := .int "MAX_PLACES" 24) rfl)
  obtain ⟨t_MAX_WEIGHT, m_MAX_WEIGHT⟩ := He.int_ok X G (c.fact 62 (f := .int "MAX_WEIGHT" 30) rfl)
  obtain ⟨t_MAX_RESTS, m_MAX_RESTS⟩ := He.int_ok X G (c.fact 63 (f := .int "MAX_RESTS" 2) rfl)
  obtain ⟨t_MAX_COMPARINGS, m_MAX_COMPARINGS⟩ := He.int_ok X G (c.fact 64 (f := .int "MAX_COMPARINGS" 2) rfl)
  obtain ⟨t_MAX_NEST, m_MAX_NEST⟩ := He.int_ok X G (c.fact 65 (f := .int "MAX_NEST" 3) rfl)
  obtain ⟨t_MAX_CONSTANT, m_MAX_CONSTANT⟩ := He.int_ok X G (c.fact 66 (f := .int "MAX_CONSTANT" 99) rfl)
  obtain ⟨t_MAX_FACTOR, m_MAX_FACTOR⟩ := He.int_ok X G (c.fact 67 (f := .int "MAX_FACTOR" 9) rfl)
  obtain ⟨t_MIN_BY, m_MIN_BY⟩ := He.int_ok X G (c.fact 68 (f := .int "MIN_BY" 2) rfl)
  obtain ⟨t_LETTERS, m_LETTERS⟩ := He.str_ok X G (c.fact 69 (f := .str "LETTERS" "abcdefghijklmnopqrstuvwxyz") rfl)
  obtain ⟨t_DIGITS, m_DIGITS⟩ := He.str_ok X G (c.fact 70 (f := .str "DIGITS" "0123456789") rfl)
  have m_WORDS : mg "WORDS" = some (.ref (He.ga K "WORDS")) := He.glo_ok X G (c.fact 71 (f := .glo "WORDS") rfl)
  have G_deck : FnOk P w K mg base CX0 1 (He.ga K "_law_deck") fd_deck ["_law_script"] (spDeck K) := by apply ok_deck (k := 0) <;> assumption
  have G_draw : FnOk P w K mg base CX0 1 (He.ga K "_law_draw") fd_draw ["_law_deck_here", "_law_many"] spDraw := by apply ok_draw (k := 0) <;> assumption
  have G_one : FnOk P w K mg base CX0 2 (He.ga K "_law_one") fd_one ["_law_deck_here", "_law_items"] (spOne K) := by apply ok_one (k := 0) <;> assumption
  have G_expr : ∀ d : Nat, FnOk P w K mg base CX0 (d + 2) (He.ga K "_law_expression") fd_expression ["_law_deck_here", "_law_names_here", "_law_deep"] (spExpr K d) := by apply ok_expr <;> assumption
  have G_expr3 : FnOk P w K mg base CX0 5 (He.ga K "_law_expression") fd_expression ["_law_deck_here", "_law_names_here", "_law_deep"] (spExpr K 3) := G_expr 3
  have G_expr2 : FnOk P w K mg base CX0 4 (He.ga K "_law_expression") fd_expression ["_law_deck_here", "_law_names_here", "_law_deep"] (spExpr K 2) := G_expr 2
  have G_test : FnOk P w K mg base CX0 6 (He.ga K "_law_test") fd_test ["_law_deck_here", "_law_names_here", "_law_room", "_law_times"] (spTest K) := by apply ok_test <;> assumption
  have G_plain : FnOk P w K mg base CX0 6 (He.ga K "_law_plain") fd_plain ["_law_deck_here", "_law_names_here"] (spPlain K) := by apply ok_plain <;> assumption
  have G_block : ∀ d : Nat, d ≤ 4 → FnOk P w K mg base CX0 (6 + 2 * d) (He.ga K "_law_block") fd_block ["_law_deck_here", "_law_names_here", "_law_room", "_law_times", "_law_depth"] (spBlock K d) := by
    intro d
    induction d with
    | zero => exact fun _ => ok_block0 (k := 5) F_block
    | succ d ih =>
      intro hd
      have G_block := ih (by omega)
      have G_row : FnOk P w K mg base CX0 (6 + 2 * d + 1) (He.ga K "_law_row") fd_row ["_law_deck_here", "_law_names_here", "_law_room", "_law_times", "_law_depth"] (spRow K d) := by apply ok_row <;> assumption
      have hd3 : d ≤ 3 := by omega
      exact (show FnOk P w K mg base CX0 (6 + 2 * d + 1 + 1) (He.ga K "_law_block") fd_block _ (spBlock K (d + 1)) by apply ok_block hd3 <;> assumption)
  have G_block4 : FnOk P w K mg base CX0 14 (He.ga K "_law_block") fd_block ["_law_deck_here", "_law_names_here", "_law_room", "_law_times", "_law_depth"] (spBlock K 4) := G_block 4 (by omega)
  have G_program : FnOk P w K mg base CX0 15 (He.ga K "_law_program") fd_program ["_law_deck_here", "_law_names_here"] (spProgram K) := by apply ok_program <;> assumption
  have G_names : FnOk P w K mg base CX0 3 (He.ga K "_law_names") fd_names ["_law_deck_here"] (spNames29 K) := by apply ok_names29 (k := 0) <;> assumption
  have G_number : FnOk P w K mg base CX0 3 (He.ga K "_law_number") fd_number ["_law_deck_here"] spNumber := by apply ok_number <;> assumption
  -- the program's own
  have G_pis_integer : FnOk P w K mg base CX0 1 (He.ga K "is_integer") fd_pis_integer ["value"] spIsInt := ok_pis_integer (k := 0) F_pis_integer z_isinstance z_int z_bool
  have G_pblocks_of : FnOk P w K mg base CX0 1 (He.ga K "blocks_of") fd_pblocks_of ["statement"] spBlocks := ok_pblocks_of (k := 0) F_pblocks_of
  have G_peach : GFn P w K mg base 2 (He.ga K "each_statement") fd_peach_statement ["program"] spEach := ok_peach F_peach_statement F_pblocks_of G_pblocks_of b_pblocks_of m_pblocks_of
  have G_pplaces : FnOk P w K mg base CX0 6 (He.ga K "places_in") fd_pplaces_in ["block"] spPlaces := ok_pplaces F_pplaces_in F_peach_statement G_peach b_peach_statement m_peach_statement z_len z_list
  have G_pvalue : ∀ ns, FnOk P w K mg base CX0 5 (He.ga K "value_of") fd_pvalue_of ["expression", "names"] (spValue ns 3) := fun ns => ok_pvalue F_pvalue_of F_pis_integer G_pis_integer b_pvalue_of b_pis_integer m_pvalue_of m_pis_integer z_isinstance z_str 3
  have G_ptrue : ∀ ns, FnOk P w K mg base CX0 8 (He.ga K "is_true") fd_pis_true ["test", "names"] (spTrue ns 3) := fun ns => ok_ptrue F_pis_true F_pvalue_of b_pis_true b_pvalue_of m_pis_true m_pvalue_of (G_pvalue ns) 3
  have G_pnumbered : FnOk P w K mg base CX0 7 (He.ga K "numbered") fd_pnumbered ["block", "place"] spNumbered := ok_pnumbered F_pnumbered F_pplaces_in G_pplaces b_pplaces_in m_pplaces_in
  have G_pentered : ∀ ns, FnOk P w K mg base CX0 9 (He.ga K "entered") fd_pentered ["statement", "place", "names"] (spEntered ns) := fun ns => ok_pentered F_pentered F_pnumbered F_pplaces_in F_pis_true G_pnumbered G_pplaces (G_ptrue ns) b_pnumbered b_pplaces_in b_pis_true m_pnumbered m_pplaces_in m_pis_true
  have G_prun : FnOk P w K mg base CX0 10 (He.ga K "run") fd_prun ["program", "number"] spRunA := FnOk.ex fun ns => ok_prun F_prun F_pnumbered F_pvalue_of F_pentered G_pnumbered (G_pvalue ns) (G_pentered ns) b_pnumbered b_pvalue_of b_pentered m_pnumbered m_pvalue_of m_pentered z_tuple
  have G_psign : FnOk P w K mg base CX0 11 (He.ga K "sign") fd_psign ["program", "number"] spSignA := ok_psign F_psign F_prun G_prun b_prun m_prun z_int
  -- what is wrong with a program
  have G_pis_between : FnOk P w K mg base CX0 2 (He.ga K "is_between") fd_pis_between ["value", "low", "high"] spBetween := ok_pbetween (k := 0) F_pis_between F_pis_integer G_pis_integer b_pis_integer m_pis_integer
  have G_pis_headed : FnOk P w K mg base CX0 1 (He.ga K "is_headed") fd_pis_headed ["value", "word", "size"] spHeaded := ok_pheaded (k := 0) F_pis_headed z_isinstance z_tuple z_len
  have G_pis_name : FnOk P w K mg base CX0 1 (He.ga K "is_name") fd_pis_name ["value"] spName := ok_pname (k := 0) F_pis_name m_MAX_NAME m_WORDS h_WORDS m_LETTERS m_DIGITS z_isinstance z_str z_len z_all
  have G_pexpr : ∀ m : Nat, FnOk P w K mg base CX0 (m + 3) (He.ga K "is_expression") fd_pis_expression ["value", "deep"] (spIsExpr m) := by apply ok_pexpr <;> assumption
  have G_pis_expression : FnOk P w K mg base CX0 7 (He.ga K "is_expression") fd_pis_expression ["value", "deep"] (spIsExpr 4) := G_pexpr 4
  have G_ptest : ∀ m : Nat, FnOk P w K mg base CX0 (m + 7) (He.ga K "is_test") fd_pis_test ["value", "nots"] (spIsTest m) := by apply ok_ptest <;> assumption
  have G_pis_test : FnOk P w K mg base CX0 10 (He.ga K "is_test") fd_pis_test ["value", "nots"] (spIsTest 3) := G_ptest 3
  have G_pis_statement : FnOk P w K mg base CX0 11 (He.ga K "is_statement") fd_pis_statement ["value"] spIsSt := by apply ok_pstatement <;> assumption
  have G_pbare_test : FnOk P w K mg base CX0 1 (He.ga K "bare_test") fd_pbare_test ["test"] spBare := ok_pbare (k := 0) F_pbare_test
  have G_ptests_with : FnOk P w K mg base CX0 2 (He.ga K "tests_with") fd_ptests_with ["statement", "word"] spTestsWith := ok_ptests (k := 0) F_ptests_with F_pbare_test G_pbare_test b_pbare_test m_pbare_test
  have G_sum : ∀ (T : Addr → Hp → Prop) (own : St → Int), HeldL P w K mg base 4 T (spOwn own) → ∀ d : Nat, FnOk P w K mg base CX0 (d + 5) (He.ga K "sum_over") fd_psum_over ["block", "own"] (spSum T own d) := fun T own hh => ok_psum F_psum_over F_pblocks_of G_pblocks_of b_psum_over b_pblocks_of m_psum_over m_pblocks_of z_sum hh
  have G_pweight : FnOk P w K mg base CX0 11 (He.ga K "weight") fd_pweight ["program"] (spWeight (He.cT K dW).2 (He.cT K dT).2 5) := ok_pweight (D := 5) C_pweight F_psum_over TB1 hne G_sum b_psum_over m_psum_over
  have G_ptested_in : FnOk P w K mg base CX0 11 (He.ga K "tested_in") fd_ptested_in ["block", "word"] (spTested (He.cT K dW).2 (He.cT K dT).2 5) := ok_ptested (D := 5) C_ptested_in F_psum_over TB2 hne F_ptests_with G_ptests_with b_ptests_with m_ptests_with z_int G_sum b_psum_over m_psum_over
  have G_pbound_error : FnOk P w K mg base CX0 12 (He.ga K "bound_error") fd_pbound_error ["program"] (spBound (He.cT K dW).2 (He.cT K dT).2 5) := ok_pbound (D := 5) F_pbound_error F_pplaces_in C_pweight C_ptested_in G_pplaces G_pweight G_ptested_in b_pplaces_in b_pweight b_ptested_in m_pplaces_in m_pweight m_ptested_in m_MAX_PLACES m_MAX_WEIGHT m_MAX_RESTS m_MAX_COMPARINGS
  have G_pprogram_error : FnOk P w K mg base CX0 17 (He.ga K "program_error") fd_pprogram_error ["value"] (spPE (He.cT K dW).2 (He.cT K dT).2 5) := ok_perr (D := 5) F_pprogram_error F_peach_statement F_pblocks_of F_pis_statement F_pbound_error G_pblocks_of G_pis_statement G_pbound_error b_peach_statement b_pblocks_of b_pis_statement b_pbound_error m_peach_statement m_pblocks_of m_pis_statement m_pbound_error m_MAX_NEST z_isinstance z_tuple
  -- contraries
  have G_other : ∀ n : Nat, FnOk P w K mg base CX0 (n + 1) (He.ga K "_law_other") fd_other ["_law_expression_here"] (spOther n) := ok_other F_other b_other m_other z_isinstance z_int z_tuple
  have G_other3 : FnOk P w K mg base CX0 4 (He.ga K "_law_other") fd_other ["_law_expression_here"] (spOther 3) := G_other 3
  have G_test_other : FnOk P w K mg base CX0 5 (He.ga K "_law_test_other") fd_test_other ["_law_test_here"] spTestOther := ok_test_other F_test_other F_other G_other3 b_other m_other
  have G_rowsO : ∀ d : Nat, FnOk P w K mg base CX0 (6 + 2 * d) (He.ga K "_law_rows_other") fd_rows_other ["_law_block_here", "_law_is_long"] (spRowsO d) := by
    intro d
    induction d with
    | zero => exact FnOk.up (ok_rowsO0 (k := 0) F_rows_other F_row_other b_row_other m_row_other) (by omega)
    | succ d ih => exact ok_rowsO F_rows_other F_row_other (ok_rowO F_row_other F_rows_other F_test_other F_other ih G_test_other G_other3 b_rows_other b_test_other b_other m_rows_other m_test_other m_other z_isinstance z_tuple) b_row_other m_row_other
  have G_rows_other : FnOk P w K mg base CX0 14 (He.ga K "_law_rows_other") fd_rows_other ["_law_block_here", "_law_is_long"] (spRowsO 4) := G_rowsO 4
  have G_with_more : FnOk P w K mg base CX0 3 (He.ga K "_law_with_more") fd_with_more ["_law_deck_here", "_law_program_here"] (spMore K) := by apply ok_more <;> assumption
  have G_renamed : FnOk P w K mg base CX0 17 (He.ga K "_law_renamed") fd_renamed ["_law_value", "_law_names_here"] (spRen 16) := ok_renamed F_renamed b_renamed m_renamed z_isinstance z_str z_tuple z_len 16
  have G_alike : FnG P w K mg base 18 (He.ga K "_law_alike") fd_alike ["_law_deck_here", "_law_one_here", "_law_other_here"] (spAlike (He.cT K dW).2 (He.cT K dT).2) := ok_alike F_alike F_pprogram_error F_number F_prun F_psign G_pprogram_error G_number G_prun G_psign b_pprogram_error b_number b_prun b_psign m_pprogram_error m_number m_prun m_psign z_repr z_range
  exact ok_law29 F_law F_deck F_draw F_names F_program F_renamed F_number F_rows_other F_with_more F_alike F_pprogram_error F_prun F_psign G_deck G_draw G_names G_program G_renamed G_number G_rows_other G_with_more G_alike G_pprogram_error G_prun G_psign b_deck b_draw b_names b_program b_renamed b_number b_rows_other b_with_more b_alike b_pprogram_error b_prun b_psign m_deck m_draw m_names m_program m_renamed m_number m_rows_other m_with_more m_alike m_pprogram_error m_prun m_psign z_repr z_range z_dict
end GA
open PyProof.Rows PySem PySem.W PySem.Calls
set_option maxHeartbeats 0 in
set_option maxRecDepth 200000 in
theorem PySem.Challenge.cw_whichheld_k29_whole_programs_written_oth_holds : PySem.Challenge.rw_whichheld_k29_whole_programs_written_oth.Holds := by
  w_on; o_law
  refine HandSHeadRun.head_any (r := GA.R) (q := view GA.R.prog [61]) (H := GA.hookH) (ob := GA.obsH) (M := 7000) (loose := GA.looseN) (d := HandSHeadRun.topDef GA.R.prog 61) (kwd := []) GA.obsH_eq
    (by kernel_rfl) (fun s => by kernel_rfl) GA.run_head (by kernel_rfl) (by kernel_rfl) (by kernel_rfl) (by rfl) (by first | assumption | decide +kernel) (by decide +kernel) ⟨rfl, rfl, rfl, rfl, rfl, by decide +kernel⟩ ?hw ?hc
  case hw => w_witness2
  case hc =>
    refine GA.walk_ofEGT (l := PySem.Challenge.rw_whichheld_k29_whole_programs_written_oth) (n := 63) (k := 19) (x := "_law_script") rfl (by decide) ⟨rfl, by decide, by decide⟩ (by kernel_rfl) ?F
    intro w mg fa h Y G hmg0; obtain ⟨K, KX, c⟩ := Y
    have hmg : mg ("law" : PySem.Str) = some (.ref fa) := (show (HandSHeadRun.topDef GA.R.prog 61).name = ("law" : PySem.Str) by kernel_rfl) ▸ hmg0
    obtain ⟨fd, hb, hF⟩ := GA.facts (P := (PySem.Challenge.rw_whichheld_k29_whole_programs_written_oth).prog) (w := w) KX G hmg c
    have two : ∀ {A : PySem.Addr × PySem.Addr → Prop}, (∀ p ∈ [GA.dW, GA.dT], A (He.cT K p)) → ∀ p ∈ GA.csK K, A p := fun {A} z p hp => by
      rcases List.mem_cons.1 hp with rfl | hp
      · exact z _ (List.mem_cons_self ..)
      · rw [List.mem_singleton.1 hp]; exact z _ (List.mem_cons_of_mem _ (List.mem_cons_self ..))
    refine ⟨K, GA.csK K, fd, GA.spLawT K (He.cT K GA.dW).2 (He.cT K GA.dT).2, KX, two c.empty, two c.out, two fun p hp => codeHd_of_K KX (c.hd p hp), hb, fun H a ns hl hT hS => ⟨a, ns, rfl, hS, hl, fun p hp => ?_, fun _ => rfl⟩, hF⟩
    rcases List.mem_cons.1 hp with rfl | hp
    · exact LamX.TabS.nil (hT _ (List.mem_cons_self ..))
    · rw [List.mem_singleton.1 hp]; exact LamX.TabS.nil (hT _ (List.mem_cons_of_mem _ (List.mem_cons_self ..)))
