import PyProof.Rows.All
import Wide.All
import OpenK.AllK
import Wide.FinOn
import KE.KStateDown
import HandS.ForMost
import HandS.Wide
import HandS.TupAny
import HandS.Codes
import KE.GoesMore
import HandS.IsInst
import HandS.Style
import HandS.GenList
import HandS.GenYield
import HandS.Nested
import HandS.Lambda
import HandS.Defaults
import HandS.Walk
import HandS.TupMul
import HandS.NoneIn
import HandS.HeadEnd
import HandS.Head0
import HandS.Head1
import HandS.Head2
import HandS.HeadHook1
import HandS.HeadHook2
import PySem.Challenge.RW_whichheld_k39_what_was_heard
set_option Elab.async false
set_option linter.all false
set_option maxRecDepth 100000
namespace GA
open L2 PySem PySem.Spec PyProof.Rows
def topS (i : Nat) : Stmt := PySem.Challenge.pw_whichheld_k39_what_was_heard.main.body.getD i (.Pass ⟨0, 0, 0, 0⟩)
abbrev sDeck : Stmt := topS 21
abbrev nDeck : List Str := ["_law_script", "_law_cell"]
theorem scDeck : FnScope nDeck ["_law_script"] (defScope sDeck) := ⟨rfl, rfl, rfl, by decide +kernel, rfl, by decide +kernel, by decide +kernel⟩
abbrev sDraw : Stmt := topS 22
abbrev nDraw : List Str := ["_law_deck_here", "_law_many", "_law_cell", "_law_at", "_law_mixed"]
theorem scDraw : FnScope nDraw ["_law_deck_here", "_law_many"] (defScope sDraw) := ⟨rfl, rfl, rfl, by decide +kernel, rfl, by decide +kernel, by decide +kernel⟩
abbrev sOne : Stmt := topS 23
abbrev nOne : List Str := ["_law_deck_here", "_law_items"]
theorem scOne : FnScope nOne ["_law_deck_here", "_law_items"] (defScope sOne) := ⟨rfl, rfl, rfl, by decide +kernel, rfl, by decide +kernel, by decide +kernel⟩
abbrev sNames : Stmt := topS 25
abbrev nNames : List Str := ["_law_deck_here", "_law_letters", "_law_signs_here", "_law_size", "_law_at", "_law_usual", "_law_front", "_law_back", "_law_k"]
theorem scNames : FnScope nNames ["_law_deck_here"] (defScope sNames) := ⟨rfl, rfl, rfl, by decide +kernel, rfl, by decide +kernel, by decide +kernel⟩
abbrev sExpression : Stmt := topS 26
abbrev nExpression : List Str := ["_law_deck_here", "_law_names_here", "_law_deep", "_law_way", "_law_factor", "_law_first"]
theorem scExpression : FnScope nExpression ["_law_deck_here", "_law_names_here", "_law_deep"] (defScope sExpression) := ⟨rfl, rfl, rfl, by decide +kernel, rfl, by decide +kernel, by decide +kernel⟩
abbrev sTest : Stmt := topS 27
abbrev nTest : List Str := ["_law_deck_here", "_law_names_here", "_law_room", "_law_times", "_law_nots", "_law_way", "_law_test_here", "_law_by", "_law_first", "_law_k"]
theorem scTest : FnScope nTest ["_law_deck_here", "_law_names_here", "_law_room", "_law_times"] (defScope sTest) := ⟨rfl, rfl, rfl, by decide +kernel, rfl, by decide +kernel, by decide +kernel⟩
abbrev sRow : Stmt := topS 28
abbrev nRow : List Str := ["_law_deck_here", "_law_names_here", "_law_room", "_law_times", "_law_depth", "_law_way", "_law_name", "_law_test_here", "_law_first", "_law_again"]
theorem scRow : FnScope nRow ["_law_deck_here", "_law_names_here", "_law_room", "_law_times", "_law_depth"] (defScope sRow) := ⟨rfl, rfl, rfl, by decide +kernel, rfl, by decide +kernel, by decide +kernel⟩
abbrev sBlock : Stmt := topS 29
abbrev nBlock : List Str := ["_law_deck_here", "_law_names_here", "_law_room", "_law_times", "_law_depth", "_law_many", "_law_rows", "_law_k", "_law_row_here"]
theorem scBlock : FnScope nBlock ["_law_deck_here", "_law_names_here", "_law_room", "_law_times", "_law_depth"] (defScope sBlock) := ⟨rfl, rfl, rfl, by decide +kernel, rfl, by decide +kernel, by decide +kernel⟩
abbrev sProgram : Stmt := topS 30
abbrev nProgram : List Str := ["_law_deck_here", "_law_names_here", "_law_room", "_law_program_here", "_law_k"]
theorem scProgram : FnScope nProgram ["_law_deck_here", "_law_names_here"] (defScope sProgram) := ⟨rfl, rfl, rfl, by decide +kernel, rfl, by decide +kernel, by decide +kernel⟩
/-! ### heaps: all but some stand as they stood -/
def Sx (ex : List Addr) (H H' : Hp) : Prop := ∀ b o, b ∉ ex → H b = some o → H' b = some o
theorem Sx.refl {ex : List Addr} (H : Hp) : Sx ex H H := fun _ _ _ h => h
theorem Sx.trans {ex : List Addr} {H H1 H2 : Hp} (a : Sx ex H H1) (b : Sx ex H1 H2) : Sx ex H H2 := fun x o n h => b x o n (a x o n h)
theorem Sx.mono {ex fx : List Addr} {H H' : Hp} (a : Sx ex H H') (h : ∀ b ∈ ex, b ∈ fx) : Sx fx H H' := fun x o n e => a x o (fun z => n (h x z)) e
theorem Sx.nil {ex : List Addr} {H H' : Hp} (a : Sx [] H H') : Sx ex H H' := a.mono (fun _ z => by cases z)
theorem Sx.put {ex : List Addr} {H H' : Hp} {p : Addr} {o : HO} (a : Sx ex H H') (h : p ∈ ex) : Sx ex H (upd H' p o) := fun x u n e => by
  rw [upd_ne (fun z => n (by rw [z]; exact h))]
  exact a x u n e
/-- what was not there ahead may change -/
theorem Sx.own {ex : List Addr} {H H' : Hp} {p : Addr} {o : HO} (a : Sx ex H H') (h : H p = none) : Sx ex H (upd H' p o) := fun x u n e => by
  rw [upd_ne (ne_of_none e h)]
  exact a x u n e
theorem Sx.new {ex : List Addr} {H H' : Hp} {p : Addr} {o : HO} (a : Sx ex H H') (h : H' p = none) : Sx ex H (upd H' p o) := fun x u n e => by
  rw [upd_ne (ne_of_none (a x u n e) h)]
  exact a x u n e
theorem Sx.same {H H' : Hp} (a : Sx [] H H') : Same H H' := fun b o e => a b o (fun z => by cases z) e
theorem Sx.of {ex : List Addr} {H H' : Hp} (a : Same H H') : Sx ex H H' := fun b o _ e => a b o e
/-- free behind is free ahead, but for what may go -/
theorem Sx.free {ex : List Addr} {H H' : Hp} {p : Addr} (a : Sx ex H H') (hx : p ∉ ex) (h : H' p = none) : H p = none := by
  cases e : H p with
  | none => rfl
  | some o => rw [a p o hx e] at h; cases h
/-! ### the deck -/
/-- the deck at a: its cells at c, k numbers drawn -/
structure Dk (H : Hp) (a c : Addr) (cs : List Int) (k : Int) : Prop where
  ha : H a = some (.lst [.ref c, .int k])
  hc : H c = some (.lst (cs.map V.int))
  pos : ∀ x ∈ cs, 0 ≤ x
  len : cs.length ≤ 63
  k0 : 0 ≤ k
theorem Dk.ne {H : Hp} {a c : Addr} {cs : List Int} {k : Int} (D : Dk H a c cs k) : a ≠ c := fun e => by
  have h1 := D.ha
  rw [e, D.hc] at h1
  match cs, h1 with
  | [x, y], h1 => simp at h1
theorem Dk.sx {H H' : Hp} {a c : Addr} {cs : List Int} {k : Int} {ex : List Addr} (D : Dk H a c cs k) (s : Sx ex H H') (h1 : a ∉ ex) (h2 : c ∉ ex) : Dk H' a c cs k := ⟨s _ _ h1 D.ha, s _ _ h2 D.hc, D.pos, D.len, D.k0⟩
theorem Dk.same {H H' : Hp} {a c : Addr} {cs : List Int} {k : Int} (D : Dk H a c cs k) (s : Sx [] H H') : Dk H' a c cs k := D.sx s (by simp) (by simp)
/-- so many numbers may be drawn in all -/
abbrev KB : Int := 1099511627776
/-- go on from any heap of which as much is known -/
theorem gh {R F : Hp → Prop} {H1 : Hp} (f : F H1) (h : ∀ H2, F H2 → R H2) : R H1 := h H1 f
theorem lt_line {n : Nat} (h : n < 16777216) : n < sizeLine := h
theorem le_line {n : Nat} (h : n ≤ 16777216) : n ≤ sizeLine := h
theorem ixN_of {n j : Nat} {i : Int} (e : i = (j : Int)) (hj : j < n) : ixN n i = some j := by
  subst e
  unfold ixN
  rw [if_pos (by omega)]; rw [if_pos (by omega)]; simp
theorem Sx.rd {ex : List Addr} {H H' : Hp} {p : Addr} {u : HO} (a : Sx ex H H') (h : p ∉ ex) (r : Rd H p u) : Rd H' p u := by
  rcases r with r | ⟨o, r⟩
  · exact .inl (a _ _ h r)
  · exact .inr ⟨o, a _ _ h r⟩
theorem Sx.seqL {ex : List Addr} {H H' : Hp} {K : PySem.W.Frag} {p : Addr} {xs : List V} (a : Sx ex H H') (h : p ∉ ex) (r : SqL K H p xs) : SqL K H' p xs := r.imp (a.rd h) id
theorem Sx.seqT {ex : List Addr} {H H' : Hp} {K : PySem.W.Frag} {p : Addr} {xs : List V} (a : Sx ex H H') (h : p ∉ ex) (r : SqT K H p xs) : SqT K H' p xs := r.imp (a.rd h) id
theorem ix_or {X : Cx} {r r' : R2} (h : IxR X r) (h' : IxR X r') : IxR X (fun x y H Q => r x y H Q ∨ r' x y H Q) := by
  intro e1 e2 pins s σ H x y v u Q I rx ry q hs
  rcases q with q | q
  · exact h e1 e2 pins s σ H x y v u Q I rx ry q hs
  · exact h' e1 e2 pins s σ H x y v u Q I rx ry q hs
theorem cr_or {X : Cx} {f : Value} {r r' : List V → Hp → VK → Prop} (h : CallR X f r) (h' : CallR X f r') : CallR X f (fun x H Q => r x H Q ∨ r' x H Q) := by
  intro pins s σ H xs us Q I rx q
  rcases q with q | q
  · exact h pins s σ H xs us Q I rx q
  · exact h' pins s σ H xs us Q I rx q
/-! ### data of tuples -/
mutual
/-- v is the data d, tuples of ints and texts within one another -/
inductive Tp (H : Hp) : V → PyData → Prop where
  | non : Tp H .non .none
  | bl (b : Bool) : Tp H (.bl b) (.bool b)
  | int (i : Int) : Tp H (.int i) (.int i)
  | str (x : Str) : Tp H (.str x) (.str x)
  | tup {a : Addr} {xs : List V} {ds : List PyData} : H a = some (.tup xs) → TpAll H xs ds → Tp H (.ref a) (.tuple ds)
inductive TpAll (H : Hp) : List V → List PyData → Prop where
  | nil : TpAll H [] []
  | cons {v : V} {vs : List V} {d : PyData} {ds : List PyData} : Tp H v d → TpAll H vs ds → TpAll H (v :: vs) (d :: ds)
end
/-- the tuples stand as they stood -/
def Tk (H H' : Hp) : Prop := ∀ b xs, H b = some (.tup xs) → H' b = some (.tup xs)
theorem Tk.refl (H : Hp) : Tk H H := fun _ _ h => h
theorem Tk.trans {H H1 H2 : Hp} (a : Tk H H1) (b : Tk H1 H2) : Tk H H2 := fun x o h => b x o (a x o h)
theorem Sx.tk {ex : List Addr} {H H' : Hp} (s : Sx ex H H') (h : ∀ b ∈ ex, ∃ ys, H b = some (.lst ys)) : Tk H H' := fun b xs e => s b _ (fun hb => by
  obtain ⟨ys, e'⟩ := h b hb
  rw [e] at e'
  cases e') e
theorem Sx.tk0 {H H' : Hp} (s : Sx [] H H') : Tk H H' := s.tk (fun _ z => by cases z)
mutual
theorem Tp.keep {H H' : Hp} (s : Tk H H') : ∀ {v : V} {d : PyData}, Tp H v d → Tp H' v d
  | _, _, .non => .non
  | _, _, .bl b => .bl b
  | _, _, .int i => .int i
  | _, _, .str x => .str x
  | _, _, .tup h a => .tup (s _ _ h) (TpAll.keep s a)
theorem TpAll.keep {H H' : Hp} (s : Tk H H') : ∀ {vs : List V} {ds : List PyData}, TpAll H vs ds → TpAll H' vs ds
  | _, _, .nil => .nil
  | _, _, .cons a b => .cons (Tp.keep s a) (TpAll.keep s b)
end
mutual
theorem Tp.dp {K : PySem.W.Frag} {H : Hp} : ∀ {v : V} {d : PyData}, Tp H v d → Dp K H v d
  | _, _, .non => .non
  | _, _, .bl b => .bl b
  | _, _, .int i => .int i
  | _, _, .str x => .str x
  | _, _, .tup h a => .tup (SqT.of h) (TpAll.dp a)
theorem TpAll.dp {K : PySem.W.Frag} {H : Hp} : ∀ {vs : List V} {ds : List PyData}, TpAll H vs ds → DpAll K H vs ds
  | _, _, .nil => .nil
  | _, _, .cons a b => .cons (Tp.dp a) (TpAll.dp b)
end
theorem TpAll.len {H : Hp} : ∀ {vs : List V} {ds : List PyData}, TpAll H vs ds → vs.length = ds.length
  | _, _, .nil => rfl
  | _, _, .cons _ b => by rw [List.length_cons, List.length_cons, TpAll.len b]
theorem TpAll.get {H : Hp} : ∀ {vs : List V} {ds : List PyData} {i : Nat} {v : V}, TpAll H vs ds → vs[i]? = some v → ∃ d, ds[i]? = some d ∧ Tp H v d
  | _, _, 0, _, .cons a _, e => ⟨_, rfl, by cases e; exact a⟩
  | _, _, i + 1, _, .cons _ b, e => TpAll.get (i := i) b e
theorem TpAll.append {H : Hp} : ∀ {vs ws : List V} {ds es : List PyData}, TpAll H vs ds → TpAll H ws es → TpAll H (vs ++ ws) (ds ++ es)
  | _, _, _, _, .nil, h => h
  | _, _, _, _, .cons a b, h => .cons a (TpAll.append b h)
theorem Tp.tuple {H : Hp} {v : V} {ds : List PyData} (h : Tp H v (.tuple ds)) : ∃ a xs, v = .ref a ∧ H a = some (.tup xs) ∧ TpAll H xs ds := by
  cases h with
  | tup h a => exact ⟨_, _, rfl, h, a⟩
theorem Tp.new {H : Hp} {v : V} {d : PyData} {p : Addr} {o : HO} (h : Tp H v d) (n : H p = none) : Tp (upd H p o) v d := h.keep ((Sx.refl _).new n).tk0
theorem TpAll.new {H : Hp} {vs : List V} {ds : List PyData} {p : Addr} {o : HO} (h : TpAll H vs ds) (n : H p = none) : TpAll (upd H p o) vs ds := h.keep ((Sx.refl _).new n).tk0
theorem Dk.new {H : Hp} {a c p : Addr} {cs : List Int} {k : Int} {o : HO} (D : Dk H a c cs k) (n : H p = none) : Dk (upd H p o) a c cs k := D.same ((Sx.refl _).new n)
/-- what is shown once and used on several ways -/
theorem share {B G : Prop} (hB : B) (h : B → G) : G := h hB
theorem Sx.step {ex fx : List Addr} {H H1 H2 : Hp} (a : Sx ex H H1) (b : Sx fx H1 H2) (h : ∀ x ∈ fx, x ∈ ex ∨ H x = none) : Sx ex H H2 := fun x o n e =>
  b x o (fun z => (h x z).elim n (fun y => by rw [e] at y; cases y)) (a x o n e)
theorem gnm {i : Nat} {v : V} {σ : L2.St} {H : Hp} {Qf : L2.St → Hp → Prop} (h : Qf (σ.set i (some v)) H) : gName i v σ H Qf := h
/-! ### what the generator makes -/
/-- expressions over the names, at most so many in one another -/
inductive ExD (ns : List Str) : Nat → PyData → Prop where
  | int {d : Nat} (i : Int) : -99 ≤ i → i ≤ 99 → ExD ns (d + 1) (.int i)
  | name {d : Nat} (z : Str) : z ∈ ns → ExD ns (d + 1) (.str z)
  | plus {d : Nat} {x y : PyData} : ExD ns d x → ExD ns d y → ExD ns (d + 1) (.tuple [.str "plus", x, y])
  | minus {d : Nat} {x y : PyData} : ExD ns d x → ExD ns d y → ExD ns (d + 1) (.tuple [.str "minus", x, y])
  | times {d : Nat} {x : PyData} (f : Int) : -9 ≤ f → f ≤ 9 → ExD ns d x → ExD ns (d + 1) (.tuple [.str "times", .int f, x])
/-- so many draws at most -/
def cE : Nat → Int
  | 0 => 0
  | d + 1 => 2 * cE d + 3
theorem cE_pos : ∀ d, 0 ≤ cE d
  | 0 => Int.le_refl _
  | d + 1 => by have := cE_pos d; show 0 ≤ 2 * cE d + 3; omega
theorem cE_one (d : Nat) : cE (d + 1) = 2 * cE d + 3 := rfl
/-- a name: one to eight small letters and digits, none of the words -/
def WordsK : List Str := ["box", "set", "pay", "stop", "if", "else", "repeat", "pass", "rest", "of", "not", "program"]
structure NmOk (z : Str) : Prop where
  lo : 1 ≤ z.length
  hi : z.length ≤ 8
  sgn : ∀ x ∈ z.cps.toList, (97 ≤ x ∧ x ≤ 122) ∨ (48 ≤ x ∧ x ≤ 57)
  hd : ∀ x, z.cps.toList[0]? = some x → 97 ≤ x
  kw : z ∉ WordsK
theorem NmOk.ok {z : Str} (h : NmOk z) : PyData.strOk z = true := by
  unfold PyData.strOk
  rw [Array.all_eq_true']
  intro x hx
  have := h.sgn x (Array.mem_toList_iff.mpr hx)
  refine decide_eq_true ?_; omega
/-- names at nm -/
structure Nms (K : PySem.W.Frag) (H : Hp) (nm : Addr) (ns : List Str) : Prop where
  tr : H nm = some (.lst (ns.map V.str))
  ne : ns ≠ []
  len : ns.length ≤ 1000
  ok : ∀ z ∈ ns, NmOk z
  hn : ("n" : Str) ∈ ns
  two : ∃ z ∈ ns, ns[1]? = some z
theorem Nms.keep {K : PySem.W.Frag} {H H' : Hp} {nm : Addr} {ns : List Str} {ex : List Addr} (N : Nms K H nm ns) (s : Sx ex H H') (h : nm ∉ ex) : Nms K H' nm ns := ⟨s _ _ h N.tr, N.ne, N.len, N.ok, N.hn, N.two⟩
theorem Nms.at_ {K : PySem.W.Frag} {H : Hp} {nm : Addr} {ns : List Str} (N : Nms K H nm ns) : SqL K H nm (ns.map V.str) := .inl (.inl N.tr)
theorem Nms.nw {K : PySem.W.Frag} {H : Hp} {nm p : Addr} {ns : List Str} (N : Nms K H nm ns) (h : H p = none) : nm ≠ p := fun z => (by rw [← z, N.tr] at h; cases h)
theorem Dk.lst {H : Hp} {a c : Addr} {cs : List Int} {k : Int} (D : Dk H a c cs k) : ∀ b ∈ [a, c], ∃ ys, H b = some (.lst ys) := fun b hb => by
  rcases List.mem_cons.1 hb with rfl | hb
  · exact ⟨_, D.ha⟩
  · rw [List.mem_singleton.mp hb]; exact ⟨_, D.hc⟩
theorem Dk.tk {H H' : Hp} {a c : Addr} {cs : List Int} {k : Int} (D : Dk H a c cs k) (s : Sx [a, c] H H') : Tk H H' := s.tk D.lst
/-- a new object is none of the deck's -/
theorem Dk.nw {H : Hp} {a c p : Addr} {cs : List Int} {k : Int} (D : Dk H a c cs k) (h : H p = none) : p ≠ a ∧ p ≠ c :=
  ⟨fun e => (by rw [e, D.ha] at h; cases h), fun e => (by rw [e, D.hc] at h; cases h)⟩
/-- tests with at most so many "not"; true: of a rest -/
inductive TsD (ns : List Str) : Nat → Bool → PyData → Prop where
  | rest {n : Nat} {x : PyData} (b r : Int) : ExD ns 3 x → 2 ≤ b → b ≤ 6 → 0 ≤ r → r < b → TsD ns n true (.tuple [.str "rest", x, .int b, .int r])
  | less {n : Nat} {x y : PyData} : ExD ns 3 x → ExD ns 3 y → TsD ns n false (.tuple [.str "less", x, y])
  | not {n : Nat} {b : Bool} {t : PyData} : TsD ns n b t → TsD ns (n + 1) b (.tuple [.str "not", t])
def bI (b : Bool) : Int := if b then 1 else 0
mutual
/-- statements whose blocks lie at most so deep: with its places, weight, rests, comparings -/
inductive StD (ns : List Str) : Nat → Int → Int → Int → Int → PyData → Prop where
  | set {d : Nat} {e : PyData} (z : Str) : z ∈ ns → ExD ns 3 e → StD ns d 1 1 0 0 (.tuple [.str "set", .str z, e])
  | pay {d : Nat} {e : PyData} : ExD ns 3 e → StD ns d 1 1 0 0 (.tuple [.str "pay", e])
  | stop {d : Nat} : StD ns d 1 1 0 0 (.tuple [.str "stop"])
  | ite {d : Nat} {t : PyData} {b : Bool} {n1 w1 r1 c1 n2 w2 r2 c2 : Int} {ys zs : List PyData} : TsD ns 2 b t → BkD ns d n1 w1 r1 c1 ys → BkD ns d n2 w2 r2 c2 zs →
      StD ns d (1 + n1 + n2) (1 + w1 + w2) (bI b + r1 + r2) (bI (!b) + c1 + c2) (.tuple [.str "if", t, .tuple ys, .tuple zs])
  | rep {d : Nat} {n1 w1 r1 c1 : Int} {ys : List PyData} (k : Int) : 1 ≤ k → k ≤ 8 → BkD ns d n1 w1 r1 c1 ys → StD ns d (1 + n1) (1 + k * w1) (k * r1) (k * c1) (.tuple [.str "repeat", .int k, .tuple ys])
inductive BkD (ns : List Str) : Nat → Int → Int → Int → Int → List PyData → Prop where
  | nil {d : Nat} : BkD ns d 0 0 0 0 []
  | cons {d : Nat} {n1 w1 r1 c1 n2 w2 r2 c2 : Int} {s : PyData} {ss : List PyData} : StD ns d n1 w1 r1 c1 s → BkD ns (d + 1) n2 w2 r2 c2 ss → BkD ns (d + 1) (n1 + n2) (w1 + w2) (r1 + r2) (c1 + c2) (s :: ss)
end
/-! ### such data may be compared -/
def Sh (n : Nat) (e : PyData) : Prop := e.canLay0 = true ∧ e.depth ≤ n
def ShA (n : Nat) (es : List PyData) : Prop := PyData.canLayAll0 es = true ∧ PyData.depthAll es ≤ n
theorem ShA.nil {n : Nat} : ShA n [] := ⟨by simp only [PyData.canLayAll0], by simp only [PyData.depthAll]; omega⟩
theorem ShA.cons {n : Nat} {e : PyData} {es : List PyData} (h : Sh n e) (hs : ShA n es) : ShA n (e :: es) :=
  ⟨by simp only [PyData.canLayAll0, h.1, hs.1, Bool.and_self], by simp only [PyData.depthAll]; have := h.2; have := hs.2; omega⟩
theorem Sh.tup {n : Nat} {es : List PyData} (h : ShA n es) : Sh (n + 1) (.tuple es) := ⟨by simp only [PyData.canLay0, h.1], by simp only [PyData.depth]; have := h.2; omega⟩
theorem Sh.int {n : Nat} (i : Int) : Sh n (.int i) := ⟨by simp only [PyData.canLay0], by simp only [PyData.depth]; omega⟩
theorem Sh.str {n : Nat} {z : Str} (h : PyData.strOk z = true) : Sh n (.str z) := ⟨by simp only [PyData.canLay0, h], by simp only [PyData.depth]; omega⟩
theorem Sh.mono {n m : Nat} {e : PyData} (h : Sh n e) (l : n ≤ m) : Sh m e := ⟨h.1, Nat.le_trans h.2 l⟩
theorem ShA.mono {n m : Nat} {e : List PyData} (h : ShA n e) (l : n ≤ m) : ShA m e := ⟨h.1, Nat.le_trans h.2 l⟩
theorem Sh.shaped {n : Nat} {e : PyData} (h : Sh n e) (l : n ≤ 64) : SeqAt.shaped e = true := by
  unfold SeqAt.shaped
  rw [h.1, decide_eq_true (Nat.le_trans h.2 l)]
  rfl
theorem ExD.sh {ns : List Str} (hn : ∀ z ∈ ns, NmOk z) {d : Nat} {e : PyData} (h : ExD ns d e) : Sh d e := by
  induction h with
  | int i _ _ => exact .int i
  | name z hz => exact .str (hn z hz).ok
  | plus _ _ h1 h2 => exact .tup (.cons (.str (by decide +kernel)) (.cons h1 (.cons h2 .nil)))
  | minus _ _ h1 h2 => exact .tup (.cons (.str (by decide +kernel)) (.cons h1 (.cons h2 .nil)))
  | times f _ _ _ h1 => exact .tup (.cons (.str (by decide +kernel)) (.cons (.int f) (.cons h1 .nil)))
theorem TsD.sh {ns : List Str} (hn : ∀ z ∈ ns, NmOk z) {n : Nat} {b : Bool} {e : PyData} (h : TsD ns n b e) : Sh (n + 4) e := by
  induction h with
  | rest b r hx _ _ _ _ => exact (Sh.tup (.cons (.str (by decide +kernel)) (.cons (hx.sh hn) (.cons (.int b) (.cons (.int r) .nil))))).mono (by omega)
  | less hx hy => exact (Sh.tup (.cons (.str (by decide +kernel)) (.cons (hx.sh hn) (.cons (hy.sh hn) .nil)))).mono (by omega)
  | not _ ih => exact .tup (.cons (.str (by decide +kernel)) (.cons ih .nil))
theorem TsD.up {ns : List Str} {n m : Nat} {b : Bool} {e : PyData} (h : TsD ns n b e) (l : n ≤ m) : TsD ns m b e := by
  induction h generalizing m with
  | rest b r h1 h2 h3 h4 h5 => exact .rest b r h1 h2 h3 h4 h5
  | less h1 h2 => exact .less h1 h2
  | not _ ih =>
    obtain ⟨j, rfl⟩ : ∃ j, m = j + 1 := ⟨m - 1, by omega⟩
    exact .not (ih (by omega))
mutual
theorem StD.sh {ns : List Str} (hn : ∀ z ∈ ns, NmOk z) : ∀ {d : Nat} {n w r c : Int} {e : PyData}, StD ns d n w r c e → Sh (2 * d + 9) e
  | _, _, _, _, _, _, .set z hz hx => (Sh.tup (.cons (.str (by decide +kernel)) (.cons (.str (hn z hz).ok) (.cons (hx.sh hn) .nil)))).mono (by omega)
  | _, _, _, _, _, _, .pay hx => (Sh.tup (.cons (.str (by decide +kernel)) (.cons (hx.sh hn) .nil))).mono (by omega)
  | _, _, _, _, _, _, .stop => (Sh.tup (n := 0) (.cons (.str (by decide +kernel)) .nil)).mono (by omega)
  | d, _, _, _, _, _, .ite ht hy hz => (Sh.tup (n := 2 * d + 8) (.cons (.str (by decide +kernel)) (.cons ((ht.sh hn).mono (by omega)) (.cons ((Sh.tup (BkD.sh hn hy)).mono (by omega)) (.cons ((Sh.tup (BkD.sh hn hz)).mono (by omega)) .nil))))).mono (by omega)
  | d, _, _, _, _, _, .rep k _ _ hy => (Sh.tup (n := 2 * d + 8) (.cons (.str (by decide +kernel)) (.cons (.int k) (.cons ((Sh.tup (BkD.sh hn hy)).mono (by omega)) .nil)))).mono (by omega)
theorem BkD.sh {ns : List Str} (hn : ∀ z ∈ ns, NmOk z) : ∀ {d : Nat} {n w r c : Int} {es : List PyData}, BkD ns d n w r c es → ShA (2 * d + 7) es
  | _, _, _, _, _, _, .nil => .nil
  | _, _, _, _, _, _, .cons h hs => .cons ((StD.sh hn h).mono (by omega)) (BkD.sh hn hs)
end
/-- the room at rm -/
structure Rm (H : Hp) (rm : Addr) (r0 r1 r2 r3 : Int) : Prop where
  at_ : H rm = some (.lst [.int r0, .int r1, .int r2, .int r3])
  p0 : 0 ≤ r0
  p1 : 0 ≤ r1
  p2 : 0 ≤ r2
  p3 : 0 ≤ r3
theorem Rm.sx {H H' : Hp} {rm : Addr} {r0 r1 r2 r3 : Int} {ex : List Addr} (R : Rm H rm r0 r1 r2 r3) (s : Sx ex H H') (h : rm ∉ ex) : Rm H' rm r0 r1 r2 r3 := ⟨s _ _ h R.at_, R.p0, R.p1, R.p2, R.p3⟩
theorem Rm.new {H : Hp} {rm p : Addr} {r0 r1 r2 r3 : Int} {o : HO} (R : Rm H rm r0 r1 r2 r3) (n : H p = none) : Rm (upd H p o) rm r0 r1 r2 r3 := R.sx ((Sx.refl (ex := []) _).new n) (by simp)
theorem Rm.nw {H : Hp} {rm p : Addr} {r0 r1 r2 r3 : Int} (R : Rm H rm r0 r1 r2 r3) (n : H p = none) : p ≠ rm := fun e => (by rw [e, R.at_] at n; cases n)
theorem lst3 {H : Hp} {a c rm : Addr} {cs : List Int} {k r0 r1 r2 r3 : Int} (D : Dk H a c cs k) (R : Rm H rm r0 r1 r2 r3) : ∀ b ∈ [a, c, rm], ∃ ys, H b = some (.lst ys) := fun b hb => by
  simp only [List.not_mem_nil, List.mem_cons, or_false] at hb
  obtain rfl | rfl | rfl := hb
  · exact ⟨_, D.ha⟩
  · exact ⟨_, D.hc⟩
  · exact ⟨_, R.at_⟩
theorem Rm.cast {H : Hp} {rm : Addr} {r0 r1 r2 r3 q0 q1 q2 q3 : Int} (R : Rm H rm r0 r1 r2 r3) (e0 : r0 = q0) (e1 : r1 = q1) (e2 : r2 = q2) (e3 : r3 = q3) : Rm H rm q0 q1 q2 q3 := by
  subst e0 e1 e2 e3
  exact R
theorem BkD.snoc {ns : List Str} {d : Nat} {n2 w2 r2 c2 : Int} {s : PyData} (hs : StD ns d n2 w2 r2 c2 s) : ∀ (xs : List PyData) {n w r c : Int}, BkD ns (d + 1) n w r c xs → BkD ns (d + 1) (n + n2) (w + w2) (r + r2) (c + c2) (xs ++ [s])
  | [], _, _, _, _, .nil => by
    have h : BkD ns (d + 1) (n2 + 0) (w2 + 0) (r2 + 0) (c2 + 0) [s] := .cons hs .nil
    have e : ∀ x : Int, x + 0 = 0 + x := fun x => Int.add_comm _ _
    rw [e, e, e, e] at h
    exact h
  | x :: xs, _, _, _, _, .cons (n1 := n1) (w1 := w1) (r1 := r1) (c1 := c1) (n2 := n3) (w2 := w3) (r2 := r3) (c2 := c3) hx hxs => by
    have h := BkD.cons hx (BkD.snoc hs xs hxs)
    rw [← Int.add_assoc, ← Int.add_assoc, ← Int.add_assoc, ← Int.add_assoc] at h
    exact h
/-- not () -/
def ne0 (e : PyData) : Bool := !PyData.eqv e (.tuple [])
theorem StD.ne0 {ns : List Str} {d : Nat} {n w r c : Int} {e : PyData} (h : StD ns d n w r c e) : GA.ne0 e = true := by
  cases h <;> rfl
theorem ne0_nil : ne0 (.tuple []) = false := rfl
theorem ExD.up {ns : List Str} {n m : Nat} {e : PyData} (h : ExD ns n e) (l : n ≤ m) : ExD ns m e := by
  induction h generalizing m with
  | int i h1 h2 => obtain ⟨j, rfl⟩ : ∃ j, m = j + 1 := ⟨m - 1, by omega⟩; exact .int i h1 h2
  | name z h1 => obtain ⟨j, rfl⟩ : ∃ j, m = j + 1 := ⟨m - 1, by omega⟩; exact .name z h1
  | plus _ _ h1 h2 => obtain ⟨j, rfl⟩ : ∃ j, m = j + 1 := ⟨m - 1, by omega⟩; exact .plus (h1 (by omega)) (h2 (by omega))
  | minus _ _ h1 h2 => obtain ⟨j, rfl⟩ : ∃ j, m = j + 1 := ⟨m - 1, by omega⟩; exact .minus (h1 (by omega)) (h2 (by omega))
  | times f a b _ h1 => obtain ⟨j, rfl⟩ : ∃ j, m = j + 1 := ⟨m - 1, by omega⟩; exact .times f a b (h1 (by omega))
theorem bI_nn (b : Bool) : 0 ≤ bI b := by cases b <;> decide
mutual
theorem StD.pos {ns : List Str} : ∀ {d : Nat} {n w r c : Int} {e : PyData}, StD ns d n w r c e → 1 ≤ n ∧ 1 ≤ w ∧ 0 ≤ r ∧ 0 ≤ c
  | _, _, _, _, _, _, .set z hz hx => by omega
  | _, _, _, _, _, _, .pay hx => by omega
  | _, _, _, _, _, _, .stop => by omega
  | _, _, _, _, _, _, .ite (b := b) ht hy hz => by
    have h1 := BkD.pos hy
    have h2 := BkD.pos hz
    have h3 := bI_nn b
    have h4 := bI_nn (!b)
    omega
  | _, _, _, _, _, _, .rep (w1 := w1) (r1 := r1) (c1 := c1) k hk _ hy => by
    have h1 := BkD.pos hy
    have h2 : 0 ≤ k * w1 := Int.mul_nonneg (by omega) (by omega)
    have h3 : 0 ≤ k * r1 := Int.mul_nonneg (by omega) (by omega)
    have h4 : 0 ≤ k * c1 := Int.mul_nonneg (by omega) (by omega)
    omega
theorem BkD.pos {ns : List Str} : ∀ {d : Nat} {n w r c : Int} {es : List PyData}, BkD ns d n w r c es → (es.length : Int) ≤ n ∧ (es.length : Int) ≤ w ∧ 0 ≤ r ∧ 0 ≤ c
  | _, _, _, _, _, _, .nil => by simp
  | _, _, _, _, _, _, .cons h hs => by
    have h1 := StD.pos h
    have h2 := BkD.pos hs
    rw [List.length_cons]
    omega
end
theorem BkD.append {ns : List Str} {d : Nat} {n2 w2 r2 c2 : Int} {ys : List PyData} (hy : BkD ns (d + 1) n2 w2 r2 c2 ys) : ∀ (xs : List PyData) {n w r c : Int}, BkD ns (d + 1) n w r c xs → BkD ns (d + 1) (n + n2) (w + w2) (r + r2) (c + c2) (xs ++ ys)
  | [], _, _, _, _, .nil => by
    rw [Int.zero_add, Int.zero_add, Int.zero_add, Int.zero_add]
    exact hy
  | x :: xs, _, _, _, _, .cons hx hxs => by
    have h := BkD.cons hx (BkD.append hy xs hxs)
    rw [← Int.add_assoc, ← Int.add_assoc, ← Int.add_assoc, ← Int.add_assoc] at h
    exact h
/-- a tuple and a tuple -/
theorem cat_tp {K : PySem.W.Frag} {H : Hp} {v u : V} {ds es : List PyData} {Q : VK} (h1 : Tp H v (.tuple ds)) (h2 : Tp H u (.tuple es)) (hl : ds.length + es.length ≤ 16777216)
    (q : ∀ H' z, Sx [] H H' → (∀ b, H' b = none → H b = none) → Tp H' z (.tuple (ds ++ es)) → Q z H') : rCatA K v u H Q := by
  obtain ⟨a, xs, rfl, ha, hx⟩ := h1.tuple
  obtain ⟨b, ys, rfl, hb, hy⟩ := h2.tuple
  refine ⟨a, b, xs, ys, rfl, rfl, .inl (.inl ha), .inl (.inl hb), by rw [hx.len, hy.len]; exact hl, fun e => ?_, fun _ e => ?_, fun _ _ p hp => ?_⟩
  · subst e
    cases hx
    exact q H _ (Sx.refl _) (fun _ h => h) (.tup hb hy)
  · subst e
    cases hy
    rw [List.append_nil] at q
    exact q H _ (Sx.refl _) (fun _ h => h) (.tup ha hx)
  · refine q _ _ ((Sx.refl _).new hp) (fun z hz => ?_) (.tup upd_same ((hx.append hy).new hp))
    by_cases e : z = p
    · rw [e]; exact hp
    · rw [upd_ne e] at hz; exact hz
def cP : Int := 700000
def spProgram (K : PySem.W.Frag) : Sp := fun vs H Q _ => ∃ (a c : Addr) (cs : List Int) (k : Int) (nm : Addr) (ns : List Str), vs = [.ref a, .ref nm] ∧ Dk H a c cs k ∧ Nms K H nm ns ∧ nm ≠ a ∧ nm ≠ c ∧ k + cP ≤ KB ∧
  ∀ H' cs' k' v es n w r cc, Sx [a, c] H H' → Dk H' a c cs' k' → k ≤ k' → k' ≤ k + cP → Tp H' v (.tuple es) → BkD ns 4 n w r cc es → n ≤ 24 → w ≤ 30 → r ≤ 2 → cc ≤ 2 → Q v H'
def cB : Nat → Int
  | 0 => 0
  | d + 1 => 1 + 4 * (71 + 2 * cB d)
theorem cB_pos : ∀ d, 0 ≤ cB d
  | 0 => Int.le_refl _
  | d + 1 => by have := cB_pos d; show 0 ≤ 1 + 4 * (71 + 2 * cB d); omega
theorem cB_one (d : Nat) : cB (d + 1) = 1 + 4 * (71 + 2 * cB d) := rfl
def spBlock (K : PySem.W.Frag) (d : Nat) : Sp := fun vs H Q _ => ∃ (a c : Addr) (cs : List Int) (k : Int) (nm : Addr) (ns : List Str) (rm : Addr) (r0 r1 r2 r3 t : Int), vs = [.ref a, .ref nm, .ref rm, .int t, .int (4 - (d : Int))] ∧ Dk H a c cs k ∧ Nms K H nm ns ∧ Rm H rm r0 r1 r2 r3 ∧
  nm ≠ a ∧ nm ≠ c ∧ nm ≠ rm ∧ rm ≠ a ∧ rm ≠ c ∧ 1 ≤ t ∧ r1 ≤ 30 ∧ k + cB d ≤ KB ∧
  ∀ H' cs' k' v es n w r cc, Sx [a, c, rm] H H' → Dk H' a c cs' k' → k ≤ k' → k' ≤ k + cB d → Tp H' v (.tuple es) → BkD ns d n w r cc es → Rm H' rm (r0 - n) (r1 - t * w) (r2 - t * r) (r3 - t * cc) → 0 ≤ w → r1 - t * w ≤ r1 → Q v H'
def spRow (K : PySem.W.Frag) (d : Nat) : Sp := fun vs H Q _ => ∃ (a c : Addr) (cs : List Int) (k : Int) (nm : Addr) (ns : List Str) (rm : Addr) (r0 r1 r2 r3 t : Int), vs = [.ref a, .ref nm, .ref rm, .int t, .int (3 - (d : Int))] ∧ Dk H a c cs k ∧ Nms K H nm ns ∧ Rm H rm r0 r1 r2 r3 ∧
  nm ≠ a ∧ nm ≠ c ∧ nm ≠ rm ∧ rm ≠ a ∧ rm ≠ c ∧ 1 ≤ t ∧ r1 ≤ 30 ∧ k + (71 + 2 * cB d) ≤ KB ∧
  ∀ H' cs' k' v e, Sx [a, c, rm] H H' → Dk H' a c cs' k' → k ≤ k' → k' ≤ k + (71 + 2 * cB d) → Tp H' v e →
    ((e = .tuple [] ∧ Rm H' rm r0 r1 r2 r3) ∨ ∃ n w r cc, StD ns d n w r cc e ∧ Rm H' rm (r0 - n) (r1 - t * w) (r2 - t * r) (r3 - t * cc) ∧ 0 ≤ w ∧ r1 - t * w ≤ r1) → Q v H'
def spNames (K : PySem.W.Frag) : Sp := fun vs H Q _ => ∃ (a c : Addr) (cs : List Int) (k : Int), vs = [.ref a] ∧ Dk H a c cs k ∧ k + 20 ≤ KB ∧
  ∀ H' cs' k' p ns, Sx [a, c] H H' → Dk H' a c cs' k' → k ≤ k' → k' ≤ k + 20 → H p = none → p ≠ a → p ≠ c → Nms K H' p ns → Q (.ref p) H'
/-- a text of one sign -/
abbrev s1 (x : Nat) : Str := ⟨#[x]⟩
theorem join_s1 : ∀ ls : List Nat, Txt.join (Str.ofString "") (ls.map s1) = ⟨ls.toArray⟩ := fun ls => by
  have e0 : (Str.ofString "" : Str) = SX.S [] := by decide +kernel
  have e1 : ls.map s1 = (ls.map fun x => [x]).map SX.S := by rw [List.map_map]; rfl
  have e2 : ∀ l : List Nat, TL.joinL [] (l.map fun x => [x]) = l := by
    intro l
    induction l with
    | nil => rfl
    | cons x r ih =>
      cases r with
      | nil => rfl
      | cons y r => show [x] ++ ([] ++ TL.joinL [] ((y :: r).map fun x => [x])) = _; rw [ih]; rfl
  rw [e0, e1, SX.join_S, e2]
theorem sum_s1 (ls : List Nat) : ((ls.map s1).map (·.length)).sum = ls.length := by
  induction ls with
  | nil => rfl
  | cons x r ih => rw [List.map_cons, List.map_cons, List.sum_cons, ih, List.length_cons, Nat.add_comm]; rfl
/-- so many signs of z stand in the list at Z -/
def Pz (H0 : Hp) (a c : Addr) (k : Int) (Z : Addr) (z : Str) (i : Nat) (H' : Hp) : Prop := Sx [a, c] H0 H' ∧ (∃ cs', Dk H' a c cs' (k + i)) ∧ ∃ ls : List Nat, H' Z = some (.lst ((ls.map s1).map V.str)) ∧ ls.length = i ∧ ∀ x ∈ ls, x ∈ z.cps.toList
theorem Pz.zero {H0 : Hp} {a c : Addr} {cs : List Int} {k : Int} {Z : Addr} {z : Str} (D : Dk H0 a c cs k) (h : H0 Z = none) : Pz H0 a c k Z z 0 (upd H0 Z (.lst [])) :=
  ⟨(Sx.refl _).new h, ⟨cs, by have := D.new (o := .lst []) h; rw [show k + ((0 : Nat) : Int) = k by omega]; exact this⟩, [], upd_same, rfl, fun _ z => by simp at z⟩
theorem Pz.step {H0 H' H2 : Hp} {a c : Addr} {cs : List Int} {k : Int} {Z : Addr} {z : Str} {i : Nat} {x : Nat} (h0 : H0 Z = none) (D0 : Dk H0 a c cs k) (p : Pz H0 a c k Z z i H') (s : Sx [a, c] H' H2) {cs2 : List Int} (D : Dk H2 a c cs2 (k + i + 1)) (hx : x ∈ z.cps.toList) (hi : i < 1000) :
    ∃ acc, H2 Z = some (.lst acc) ∧ acc.length < sizeLine ∧ Pz H0 a c k Z z (i + 1) (upd H2 Z (.lst (acc ++ [.str (s1 x)]))) := by
  obtain ⟨p1, _, ls, p3, p4, p5⟩ := p
  obtain ⟨Za, Zc⟩ := D0.nw h0
  refine ⟨_, s _ _ (by simp [Za, Zc]) p3, lt_line (by rw [List.length_map, List.length_map]; omega), (p1.trans s).own h0, ⟨cs2, ?_⟩, ls ++ [x], ?_, by rw [List.length_append, p4]; rfl, fun y hy => ?_⟩
  · rw [show k + ((i + 1 : Nat) : Int) = k + i + 1 by omega]
    exact D.sx ((Sx.refl (ex := [Z]) _).put (by simp)) (by simp [Za.symm]) (by simp [Zc.symm])
  · rw [upd_same, List.map_append, List.map_append]
    rfl
  · rcases List.mem_append.1 hy with w | w
    · exact p5 y w
    · rw [List.mem_singleton.mp w]; exact hx
/-- whether a text is a name -/
def nmOkB (z : Str) : Bool := decide (1 ≤ z.length) && decide (z.length ≤ 8) && z.cps.toList.all (fun x => (decide (97 ≤ x) && decide (x ≤ 122)) || (decide (48 ≤ x) && decide (x ≤ 57))) && (match z.cps.toList with | [] => true | x :: _ => decide (97 ≤ x)) && !WordsK.contains z
theorem nmOk_of {z : Str} (h : nmOkB z = true) : NmOk z := by
  unfold nmOkB at h
  simp only [Bool.and_eq_true, decide_eq_true_eq, Bool.not_eq_true', List.all_eq_true, Bool.or_eq_true] at h
  obtain ⟨⟨⟨⟨h1, h2⟩, h3⟩, h4⟩, h5⟩ := h
  refine ⟨h1, h2, fun x hx => h3 x hx, fun x hx => ?_, fun hm => ?_⟩
  · cases e : z.cps.toList with
    | nil => rw [e] at hx; simp at hx
    | cons y r =>
      rw [e] at hx h4
      have : y = x := Option.some.inj hx
      rw [← this]
      exact of_decide_eq_true h4
  · rw [List.contains_eq_mem, decide_eq_true hm] at h5
    cases h5
theorem words_no : ∀ z ∈ WordsK, ∀ x ∈ z.cps.toList, x ≠ 113 ∧ x ≠ 118 ∧ x ≠ 122 := by decide +kernel
theorem ab_az : ∀ x ∈ (Str.ofString "abcdefghijklmnopqrstuvwxyz").cps.toList, 97 ≤ x ∧ x ≤ 122 := by decide +kernel
theorem ab_09 : ∀ x ∈ (Str.ofString "abcdefghijklmnopqrstuvwxyz" ++ Str.ofString "0123456789").cps.toList, (97 ≤ x ∧ x ≤ 122) ∨ (48 ≤ x ∧ x ≤ 57) := by decide +kernel
theorem nm_made {ls gs : List Nat} {x : Nat} (hl : ∀ y ∈ ls, 97 ≤ y ∧ y ≤ 122) (hg : ∀ y ∈ gs, (97 ≤ y ∧ y ≤ 122) ∨ (48 ≤ y ∧ y ≤ 57)) (hx : x = 113 ∨ x = 118 ∨ x = 122) (hn : ls.length + gs.length ≤ 7) :
    NmOk ((⟨ls.toArray⟩ : Str) ++ s1 x ++ (⟨gs.toArray⟩ : Str)) := by
  have e : ((⟨ls.toArray⟩ : Str) ++ s1 x ++ (⟨gs.toArray⟩ : Str)) = ⟨(ls ++ [x] ++ gs).toArray⟩ := by
    show (⟨ls.toArray ++ #[x] ++ gs.toArray⟩ : Str) = _
    simp
  rw [e]
  have el : (⟨(ls ++ [x] ++ gs).toArray⟩ : Str).length = ls.length + 1 + gs.length := by
    show (ls ++ [x] ++ gs).toArray.size = _
    simp
    omega
  refine ⟨by omega, by omega, fun y hy => ?_, fun y hy => ?_, fun hm => ?_⟩
  · have hy' : y ∈ ls ++ [x] ++ gs := by simpa using hy
    simp only [List.mem_append, List.mem_singleton] at hy'
    rcases hy' with (h | h) | h
    · exact .inl (hl y h)
    · omega
    · exact hg y h
  · have hy' : (ls ++ [x] ++ gs)[0]? = some y := by simpa using hy
    cases ls with
    | nil => have : x = y := Option.some.inj (by simpa using hy'); omega
    | cons u r => have : u = y := Option.some.inj (by simpa using hy'); have := hl u (by simp); omega
  · have := words_no _ hm x (by simp)
    omega
section
variable {w : World} {P : Program} {K : PySem.W.Frag} {mg : Str → Option Value} {base : Heap}
def spDeck (K : PySem.W.Frag) : Sp := fun vs H Q _ => ∃ (a : Addr) (ns : List Int), vs = [.ref a] ∧ SqL K H a (ns.map V.int) ∧ ns.length ≤ 63 ∧
  ∀ H' p c cs, Sx [] H H' → H p = none → H c = none → Dk H' p c cs 0 → Q (.ref p) H'
theorem ok_deck {f : Addr} {fd : FuncData} {k : Nat} (F : Fun K "_law_deck" "_law_deck" sDeck f fd) (ma : mg "abs" = none) : FnOk P w K mg base CX0 (k + 1) f fd ["_law_script"] (spDeck K) := by
  refine F.ok scDeck (fun vs H Q E h => ?_) (fun cdv A outer s H vs Q E hr h => ?_)
  · obtain ⟨a, ns, rfl, _⟩ := h
    rfl
  · rcases h with ⟨a, ns, rfl, hS, hlen, q⟩
    refine ⟨_, pss_one (ps_ret (pe_lst (pa_cons
      (pe_lc (own := [("_law_cell", 1)]) (g := gName 1) (tt := tYes) rfl scDeck.nd (pi_list (pe_slice sl_list (pv 0) po_none (po_some pe_int))) (blkOk_by (N := nDeck) (sc := defScope sDeck) (by decide +kernel))
        (fun _ _ _ _ _ => pg_name (i := 1) scDeck.nd rfl (Or.inl rfl)) (fun _ _ _ _ _ => pts_nil) (fun _ _ _ _ _ => pe_callB call_abs (by rfl) ma (by decide +kernel) (pa_cons (pv 1) pa_nil)))
      (pa_cons pe_int pa_nil)))), ?_⟩
    refine ⟨_, rfl, 63, rfl, a, ns.map V.int, rfl, hS, fun l hl => ?_⟩
    have cut : cutV (ns.map V.int) none (some 63) = ns.map V.int := by
      unfold cutV
      rw [HT.sIx_none, show HT.sIx (ns.map V.int).length (ns.map V.int).length (some 63) = min 63 (ns.map V.int).length from HT.sIx_nat _ _ 63, List.drop_zero, Nat.sub_zero, List.length_map, Nat.min_eq_right hlen]
      exact List.take_of_length_le (by rw [List.length_map]; exact Nat.le_refl _)
    rw [cut]
    have s1 : Sx [] H (upd H l (.lst (ns.map V.int))) := Sx.new (Sx.refl _) hl
    refine ⟨l, rfl, ⟨_, .inl (.inl upd_same)⟩, fun D hD => lc_list (xs := ns.map V.int)
      (fun i H' => Sx [] H H' ∧ H' l = some (.lst (ns.map V.int)) ∧ H' D = some (.lst ((ns.map fun x => V.int (if x < 0 then -x else x)).take i))) ⟨s1.new hD, ?_, upd_same⟩ (fun i H' _ p => .inl (.inl p.2.1)) (fun i x H' hx p => ?_) (fun H' p => ?_)⟩
    · have hlD : l ≠ D := fun e => by
        rw [← e, upd_same] at hD
        cases hD
      rw [upd_ne hlD, upd_same]
    · obtain ⟨p1, p2, p3⟩ := p
      rw [List.getElem?_map] at hx
      obtain ⟨y, hy, rfl⟩ := Option.map_eq_some_iff.mp hx
      refine ⟨rfl, ?_⟩
      refine ⟨.int y, rfl, y, rfl, _, p3, ?_, ?_, ?_, ?_⟩
      · rw [List.length_take, List.length_map]
        have : (63 : Nat) < sizeLine := by decide
        omega
      · exact p1.own (s1.free (by simp) hD)
      · have hlD : l ≠ D := fun e => by
          rw [← e, upd_same] at hD
          cases hD
        rw [upd_ne hlD]
        exact p2
      · rw [upd_same, List.take_add_one, List.getElem?_map, hy]
        rfl
    · obtain ⟨p1, p2, p3⟩ := p
      refine ⟨by (show 2 ≤ sizeLine); decide, fun p hp => ?_⟩
      have hDp : D ≠ p := ne_of_none p3 hp
      rw [List.length_map, List.take_of_length_le (by rw [List.length_map]; exact Nat.le_refl _)] at p3
      refine q _ p D (ns.map fun x => if x < 0 then -x else x) (p1.new hp) (p1.free (by simp) hp) (s1.free (by simp) hD) ⟨upd_same, ?_, ?_, by rw [List.length_map]; exact hlen, Int.le_refl _⟩
      · rw [upd_ne hDp, p3, List.map_map]
        rfl
      · intro x hx
        obtain ⟨y, _, rfl⟩ := List.mem_map.mp hx
        split <;> omega
def spDraw : Sp := fun vs H Q _ => ∃ (a c : Addr) (cs : List Int) (k m : Int), vs = [.ref a, .int m] ∧ Dk H a c cs k ∧ 0 < m ∧ m < 1073741824 ∧ k < KB ∧
  ∀ H' cs' r, Sx [a, c] H H' → Dk H' a c cs' (k + 1) → 0 ≤ r → r < m → Q (.int r) H'
theorem ok_draw {f : Addr} {fd : FuncData} {k : Nat} (F : Fun K "_law_draw" "_law_draw" sDraw f fd) (z_len : mg "len" = none) (z_int : mg "int" = none) : FnOk P w K mg base CX0 (k + 1) f fd ["_law_deck_here", "_law_many"] spDraw := by
  refine F.ok scDraw (fun vs H Q E h => ?_) (fun cdv A outer s H vs Q E hr h => ?_)
  · obtain ⟨a, c, cs, k, m, rfl, _⟩ := h
    rfl
  · obtain ⟨a, c, cs, k, m, rfl, D, hm0, hm1, hk, q⟩ := h
    refine ⟨_, (pss_cons (ps_asg (pe_op op_add (pe_ix ix_list (pv 0) pe_int (fun _ _ => rfl)) pe_int) (pg_sub (pv 0) pe_int set_list))
      (pss_cons (ps_asg (pe_tup (pa_cons pe_int (pa_cons (pe_un un_neg pe_int) pa_nil))) (pg_tup rfl (pgs_cons (pg_name (i := 2) scDraw.nd rfl (by first | exact Or.inl rfl | exact Or.inr rfl)) (pgs_cons (pg_name (i := 3) scDraw.nd rfl (by first | exact Or.inl rfl | exact Or.inr rfl)) pgs_nil))))
      (C8.pss_cut (ps_if (pt_cmpR op_gt (pe_callB call_len_seq (by rfl) z_len boot_len (pa_cons (pe_ix ix_list (pv 0) pe_int (fun _ _ => rfl)) pa_nil)) pe_int (nomark _)) (pss_cons (ps_set (i := 3) scDraw.nd rfl (by first | exact Or.inl rfl | exact Or.inr rfl) (pe_op op_mod (pe_callTy call_int1 (by rfl) z_int boot_int (pa_cons (pe_ix ix_list (pv 0) pe_int (fun _ _ => rfl)) pa_nil)) (pe_callB call_len_seq (by rfl) z_len boot_len (pa_cons (pe_ix ix_list (pv 0) pe_int (fun _ _ => rfl)) pa_nil))))
      (pss_one (ps_set (i := 2) scDraw.nd rfl (by first | exact Or.inl rfl | exact Or.inr rfl) (pe_ix ix_list (pe_ix ix_list (pv 0) pe_int (fun _ _ => rfl)) (pv 3) (fun _ _ => rfl))))) pss_nil)
      (pss_cons (ps_if (pt_cmpR op_ge (pv 2) (pe_op op_pow pe_int pe_int) (nomark _)) (pss_cons (ps_asg (pe_op op_fdiv (pe_callTy call_int1 (by rfl) z_int boot_int (pa_cons (pv 2) pa_nil)) (pv 1)) (pg_sub (pe_ix ix_list (pv 0) pe_int (fun _ _ => rfl)) (pv 3) set_list))
      (pss_one (ps_ret (pe_op op_mod (pe_callTy call_int1 (by rfl) z_int boot_int (pa_cons (pv 2) pa_nil)) (pv 1))))) pss_nil)
      (pss_cons (ps_set (i := 4) scDraw.nd rfl (by first | exact Or.inl rfl | exact Or.inr rfl) (pe_op op_add (pe_op op_add (pe_op op_mod (pe_callTy call_int1 (by rfl) z_int boot_int (pa_cons (pv 2) pa_nil)) pe_int) (pe_op op_mul pe_int (pe_ix ix_list (pv 0) pe_int (fun _ _ => rfl)))) pe_int))
      (pss_one (ps_ret (pe_op op_mod (pe_callTy call_int1 (by rfl) z_int boot_int (pa_cons (pe_op op_mod (pe_callTy call_int1 (by rfl) z_int boot_int (pa_cons (pe_op op_pow (pv 4) pe_int) pa_nil)) pe_int) pa_nil)) (pv 1))))))))), ?_⟩
    refine ⟨.ref a, rfl, a, _, 1, .int k, rfl, rfl, .inl (.inl D.ha), rfl, _, _, rfl, rfl, .ref a, rfl, a, _, 1, 1, rfl, rfl, D.ha, rfl, ?_⟩
    have na := D.ne
    have k0 := D.k0
    refine gh (H1 := upd _ a _) (F := fun H1 => Sx [a, c] H H1 ∧ Dk H1 a c cs (k + 1)) ⟨(Sx.refl H).put (by simp), upd_same, by rw [upd_ne na.symm]; exact D.hc, D.pos, D.len, by omega⟩ (fun H1 ⟨s1, D1⟩ => ?_)
    -- _law_cell, _law_at = 0, -1
    refine ⟨1, rfl, by show 2 ≤ sizeLine; decide, fun t ht => ⟨t, _, rfl, .inl (.inl upd_same), rfl, _, _, rfl, _, _, rfl, rfl, ?_⟩⟩
    refine gh (H1 := upd _ t _) (F := fun H2 => Sx [a, c] H H2 ∧ Dk H2 a c cs (k + 1)) ⟨s1.new ht, D1.same ((Sx.refl _).new ht)⟩ (fun H2 ⟨s2, D2⟩ => ?_)
    -- if len(..) > 0
    refine ⟨fun σ' H' => ∃ x at' : Int, σ' = [some (.ref a), some (.int m), some (.int x), some (.int at'), none] ∧ H' = H2 ∧ 0 ≤ x ∧ (1000000000000000000 ≤ x → ∃ j : Nat, at' = (j : Int) ∧ j < cs.length), ?_, ?_⟩
    · refine ⟨.ref a, rfl, a, _, 0, .ref c, rfl, rfl, .inl (.inl D2.ha), rfl, c, _, rfl, .inl (.inl (.inl D2.hc)), _, _, rfl, rfl, _, rfl, ite2 (fun e => ?_) (fun e => ?_)⟩
      · have e' : (0 : Int) < ((cs.map V.int).length : Int) := of_decide_eq_true e
        rw [List.length_map] at e'
        refine ⟨.ref a, rfl, a, _, 1, .int (k + 1), rfl, rfl, .inl (.inl D2.ha), rfl, .inl ⟨_, rfl, .ref a, rfl, a, _, 0, .ref c, rfl, rfl, .inl (.inl D2.ha), rfl, c, _, rfl, .inl (.inl (.inl D2.hc)), _, _, rfl, rfl, by rw [List.length_map]; exact e', ?_⟩⟩
        have b0 := Int.emod_nonneg (k + 1) (show ((cs.length : Nat) : Int) ≠ 0 by omega)
        have b1 := Int.emod_lt_of_pos (k + 1) e'
        obtain ⟨j, hj⟩ := Int.eq_ofNat_of_zero_le b0
        have hjl : j < cs.length := by omega
        have hj' : (k + 1) % (((cs.map V.int).length : Nat) : Int) = (j : Int) := by rw [List.length_map]; exact hj
        refine ⟨.ref a, rfl, a, _, 0, .ref c, rfl, rfl, .inl (.inl D2.ha), rfl, _, rfl, c, _, _, .int (cs[j]), rfl, rfl, .inl (.inl D2.hc), at_of hj' (by rw [List.getElem?_map, List.getElem?_eq_getElem hjl]; rfl), ?_⟩
        exact ⟨_, _, rfl, rfl, D2.pos _ (List.getElem_mem hjl), fun _ => ⟨j, hj', hjl⟩⟩
      · exact ⟨0, -1, rfl, rfl, Int.le_refl _, fun z => absurd z (by decide)⟩
    -- what follows
    · rintro _ _ ⟨x, at', rfl, rfl, hx, hat⟩
      refine ⟨_, rfl, 10, 18, rfl, rfl, ⟨by decide, by decide, by decide⟩, x, _, rfl, rfl, _, rfl, ite2 (fun e => ?_) (fun e => ?_)⟩
      · have e' : (1000000000000000000 : Int) ≤ x := of_decide_eq_true e
        obtain ⟨j, rfl, hj⟩ := hat e'
        refine ⟨_, rfl, .inl ⟨x, rfl, _, rfl, x, m, rfl, rfl, ⟨hm0, hm1⟩, .ref a, rfl, a, _, 0, .ref c, rfl, rfl, .inl (.inl D2.ha), rfl, _, rfl, c, _, _, j, rfl, rfl, D2.hc, ixN_of rfl (by rw [List.length_map]; exact hj), ?_⟩⟩
        refine ⟨_, rfl, .inl ⟨x, rfl, _, rfl, x, m, rfl, rfl, hm0, ?_⟩⟩
        refine q _ (cs.set j (x / m)) _ (s2.put (by simp)) ⟨by rw [upd_ne na]; exact D2.ha, by rw [upd_same, ← List.map_set], fun y hy => ?_, by rw [List.length_set]; exact D2.len, by omega⟩ (Int.emod_nonneg _ (by omega)) (Int.emod_lt_of_pos _ hm0)
        rcases List.mem_or_eq_of_mem_set hy with z | rfl
        · exact D2.pos y z
        · exact Int.ediv_nonneg hx (by omega)
      · refine ⟨_, rfl, .inl ⟨x, rfl, x, 2147483543, rfl, rfl, (by decide : (0 : Int) < 2147483543), .ref a, rfl, a, _, 1, .int (k + 1), rfl, rfl, .inl (.inl D2.ha), rfl, 9311, k + 1, rfl, rfl, .inl ⟨by decide, by decide⟩, _, _, rfl, rfl, _, 7, rfl, rfl, ?_⟩⟩
        have b0 := Int.emod_nonneg x (by decide : (2147483543 : Int) ≠ 0)
        have b1 := Int.emod_lt_of_pos x (by decide : (0 : Int) < 2147483543)
        refine ⟨_, rfl, _, 5, rfl, rfl, ⟨by decide, by decide, ?_⟩, .inl ⟨_, rfl, _, 2147483587, rfl, rfl, (by decide : (0 : Int) < 2147483587), .inl ⟨_, rfl, _, rfl, _, m, rfl, rfl, hm0, ?_⟩⟩⟩
        · have hk' : k < 1099511627776 := hk
          omega
        · exact q _ cs _ s2 D2 (Int.emod_nonneg _ (by omega)) (Int.emod_lt_of_pos _ hm0)
/-- one of a list's items, or one of a text's signs -/
def spOne (K : PySem.W.Frag) : Sp := fun vs H Q _ => ∃ (a c : Addr) (cs : List Int) (k : Int) (it : V), vs = [.ref a, it] ∧ Dk H a c cs k ∧ k < KB ∧
  ((∃ p xs, it = .ref p ∧ SqL K H p xs ∧ xs ≠ [] ∧ xs.length ≤ 100000 ∧ p ≠ a ∧ p ≠ c ∧ ∀ H' cs' x, Sx [a, c] H H' → Dk H' a c cs' (k + 1) → x ∈ xs → Q x H') ∨
    ∃ z : Str, it = .str z ∧ 0 < z.length ∧ z.length ≤ 100000 ∧ ∀ H' cs' x, Sx [a, c] H H' → Dk H' a c cs' (k + 1) → x ∈ z.cps.toList → Q (.str ⟨#[x]⟩) H')
theorem ok_one {f fD : Addr} {fd fdD : FuncData} {k : Nat} (F : Fun K "_law_one" "_law_one" sOne f fd) (F_draw : Fun K "_law_draw" "_law_draw" sDraw fD fdD) (G_draw : FnOk P w K mg base CX0 (k + 1) fD fdD ["_law_deck_here", "_law_many"] spDraw)
    (b_draw : Binds K fdD ["_law_deck_here", "_law_many"] []) (m_draw : mg "_law_draw" = some (.ref fD)) (z_len : mg "len" = none) : FnOk P w K mg base CX0 (k + 2) f fd ["_law_deck_here", "_law_items"] (spOne K) := by
  refine F.ok scOne (fun vs H Q E h => ?_) (fun cdv A outer s H vs Q E hr h => ?_)
  · obtain ⟨a, c, cs, k, it, rfl, _⟩ := h
    rfl
  · obtain ⟨a, c, cs, k, it, rfl, D, hk, q⟩ := h
    refine ⟨_, (pss_one (ps_ret (pe_ix (ix_or ix_list ix_str) (pv 1) (pe_call G_draw (hr.mono (by omega)) (by rfl) m_draw F_draw.kp b_draw .nil pass0 (pa_cons (pv 0) (pa_cons (pe_callB (cr_or call_len_seq call_len_str) (by rfl) z_len boot_len (pa_cons (pv 1) pa_nil)) pa_nil))) (fun _ _ => rfl)))), ?_⟩
    rcases q with ⟨p, xs, rfl, hp, hne, hlen, pa, pc, q⟩ | ⟨z, rfl, hz0, hz1, q⟩
    · refine ⟨_, rfl, _, rfl, _, rfl, .inl ⟨p, xs, rfl, .inl hp, a, c, cs, k, _, rfl, D, by have : 0 < xs.length := List.length_pos_iff.mpr hne; omega, by omega, hk, fun H' cs' r s1 D1 r0 r1 => ?_⟩⟩
      obtain ⟨j, rfl⟩ := Int.eq_ofNat_of_zero_le r0
      have hj : j < xs.length := by omega
      exact .inl ⟨p, xs, _, xs[j], rfl, rfl, s1.seqL (by simp [pa, pc]) hp, atI_nat (List.getElem?_eq_getElem hj), q H' cs' _ s1 D1 (List.getElem_mem hj)⟩
    · refine ⟨_, rfl, _, rfl, _, rfl, .inr ⟨z, rfl, le_line (by omega), a, c, cs, k, _, rfl, D, by omega, by omega, hk, fun H' cs' r s1 D1 r0 r1 => ?_⟩⟩
      obtain ⟨j, rfl⟩ := Int.eq_ofNat_of_zero_le r0
      have hj : j < z.cps.toList.length := by rw [Array.length_toList]; have : z.length = z.cps.size := rfl; omega
      exact .inr ⟨z, _, z.cps.toList[j], rfl, rfl, le_line (by omega), atI_nat (List.getElem?_eq_getElem hj), q H' cs' _ s1 D1 (List.getElem_mem hj)⟩
def spExpr (K : PySem.W.Frag) (d : Nat) : Sp := fun vs H Q _ => ∃ (a c : Addr) (cs : List Int) (k : Int) (nm : Addr) (ns : List Str), vs = [.ref a, .ref nm, .int (d : Int)] ∧ Dk H a c cs k ∧ Nms K H nm ns ∧ nm ≠ a ∧ nm ≠ c ∧ 1 ≤ d ∧ k + cE d ≤ KB ∧
  ∀ H' cs' k' v e, Sx [a, c] H H' → Dk H' a c cs' k' → k ≤ k' → k' ≤ k + cE d → Tp H' v e → ExD ns d e → Q v H'
theorem ok_expr {f fD fO : Addr} {fd fdD fdO : FuncData} (F_expression : Fun K "_law_expression" "_law_expression" sExpression f fd) (F_draw : Fun K "_law_draw" "_law_draw" sDraw fD fdD) (F_one : Fun K "_law_one" "_law_one" sOne fO fdO)
    (G_draw : FnOk P w K mg base CX0 1 fD fdD ["_law_deck_here", "_law_many"] spDraw) (G_one : FnOk P w K mg base CX0 2 fO fdO ["_law_deck_here", "_law_items"] (spOne K))
    (b_draw : Binds K fdD ["_law_deck_here", "_law_many"] []) (b_one : Binds K fdO ["_law_deck_here", "_law_items"] []) (b_expression : Binds K fd ["_law_deck_here", "_law_names_here", "_law_deep"] [])
    (m_draw : mg "_law_draw" = some (.ref fD)) (m_one : mg "_law_one" = some (.ref fO)) (m_expression : mg "_law_expression" = some (.ref f)) (z_int : mg "int" = none) :
    ∀ d : Nat, FnOk P w K mg base CX0 (d + 2) f fd ["_law_deck_here", "_law_names_here", "_law_deep"] (spExpr K d) := by
  intro d
  induction d with
  | zero => exact ⟨fun vs H Q E h => by obtain ⟨_, _, _, _, _, _, rfl, _⟩ := h; rfl, fun _ _ _ _ _ _ _ _ _ _ _ _ _ h => by obtain ⟨_, _, _, _, _, _, _, _, _, _, _, h, _⟩ := h; omega⟩
  | succ d G_expression =>
    refine F_expression.ok scExpression (fun vs H Q E h => ?_) (fun cdv A outer s H vs Q E hr h => ?_)
    · obtain ⟨a, c, cs, k, nm, ns, rfl, _⟩ := h
      rfl
    · obtain ⟨a, c, cs, k, nm, ns, rfl, D, N, na, nc, hd, hk, q⟩ := h
      refine ⟨_, (C8.pss_cut (ps_set (i := 3) scExpression.nd rfl (by first | exact Or.inl rfl | exact Or.inr rfl) (pe_ifExp (pt_cmpR op_gt (pv 2) pe_int (nomark _)) (pe_call G_draw (hr.mono (by omega)) (by rfl) m_draw F_draw.kp b_draw .nil pass0 (pa_cons (pv 0) (pa_cons pe_int pa_nil))) (pe_call G_draw (hr.mono (by omega)) (by rfl) m_draw F_draw.kp b_draw .nil pass0 (pa_cons (pv 0) (pa_cons pe_int pa_nil)))))
      (pss_cons (ps_if (pt_cmpR op_eq (pv 3) pe_int (nomark _)) (pss_one (ps_ret (pe_call G_one (hr.mono (by omega)) (by rfl) m_one F_one.kp b_one .nil pass0 (pa_cons (pv 0) (pa_cons (pe_lst (pa_cons pe_int (pa_cons pe_int (pa_cons pe_int (pa_cons (pe_un un_neg pe_int) (pa_cons pe_int (pa_cons (pe_un un_neg pe_int) (pa_cons pe_int (pa_cons (pe_un un_neg pe_int) (pa_cons (pe_op op_sub (pe_call G_draw (hr.mono (by omega)) (by rfl) m_draw F_draw.kp b_draw .nil pass0 (pa_cons (pv 0) (pa_cons pe_int pa_nil))) pe_int) pa_nil)))))))))) pa_nil))))) pss_nil)
      (pss_cons (ps_if (pt_cmpR op_lt (pv 3) pe_int (nomark _)) (pss_one (ps_ret (pe_call G_one (hr.mono (by omega)) (by rfl) m_one F_one.kp b_one .nil pass0 (pa_cons (pv 0) (pa_cons (pe_op op_cat (pv 1) (pe_lst (pa_cons pe_str (pa_cons pe_str pa_nil)))) pa_nil))))) pss_nil)
      (pss_cons (ps_if (pt_cmpR op_eq (pv 3) pe_int (nomark _)) (pss_cons (ps_set (i := 4) scExpression.nd rfl (by first | exact Or.inl rfl | exact Or.inr rfl) (pe_call G_one (hr.mono (by omega)) (by rfl) m_one F_one.kp b_one .nil pass0 (pa_cons (pv 0) (pa_cons (pe_lst (pa_cons (pe_un un_neg pe_int) (pa_cons (pe_un un_neg pe_int) (pa_cons (pe_un un_neg pe_int) (pa_cons (pe_un un_neg pe_int) (pa_cons (pe_un un_neg pe_int) (pa_cons pe_int (pa_cons pe_int (pa_cons pe_int (pa_cons pe_int pa_nil)))))))))) pa_nil))))
      (pss_one (ps_ret (pe_tup (pa_cons pe_str (pa_cons (pv 4) (pa_cons (pe_call G_expression (hr.mono (by omega)) (by rfl) m_expression F_expression.kp b_expression .nil pass0 (pa_cons (pv 0) (pa_cons (pv 1) (pa_cons (pe_op op_sub (pv 2) pe_int) pa_nil)))) pa_nil))))))) pss_nil)
      (pss_cons (ps_set (i := 5) scExpression.nd rfl (by first | exact Or.inl rfl | exact Or.inr rfl) (pe_call G_expression (hr.mono (by omega)) (by rfl) m_expression F_expression.kp b_expression .nil pass0 (pa_cons (pv 0) (pa_cons (pv 1) (pa_cons (pe_op op_sub (pv 2) pe_int) pa_nil)))))
      (pss_one (ps_ret (pe_tup (pa_cons (pe_ix ix_list (pe_lst (pa_cons pe_str (pa_cons pe_str pa_nil))) (pe_op op_mod (pe_callTy call_int1 (by rfl) z_int boot_int (pa_cons (pv 3) pa_nil)) pe_int) (fun _ _ => rfl)) (pa_cons (pv 5) (pa_cons (pe_call G_expression (hr.mono (by omega)) (by rfl) m_expression F_expression.kp b_expression .nil pass0 (pa_cons (pv 0) (pa_cons (pv 1) (pa_cons (pe_op op_sub (pv 2) pe_int) pa_nil)))) pa_nil))))))))))), ?_⟩
      have e1 := cE_one d
      have e2 := cE_pos d
      have hs : V.int (((d + 1 : Nat) : Int) - 1) = V.int (d : Int) := by rw [show ((d + 1 : Nat) : Int) - 1 = (d : Int) by omega]
      refine ⟨fun σ' H' => ∃ cs1 r, σ' = [some (.ref a), some (.ref nm), some (.int ((d + 1 : Nat) : Int)), some (.int r), none, none] ∧ Sx [a, c] H H' ∧ Dk H' a c cs1 (k + 1) ∧ 0 ≤ r ∧ r < 7 ∧ (d = 0 → r < 4), ?_, ?_⟩
      · refine ⟨_, rfl, _, 1, rfl, rfl, _, rfl, ite2 (fun e => ?_) (fun e => ?_)⟩
        · have e' : (1 : Int) < ((d + 1 : Nat) : Int) := of_decide_eq_true e
          refine ⟨_, rfl, a, c, cs, k, 7, rfl, D, by decide, by decide, by omega, fun H1 cs1 r s1 D1 r0 r1 => ⟨cs1, r, rfl, s1, D1, r0, r1, fun z => by omega⟩⟩
        · refine ⟨_, rfl, a, c, cs, k, 4, rfl, D, by decide, by decide, by omega, fun H1 cs1 r s1 D1 r0 r1 => ⟨cs1, r, rfl, s1, D1, r0, by omega, fun _ => r1⟩⟩
      · rintro _ H1 ⟨cs1, r, rfl, s1, D1, r0, r7, rd⟩
        have N1 := N.keep s1 (by simp [na, nc])
        refine ⟨_, rfl, rfl, _, rfl, ite2 (fun e => ?_) (fun e => ?_)⟩
        -- 0: an integer
        · refine ⟨_, rfl, 1, rfl, 5, rfl, 99, rfl, _, rfl, a, c, cs1, k + 1, 199, rfl, D1, by decide, by decide, by omega, fun H2 cs2 z s2 D2 z0 z1 => ?_⟩
          refine ⟨z, 99, rfl, rfl, by show 9 ≤ sizeLine; decide, fun p hp => ?_⟩
          obtain ⟨pa, pc⟩ := D2.nw hp
          refine ⟨a, c, cs2, _, _, rfl, D2.same ((Sx.refl _).new hp), by omega, .inl ⟨p, _, rfl, .inl (.inl upd_same), by simp, by show 9 ≤ 100000; decide, pa, pc, fun H3 cs3 x s4 D3 hx => ?_⟩⟩
          obtain ⟨i, rfl, i0, i1⟩ : ∃ i : Int, x = .int i ∧ -99 ≤ i ∧ i ≤ 99 := by
            simp only [List.not_mem_nil, List.mem_cons, or_false] at hx
            rcases hx with rfl | rfl | rfl | rfl | rfl | rfl | rfl | rfl | rfl
            all_goals first
              | exact ⟨_, rfl, by decide, by decide⟩
              | exact ⟨_, rfl, by show -99 ≤ z - 99; omega, by show z - 99 ≤ 99; omega⟩
          exact q H3 cs3 _ _ _ (((s1.trans s2).new hp).trans s4) D3 (by omega) (by omega) (.int i) (.int i i0 i1)
        · refine ⟨_, rfl, _, 4, rfl, rfl, _, rfl, ite2 (fun e4 => ?_) (fun e4 => ?_)⟩
          -- below 4: a name
          · refine ⟨_, rfl, _, rfl, by show 2 ≤ sizeLine; decide, fun l hl => ?_⟩
            have nl : Sx [] H1 (upd H1 l (.lst [.str "n", .str "n"])) := (Sx.refl _).new hl
            have N2 := N1.keep nl (by simp)
            have D2 := D1.same nl
            have len := N.len
            refine ⟨nm, l, _, _, rfl, rfl, N2.tr, upd_same, by rw [List.length_map]; exact le_line (by show ns.length + 2 ≤ 16777216; omega), fun L hL => ?_⟩
            have nL : Sx [] (upd H1 l (.lst [.str "n", .str "n"])) (upd (upd H1 l (.lst [.str "n", .str "n"])) L (.lst (ns.map V.str ++ [.str "n", .str "n"]))) := (Sx.refl _).new hL
            obtain ⟨La, Lc⟩ := D2.nw hL
            refine ⟨a, c, cs1, k + 1, _, rfl, D2.same nL, by omega, .inl ⟨L, _, rfl, .inl (.inl upd_same), by simp, by rw [List.length_append, List.length_map]; show ns.length + 2 ≤ 100000; omega, La, Lc, fun H3 cs3 x s4 D3 hx => ?_⟩⟩
            obtain ⟨z, hz, rfl⟩ : ∃ z ∈ ns, x = V.str z := by
              rcases List.mem_append.1 hx with hx | hx
              · obtain ⟨z, hz, rfl⟩ := List.mem_map.mp hx
                exact ⟨z, hz, rfl⟩
              · simp only [List.not_mem_nil, List.mem_cons, or_false] at hx
                rcases hx with rfl | rfl
                all_goals exact ⟨_, N.hn, rfl⟩
            exact q H3 cs3 _ _ _ (s1.trans ((nl.trans nL).nil.trans s4)) D3 (by omega) (by omega) (.str z) (.name z hz)
          · have e4' : ¬ r < 4 := fun z => e4 (decide_eq_true z)
            have hd0 : 1 ≤ d := by
              rcases Nat.eq_zero_or_pos d with z | z
              · exact absurd (rd z) e4'
              · exact z
            refine ⟨_, rfl, rfl, _, rfl, ite2 (fun e6 => ?_) (fun e6 => ?_)⟩
            -- 6: times
            · refine ⟨_, rfl, 9, rfl, 4, rfl, 3, rfl, 2, rfl, 1, rfl, by show 9 ≤ sizeLine; decide, fun p hp => ?_⟩
              obtain ⟨pa, pc⟩ := D1.nw hp
              refine ⟨a, c, cs1, _, _, rfl, D1.same ((Sx.refl _).new hp), by omega, .inl ⟨p, _, rfl, .inl (.inl upd_same), by simp, by show 9 ≤ 100000; decide, pa, pc, fun H2 cs2 x s2 D2 hx => ?_⟩⟩
              obtain ⟨i, rfl, i0, i1⟩ : ∃ i : Int, x = .int i ∧ -9 ≤ i ∧ i ≤ 9 := by
                simp only [List.not_mem_nil, List.mem_cons, or_false] at hx
                rcases hx with rfl | rfl | rfl | rfl | rfl | rfl | rfl | rfl | rfl
                all_goals exact ⟨_, rfl, by decide, by decide⟩
              have s12 : Sx [a, c] H1 H2 := ((Sx.refl _).new hp).trans s2
              have N2 := N1.keep s12 (by simp [na, nc])
              refine ⟨_, rfl, _, rfl, _, rfl, _, rfl, _, 1, rfl, rfl, a, c, cs2, k + 1 + 1, nm, ns, congrArg (fun z => [V.ref a, V.ref nm, z]) hs, D2, N2, na, nc, hd0, by omega, fun H3 cs3 k3 v ev s3 D3 k3a k3b t3 x3 => ?_⟩
              refine ⟨by show 3 ≤ sizeLine; decide, fun t ht => ?_⟩
              exact q _ cs3 k3 _ _ (((s1.trans s12).trans s3).new ht) (D3.new ht) (by omega) (by omega) (.tup upd_same (.cons (.str _) (.cons (.int i) (.cons (t3.new ht) .nil)))) (.times i i0 i1 x3)
            -- plus, minus
            · refine ⟨_, rfl, _, rfl, _, rfl, _, 1, rfl, rfl, a, c, cs1, k + 1, nm, ns, congrArg (fun z => [V.ref a, V.ref nm, z]) hs, D1, N1, na, nc, hd0, by omega, fun H2 cs2 k2 v ev s2 D2 k2a k2b t2 x2 => ?_⟩
              refine ⟨by show 2 ≤ sizeLine; decide, fun l hl => ?_⟩
              obtain ⟨la, lc⟩ := D2.nw hl
              have n2 : Sx [] H2 (upd H2 l _) := (Sx.refl _).new (o := .lst [.str "plus", .str "minus"]) hl
              have D2' := D2.same n2
              have N2 := (N1.keep s2 (by simp [na, nc])).keep n2 (by simp)
              have t2' := t2.keep n2.tk0
              obtain ⟨b, hb, hr2⟩ : ∃ b : Str, (b = "plus" ∨ b = "minus") ∧ atI [V.str "plus", V.str "minus"] (r % 2) = some (.str b) := by
                rcases (show r % 2 = 0 ∨ r % 2 = 1 by omega) with z | z
                · exact ⟨_, .inl rfl, by rw [z]; rfl⟩
                · exact ⟨_, .inr rfl, by rw [z]; rfl⟩
              refine ⟨_, rfl, .inl ⟨r, rfl, r, 2, rfl, rfl, (by decide : (0 : Int) < 2), l, _, _, .str b, rfl, rfl, .inl (.inl upd_same), hr2, ?_⟩⟩
              refine ⟨_, rfl, _, rfl, _, rfl, _, rfl, _, 1, rfl, rfl, a, c, cs2, k2, nm, ns, congrArg (fun z => [V.ref a, V.ref nm, z]) hs, D2', N2, na, nc, hd0, by omega, fun H3 cs3 k3 v' ev' s3 D3 k3a k3b t3 x3 => ?_⟩
              refine ⟨by show 3 ≤ sizeLine; decide, fun t ht => ?_⟩
              refine q _ cs3 k3 _ (.tuple [.str b, ev, ev']) ((((s1.trans s2).trans n2.nil).trans s3).new ht) (D3.new ht) (by omega) (by omega) (.tup upd_same (.cons (.str _) (.cons ((t2'.keep (D2'.tk s3)).new ht) (.cons (t3.new ht) .nil)))) ?_
              rcases hb with rfl | rfl
              · exact .plus x2 x3
              · exact .minus x2 x3
end
section
variable {w : World} {P : Program} {K : PySem.W.Frag} {mg : Str → Option Value} {base : Heap}
def spTest (K : PySem.W.Frag) : Sp := fun vs H Q _ => ∃ (a c : Addr) (cs : List Int) (k : Int) (nm : Addr) (ns : List Str) (rm : Addr) (r0 r1 r2 r3 t : Int), vs = [.ref a, .ref nm, .ref rm, .int t] ∧ Dk H a c cs k ∧ Nms K H nm ns ∧ Rm H rm r0 r1 r2 r3 ∧
  nm ≠ a ∧ nm ≠ c ∧ nm ≠ rm ∧ rm ≠ a ∧ rm ≠ c ∧ 1 ≤ t ∧ k + 46 ≤ KB ∧
  ∀ H' cs' k' v e, Sx [a, c, rm] H H' → Dk H' a c cs' k' → k ≤ k' → k' ≤ k + 46 → Tp H' v e →
    ((e = .tuple [] ∧ Rm H' rm r0 r1 r2 r3) ∨ ∃ b, TsD ns 2 b e ∧ Rm H' rm r0 r1 (r2 - t * bI b) (r3 - t * bI (!b))) → Q v H'
theorem ok_test {f fD fO fE : Addr} {fd fdD fdO fdE : FuncData} (F : Fun K "_law_test" "_law_test" sTest f fd) (F_draw : Fun K "_law_draw" "_law_draw" sDraw fD fdD) (F_one : Fun K "_law_one" "_law_one" sOne fO fdO) (F_expression : Fun K "_law_expression" "_law_expression" sExpression fE fdE)
    (G_draw : FnOk P w K mg base CX0 1 fD fdD ["_law_deck_here", "_law_many"] spDraw) (G_one : FnOk P w K mg base CX0 2 fO fdO ["_law_deck_here", "_law_items"] (spOne K)) (G_expression : FnOk P w K mg base CX0 5 fE fdE ["_law_deck_here", "_law_names_here", "_law_deep"] (spExpr K 3)) (G_expr2 : FnOk P w K mg base CX0 4 fE fdE ["_law_deck_here", "_law_names_here", "_law_deep"] (spExpr K 2))
    (b_draw : Binds K fdD ["_law_deck_here", "_law_many"] []) (b_one : Binds K fdO ["_law_deck_here", "_law_items"] []) (b_expression : Binds K fdE ["_law_deck_here", "_law_names_here", "_law_deep"] [])
    (m_draw : mg "_law_draw" = some (.ref fD)) (m_one : mg "_law_one" = some (.ref fO)) (m_expression : mg "_law_expression" = some (.ref fE)) (z_range : mg "range" = none) :
    FnOk P w K mg base CX0 6 f fd ["_law_deck_here", "_law_names_here", "_law_room", "_law_times"] (spTest K) := by
  refine F.ok scTest (fun vs H Q E h => ?_) (fun cdv A outer s H vs Q E hr h => ?_)
  · obtain ⟨a, c, cs, k, nm, ns, rm, r0, r1, r2, r3, t, rfl, _⟩ := h
    rfl
  · obtain ⟨a, c, cs, k, nm, ns, rm, r0, r1, r2, r3, t, rfl, D, N, R, na, nc, nr, ra, rc, ht, hk, q⟩ := h
    have e3 : cE 3 = 21 := by decide
    have e2 : cE 2 = 9 := by decide
    refine ⟨_, (pss_cons (ps_par3 (i := 4) (j := 5) (l := 6) (by rfl) scTest.nd rfl rfl rfl (by decide) (by decide) (by decide) rfl rfl rfl (pa_cons (pe_op op_sub (pe_call G_draw (hr.mono (by omega)) (by rfl) m_draw F_draw.kp b_draw .nil pass0 (pa_cons (pv 0) (pa_cons pe_int pa_nil))) pe_int) (pa_cons (pe_call G_draw (hr.mono (by omega)) (by rfl) m_draw F_draw.kp b_draw .nil pass0 (pa_cons (pv 0) (pa_cons pe_int pa_nil))) (pa_cons (pe_tup pa_nil) pa_nil))) (by rfl))
      (C8.pss_cut (ps_if (PW.pt (pw_and (PW.pt (pw_or (pt_cmpR op_eq (pv 5) pe_int (nomark _)) (pw_or1 (pt_cmpR op_lt (pe_ix ix_list (pv 2) pe_int (fun _ _ => rfl)) (pv 3) (nomark _))))) (pw_and1 (pt_cmpR op_ge (pe_ix ix_list (pv 2) pe_int (fun _ _ => rfl)) (pv 3) (nomark _))))) (pss_cons (ps_asg (pe_op op_sub (pe_ix ix_list (pv 2) pe_int (fun _ _ => rfl)) (pv 3)) (pg_sub (pv 2) pe_int set_list))
      (pss_cons (ps_set (i := 7) scTest.nd rfl (by first | exact Or.inl rfl | exact Or.inr rfl) (pe_op op_add pe_int (pe_call G_draw (hr.mono (by omega)) (by rfl) m_draw F_draw.kp b_draw .nil pass0 (pa_cons (pv 0) (pa_cons pe_int pa_nil)))))
      (pss_one (ps_set (i := 6) scTest.nd rfl (by first | exact Or.inl rfl | exact Or.inr rfl) (pe_tup (pa_cons pe_str (pa_cons (pe_call G_expression (hr.mono (by omega)) (by rfl) m_expression F_expression.kp b_expression .nil pass0 (pa_cons (pv 0) (pa_cons (pv 1) (pa_cons pe_int pa_nil)))) (pa_cons (pv 7) (pa_cons (pe_call G_draw (hr.mono (by omega)) (by rfl) m_draw F_draw.kp b_draw .nil pass0 (pa_cons (pv 0) (pa_cons (pv 7) pa_nil))) pa_nil))))))))) (pss_one (ps_if (pt_cmpR op_ge (pe_ix ix_list (pv 2) pe_int (fun _ _ => rfl)) (pv 3) (nomark _)) (pss_cons (ps_asg (pe_op op_sub (pe_ix ix_list (pv 2) pe_int (fun _ _ => rfl)) (pv 3)) (pg_sub (pv 2) pe_int set_list))
      (pss_cons (ps_set (i := 8) scTest.nd rfl (by first | exact Or.inl rfl | exact Or.inr rfl) (pe_call G_one (hr.mono (by omega)) (by rfl) m_one F_one.kp b_one .nil pass0 (pa_cons (pv 0) (pa_cons (pe_lst (pa_cons pe_str (pa_cons (pe_call G_expr2 (hr.mono (by omega)) (by rfl) m_expression F_expression.kp b_expression .nil pass0 (pa_cons (pv 0) (pa_cons (pv 1) (pa_cons pe_int pa_nil)))) pa_nil))) pa_nil))))
      (pss_one (ps_set (i := 6) scTest.nd rfl (by first | exact Or.inl rfl | exact Or.inr rfl) (pe_tup (pa_cons pe_str (pa_cons (pv 8) (pa_cons (pe_call G_one (hr.mono (by omega)) (by rfl) m_one F_one.kp b_one .nil pass0 (pa_cons (pv 0) (pa_cons (pe_lst (pa_cons (pe_op op_sub (pe_call G_draw (hr.mono (by omega)) (by rfl) m_draw F_draw.kp b_draw .nil pass0 (pa_cons (pv 0) (pa_cons pe_int pa_nil))) pe_int) (pa_cons (pe_call G_expr2 (hr.mono (by omega)) (by rfl) m_expression F_expression.kp b_expression .nil pass0 (pa_cons (pv 0) (pa_cons (pv 1) (pa_cons pe_int pa_nil)))) pa_nil))) pa_nil))) pa_nil)))))))) pss_nil)))
      (C8.pss_cut (ps_for PassesOwn.never rfl (pi_range1 (by rfl) z_range (pa_cons (pe_ifExp (PW.pt (pw_and (pt_cmpR op_gt (pv 4) pe_int (nomark _)) (pw_and1 (pt_cmpR (op_neD hr.units) (pv 6) (pe_tup pa_nil) (nomark _))))) (pv 4) pe_int) pa_nil)) (pg_name (i := 9) scTest.nd rfl (by first | exact Or.inl rfl | exact Or.inr rfl)) (pss_one (ps_set (i := 6) scTest.nd rfl (by first | exact Or.inl rfl | exact Or.inr rfl) (pe_tup (pa_cons pe_str (pa_cons (pv 6) pa_nil))))))
      (pss_one (ps_ret (pv 6)))))), ?_⟩
    refine ⟨_, rfl, a, c, cs, k, 5, rfl, D, by decide, by decide, by omega, fun H1 cs1 z s1 D1 z0 z1 => ⟨z, 2, rfl, rfl, ?_⟩⟩
    refine ⟨_, rfl, a, c, cs1, k + 1, 2, rfl, D1, by decide, by decide, by omega, fun H1a cs1a y s1a D1a y0 y1 => ⟨Nat.zero_le _, fun p hp => ⟨_, _, _, rfl, ?_⟩⟩⟩
    have ex : Sx [] H1a (upd H1a p (.tup [])) := (Sx.refl _).new hp
    refine gh (H1 := upd H1a p _) (F := fun H2 => Sx [a, c, rm] H H2 ∧ Dk H2 a c cs1a (k + 1 + 1) ∧ Nms K H2 nm ns ∧ Rm H2 rm r0 r1 r2 r3 ∧ Tp H2 (.ref p) (.tuple []))
      ⟨((s1.trans s1a).mono (by simp)).new hp, D1a.same ex, ((N.keep s1 (by simp [na, nc])).keep s1a (by simp [na, nc])).keep ex (by simp), ((R.sx s1 (by simp [ra, rc])).sx s1a (by simp [ra, rc])).sx ex (by simp), .tup upd_same .nil⟩ (fun H3 ⟨s03, D3, N3, R3, T3⟩ => ?_)
    -- the test made
    refine ⟨fun σ' H' => ∃ (cs' : List Int) (k' : Int) (v : V) (e : PyData) (y7 y8 : Option V), σ' = [some (.ref a), some (.ref nm), some (.ref rm), some (.int t), some (.int (z - 2)), some (.int y), some v, y7, y8, none] ∧ Sx [a, c, rm] H H' ∧ Dk H' a c cs' k' ∧ k ≤ k' ∧ k' ≤ k + 46 ∧ Tp H' v e ∧
      ((e = .tuple [] ∧ Rm H' rm r0 r1 r2 r3) ∨ ∃ b, TsD ns 0 b e ∧ Rm H' rm r0 r1 (r2 - t * bI b) (r3 - t * bI (!b))), ?_, ?_⟩
    · refine ⟨_, rfl, rfl, _, rfl, ite2 (fun _ => ?c1) (fun _ => ⟨.ref rm, rfl, rm, _, 3, .int r3, rfl, rfl, .inl (.inl R3.at_), rfl, _, rfl, r3, t, rfl, rfl, _, rfl, ite2 (fun _ => ?c2) (fun _ => ?els)⟩)⟩
      case' c1 => refine ⟨.ref rm, rfl, rm, _, 2, .int r2, rfl, rfl, .inl (.inl R3.at_), rfl, _, rfl, r2, t, rfl, rfl, _, rfl, ite2 (fun e2 => ?m1) (fun _ => ?e1)⟩
      case' c2 => refine ⟨.ref rm, rfl, rm, _, 2, .int r2, rfl, rfl, .inl (.inl R3.at_), rfl, _, rfl, r2, t, rfl, rfl, _, rfl, ite2 (fun e2 => ?m2) (fun _ => ?e2)⟩
      case m1 | m2 =>
        have e2' : t ≤ r2 := of_decide_eq_true e2
        -- _law_room[2] = ..
        refine ⟨.ref rm, rfl, rm, _, 2, .int r2, rfl, rfl, .inl (.inl R3.at_), rfl, _, rfl, r2, t, rfl, rfl, _, rfl, rm, _, 2, 2, rfl, rfl, R3.at_, rfl, ?_⟩
        refine gh (H1 := upd _ rm _) (F := fun H4 => Sx [a, c, rm] H H4 ∧ Dk H4 a c cs1a (k + 1 + 1) ∧ Nms K H4 nm ns ∧ Rm H4 rm r0 r1 (r2 - t) r3)
          ⟨s03.put (by simp), D3.sx ((Sx.refl (ex := [rm]) _).put (by simp)) (by simp [ra.symm]) (by simp [rc.symm]), N3.keep ((Sx.refl (ex := [rm]) _).put (by simp)) (by simp [nr]), upd_same, R3.p0, R3.p1, by omega, R3.p3⟩ (fun H4 ⟨s4, D4, N4, R4⟩ => ?_)
        -- _law_by
        refine ⟨_, rfl, a, c, cs1a, _, 5, rfl, D4, by decide, by decide, by omega, fun H5 cs5 b s5 D5 b0 b1 => ⟨2, b, rfl, rfl, ?_⟩⟩
        have N5 := N4.keep s5 (by simp [na, nc])
        have R5 := R4.sx s5 (by simp [ra, rc])
        -- the tuple
        refine ⟨_, rfl, _, rfl, a, c, cs5, _, nm, ns, rfl, D5, N5, na, nc, by decide, by omega, fun H6 cs6 k6 v6 x6 s6 D6 k6a k6b T6 X6 => ?_⟩
        refine ⟨_, rfl, _, rfl, _, rfl, a, c, cs6, k6, _, rfl, D6, by show (0 : Int) < 2 + b; omega, by show 2 + b < 1073741824; omega, by omega, fun H7 cs7 y7 s7 D7 y70 y71 => ?_⟩
        refine ⟨by show 4 ≤ sizeLine; decide, fun u hu => ?_⟩
        have R7 := (R5.sx s6 (by simp [ra, rc])).sx s7 (by simp [ra, rc])
        refine ⟨cs7, k6 + 1, .ref u, .tuple [.str "rest", x6, .int (2 + b), .int y7], _, _, rfl, (((s4.trans (s5.mono (by simp))).trans (s6.mono (by simp))).trans (s7.mono (by simp))).new hu, D7.new hu, by omega, by omega,
          .tup upd_same (.cons (.str _) (.cons ((T6.keep (D6.tk s7)).new hu) (.cons (.int _) (.cons (.int _) .nil)))), .inr ⟨true, .rest _ _ X6 (by omega) (by omega) y70 y71, ?_⟩⟩
        have R8 := R7.new (o := .tup [.str "rest", v6, .int (2 + b), .int y7]) hu
        simpa [bI] using R8
      all_goals
        refine ⟨.ref rm, rfl, rm, _, 3, .int r3, rfl, rfl, .inl (.inl R3.at_), rfl, _, rfl, r3, t, rfl, rfl, _, rfl, ite2 (fun e2 => ?_) (fun e2 => ?_)⟩
        · have e2' : t ≤ r3 := of_decide_eq_true e2
          refine ⟨.ref rm, rfl, rm, _, 3, .int r3, rfl, rfl, .inl (.inl R3.at_), rfl, _, rfl, r3, t, rfl, rfl, _, rfl, rm, _, 3, 3, rfl, rfl, R3.at_, rfl, ?_⟩
          refine gh (H1 := upd _ rm _) (F := fun H4 => Sx [a, c, rm] H H4 ∧ Dk H4 a c cs1a (k + 1 + 1) ∧ Nms K H4 nm ns ∧ Rm H4 rm r0 r1 r2 (r3 - t))
            ⟨s03.put (by simp), D3.sx ((Sx.refl (ex := [rm]) _).put (by simp)) (by simp [ra.symm]) (by simp [rc.symm]), N3.keep ((Sx.refl (ex := [rm]) _).put (by simp)) (by simp [nr]), upd_same, R3.p0, R3.p1, R3.p2, by omega⟩ (fun H4 ⟨s4, D4, N4, R4⟩ => ?_)
          -- _law_first: n, or an expression
          refine ⟨_, rfl, _, rfl, _, rfl, a, c, cs1a, _, nm, ns, rfl, D4, N4, na, nc, by decide, by omega, fun H6 cs6 k6 v6 x6 s6 D6 k6a k6b T6 X6 => ?_⟩
          have N6 := N4.keep s6 (by simp [na, nc])
          refine ⟨by show 2 ≤ sizeLine; decide, fun l6 hl6 => ?_⟩
          obtain ⟨la6, lc6⟩ := D6.nw hl6
          have nl6 : Sx [] H6 (upd H6 l6 (.lst [.str "n", v6])) := (Sx.refl _).new hl6
          refine ⟨a, c, cs6, k6, _, rfl, D6.same nl6, by omega, .inl ⟨l6, _, rfl, .inl (.inl upd_same), by simp, by show 2 ≤ 100000; decide, la6, lc6, fun H6b cs6b w6 s6b D6b hw => ?_⟩⟩
          have k6c : Tk H6 H6b := nl6.tk0.trans ((D6.same nl6).tk s6b)
          obtain ⟨y6, T6b, X6b⟩ : ∃ y6, Tp H6b w6 y6 ∧ ExD ns 3 y6 := by
            simp only [List.not_mem_nil, List.mem_cons, or_false] at hw
            rcases hw with rfl | rfl
            · exact ⟨_, .str _, .name _ N.hn⟩
            · exact ⟨x6, T6.keep k6c, X6.up (by decide)⟩
          have s66 : Sx [a, c] H6 H6b := nl6.nil.trans s6b
          have N6b := N6.keep s66 (by simp [na, nc])
          refine gnm ?_
          -- the second side
          refine ⟨_, rfl, _, rfl, _, rfl, a, c, cs6b, k6 + 1, 41, rfl, D6b, by decide, by decide, by omega, fun H7 cs7 y7 s7 D7 y70 y71 => ⟨y7, 20, rfl, rfl, ?_⟩⟩
          have N7 := N6b.keep s7 (by simp [na, nc])
          refine ⟨_, rfl, _, rfl, a, c, cs7, _, nm, ns, rfl, D7, N7, na, nc, by decide, by omega, fun H8 cs8 k8 v8 x8 s8 D8 k8a k8b T8 X8 => ?_⟩
          refine ⟨by show 2 ≤ sizeLine; decide, fun l hl => ?_⟩
          obtain ⟨la, lc⟩ := D8.nw hl
          refine ⟨a, c, cs8, k8, _, rfl, D8.new hl, by omega, .inl ⟨l, _, rfl, .inl (.inl upd_same), by simp, by show 2 ≤ 100000; decide, la, lc, fun H9 cs9 v9 s9 D9 hv => ?_⟩⟩
          have k9 : Tk H8 H9 := ((Sx.refl (ex := []) _).new hl).tk0.trans ((D8.new hl).tk s9)
          obtain ⟨x9, T9, X9⟩ : ∃ x9, Tp H9 v9 x9 ∧ ExD ns 3 x9 := by
            simp only [List.not_mem_nil, List.mem_cons, or_false] at hv
            rcases hv with rfl | rfl
            · exact ⟨_, .int _, .int _ (by show -99 ≤ y7 - 20; omega) (by show y7 - 20 ≤ 99; omega)⟩
            · exact ⟨x8, T8.keep k9, X8.up (by decide)⟩
          refine ⟨by show 3 ≤ sizeLine; decide, fun u hu => ?_⟩
          have s89 : Sx [a, c] H8 H9 := ((Sx.refl _).new hl).trans s9
          have R9 := ((((R4.sx s6 (by simp [ra, rc])).sx s66 (by simp [ra, rc])).sx s7 (by simp [ra, rc])).sx s8 (by simp [ra, rc])).sx s89 (by simp [ra, rc])
          refine ⟨cs9, k8 + 1, .ref u, .tuple [.str "less", y6, x9], _, _, rfl, (((((s4.trans (s6.mono (by simp))).trans (s66.mono (by simp))).trans (s7.mono (by simp))).trans (s8.mono (by simp))).trans (s89.mono (by simp))).new hu, D9.new hu, by omega, by omega,
            .tup upd_same (.cons (.str _) (.cons ((((T6b.keep (D6b.tk s7)).keep (D7.tk s8)).keep k9).new hu) (.cons (T9.new hu) .nil))), .inr ⟨false, .less X6b X9, ?_⟩⟩
          have R10 := R9.new (o := .tup [.str "less", w6, v9]) hu
          simpa [bI] using R10
        · exact ⟨cs1a, _, .ref p, .tuple [], _, _, rfl, s03, D3, by omega, by omega, T3, .inl ⟨rfl, R3⟩⟩
    -- the nots
    · rintro _ H3 ⟨cs3, k3, v, e, y7, y8, rfl, s3, D3, k3a, k3b, T3, h3⟩
      have sh : SeqAt.shaped e = true := by
        rcases h3 with ⟨rfl, _⟩ | ⟨b, hb, _⟩
        · exact (Sh.tup (n := 0) .nil).shaped (by decide)
        · exact (hb.sh N.ok).shaped (by decide)
      refine ⟨fun σ' H' => ∃ v', σ'[6]? = some (some v') ∧ Q v' H', ?_, fun _ _ h => h⟩
      have base0 : ∀ {H4 : Hp}, Sx [] H3 H4 → (∃ m : Nat, m ≤ 2 ∧ (m = 0 ∨ ∃ b, TsD ns 0 b e)) → True := fun _ _ => trivial
      have go : ∀ (m : Nat) (H4 : Hp), Sx [] H3 H4 → m ≤ 2 → (m = 0 ∨ e ≠ .tuple []) → True := fun _ _ _ _ _ => trivial
      clear base0 go
      refine ⟨_, rfl, _, 0, rfl, rfl, _, rfl, ite2 (fun en => ?_) (fun en => ?_)⟩
      rotate_left
      -- no "not"
      · refine ⟨0, rfl, by decide, by decide, ?_⟩
        refine for_range (lo := 0) (n := 0) (fun i σ' H' => σ' = [some (.ref a), some (.ref nm), some (.ref rm), some (.int t), some (.int (z - 2)), some (.int y), some v, y7, y8, none] ∧ H' = H3) ⟨rfl, rfl⟩ (fun i σ' H' hi _ => absurd hi (Nat.not_lt_zero _)) (fun σ' H' ⟨p1, p2⟩ => ?_)
        subst p1 p2
        refine ⟨v, rfl, q _ cs3 k3 v e s3 D3 k3a k3b T3 ?_⟩
        rcases h3 with h3 | ⟨b, hb, R3⟩
        · exact .inl h3
        · exact .inr ⟨b, hb.up (by decide), R3⟩
      have en' : 0 < z - 2 := of_decide_eq_true en
      refine ⟨_, rfl, Nat.zero_le _, fun u hu => ⟨e, .tuple [], (T3.new hu).dp, .tup (SqT.of upd_same) .nil, sh, (Sh.tup (n := 0) .nil).shaped (by decide), _, rfl, ?_⟩⟩
      rcases h3 with ⟨rfl, R3⟩ | ⟨b, hb, R3⟩
      · -- no test
        refine iteF ⟨0, rfl, by decide, by decide, ?_⟩
        refine for_range (lo := 0) (n := 0) (fun i σ' H' => σ'[6]? = some (some v) ∧ Sx [a, c, rm] H H' ∧ Dk H' a c cs3 k3 ∧ Tp H' v (.tuple []) ∧ Rm H' rm r0 r1 r2 r3) ⟨rfl, s3.new hu, D3.new hu, T3.new hu, R3.new hu⟩ (fun i σ' H' hi _ => absurd hi (Nat.not_lt_zero _)) (fun σ' H' ⟨p1, p2, p3, p4, p5⟩ => ?_)
        exact ⟨v, p1, q _ cs3 k3 v _ p2 p3 k3a k3b p4 (.inl ⟨rfl, p5⟩)⟩
      · have hne : (!PyData.eqv e (.tuple [])) = true := by
          cases hb <;> rfl
        refine (show ∀ {c : Bool} {A B : Prop}, c = true → A → (if c = true then A else B) from fun h1 h2 => by rw [if_pos h1]; exact h2) hne ?_
        refine ⟨_, rfl, z - 2, rfl, by omega, by omega, ?_⟩
        refine for_range (lo := 0) (n := (z - 2).toNat) (fun i σ' H' => ∃ v' e' y9, σ' = [some (.ref a), some (.ref nm), some (.ref rm), some (.int t), some (.int (z - 2)), some (.int y), some v', y7, y8, y9] ∧ Sx [a, c, rm] H H' ∧ Dk H' a c cs3 k3 ∧ Tp H' v' e' ∧ TsD ns i b e' ∧ Rm H' rm r0 r1 (r2 - t * bI b) (r3 - t * bI (!b)))
          ⟨v, e, _, rfl, s3.new hu, D3.new hu, T3.new hu, hb, R3.new hu⟩ (fun i σ' H' hi hp => ?_) (fun σ' H' hp => ?_)
        · obtain ⟨v', e', y9, rfl, p1, p2, p3, p4, p5⟩ := hp
          refine ⟨_, rfl, by show 2 ≤ sizeLine; decide, fun x hx => ?_⟩
          exact ⟨.ref x, .tuple [.str "not", e'], _, rfl, p1.new hx, p2.new hx, .tup upd_same (.cons (.str _) (.cons (p3.new hx) .nil)), .not p4, p5.new hx⟩
        · obtain ⟨v', e', y9, rfl, p1, p2, p3, p4, p5⟩ := hp
          exact ⟨v', rfl, q _ cs3 k3 v' e' p1 p2 k3a k3b p3 (.inr ⟨b, p4.up (by omega), p5⟩)⟩
end
section
variable {w : World} {P : Program} {K : PySem.W.Frag} {mg : Str → Option Value} {base : Heap}
theorem ok_row {f fD fO fT fP fB : Addr} {fd fdD fdO fdT fdP fdB : FuncData} {d : Nat} (F : Fun K "_law_row" "_law_row" sRow f fd) (F_draw : Fun K "_law_draw" "_law_draw" sDraw fD fdD) (F_one : Fun K "_law_one" "_law_one" sOne fO fdO) (F_test : Fun K "_law_test" "_law_test" sTest fT fdT) (F_expression : Fun K "_law_expression" "_law_expression" sExpression fP fdP) (F_block : Fun K "_law_block" "_law_block" sBlock fB fdB)
    (G_draw : FnOk P w K mg base CX0 1 fD fdD ["_law_deck_here", "_law_many"] spDraw) (G_one : FnOk P w K mg base CX0 2 fO fdO ["_law_deck_here", "_law_items"] (spOne K)) (G_test : FnOk P w K mg base CX0 6 fT fdT ["_law_deck_here", "_law_names_here", "_law_room", "_law_times"] (spTest K))
    (G_expression : FnOk P w K mg base CX0 5 fP fdP ["_law_deck_here", "_law_names_here", "_law_deep"] (spExpr K 3)) (G_block : FnOk P w K mg base CX0 (6 + 2 * d) fB fdB ["_law_deck_here", "_law_names_here", "_law_room", "_law_times", "_law_depth"] (spBlock K d))
    (b_draw : Binds K fdD ["_law_deck_here", "_law_many"] []) (b_one : Binds K fdO ["_law_deck_here", "_law_items"] []) (b_test : Binds K fdT ["_law_deck_here", "_law_names_here", "_law_room", "_law_times"] []) (b_expression : Binds K fdP ["_law_deck_here", "_law_names_here", "_law_deep"] []) (b_block : Binds K fdB ["_law_deck_here", "_law_names_here", "_law_room", "_law_times", "_law_depth"] [])
    (m_draw : mg "_law_draw" = some (.ref fD)) (m_one : mg "_law_one" = some (.ref fO)) (m_test : mg "_law_test" = some (.ref fT)) (m_expression : mg "_law_expression" = some (.ref fP)) (m_block : mg "_law_block" = some (.ref fB)) :
    FnOk P w K mg base CX0 (6 + 2 * d + 1) f fd ["_law_deck_here", "_law_names_here", "_law_room", "_law_times", "_law_depth"] (spRow K d) := by
  refine F.ok scRow (fun vs H Q E h => ?_) (fun cdv A outer s H vs Q E hr h => ?_)
  · obtain ⟨a, c, cs, k, nm, ns, rm, r0, r1, r2, r3, t, rfl, _⟩ := h
    rfl
  · obtain ⟨a, c, cs, k, nm, ns, rm, r0, r1, r2, r3, t, rfl, D, N, R, na, nc, nr, ra, rc, ht, h30, hk, q⟩ := h
    have eB := cB_pos d
    have e3c : cE 3 = 21 := by decide
    refine ⟨_, (pss_cons (ps_if (PW.pt (pw_or (pt_cmpR op_lt (pe_ix ix_list (pv 2) pe_int (fun _ _ => rfl)) pe_int (nomark _)) (pw_or1 (pt_cmpR op_lt (pe_ix ix_list (pv 2) pe_int (fun _ _ => rfl)) (pv 3) (nomark _))))) (pss_one (ps_ret (pe_tup pa_nil))) pss_nil)
      (pss_cons (ps_asg (pe_tup (pa_cons (pe_op op_sub (pe_ix ix_list (pv 2) pe_int (fun _ _ => rfl)) pe_int) (pa_cons (pe_op op_sub (pe_ix ix_list (pv 2) pe_int (fun _ _ => rfl)) (pv 3)) pa_nil))) (pg_tup rfl (pgs_cons (pg_sub (pv 2) pe_int set_list) (pgs_cons (pg_sub (pv 2) pe_int set_list) pgs_nil))))
      (pss_cons (ps_par (i := 5) (j := 6) (by rfl) scRow.nd rfl rfl (by decide) rfl rfl (pa_cons (pe_call G_draw (hr.mono (by omega)) (by rfl) m_draw F_draw.kp b_draw .nil pass0 (pa_cons (pv 0) (pa_cons pe_int pa_nil))) (pa_cons (pe_call G_one (hr.mono (by omega)) (by rfl) m_one F_one.kp b_one .nil pass0 (pa_cons (pv 0) (pa_cons (pv 1) pa_nil))) pa_nil)) (by rfl))
      (C8.pss_cut (ps_if (pt_cmpR op_lt (pv 5) pe_int (nomark _)) (pss_cons (ps_set (i := 7) scRow.nd rfl (by first | exact Or.inl rfl | exact Or.inr rfl) (pe_call G_test (hr.mono (by omega)) (by rfl) m_test F_test.kp b_test .nil pass0 (pa_cons (pv 0) (pa_cons (pv 1) (pa_cons (pv 2) (pa_cons (pv 3) pa_nil))))))
      (pss_one (ps_if (pt_cmpR (op_neD hr.units) (pv 7) (pe_tup pa_nil) (nomark _)) (pss_cons (ps_set (i := 8) scRow.nd rfl (by first | exact Or.inl rfl | exact Or.inr rfl) (pe_call G_block (hr.mono (by omega)) (by rfl) m_block F_block.kp b_block .nil pass0 (pa_cons (pv 0) (pa_cons (pv 1) (pa_cons (pv 2) (pa_cons (pv 3) (pa_cons (pe_op op_add (pv 4) pe_int) pa_nil)))))))
      (pss_one (ps_ret (pe_tup (pa_cons pe_str (pa_cons (pv 7) (pa_cons (pv 8) (pa_cons (pe_call G_block (hr.mono (by omega)) (by rfl) m_block F_block.kp b_block .nil pass0 (pa_cons (pv 0) (pa_cons (pv 1) (pa_cons (pv 2) (pa_cons (pv 3) (pa_cons (pe_op op_add (pv 4) pe_int) pa_nil)))))) pa_nil)))))))) pss_nil))) pss_nil)
      (pss_cons (ps_if (pt_cmpR op_eq (pv 5) pe_int (nomark _)) (pss_cons (ps_set (i := 9) scRow.nd rfl (by first | exact Or.inl rfl | exact Or.inr rfl) (pe_call G_one (hr.mono (by omega)) (by rfl) m_one F_one.kp b_one .nil pass0 (pa_cons (pv 0) (pa_cons (pe_lst (pa_cons pe_int (pa_cons pe_int (pa_cons pe_int (pa_cons pe_int (pa_cons pe_int (pa_cons pe_int pa_nil))))))) pa_nil))))
      (pss_one (ps_ret (pe_tup (pa_cons pe_str (pa_cons (pv 9) (pa_cons (pe_call G_block (hr.mono (by omega)) (by rfl) m_block F_block.kp b_block .nil pass0 (pa_cons (pv 0) (pa_cons (pv 1) (pa_cons (pv 2) (pa_cons (pe_op op_mul (pv 3) (pv 9)) (pa_cons (pe_op op_add (pv 4) pe_int) pa_nil)))))) pa_nil))))))) pss_nil)
      (pss_cons (ps_if (pt_cmpR op_lt (pv 5) pe_int (nomark _)) (pss_one (ps_ret (pe_tup (pa_cons pe_str (pa_cons (pv 6) (pa_cons (pe_call G_expression (hr.mono (by omega)) (by rfl) m_expression F_expression.kp b_expression .nil pass0 (pa_cons (pv 0) (pa_cons (pv 1) (pa_cons pe_int pa_nil)))) pa_nil)))))) pss_nil)
      (pss_cons (ps_if (PW.pt (pw_and (pt_cmpR op_eq (pv 5) pe_int (nomark _)) (pw_and1 (pt_cmpR op_eq (pe_call G_draw (hr.mono (by omega)) (by rfl) m_draw F_draw.kp b_draw .nil pass0 (pa_cons (pv 0) (pa_cons pe_int pa_nil))) pe_int (nomark _))))) (pss_one (ps_ret (pe_tup (pa_cons pe_str pa_nil)))) pss_nil)
      (pss_one (ps_ret (pe_tup (pa_cons pe_str (pa_cons (pe_call G_expression (hr.mono (by omega)) (by rfl) m_expression F_expression.kp b_expression .nil pass0 (pa_cons (pv 0) (pa_cons (pv 1) (pa_cons pe_int pa_nil)))) pa_nil)))))))))))), ?_⟩
    refine ⟨.ref rm, rfl, rm, _, 0, .int r0, rfl, rfl, .inl (.inl R.at_), rfl, _, 1, rfl, rfl, _, rfl, ite2 (fun e => ⟨Nat.zero_le _, fun p hp => ?_⟩)
      (fun e => ⟨.ref rm, rfl, rm, _, 1, .int r1, rfl, rfl, .inl (.inl R.at_), rfl, _, rfl, _, _, rfl, rfl, _, rfl, ite2 (fun e1 => ⟨Nat.zero_le _, fun p hp => ?_⟩) (fun e1 => ?_)⟩)⟩
    · exact q _ cs k _ (.tuple []) ((Sx.refl _).new hp) (D.new hp) (Int.le_refl _) (by omega) (.tup upd_same .nil) (.inl ⟨rfl, R.new hp⟩)
    · exact q _ cs k _ (.tuple []) ((Sx.refl _).new hp) (D.new hp) (Int.le_refl _) (by omega) (.tup upd_same .nil) (.inl ⟨rfl, R.new hp⟩)
    have g0 : 1 ≤ r0 := by
      have : ¬ r0 < 1 := fun z => e (decide_eq_true z)
      omega
    have g1 : t ≤ r1 := by
      have : ¬ r1 < t := fun z => e1 (decide_eq_true z)
      omega
    -- the room shrinks
    refine ⟨.ref rm, rfl, rm, _, 0, .int r0, rfl, rfl, .inl (.inl R.at_), rfl, _, 1, rfl, rfl, .ref rm, rfl, rm, _, 1, .int r1, rfl, rfl, .inl (.inl R.at_), rfl, _, rfl, _, _, rfl, rfl, by show 2 ≤ sizeLine; decide, fun p hp => ?_⟩
    refine ⟨p, _, rfl, .inl (.inl upd_same), rfl, _, _, rfl, .ref rm, rfl, rm, _, 0, 0, rfl, rfl, (R.new hp).at_, rfl, _, _, rfl, .ref rm, rfl, rm, _, 1, 1, rfl, rfl, upd_same, rfl, rfl, ?_⟩
    refine gh (H1 := upd (upd (upd H p _) rm _) rm _) (F := fun H2 => Sx [a, c, rm] H H2 ∧ Dk H2 a c cs k ∧ Nms K H2 nm ns ∧ Rm H2 rm (r0 - 1) (r1 - t) r2 r3)
      ⟨(((Sx.refl _).new hp).put (by simp)).put (by simp), (D.new hp).sx (((Sx.refl (ex := [rm]) _).put (by simp)).put (by simp)) (by simp [ra.symm]) (by simp [rc.symm]), N.keep ((((Sx.refl (ex := [rm]) _).new hp).put (by simp)).put (by simp)) (by simp [nr]),
        ⟨by rw [upd_upd]; exact upd_same, by omega, by omega, R.p2, R.p3⟩⟩ (fun H2 ⟨s2, D2, N2, R2⟩ => ?_)
    refine ⟨_, rfl, a, c, cs, k, 9, rfl, D2, by decide, by decide, by omega, fun H3a cs3a y s3a D3a y0 y1 => ?_⟩
    have N3a := N2.keep s3a (by simp [na, nc])
    refine ⟨_, rfl, _, rfl, a, c, cs3a, k + 1, _, rfl, D3a, by omega, .inl ⟨nm, _, rfl, N3a.at_, by simp [N.ne], by rw [List.length_map]; have := N.len; omega, na, nc, fun H3 cs3 vn s3b D3 hvn => ?_⟩⟩
    obtain ⟨zn, hzn, rfl⟩ := List.mem_map.mp hvn
    have s3 := s3a.trans s3b
    refine ⟨_, _, rfl, ?_⟩
    have N3 := N2.keep s3 (by simp [na, nc])
    have R3 := R2.sx s3 (by simp [ra, rc])
    have s03 : Sx [a, c, rm] H H3 := s2.trans (s3.mono (by simp))
    have hs : (3 - (d : Int)) + 1 = 4 - (d : Int) := by omega
    -- no test made
    refine ⟨fun σ' H' => ∃ (cs' : List Int) (k' : Int) (y7 y8 : Option V), σ' = [some (.ref a), some (.ref nm), some (.ref rm), some (.int t), some (.int (3 - (d : Int))), some (.int y), some (.str zn), y7, y8, none] ∧ Sx [a, c, rm] H H' ∧ Dk H' a c cs' k' ∧ k ≤ k' ∧ k' ≤ k + 48 ∧ Nms K H' nm ns ∧ Rm H' rm (r0 - 1) (r1 - t) r2 r3, ?_, ?_⟩
    · refine ⟨_, rfl, _, 3, rfl, rfl, _, rfl, ite2 (fun e3 => ?_) (fun e3 => ?_)⟩
      rotate_left
      · exact ⟨cs3, k + 1 + 1, _, _, rfl, s03, D3, by omega, by omega, N3, R3⟩
      refine ⟨_, rfl, _, rfl, _, rfl, _, rfl, a, c, cs3, k + 1 + 1, nm, ns, rm, _, _, _, _, t, rfl, D3, N3, R3, na, nc, nr, ra, rc, ht, by omega, fun H4 cs4 k4 v e s4 D4 k4a k4b T4 h4 => ?_⟩
      refine gnm ?_
      have N4 := N3.keep s4 (by simp [na, nc, nr])
      have s4 := s03.trans s4
      have sh : SeqAt.shaped e = true := by
        rcases h4 with ⟨rfl, _⟩ | ⟨b, hb, _⟩
        · exact (Sh.tup (n := 0) .nil).shaped (by decide)
        · exact (hb.sh N.ok).shaped (by decide)
      refine ⟨_, rfl, Nat.zero_le _, fun u hu => ⟨e, .tuple [], (T4.new hu).dp, .tup (SqT.of upd_same) .nil, sh, (Sh.tup (n := 0) .nil).shaped (by decide), _, rfl, ?_⟩⟩
      rcases h4 with ⟨rfl, R4⟩ | ⟨b, hb, R4⟩
      · refine iteF ?_
        exact ⟨cs4, k4, _, _, rfl, s4.new hu, D4.new hu, by omega, by omega, N4.keep ((Sx.refl (ex := []) _).new hu) (by simp), R4.new hu⟩
      · have hne : (!PyData.eqv e (.tuple [])) = true := by
          cases hb <;> rfl
        refine (show ∀ {c : Bool} {A B : Prop}, c = true → A → (if c = true then A else B) from fun h1 h2 => by rw [if_pos h1]; exact h2) hne ?_
        refine gh (H1 := upd H4 u _) (F := fun H5 => Sx [a, c, rm] H H5 ∧ Dk H5 a c cs4 k4 ∧ Nms K H5 nm ns ∧ Tp H5 v e ∧ Rm H5 rm (r0 - 1) (r1 - t) (r2 - t * bI b) (r3 - t * bI (!b))) ⟨s4.new hu, D4.new hu, N4.keep ((Sx.refl (ex := []) _).new hu) (by simp), T4.new hu, R4.new hu⟩ (fun H5 ⟨s5, D5, N5, T5, R5⟩ => ?_)
        refine ⟨_, rfl, _, rfl, _, rfl, _, rfl, _, rfl, _, 1, rfl, rfl, a, c, cs4, k4, nm, ns, rm, _, _, _, _, t, congrArg (fun z => [V.ref a, V.ref nm, V.ref rm, V.int t, V.int z]) hs, D5, N5, R5, na, nc, nr, ra, rc, ht, by omega, by omega, fun H6 cs6 k6 v6 es6 n6 w6 q6 c6 s6 D6 k6a k6b T6 B6 R6 w60 w6l => ?_⟩
        refine gnm ?_
        have N6 := N5.keep s6 (by simp [na, nc, nr])
        refine ⟨_, rfl, _, rfl, _, rfl, _, rfl, _, rfl, _, rfl, _, rfl, _, 1, rfl, rfl, a, c, cs6, k6, nm, ns, rm, _, _, _, _, t, congrArg (fun z => [V.ref a, V.ref nm, V.ref rm, V.int t, V.int z]) hs, D6, N6, R6, na, nc, nr, ra, rc, ht, by omega, by omega, fun H7 cs7 k7 v7 es7 n7 w7 q7 c7 s7 D7 k7a k7b T7 B7 R7 w70 w7l => ?_⟩
        refine ⟨by show 4 ≤ sizeLine; decide, fun u hu => ?_⟩
        have t6 : Tk H5 H6 := s6.tk (lst3 D5 R5)
        have t7 : Tk H6 H7 := s7.tk (lst3 D6 R6)
        have m1 : ∀ x y z : Int, t * (x + y + z) = t * x + t * y + t * z := fun x y z => by rw [Int.mul_add, Int.mul_add]
        refine q _ cs7 k7 _ (.tuple [.str "if", e, .tuple es6, .tuple es7]) (((s5.trans s6).trans s7).new hu) (D7.new hu) (by omega) (by omega)
          (.tup upd_same (.cons (.str _) (.cons (((T5.keep t6).keep t7).new hu) (.cons ((T6.keep t7).new hu) (.cons (T7.new hu) .nil))))) (.inr ⟨_, _, _, _, .ite hb B6 B7, (R7.new hu).cast ?_ ?_ ?_ ?_, by omega, ?_⟩)
        all_goals (first | rw [m1] | skip)
        all_goals omega
    · rintro _ H5 ⟨cs4, k4, y7, y8, rfl, s5, D5, k4a, k4b, N5, R5⟩
      refine ⟨_, rfl, rfl, _, rfl, ite2 (fun _ => ?_) (fun _ => ?_)⟩
      -- a repeat
      · refine ⟨_, rfl, by show 6 ≤ sizeLine; decide, fun l hl => ?_⟩
        obtain ⟨la, lc⟩ := D5.nw hl
        have lr := R5.nw hl
        refine ⟨a, c, cs4, k4, _, rfl, D5.new hl, by omega, .inl ⟨l, _, rfl, .inl (.inl upd_same), by simp, by show 6 ≤ 100000; decide, la, lc, fun H6 cs6 v6 s6 D6 hv => ?_⟩⟩
        have s56 : Sx [a, c] H5 H6 := ((Sx.refl _).new hl).trans s6
        have R6 := R5.sx s56 (by simp [ra, rc])
        have N6 := N5.keep s56 (by simp [na, nc])
        obtain ⟨g, rfl, ga, gb⟩ : ∃ g : Int, v6 = .int g ∧ 1 ≤ g ∧ g ≤ 8 := by
          simp only [List.not_mem_nil, List.mem_cons, or_false] at hv
          obtain rfl | rfl | rfl | rfl | rfl | rfl := hv
          all_goals exact ⟨_, rfl, by decide, by decide⟩
        have tg : 1 ≤ t * g := by
          have := Int.mul_le_mul ht ga (by decide) (by omega)
          omega
        refine gnm ?_
        refine ⟨_, rfl, _, rfl, _, rfl, _, rfl, _, rfl, _, rfl, t, g, rfl, rfl, .inl ⟨by omega, by omega⟩, _, rfl, _, 1, rfl, rfl, a, c, cs6, k4 + 1, nm, ns, rm, _, _, _, _, t * g, congrArg (fun z => [V.ref a, V.ref nm, V.ref rm, V.int (t * g), V.int z]) hs, D6, N6, R6, na, nc, nr, ra, rc, tg, by omega, by omega, fun H7 cs7 k7 v7 es7 n7 w7 q7 c7 s7 D7 k7a k7b T7 B7 R7 w70 w7l => ?_⟩
        refine ⟨by show 3 ≤ sizeLine; decide, fun u hu => ?_⟩
        have m1 : ∀ x y : Int, t * (x + g * y) = t * x + t * g * y := fun x y => by rw [Int.mul_add, Int.mul_assoc]
        have m2 : ∀ y : Int, t * (g * y) = t * g * y := fun y => by rw [Int.mul_assoc]
        have gw : 0 ≤ g * w7 := Int.mul_nonneg (by omega) w70
        refine q _ cs7 k7 _ (.tuple [.str "repeat", .int g, .tuple es7]) (((s5.trans (s56.mono (by simp))).trans s7).new hu) (D7.new hu) (by omega) (by omega)
          (.tup upd_same (.cons (.str _) (.cons (.int g) (.cons (T7.new hu) .nil)))) (.inr ⟨_, _, _, _, .rep g ga gb B7, (R7.new hu).cast ?_ ?_ ?_ ?_, by omega, ?_⟩)
        all_goals (first | rw [m1] | rw [m2] | skip)
        all_goals omega
      have fin : ∀ {H6 : Hp} {cs6 : List Int} {k6 : Int} {v6 : V} {x6 : PyData}, Sx [a, c] H5 H6 → Dk H6 a c cs6 k6 → k4 ≤ k6 → k6 ≤ k4 + 22 → Tp H6 v6 x6 → StD ns d 1 1 0 0 x6 → Q v6 H6 := fun {H6 cs6 k6 v6 x6} s6 D6 k6a k6b T6 X6 => by
        have R6 := R5.sx s6 (by simp [ra, rc])
        refine q _ cs6 k6 _ x6 (s5.trans (s6.mono (by simp))) D6 (by omega) (by omega) T6 (.inr ⟨1, 1, 0, 0, X6, R6.cast ?_ ?_ ?_ ?_, by omega, ?_⟩)
        all_goals omega
      refine ⟨_, rfl, _, 6, rfl, rfl, _, rfl, ite2 (fun _ => ?_) (fun _ => ?_)⟩
      -- a setting
      · refine ⟨_, rfl, _, rfl, _, rfl, a, c, cs4, k4, nm, ns, rfl, D5, N5, na, nc, by decide, by omega, fun H6 cs6 k6 v6 x6 s6 D6 k6a k6b T6 X6 => ?_⟩
        refine ⟨by show 3 ≤ sizeLine; decide, fun u hu => ?_⟩
        exact fin (s6.new hu) (D6.new hu) k6a (by omega) (.tup upd_same (.cons (.str _) (.cons (.str _) (.cons (T6.new hu) .nil)))) (.set zn hzn X6)
      have pay : ∀ {H6 : Hp} {cs6 : List Int} {k6 : Int}, Sx [a, c] H5 H6 → Dk H6 a c cs6 k6 → k4 ≤ k6 → k6 ≤ k4 + 1 → spExpr K 3 [.ref a, .ref nm, .int 3] H6 (fun v H7 => 2 ≤ sizeLine ∧ ∀ p, H7 p = none → Q (.ref p) (upd H7 p (.tup [.str "pay", v]))) E0 := fun {H6 cs6 k6} s6 D6 k6a k6b => by
        refine ⟨a, c, cs6, k6, nm, ns, rfl, D6, N5.keep s6 (by simp [na, nc]), na, nc, by decide, by omega, fun H7 cs7 k7 v7 x7 s7 D7 k7a k7b T7 X7 => ⟨by decide, fun u hu => ?_⟩⟩
        exact fin ((s6.trans s7).new hu) (D7.new hu) (by omega) (by omega) (.tup upd_same (.cons (.str _) (.cons (T7.new hu) .nil))) (.pay X7)
      refine ⟨_, rfl, rfl, _, rfl, ite2 (fun _ => ?_) (fun _ => ?_)⟩
      · refine ⟨_, rfl, a, c, cs4, k4, 3, rfl, D5, by decide, by decide, by omega, fun H6 cs6 y6 s6 D6 y60 y61 => ⟨rfl, _, rfl, ite2 (fun _ => ?_) (fun _ => ?_)⟩⟩
        · refine ⟨by show 1 ≤ sizeLine; decide, fun u hu => ?_⟩
          exact fin (s6.new hu) (D6.new hu) (by omega) (by omega) (.tup upd_same (.cons (.str _) .nil)) .stop
        · exact ⟨_, rfl, _, rfl, pay s6 D6 (by omega) (by omega)⟩
      · exact ⟨_, rfl, _, rfl, pay (Sx.refl _) D5 (by omega) (by omega)⟩
end
section
variable {w : World} {P : Program} {K : PySem.W.Frag} {mg : Str → Option Value} {base : Heap}
theorem ok_block0 {f : Addr} {fd : FuncData} {k : Nat} (F : Fun K "_law_block" "_law_block" sBlock f fd) : FnOk P w K mg base CX0 (k + 1) f fd ["_law_deck_here", "_law_names_here", "_law_room", "_law_times", "_law_depth"] (spBlock K 0) := by
  refine F.ok scBlock (fun vs H Q E h => ?_) (fun cdv A outer s H vs Q E hr h => ?_)
  · obtain ⟨a, c, cs, k, nm, ns, rm, r0, r1, r2, r3, t, rfl, _⟩ := h
    rfl
  · obtain ⟨a, c, cs, k, nm, ns, rm, r0, r1, r2, r3, t, rfl, D, N, R, na, nc, nr, ra, rc, ht, h30, hk, q⟩ := h
    refine ⟨_, pss_cons (ps_if (pt_cmpR op_gt (pv 4) pe_int (nomark _)) (pss_one (ps_ret (pe_tup pa_nil))) pss_nil) pss_never, ?_⟩
    refine ⟨_, rfl, _, 3, rfl, rfl, _, rfl, ite2 (fun e => ⟨Nat.zero_le _, fun p hp => ?_⟩) (fun e => ?_)⟩
    · have e0 : ∀ x y : Int, x - y * 0 = x := fun x y => by omega
      have e1 : ∀ x : Int, x - 0 = x := fun x => by omega
      refine q _ cs k _ [] 0 0 0 0 ((Sx.refl _).new hp) (D.new hp) (Int.le_refl _) (by have := cB_pos 0; omega) (.tup upd_same .nil) .nil ((R.new hp).cast ?_ ?_ ?_ ?_) (Int.le_refl _) ?_
      all_goals omega
    · exact absurd (decide_eq_true (by decide : (3 : Int) < 4 - ((0 : Nat) : Int))) e
theorem ok_block {f fD fR : Addr} {fd fdD fdR : FuncData} {d : Nat} (hd3 : d ≤ 3) (F : Fun K "_law_block" "_law_block" sBlock f fd) (F_draw : Fun K "_law_draw" "_law_draw" sDraw fD fdD) (F_row : Fun K "_law_row" "_law_row" sRow fR fdR)
    (G_draw : FnOk P w K mg base CX0 1 fD fdD ["_law_deck_here", "_law_many"] spDraw) (G_row : FnOk P w K mg base CX0 (6 + 2 * d + 1) fR fdR ["_law_deck_here", "_law_names_here", "_law_room", "_law_times", "_law_depth"] (spRow K d))
    (b_draw : Binds K fdD ["_law_deck_here", "_law_many"] []) (b_row : Binds K fdR ["_law_deck_here", "_law_names_here", "_law_room", "_law_times", "_law_depth"] [])
    (m_draw : mg "_law_draw" = some (.ref fD)) (m_row : mg "_law_row" = some (.ref fR)) (z_int : mg "int" = none) (z_range : mg "range" = none) (z_tuple : mg "tuple" = none) :
    FnOk P w K mg base CX0 (6 + 2 * d + 1 + 1) f fd ["_law_deck_here", "_law_names_here", "_law_room", "_law_times", "_law_depth"] (spBlock K (d + 1)) := by
  refine F.ok scBlock (fun vs H Q E h => ?_) (fun cdv A outer s H vs Q E hr h => ?_)
  · obtain ⟨a, c, cs, k, nm, ns, rm, r0, r1, r2, r3, t, rfl, _⟩ := h
    rfl
  · obtain ⟨a, c, cs, k, nm, ns, rm, r0, r1, r2, r3, t, rfl, D, N, R, na, nc, nr, ra, rc, ht, h30, hk, q⟩ := h
    have eB := cB_pos d
    have eB1 := cB_one d
    have hdep : (4 - ((d + 1 : Nat) : Int)) = 3 - (d : Int) := by omega
    refine ⟨_, (pss_cons (ps_if (pt_cmpR op_gt (pv 4) pe_int (nomark _)) (pss_one (ps_ret (pe_tup pa_nil))) pss_nil)
      (pss_cons (ps_par (i := 5) (j := 6) (by rfl) scBlock.nd rfl rfl (by decide) rfl rfl (pa_cons (pe_op op_add (pe_call G_draw (hr.mono (by omega)) (by rfl) m_draw F_draw.kp b_draw .nil pass0 (pa_cons (pv 0) (pa_cons pe_int pa_nil))) (pe_callTy call_int1 (by rfl) z_int boot_int (pa_cons (pe_cmpR op_eq (pv 4) pe_int (nomark _)) pa_nil))) (pa_cons (pe_lst pa_nil) pa_nil)) (by rfl))
      (C8.pss_cut (ps_for PassesOwn.never rfl (pi_range1 (by rfl) z_range (pa_cons (pv 5) pa_nil)) (pg_name (i := 7) scBlock.nd rfl (by first | exact Or.inl rfl | exact Or.inr rfl)) (pss_one (ps_expr (pe_bm PySem.F.plainAttrs_list PySem.F.slot_list_append PySem.F.type_list_append mt_append (pv 6) (pa_cons (pe_call G_row (hr.mono (by omega)) (by rfl) m_row F_row.kp b_row .nil pass0 (pa_cons (pv 0) (pa_cons (pv 1) (pa_cons (pv 2) (pa_cons (pv 3) (pa_cons (pv 4) pa_nil)))))) pa_nil)))))
      (pss_one (ps_ret (pe_callTy call_tuple_of (by rfl) z_tuple boot_tuple (pa_cons (pe_lc (own := [("_law_row_here", 8)]) (g := gName 8) (tt := _) rfl scBlock.nd (pi_list (pv 6)) (blkOk_by (N := nBlock) (sc := defScope sBlock) (by decide +kernel)) (fun _ _ _ _ _ => (pg_name (i := 8) scBlock.nd rfl (by first | exact Or.inl rfl | exact Or.inr rfl))) (fun _ _ _ _ _ => pts_one (pt_cmpR (show OpR _ _ (rNeD K) from op_neD hr.units) (pv 8) (pe_tup pa_nil) (nomark _))) (fun _ _ _ _ _ => (pv 8))) pa_nil))))))), ?_⟩
    refine ⟨_, rfl, _, 3, rfl, rfl, _, rfl, ite2 (fun e => ?_) (fun e => ?_)⟩
    · have : (3 : Int) < 4 - ((d + 1 : Nat) : Int) := of_decide_eq_true e
      omega
    refine ⟨_, rfl, a, c, cs, k, 4, rfl, D, by decide, by decide, by omega, fun H1 cs1 y s1 D1 y0 y1 => ?_⟩
    refine ⟨_, rfl, rfl, .inr ⟨_, rfl, _, _, rfl, rfl, Nat.zero_le _, fun L hL => ⟨_, _, rfl, ?_⟩⟩⟩
    obtain ⟨La, Lc⟩ := D1.nw hL
    have R1 := R.sx s1 (by simp [ra, rc])
    have Lr := R1.nw hL
    have HL : H L = none := s1.free (by simp [La, Lc]) hL
    have N1 := N.keep s1 (by simp [na, nc])
    have nL : nm ≠ L := N1.nw hL
    generalize hm : (y + if decide (V.int (4 - ((d + 1 : Nat) : Int)) = V.int 0) = true then (1 : Int) else 0) = m
    have m0 : 0 ≤ m ∧ m ≤ 4 := by
      rw [← hm]
      split <;> omega
    refine ⟨fun σ' H' => ∃ (cs' : List Int) (k' : Int) (es : List PyData) (vs : List V) (n w' rr cc : Int) (y7 : Option V), σ' = [some (.ref a), some (.ref nm), some (.ref rm), some (.int t), some (.int (4 - ((d + 1 : Nat) : Int))), some (.int m), some (.ref L), y7, none] ∧ Sx [a, c, rm] H H' ∧ Dk H' a c cs' k' ∧ k ≤ k' ∧ k' ≤ k + cB (d + 1) ∧
      H' L = some (.lst vs) ∧ TpAll H' vs es ∧ (∀ e ∈ es, SeqAt.shaped e = true) ∧ es.length ≤ 4 ∧ BkD ns (d + 1) n w' rr cc (es.filter ne0) ∧ Rm H' rm (r0 - n) (r1 - t * w') (r2 - t * rr) (r3 - t * cc) ∧ 0 ≤ w' ∧ r1 - t * w' ≤ r1, ?_, ?_⟩
    · refine ⟨_, rfl, m, congrArg (fun z => [V.int z]) hm, by omega, by omega, ?_⟩
      have hmul : ∀ i : Nat, (i : Int) ≤ 4 → (i : Int) * (71 + 2 * cB d) ≤ 4 * (71 + 2 * cB d) := fun i hi => Int.mul_le_mul_of_nonneg_right hi (by omega)
      refine for_range (lo := 0) (n := m.toNat) (fun i σ' H' => ∃ (cs' : List Int) (k' : Int) (es : List PyData) (vs : List V) (n w' rr cc : Int) (y7 : Option V), σ' = [some (.ref a), some (.ref nm), some (.ref rm), some (.int t), some (.int (4 - ((d + 1 : Nat) : Int))), some (.int m), some (.ref L), y7, none] ∧ Sx [a, c, rm] H H' ∧ Dk H' a c cs' k' ∧ k ≤ k' ∧ k' ≤ k + 1 + (i : Int) * (71 + 2 * cB d) ∧
        H' L = some (.lst vs) ∧ TpAll H' vs es ∧ (∀ e ∈ es, SeqAt.shaped e = true) ∧ es.length = i ∧ BkD ns (d + 1) n w' rr cc (es.filter ne0) ∧ Rm H' rm (r0 - n) (r1 - t * w') (r2 - t * rr) (r3 - t * cc) ∧ 0 ≤ w' ∧ r1 - t * w' ≤ r1) ?_ (fun i σ' H' hi hp => ?_) (fun σ' H' hp => ?_)
      · refine ⟨cs1, k + 1, [], [], 0, 0, 0, 0, none, by rw [← hm]; rfl, (s1.mono (by simp)).new hL, D1.new hL, by omega, by omega, upd_same, .nil, fun _ z => by simp at z, rfl, .nil, (R1.new hL).cast ?_ ?_ ?_ ?_, Int.le_refl _, ?_⟩
        all_goals omega
      · obtain ⟨cs2, k2, es, vs, n, w', rr, cc, y7, rfl, s2, D2, k2a, k2b, hLv, TA, hsh, hlen, B2, R2, w0, wl⟩ := hp
        have hi4 : i < 4 := by omega
        have hm1 := hmul (i + 1) (by omega)
        have hm2 : ((i + 1 : Nat) : Int) * (71 + 2 * cB d) = (i : Int) * (71 + 2 * cB d) + (71 + 2 * cB d) := by
          rw [show ((i + 1 : Nat) : Int) = (i : Int) + 1 from by omega, Int.add_mul, Int.one_mul]
        have N2 := N.keep s2 (by simp [na, nc, nr])
        refine ⟨_, rfl, .inl ⟨rfl, _, .inl (.inl hLv)⟩, _, rfl, _, rfl, _, rfl, _, rfl, _, rfl, a, c, cs2, k2, nm, ns, rm, _, _, _, _, t, congrArg (fun z => [V.ref a, V.ref nm, V.ref rm, V.int t, V.int z]) hdep, D2, N2, R2, na, nc, nr, ra, rc, ht, by omega, by omega, fun H3 cs3 k3 v e s3 D3 k3a k3b T3 h3 => ?_⟩
        have hL3 : H3 L = some (.lst vs) := s3 _ _ (by simp [La, Lc, Lr]) hLv
        have t3 : Tk _ H3 := s3.tk (lst3 D2 R2)
        have vl : vs.length = i := by rw [TA.len, hlen]
        refine ⟨L, vs, v, rfl, rfl, hL3, lt_line (by omega), ?_⟩
        have tL : Tk H3 (upd H3 L (.lst (vs ++ [v]))) := ((Sx.refl (ex := [L]) _).put (by simp)).tk (fun b hb => by rw [List.mem_singleton.mp hb]; exact ⟨_, hL3⟩)
        have sL : Sx [L] H3 (upd H3 L (.lst (vs ++ [v]))) := (Sx.refl (ex := [L]) _).put (by simp)
        have common : Sx [a, c, rm] H (upd H3 L (.lst (vs ++ [v]))) ∧ Dk (upd H3 L (.lst (vs ++ [v]))) a c cs3 k3 ∧ TpAll (upd H3 L (.lst (vs ++ [v]))) (vs ++ [v]) (es ++ [e]) :=
          ⟨(s2.trans s3).own HL, D3.sx sL (by simp [La.symm]) (by simp [Lc.symm]), ((TA.keep t3).keep tL).append (.cons (T3.keep tL) .nil)⟩
        obtain ⟨q1, q2, q3⟩ := common
        rcases h3 with ⟨rfl, R3⟩ | ⟨n3, w3, rr3, cc3, S3, R3, w30, w3l⟩
        · refine ⟨cs3, k3, es ++ [.tuple []], vs ++ [v], n, w', rr, cc, _, rfl, q1, q2, by omega, by omega, upd_same, q3, fun x hx => ?_, by rw [List.length_append, hlen]; rfl, ?_, R3.sx sL (by simp [Lr.symm]), w0, wl⟩
          · rcases List.mem_append.1 hx with z | z
            · exact hsh x z
            · rw [List.mem_singleton.mp z]; exact (Sh.tup (n := 0) .nil).shaped (by decide)
          · rw [List.filter_append, show List.filter ne0 [PyData.tuple []] = [] from rfl, List.append_nil]
            exact B2
        · have ma : ∀ x z : Int, t * (x + z) = t * x + t * z := fun x z => Int.mul_add _ _ _
          refine ⟨cs3, k3, es ++ [e], vs ++ [v], n + n3, w' + w3, rr + rr3, cc + cc3, _, rfl, q1, q2, by omega, by omega, upd_same, q3, fun x hx => ?_, by rw [List.length_append, hlen]; rfl, ?_, (R3.sx sL (by simp [Lr.symm])).cast ?_ ?_ ?_ ?_, by omega, ?_⟩
          · rcases List.mem_append.1 hx with z | z
            · exact hsh x z
            · rw [List.mem_singleton.mp z]; exact (S3.sh N.ok).shaped (by omega)
          · rw [List.filter_append, show List.filter ne0 [e] = [e] by rw [List.filter_cons, if_pos S3.ne0]; rfl]
            exact BkD.snoc S3 _ B2
          all_goals (first | rw [ma] | skip)
          all_goals omega
      · obtain ⟨cs2, k2, es, vs, n, w', rr, cc, y7, rfl, s2, D2, k2a, k2b, hLv, TA, hsh, hlen, B2, R2, w0, wl⟩ := hp
        have := hmul m.toNat (by omega)
        exact ⟨cs2, k2, es, vs, n, w', rr, cc, y7, rfl, s2, D2, k2a, by omega, hLv, TA, hsh, by omega, B2, R2, w0, wl⟩
    · rintro _ H2 ⟨cs2, k2, es, vs, n, w', rr, cc, y7, rfl, s2, D2, k2a, k2b, hLv, TA, hsh, hlen, B2, R2, w0, wl⟩
      have vl : vs.length = es.length := TA.len
      refine ⟨_, rfl, L, rfl, ⟨_, .inl (.inl hLv)⟩, fun Z hZ => ?_⟩
      obtain ⟨Za, Zc⟩ := D2.nw hZ
      have Zr := R2.nw hZ
      have ZL : L ≠ Z := ne_of_none hLv hZ
      have HZ : H Z = none := s2.free (by simp [Za, Zc, Zr]) hZ
      refine lc_list (xs := vs) (fun i H' => Sx [a, c, rm] H H' ∧ Dk H' a c cs2 k2 ∧ Rm H' rm (r0 - n) (r1 - t * w') (r2 - t * rr) (r3 - t * cc) ∧ H' L = some (.lst vs) ∧ TpAll H' vs es ∧ ∃ acc, H' Z = some (.lst acc) ∧ TpAll H' acc ((es.take i).filter ne0) ∧ acc.length ≤ i)
        ⟨s2.own HZ, D2.new hZ, R2.new hZ, by rw [upd_ne ZL]; exact hLv, TA.new hZ, [], upd_same, .nil, Nat.le_refl _⟩ (fun i H' _ p => .inl (.inl p.2.2.2.1)) (fun i x H' hx p => ?_) (fun H' p => ?_)
      · obtain ⟨p1, p2, p3, p4, p5, acc, p6, p7, p8⟩ := p
        obtain ⟨e, he, T⟩ := p5.get hx
        have hi : i < es.length := (List.getElem?_eq_some_iff.mp he).1
        have hse := hsh e (List.mem_of_getElem? he)
        refine ⟨rfl, _, rfl, Nat.zero_le _, fun u hu => ⟨e, .tuple [], (T.new hu).dp, .tup (SqT.of upd_same) .nil, hse, (Sh.tup (n := 0) .nil).shaped (by decide), _, rfl, ?_⟩⟩
        have pu1 := p1.new (o := .tup []) hu
        have pu2 := p2.new (o := .tup []) hu
        have pu3 := p3.new (o := .tup []) hu
        have pu4 : (upd H' u (.tup [])) L = some (.lst vs) := (Sx.refl (ex := []) _).new hu _ _ (by simp) p4
        have pu5 := p5.new (o := .tup []) hu
        have pu6 : (upd H' u (.tup [])) Z = some (.lst acc) := (Sx.refl (ex := []) _).new hu _ _ (by simp) p6
        have pu7 := p7.new (o := .tup []) hu
        have T' := T.new (o := .tup []) hu
        have tk : (es.take (i + 1)).filter ne0 = (es.take i).filter ne0 ++ (if ne0 e = true then [e] else []) := by
          rw [List.take_add_one, he, Option.toList_some, List.filter_append, List.filter_cons, List.filter_nil]
        cases hne : ne0 e with
        | false =>
          have hne' : (!PyData.eqv e (.tuple [])) = false := hne
          rw [hne, if_neg Bool.false_ne_true, List.append_nil] at tk
          refine (show ∀ {c : Bool} {A B : Prop}, c = false → B → (if c = true then A else B) from fun h1 h2 => by rw [h1, if_neg Bool.false_ne_true]; exact h2) hne' ?_
          exact ⟨pu1, pu2, pu3, pu4, pu5, acc, pu6, by rw [tk]; exact pu7, by omega⟩
        | true =>
          have hne' : (!PyData.eqv e (.tuple [])) = true := hne
          rw [hne, if_pos rfl] at tk
          refine (show ∀ {c : Bool} {A B : Prop}, c = true → A → (if c = true then A else B) from fun h1 h2 => by rw [h1, if_pos rfl]; exact h2) hne' ?_
          refine ⟨x, rfl, acc, pu6, lt_line (by omega), ?_⟩
          have sZ : Sx [Z] (upd H' u (.tup [])) (upd (upd H' u (.tup [])) Z (.lst (acc ++ [x]))) := (Sx.refl (ex := [Z]) _).put (by simp)
          have tZ : Tk (upd H' u (.tup [])) (upd (upd H' u (.tup [])) Z (.lst (acc ++ [x]))) := sZ.tk (fun b hb => by rw [List.mem_singleton.mp hb]; exact ⟨_, pu6⟩)
          exact ⟨pu1.own HZ, pu2.sx sZ (by simp [Za.symm]) (by simp [Zc.symm]), pu3.sx sZ (by simp [Zr.symm]), by rw [upd_ne ZL]; exact pu4, pu5.keep tZ, acc ++ [x], upd_same, by rw [tk]; exact (pu7.keep tZ).append (.cons (T'.keep tZ) .nil), by rw [List.length_append]; show acc.length + 1 ≤ i + 1; omega⟩
      · obtain ⟨p1, p2, p3, p4, p5, acc, p6, p7, p8⟩ := p
        rw [vl, List.take_length] at p7
        refine ⟨Z, acc, rfl, .inl ⟨.inl (.inl p6), fun l hl => ?_⟩⟩
        exact q _ cs2 k2 _ (es.filter ne0) n w' rr cc (p1.new hl) (p2.new hl) k2a k2b (.tup upd_same (p7.new hl)) B2 (p3.new hl) w0 wl
def spProg9 (K : PySem.W.Frag) : Sp := fun vs H Q _ => ∃ (a c : Addr) (cs : List Int) (k : Int) (nm : Addr) (ns : List Str), vs = [.ref a, .ref nm] ∧ Dk H a c cs k ∧ Nms K H nm ns ∧ nm ≠ a ∧ nm ≠ c ∧ k + cP ≤ KB ∧
  ∀ H' cs' k' v es n w r cc, Sx [a, c] H H' → Dk H' a c cs' k' → k ≤ k' → k' ≤ k + cP → Tp H' v (.tuple es) → BkD ns 4 n w r cc es → n ≤ 12 → w ≤ 16 → Q v H'
theorem ok_program {f fD fE fB : Addr} {fd fdD fdE fdB : FuncData} (F : Fun K "_law_program" "_law_program" sProgram f fd) (F_draw : Fun K "_law_draw" "_law_draw" sDraw fD fdD) (F_expression : Fun K "_law_expression" "_law_expression" sExpression fE fdE) (F_block : Fun K "_law_block" "_law_block" sBlock fB fdB)
    (G_draw : FnOk P w K mg base CX0 1 fD fdD ["_law_deck_here", "_law_many"] spDraw) (G_expression : FnOk P w K mg base CX0 4 fE fdE ["_law_deck_here", "_law_names_here", "_law_deep"] (spExpr K 2)) (G_block : FnOk P w K mg base CX0 14 fB fdB ["_law_deck_here", "_law_names_here", "_law_room", "_law_times", "_law_depth"] (spBlock K 4))
    (b_draw : Binds K fdD ["_law_deck_here", "_law_many"] []) (b_expression : Binds K fdE ["_law_deck_here", "_law_names_here", "_law_deep"] []) (b_block : Binds K fdB ["_law_deck_here", "_law_names_here", "_law_room", "_law_times", "_law_depth"] [])
    (m_draw : mg "_law_draw" = some (.ref fD)) (m_expression : mg "_law_expression" = some (.ref fE)) (m_block : mg "_law_block" = some (.ref fB)) (z_range : mg "range" = none) :
    FnOk P w K mg base CX0 15 f fd ["_law_deck_here", "_law_names_here"] (spProg9 K) := by
  refine F.ok scProgram (fun vs H Q E h => ?_) (fun cdv A outer s H vs Q E hr h => ?_)
  · obtain ⟨a, c, cs, k, nm, ns, rfl, _⟩ := h
    rfl
  · obtain ⟨a, c, cs, k, nm, ns, rfl, D, N, na, nc, hk, q⟩ := h
    have e4 : cB 4 = 166725 := by decide
    have e2 : cE 2 = 9 := by decide
    have eP : cP = 700000 := rfl
    refine ⟨_, (pss_cons (ps_par (i := 2) (j := 3) (by rfl) scProgram.nd rfl rfl (by decide) rfl rfl (pa_cons (pe_lst (pa_cons pe_int (pa_cons pe_int (pa_cons pe_int (pa_cons pe_int pa_nil))))) (pa_cons (pe_tup pa_nil) pa_nil)) (by rfl))
      (C8.pss_cut (ps_if (pt_cmpR op_eq (pe_call G_draw (hr.mono (by omega)) (by rfl) m_draw F_draw.kp b_draw .nil pass0 (pa_cons (pv 0) (pa_cons pe_int pa_nil))) pe_int (nomark _)) (pss_one (ps_set (i := 3) scProgram.nd rfl (by first | exact Or.inl rfl | exact Or.inr rfl) (pe_tup (pa_cons (pe_tup (pa_cons pe_str (pa_cons (pe_ix ix_list (pv 1) pe_int (fun _ _ => rfl)) (pa_cons (pe_tup (pa_cons pe_str (pa_cons pe_str (pa_cons (pe_op op_sub (pe_call G_draw (hr.mono (by omega)) (by rfl) m_draw F_draw.kp b_draw .nil pass0 (pa_cons (pv 0) (pa_cons pe_int pa_nil))) pe_int) pa_nil)))) pa_nil)))) pa_nil)))) pss_nil)
      (C8.pss_cut (ps_for PassesOwn.never rfl (pi_range1 (by rfl) z_range (pa_cons (pe_op op_add pe_int (pe_call G_draw (hr.mono (by omega)) (by rfl) m_draw F_draw.kp b_draw .nil pass0 (pa_cons (pv 0) (pa_cons pe_int pa_nil)))) pa_nil)) (pg_name (i := 4) scProgram.nd rfl (by first | exact Or.inl rfl | exact Or.inr rfl)) (pss_one (ps_set (i := 3) scProgram.nd rfl (by first | exact Or.inl rfl | exact Or.inr rfl) (pe_op op_catA (pv 3) (pe_call G_block (hr.mono (by omega)) (by rfl) m_block F_block.kp b_block .nil pass0 (pa_cons (pv 0) (pa_cons (pv 1) (pa_cons (pv 2) (pa_cons pe_int (pa_cons pe_int pa_nil))))))))))
      (pss_one (ps_ret (pe_op op_catA (pv 3) (pe_tup (pa_cons (pe_tup (pa_cons pe_str (pa_cons (pe_call G_expression (hr.mono (by omega)) (by rfl) m_expression F_expression.kp b_expression .nil pass0 (pa_cons (pv 0) (pa_cons (pv 1) (pa_cons pe_int pa_nil)))) pa_nil))) pa_nil)))))))), ?_⟩
    refine ⟨by show 4 ≤ sizeLine; decide, fun rm hrm => ⟨Nat.zero_le _, fun p hp => ⟨_, _, rfl, ?_⟩⟩⟩
    obtain ⟨ra, rc⟩ := D.nw hrm
    have nr := N.nw hrm
    have n0 : Sx [a, c] H (upd (upd H rm (.lst [.int 10, .int 14, .int 2, .int 2])) p (.tup [])) := ((Sx.refl _).new hrm).new hp
    refine gh (H1 := upd (upd H rm _) p _) (F := fun H2 => Sx [a, c] H H2 ∧ Dk H2 a c cs k ∧ Nms K H2 nm ns ∧ Rm H2 rm 10 14 2 2 ∧ Tp H2 (.ref p) (.tuple []))
      ⟨n0, (D.new hrm).new hp, N.keep n0 (by simp [na, nc]), Rm.new ⟨upd_same, by decide, by decide, by decide, by decide⟩ hp, .tup upd_same .nil⟩ (fun H2 ⟨s2, D2, N2, R2, T2⟩ => ?_)
    -- a name set ahead, or nothing
    refine ⟨fun σ' H' => ∃ (cs' : List Int) (k' : Int) (v : V) (es0 : List PyData) (n0 : Int), σ' = [some (.ref a), some (.ref nm), some (.ref rm), some v, none] ∧ Sx [a, c] H H' ∧ Dk H' a c cs' k' ∧ k ≤ k' ∧ k' ≤ k + 2 ∧ Nms K H' nm ns ∧ Rm H' rm 10 14 2 2 ∧ Tp H' v (.tuple es0) ∧ BkD ns 4 n0 n0 0 0 es0 ∧ n0 ≤ 1, ?_, ?_⟩
    · refine ⟨_, rfl, a, c, cs, k, 2, rfl, D2, by decide, by decide, by omega, fun H3 cs3 y s3 D3 y0 y1 => ⟨rfl, _, rfl, ite2 (fun _ => ?_) (fun _ => ?_)⟩⟩
      rotate_left
      · exact ⟨cs3, k + 1, .ref p, [], 0, rfl, s2.trans s3, D3, by omega, by omega, N2.keep s3 (by simp [na, nc]), R2.sx s3 (by simp [ra, rc]), T2.keep (D2.tk s3), .nil, by decide⟩
      have N3 := N2.keep s3 (by simp [na, nc])
      obtain ⟨z1, hz1, e1⟩ := N.two
      refine ⟨_, rfl, nm, _, _, .str z1, rfl, rfl, N3.at_, atI_nat (j := 1) (by rw [List.getElem?_map, e1]; rfl), ?_⟩
      refine ⟨_, rfl, a, c, cs3, k + 1, 41, rfl, D3, by decide, by decide, by omega, fun H4 cs4 x s4 D4 x0 x1 => ⟨x, 20, rfl, rfl, ?_⟩⟩
      refine ⟨by show 3 ≤ sizeLine; decide, fun p1 hp1 => ⟨by show 3 ≤ sizeLine; decide, fun p2 hp2 => ⟨by show 1 ≤ sizeLine; decide, fun p3 hp3 => ?_⟩⟩⟩
      have nx : Sx [] H4 (upd (upd (upd H4 p1 (.tup [.str "plus", .str "n", .int (x - 20)])) p2 (.tup [.str "set", .str z1, .ref p1])) p3 (.tup [.ref p2])) := (((Sx.refl _).new hp1).new hp2).new hp3
      have t1 : Tp (upd (upd (upd H4 p1 (.tup [.str "plus", .str "n", .int (x - 20)])) p2 (.tup [.str "set", .str z1, .ref p1])) p3 (.tup [.ref p2])) (.ref p3) (.tuple [.tuple [.str "set", .str z1, .tuple [.str "plus", .str "n", .int (x - 20)]]]) :=
        .tup upd_same (.cons (Tp.new (.tup upd_same (.cons (.str _) (.cons (.str _) (.cons (Tp.new (.tup upd_same (.cons (.str _) (.cons (.str _) (.cons (.int _) .nil)))) hp2) .nil)))) hp3) .nil)
      have bk : BkD ns 4 (1 + 0) (1 + 0) (0 + 0) (0 + 0) [.tuple [.str "set", .str z1, .tuple [.str "plus", .str "n", .int (x - 20)]]] := .cons (.set z1 hz1 (.plus (.name _ N.hn) (.int _ (by omega) (by omega)))) .nil
      exact ⟨cs4, k + 1 + 1, .ref p3, _, 1, rfl, ((s2.trans s3).trans s4).trans nx.nil, D4.same nx, by omega, by omega, (N3.keep s4 (by simp [na, nc])).keep nx (by simp), ((R2.sx s3 (by simp [ra, rc])).sx s4 (by simp [ra, rc])).sx nx (by simp), t1, bk, by decide⟩
    rintro _ H2 ⟨cs, k1, v0, es0, n0, rfl, s2, D2, k1a, k1b, N2, R2, T2, B0, hn0⟩
    have pos0 := B0.pos
    refine ⟨fun σ' H' => ∃ (cs' : List Int) (k' : Int) (v : V) (es : List PyData) (n w' rr cc : Int) (y4 : Option V), σ' = [some (.ref a), some (.ref nm), some (.ref rm), some v, y4] ∧ Sx [a, c] H H' ∧ Dk H' a c cs' k' ∧ k ≤ k' ∧ k' ≤ k + 333460 ∧ Nms K H' nm ns ∧ Tp H' v (.tuple (es0 ++ es)) ∧ BkD ns 4 n w' rr cc es ∧ Rm H' rm (10 - n) (14 - w') (2 - rr) (2 - cc), ?_, ?_⟩
    · refine ⟨_, rfl, a, c, cs, k1, 2, rfl, D2, by decide, by decide, by omega, fun H3 cs3 y s3 D3 y0 y1 => ⟨1, y, rfl, rfl, _, rfl, by omega, by omega, ?_⟩⟩
      refine for_range (lo := 0) (n := (1 + y).toNat) (fun i σ' H' => ∃ (cs' : List Int) (k' : Int) (v : V) (es : List PyData) (n w' rr cc : Int) (y4 : Option V), σ' = [some (.ref a), some (.ref nm), some (.ref rm), some v, y4] ∧ Sx [a, c] H H' ∧ Dk H' a c cs' k' ∧ k ≤ k' ∧ k' ≤ k + 3 + (i : Int) * 166725 ∧ Nms K H' nm ns ∧ Tp H' v (.tuple (es0 ++ es)) ∧ BkD ns 4 n w' rr cc es ∧ Rm H' rm (10 - n) (14 - w') (2 - rr) (2 - cc)) ?_ (fun i σ' H' hi hp => ?_) (fun σ' H' hp => ?_)
      · exact ⟨cs3, k1 + 1, v0, [], 0, 0, 0, 0, none, rfl, s2.trans s3, D3, by omega, by omega, N2.keep s3 (by simp [na, nc]), by rw [List.append_nil]; exact T2.keep (D2.tk s3), .nil, R2.sx s3 (by simp [ra, rc])⟩
      · obtain ⟨cs4, k4, v, es, n, w', rr, cc, y4, rfl, s4, D4, k4a, k4b, N4, T4, B4, R4⟩ := hp
        have hp4 := B4.pos
        have q1 := R4.p1
        refine ⟨_, rfl, _, rfl, _, rfl, _, rfl, a, c, cs4, k4, nm, ns, rm, _, _, _, _, 1, rfl, D4, N4, R4, na, nc, nr, ra, rc, by decide, by omega, by omega, fun H5 cs5 k5 v5 es5 n5 w5 q5 c5 s5 D5 k5a k5b T5 B5 R5 w50 w5l => ?_⟩
        have t5 : Tk H' H5 := s5.tk (lst3 D4 R4)
        have hp5 := B5.pos
        have g4 := R4.p0
        have g5 := R5.p0
        have s45 : Sx [a, c] H H5 := s4.step s5 (fun x hx => by
          simp only [List.not_mem_nil, List.mem_cons, or_false] at hx
          rcases hx with rfl | rfl | rfl
          · exact .inl (by simp)
          · exact .inl (by simp)
          · exact .inr hrm)
        refine cat_tp (T4.keep t5) T5 (by rw [List.length_append]; omega) (fun H6 z s6 _ T6 => ?_)
        rw [List.append_assoc] at T6
        refine ⟨cs5, k5, z, es ++ es5, n + n5, w' + w5, rr + q5, cc + c5, _, rfl, s45.trans s6.nil, D5.same s6, by omega, by omega, (N4.keep s5 (by simp [na, nc, nr])).keep s6 (by simp), T6, BkD.append B5 _ B4, (R5.sx s6 (by simp)).cast ?_ ?_ ?_ ?_⟩
        all_goals omega
      · obtain ⟨cs4, k4, v, es, n, w', rr, cc, y4, rfl, s4, D4, k4a, k4b, N4, T4, B4, R4⟩ := hp
        exact ⟨cs4, k4, v, es, n, w', rr, cc, y4, rfl, s4, D4, k4a, by omega, N4, T4, B4, R4⟩
    · rintro _ H4 ⟨cs4, k4, v, es, n, w', rr, cc, y4, rfl, s4, D4, k4a, k4b, N4, T4, B4, R4⟩
      have p0 := R4.p0
      have p1 := R4.p1
      have hpos := B4.pos
      refine ⟨_, rfl, _, rfl, _, rfl, a, c, cs4, _, nm, ns, rfl, D4, N4, na, nc, by decide, by omega, fun H6 cs6 k6 v6 x6 s6 D6 k6a k6b T6 X6 => ?_⟩
      refine ⟨by show 2 ≤ sizeLine; decide, fun t ht => ⟨by show 1 ≤ sizeLine; decide, fun u hu => ?_⟩⟩
      have t46 : Tk H4 (upd (upd H6 t (.tup [.str "pay", v6])) u (.tup [.ref t])) := (D4.tk s6).trans ((((Sx.refl (ex := []) _).new ht).new hu).tk0)
      have Tu : Tp (upd (upd H6 t (.tup [.str "pay", v6])) u (.tup [.ref t])) (.ref u) (.tuple [.tuple [.str "pay", x6]]) :=
        .tup upd_same (.cons (Tp.new (.tup upd_same (.cons (.str _) (.cons (T6.new ht) .nil))) hu) .nil)
      refine cat_tp (T4.keep t46) Tu (by rw [List.length_append]; show es0.length + es.length + 1 ≤ 16777216; omega) (fun H7 z s7 _ T7 => ?_)
      have BB : BkD ns 4 (1 + 0) (1 + 0) (0 + 0) (0 + 0) [.tuple [.str "pay", x6]] := .cons (.pay (X6.up (by decide))) .nil
      have BE := BkD.append (BkD.append BB _ B4) _ B0
      rw [← List.append_assoc] at BE
      refine q H7 cs6 k6 z _ _ _ _ _ ((((s4.trans s6).new ht).new hu).trans s7.nil) (((D6.new ht).new hu).same s7) (by omega) (by omega) T7 BE ?_ ?_
      all_goals omega
end
section
variable {w : World} {P : Program} {K : PySem.W.Frag} {mg : Str → Option Value} {base : Heap}
theorem ab9_az : ∀ x ∈ (Str.ofString "abcdefgijkmoquvwxyz").cps.toList, 97 ≤ x ∧ x ≤ 122 := by decide +kernel
theorem ab9_09 : ∀ x ∈ (Str.ofString "abcdefgijkmoquvwxyz" ++ Str.ofString "0123456789").cps.toList, (97 ≤ x ∧ x ≤ 122) ∨ (48 ≤ x ∧ x ≤ 57) := by decide +kernel
theorem ok_names {f fD fO : Addr} {fd fdD fdO : FuncData} {k : Nat} (F : Fun K "_law_names" "_law_names" sNames f fd) (F_draw : Fun K "_law_draw" "_law_draw" sDraw fD fdD) (F_one : Fun K "_law_one" "_law_one" sOne fO fdO)
    (G_draw : FnOk P w K mg base CX0 1 fD fdD ["_law_deck_here", "_law_many"] spDraw) (G_one : FnOk P w K mg base CX0 2 fO fdO ["_law_deck_here", "_law_items"] (spOne K))
    (b_draw : Binds K fdD ["_law_deck_here", "_law_many"] []) (b_one : Binds K fdO ["_law_deck_here", "_law_items"] [])
    (m_draw : mg "_law_draw" = some (.ref fD)) (m_one : mg "_law_one" = some (.ref fO)) (z_range : mg "range" = none) :
    FnOk P w K mg base CX0 3 f fd ["_law_deck_here"] (spNames K) := by
  refine F.ok scNames (fun vs H Q E h => ?_) (fun cdv A outer s H vs Q E hr h => ?_)
  · obtain ⟨a, c, cs, k, rfl, _⟩ := h
    rfl
  · obtain ⟨a, c, cs, k, rfl, D, hk, q⟩ := h
    refine ⟨_, (pss_cons (ps_set (i := 1) scNames.nd rfl (by first | exact Or.inl rfl | exact Or.inr rfl) pe_str)
      (pss_cons (ps_asg (pe_tup (pa_cons (pe_op op_add_str (pv 1) pe_str) (pa_cons (pe_call G_one (hr.mono (by omega)) (by rfl) m_one F_one.kp b_one .nil pass0 (pa_cons (pv 0) (pa_cons (pe_lst (pa_cons pe_int (pa_cons pe_int (pa_cons pe_int (pa_cons pe_int (pa_cons pe_int (pa_cons pe_int (pa_cons pe_int pa_nil)))))))) pa_nil))) pa_nil))) (pg_tup rfl (pgs_cons (pg_name (i := 2) scNames.nd rfl (by first | exact Or.inl rfl | exact Or.inr rfl)) (pgs_cons (pg_name (i := 3) scNames.nd rfl (by first | exact Or.inl rfl | exact Or.inr rfl)) pgs_nil))))
      (pss_cons (ps_if (pt_cmpR op_eq (pe_call G_draw (hr.mono (by omega)) (by rfl) m_draw F_draw.kp b_draw .nil pass0 (pa_cons (pv 0) (pa_cons pe_int pa_nil))) pe_int (nomark _)) (pss_cons (ps_par (i := 4) (j := 5) (by rfl) scNames.nd rfl rfl (by decide) rfl rfl (pa_cons (pe_call G_draw (hr.mono (by omega)) (by rfl) m_draw F_draw.kp b_draw .nil pass0 (pa_cons (pv 0) (pa_cons pe_int pa_nil))) (pa_cons (pe_lst (pa_cons pe_str (pa_cons pe_str (pa_cons pe_str (pa_cons pe_str (pa_cons pe_str (pa_cons pe_str (pa_cons pe_str pa_nil)))))))) pa_nil)) (by rfl))
      (pss_one (ps_ret (pe_op op_cat (pe_lst (pa_cons pe_str pa_nil)) (pe_slice sl_list (pv 5) (po_some (pv 4)) (po_some (pe_op op_add (pv 4) pe_int))))))) pss_nil)
      (pss_cons (ps_set (i := 6) scNames.nd rfl (by first | exact Or.inl rfl | exact Or.inr rfl) (pe_join pe_str (pe_lc (own := [("_law_k", 8)]) (g := gName 8) (tt := tYes) rfl scNames.nd (pi_range1 (by rfl) z_range (pa_cons (pv 3) pa_nil)) (blkOk_by (N := nNames) (sc := defScope sNames) (by decide +kernel)) (fun _ _ _ _ _ => (pg_name (i := 8) scNames.nd rfl (by first | exact Or.inl rfl | exact Or.inr rfl))) (fun _ _ _ _ _ => pts_nil) (fun _ _ _ _ _ => (pe_call G_one (hr.mono (by omega)) (by rfl) m_one F_one.kp b_one .nil pass0 (pa_cons (pv 0) (pa_cons (pv 1) pa_nil)))))))
      (pss_cons (ps_set (i := 7) scNames.nd rfl (by first | exact Or.inl rfl | exact Or.inr rfl) (pe_join pe_str (pe_lc (own := [("_law_k", 8)]) (g := gName 8) (tt := tYes) rfl scNames.nd (pi_range1 (by rfl) z_range (pa_cons (pe_call G_draw (hr.mono (by omega)) (by rfl) m_draw F_draw.kp b_draw .nil pass0 (pa_cons (pv 0) (pa_cons (pe_op op_sub pe_int (pv 3)) pa_nil))) pa_nil)) (blkOk_by (N := nNames) (sc := defScope sNames) (by decide +kernel)) (fun _ _ _ _ _ => (pg_name (i := 8) scNames.nd rfl (by first | exact Or.inl rfl | exact Or.inr rfl))) (fun _ _ _ _ _ => pts_nil) (fun _ _ _ _ _ => (pe_call G_one (hr.mono (by omega)) (by rfl) m_one F_one.kp b_one .nil pass0 (pa_cons (pv 0) (pa_cons (pv 2) pa_nil)))))))
      (pss_one (ps_ret (pe_op op_cat (pe_lst (pa_cons pe_str pa_nil)) (pe_lc (own := [("_law_k", 8)]) (g := gName 8) (tt := tYes) rfl scNames.nd (pi_range1 (by rfl) z_range (pa_cons pe_int pa_nil)) (blkOk_by (N := nNames) (sc := defScope sNames) (by decide +kernel)) (fun _ _ _ _ _ => (pg_name (i := 8) scNames.nd rfl (by first | exact Or.inl rfl | exact Or.inr rfl))) (fun _ _ _ _ _ => pts_nil) (fun _ _ _ _ _ => (pe_op op_add_str (pe_op op_add_str (pv 6) (pe_ix ix_str pe_str (pv 8) (fun _ _ => rfl))) (pv 7)))))))))))), ?_⟩
    -- the size
    refine ⟨_, rfl, _, _, rfl, rfl, by decide +kernel, _, rfl, by show 7 ≤ sizeLine; decide, fun l hl => ?_⟩
    obtain ⟨la, lc⟩ := D.nw hl
    refine ⟨a, c, cs, _, _, rfl, D.new hl, by omega, .inl ⟨l, _, rfl, .inl (.inl upd_same), by simp, by show 7 ≤ 100000; decide, la, lc, fun H4 cs4 x s4 D4 hx => ?_⟩⟩
    obtain ⟨n, rfl, hn⟩ : ∃ n : Nat, x = .int (n : Int) ∧ n ≤ 7 := by
      simp only [List.not_mem_nil, List.mem_cons, or_false] at hx
      rcases hx with rfl | rfl | rfl | rfl | rfl | rfl | rfl
      · exact ⟨0, rfl, by decide⟩
      · exact ⟨1, rfl, by decide⟩
      · exact ⟨2, rfl, by decide⟩
      · exact ⟨3, rfl, by decide⟩
      · exact ⟨5, rfl, by decide⟩
      · exact ⟨6, rfl, by decide⟩
      · exact ⟨7, rfl, by decide⟩
    have s04 : Sx [a, c] H H4 := ((Sx.refl _).new hl).trans s4
    clear s4
    refine ⟨by show 2 ≤ sizeLine; decide, fun tt htt => ⟨tt, _, rfl, .inl (.inl upd_same), rfl, _, _, rfl, gnm ⟨_, _, rfl, gnm ⟨rfl, ?_⟩⟩⟩⟩
    have D4 := D4.new (o := .tup [.str ("abcdefgijkmoquvwxyz" ++ "0123456789"), .int (n : Int)]) htt
    have s04 := s04.new (o := .tup [.str ("abcdefgijkmoquvwxyz" ++ "0123456789"), .int (n : Int)]) htt
    generalize upd H4 tt (.tup [.str ("abcdefgijkmoquvwxyz" ++ "0123456789"), .int (n : Int)]) = H4 at D4 s04 ⊢
    refine ⟨_, rfl, a, c, cs4, k + 1, 6, rfl, D4, by decide, by decide, by omega, fun H5 cs5 y5 s5 D5 _ _ => ⟨rfl, _, rfl, ite2 (fun e => ?_) (fun e => ?_)⟩⟩
    -- the usual words
    · refine ⟨_, rfl, a, c, cs5, _, 5, rfl, D5, by decide, by decide, by omega, fun H6 cs6 r s6 D6 r0 r1 => ⟨by show 7 ≤ sizeLine; decide, fun wd hwd => ⟨_, _, rfl, ?_⟩⟩⟩
      have D7 := D6.new (o := .lst [.str "turns", .str "items", .str "total", .str "number", .str "names", .str "place", .str "rows"]) hwd
      have e7 : (upd H6 wd (.lst [.str "turns", .str "items", .str "total", .str "number", .str "names", .str "place", .str "rows"])) wd = some (.lst [.str "turns", .str "items", .str "total", .str "number", .str "names", .str "place", .str "rows"]) := upd_same
      have s7 := ((s04.trans s5).trans s6).new (o := .lst [.str "turns", .str "items", .str "total", .str "number", .str "names", .str "place", .str "rows"]) hwd
      generalize upd H6 wd (.lst [.str "turns", .str "items", .str "total", .str "number", .str "names", .str "place", .str "rows"]) = H7 at D7 e7 s7 ⊢
      refine ⟨by show 1 ≤ sizeLine; decide, fun g hg => ?_⟩
      refine ⟨_, rfl, _, rfl, r, rfl, _, rfl, _, 3, rfl, rfl, r + 3, rfl, wd, _, rfl, .inl (.inl ((Sx.refl (ex := []) _).new hg _ _ (by simp) e7)), fun u hu => ?_⟩
      have gu : g ≠ u := fun z => by rw [← z, upd_same] at hu; cases hu
      obtain ⟨w0, w1, w2, ews, h0, h1, h2⟩ : ∃ w0 w1 w2 : Str, cutV [V.str "turns", .str "items", .str "total", .str "number", .str "names", .str "place", .str "rows"] (some r) (some (r + 3)) = [.str w0, .str w1, .str w2] ∧ NmOk w0 ∧ NmOk w1 ∧ NmOk w2 := by
        rcases (show r = 0 ∨ r = 1 ∨ r = 2 ∨ r = 3 ∨ r = 4 by omega) with rfl | rfl | rfl | rfl | rfl
        all_goals exact ⟨_, _, _, rfl, nmOk_of (by decide +kernel), nmOk_of (by decide +kernel), nmOk_of (by decide +kernel)⟩
      refine ⟨g, u, _, _, rfl, rfl, by rw [upd_ne gu]; exact upd_same, by rw [upd_same, ews], by show 4 ≤ sizeLine; decide, fun v hv => ?_⟩
      have Dv := ((D7.new (o := .lst [.str "n"]) hg).new (o := .lst [.str w0, .str w1, .str w2]) hu)
      rw [← ews] at Dv
      obtain ⟨va, vc⟩ := Dv.nw hv
      refine q _ cs6 _ v ["n", w0, w1, w2] (((s7.new hg).new hu).new hv) (Dv.new hv) (by omega) (by omega) ((((s7.new (o := .lst [.str "n"]) hg).new (o := .lst _) hu)).free (by simp [va, vc]) hv) va vc ⟨upd_same, by simp, by show 4 ≤ 1000; decide, fun z hz => ?_, List.mem_cons_self .., w0, by simp, rfl⟩
      simp only [List.not_mem_nil, List.mem_cons, or_false] at hz
      rcases hz with rfl | rfl | rfl | rfl
      · exact nmOk_of (by decide +kernel)
      · exact h0
      · exact h1
      · exact h2
    -- names of drawn signs
    · have s05 := s04.trans s5
      -- ahead
      refine ⟨⟨_, rfl⟩, _, rfl, (n : Int), rfl, by omega, by omega, fun Z hZ => lc_range (lo := 0) (n := ((n : Nat) : Int).toNat) (fun i H' => Pz H5 a c (k + 1 + 1) Z "abcdefgijkmoquvwxyz" i H') (Pz.zero D5 hZ) (fun i H' hi p => ?_) (fun H' p => ?_)⟩
      · obtain ⟨p1, ⟨cs', D'⟩, _⟩ := id p
        refine ⟨rfl, _, rfl, _, rfl, a, c, cs', _, _, rfl, D', by omega, .inr ⟨_, rfl, by decide +kernel, by decide +kernel, fun H6 cs6 x s6 D6 hx => ?_⟩⟩
        exact p.step hZ D5 s6 D6 hx (by omega)
      · obtain ⟨p1, ⟨cs', D'⟩, ls, p3, p4, p5⟩ := p
        have p4' : ls.length = n := by omega
        refine ⟨_, Z, ls.map s1, rfl, rfl, .inl (.inl (.inl p3)), by rw [sum_s1, List.length_map]; show ls.length + ls.length * 0 ≤ 16777216; omega, ?_⟩
        have es := join_s1 ls
        have s5 := s05.trans p1
        have D5 : Dk H' a c cs' (k + 2 + n) := by
          have e : k + 1 + 1 + ((((n : Nat) : Int).toNat : Nat) : Int) = k + 2 + n := by omega
          rw [e] at D'
          exact D'
        clear p1 p3 D'
        -- behind
        refine ⟨⟨_, rfl⟩, _, rfl, _, rfl, 8, (n : Int), rfl, rfl, a, c, cs', _, _, rfl, D5, by omega, by omega, by omega, fun H6 cs6 y s6 D6 y0 y1 => ⟨y, rfl, by omega, by omega, fun Y hY => ?_⟩⟩
        refine lc_range (lo := 0) (n := y.toNat) (fun i H' => Pz H6 a c (k + 2 + n + 1) Y ("abcdefgijkmoquvwxyz" ++ "0123456789") i H') (Pz.zero D6 hY) (fun i H7 hi p => ?_) (fun H7 p => ?_)
        · obtain ⟨p1, ⟨cs', D'⟩, _⟩ := id p
          refine ⟨rfl, _, rfl, _, rfl, a, c, cs', _, _, rfl, D', by omega, .inr ⟨_, rfl, by decide +kernel, by decide +kernel, fun H8 cs8 x s8 D8 hx => ?_⟩⟩
          exact p.step hY D6 s8 D8 hx (by omega)
        · obtain ⟨q1, ⟨cs7, D7⟩, gs, q3, q4, q5⟩ := p
          refine ⟨_, Y, gs.map s1, rfl, rfl, .inl (.inl (.inl q3)), by rw [sum_s1, List.length_map]; show gs.length + gs.length * 0 ≤ 16777216; omega, ?_⟩
          have eg := join_s1 gs
          have s7 := (s5.trans s6).trans q1
          -- the list of names
          refine ⟨by show 1 ≤ sizeLine; decide, fun g hg => ⟨3, rfl, by decide, by decide, fun X hX => ?_⟩⟩
          have gX : g ≠ X := fun z => by rw [← z, upd_same] at hX; cases hX
          have D8 := (D7.new (o := .lst [.str "n"]) hg)
          obtain ⟨Xa, Xc⟩ := D8.nw hX
          have HX7 : H7 X = none := by rw [upd_ne gX.symm] at hX; exact hX
          have HX : H X = none := s7.free (by simp [Xa, Xc]) HX7
          refine lc_range (lo := 0) (n := (3 : Int).toNat) (fun i H' => Sx [a, c] H H' ∧ Dk H' a c cs7 (k + 2 + n + 1 + y.toNat) ∧ H' g = some (.lst [.str "n"]) ∧ ∃ ns : List Str, H' X = some (.lst (ns.map V.str)) ∧ ns.length = i ∧ ∀ z ∈ ns, NmOk z)
            ⟨(s7.new hg).new hX, D8.new hX, by rw [upd_ne gX]; exact upd_same, [], upd_same, rfl, fun _ z => by simp at z⟩ (fun i H' hi p => ?_) (fun H' p => ?_)
          · obtain ⟨u1, u2, u3, ns, u4, u5, u6⟩ := p
            have hi3 : i < 3 := hi
            obtain ⟨x, hx, hc⟩ : ∃ x : Nat, atI (Str.ofString "qvz").cps.toList ((0 : Int) + (i : Int)) = some x ∧ (x = 113 ∨ x = 118 ∨ x = 122) := by
              rcases (show i = 0 ∨ i = 1 ∨ i = 2 by omega) with rfl | rfl | rfl
              · exact ⟨113, by decide +kernel, .inl rfl⟩
              · exact ⟨118, by decide +kernel, .inr (.inl rfl)⟩
              · exact ⟨122, by decide +kernel, .inr (.inr rfl)⟩
            have hnm : NmOk (Txt.join (Str.ofString "") (ls.map s1) ++ s1 x ++ Txt.join (Str.ofString "") (gs.map s1)) := by
              rw [es, eg]
              exact nm_made (fun z hz => ab9_az z (p5 z hz)) (fun z hz => ab9_09 z (q5 z hz)) hc (by omega)
            have hle := hnm.hi
            have hle2 : (Txt.join (Str.ofString "") (ls.map s1) ++ s1 x).length ≤ 8 := by
              have : (Txt.join (Str.ofString "") (ls.map s1) ++ s1 x ++ Txt.join (Str.ofString "") (gs.map s1)).length = (Txt.join (Str.ofString "") (ls.map s1) ++ s1 x).length + (Txt.join (Str.ofString "") (gs.map s1)).length := Str.length_append _ _
              omega
            have e1 := Str.length_append (Txt.join (Str.ofString "") (ls.map s1)) (s1 x)
            have e2 := Str.length_append (Txt.join (Str.ofString "") (ls.map s1) ++ s1 x) (Txt.join (Str.ofString "") (gs.map s1))
            refine ⟨rfl, _, rfl, _, rfl, _, _, x, rfl, rfl, by decide +kernel, hx, _, _, rfl, rfl, le_line (by rw [← e1]; omega), _, rfl, _, _, rfl, rfl, le_line (by rw [← e2]; omega), _, u4, lt_line (by rw [List.length_map]; omega), ?_⟩
            have sX : Sx [X] H' (upd H' X (.lst (ns.map V.str ++ [.str (Txt.join (Str.ofString "") (ls.map s1) ++ s1 x ++ Txt.join (Str.ofString "") (gs.map s1))]))) := (Sx.refl (ex := [X]) _).put (by simp)
            refine ⟨u1.own HX, u2.sx sX (by simp [Xa.symm]) (by simp [Xc.symm]), by rw [upd_ne gX]; exact u3, ns ++ [Txt.join (Str.ofString "") (ls.map s1) ++ s1 x ++ Txt.join (Str.ofString "") (gs.map s1)], by rw [upd_same, List.map_append]; rfl, by rw [List.length_append, u5]; rfl, fun z hz => ?_⟩
            rcases List.mem_append.1 hz with h | h
            · exact u6 z h
            · rw [List.mem_singleton.mp h]; exact hnm
          · obtain ⟨u1, u2, u3, ns, u4, u5, u6⟩ := p
            have u5' : ns.length = 3 := u5
            refine ⟨g, X, _, _, rfl, rfl, u3, u4, by show 1 + (ns.map V.str).length ≤ sizeLine; rw [List.length_map]; exact le_line (by omega), fun v hv => ?_⟩
            obtain ⟨va, vc⟩ := u2.nw hv
            obtain ⟨z1, zr, rfl⟩ : ∃ z1 zr, ns = z1 :: zr := by
              cases ns with
              | nil => simp at u5'
              | cons z1 zr => exact ⟨z1, zr, rfl⟩
            refine q _ cs7 _ v ("n" :: z1 :: zr) (u1.new hv) (u2.new hv) (by omega) (by omega) (u1.free (by simp [va, vc]) hv) va vc ⟨upd_same, by simp, by rw [List.length_cons]; omega, fun z hz => ?_, List.mem_cons_self .., z1, by simp, rfl⟩
            rcases List.mem_cons.1 hz with rfl | hz
            · exact nmOk_of (by decide +kernel)
            · exact u6 z hz
end
/-! ### defs called where no repr is under way -/
/-- a def's promise where nothing guards the stack -/
structure FnG (P : Program) (w : World) (K : PySem.W.Frag) (mg : Str → Option Value) (base : Heap) (k : Nat) (f : Addr) (fd : FuncData) (ps : List Str) (sp : Sp) : Prop where
  len : ∀ (as : List V) (H : Hp) (Q : VK) (E : XK), sp as H Q E → as.length = ps.length
  go : ∀ (A : Around) (callers : List Env) (s : Shared) (H : Hp) (ar : Args) (us : List Value) (vs : List V) (Q : VK), Room k A → A.guards = some [] → Env0 P w K mg base A callers s H → BindsTo s fd ar (ps.zip us) → Vals vs us → sp vs H Q E0 →
    codeAny (model P w) A (.call (.ref f) ar) (CR CX0 callers P w H s Q E0) s
theorem FnG.of {P : Program} {w : World} {K : PySem.W.Frag} {mg : Str → Option Value} {base : Heap} {k : Nat} {f : Addr} {fd : FuncData} {ps : List Str} {sp : Sp} (F : FnOk P w K mg base CX0 k f fd ps sp) : FnG P w K mg base k f fd ps sp :=
  ⟨F.len, fun A o s H ar us vs Q hr _ e b r h => F.run A o s H ar us vs Q E0 hr e b r h⟩
theorem FnG.up {P : Program} {w : World} {K : PySem.W.Frag} {mg : Str → Option Value} {base : Heap} {j k : Nat} {f : Addr} {fd : FuncData} {ps : List Str} {sp : Sp} (F : FnG P w K mg base j f fd ps sp) (h : j ≤ k) : FnG P w K mg base k f fd ps sp :=
  ⟨F.len, fun A o s H ar us vs Q hr => F.go A o s H ar us vs Q (hr.mono h)⟩
theorem Fun.okG {P : Program} {w : World} {K : PySem.W.Frag} {mg : Str → Option Value} {base : Heap} {x qual : Str} {st : Stmt} {f : Addr} {fd : FuncData} {N ps : List Str} {k : Nat} {sp : Sp} (F : Fun K x qual st f fd) (S : FnScope N ps (defScope st))
    (len : ∀ (as : List V) (H : Hp) (Q : VK) (E : XK), sp as H Q E → as.length = ps.length)
    (hbody : ∀ (cdv : Value) (A : Around) (outer : List Env) (s : Shared) (H : Hp) (vs : List V) (Q : VK) (E : XK), Room k (A.deeper (envOfC qual (defScope st) s.heap.objs.size f cdv)) → A.guards = some [] → sp vs H Q E →
      ∃ t, PSs (cxOf CX0 P w K mg base N qual (defScope st) f cdv A outer s H E).nox (defBody st) t ∧ t { nx := fun _ H' => Q .non H', rt := Q } (start N vs) H) : FnG P w K mg base (k + 1) f fd ps sp := by
  rcases F.ex with ⟨oc, od, kV, doc, pm, an, cdv, ct, osl, rfl, lk, hcd⟩
  refine ⟨len, fun A callers s H ar us vs Q hr hg e0 hb rv hsp => ?_⟩
  have inK : K.In s.heap := e0.mod.kin.keeps fun b o e => (e0.bs b o e).1
  have knd : ∀ y ∈ ps.zip us, (defScope st).names.lookup y.1 = some .local ∨ ((defScope st).names.lookup y.1 = some .cell ∧ ((cellsFrom (s.heap.objs.size + 1) (defScope st).names []).lookup y.1).isSome = true) := by
    rintro ⟨n, v⟩ hy
    exact (S.par n (List.of_mem_zip hy).1).imp id fun q => ⟨q, PySem.W.cellsFrom_some _ _ _ (.inl q)⟩
  refine codeAny_call_function hr.depth (inK _ _ lk) rfl S.co S.gen rfl (PySem.W.codeRec_of inK hcd) (hb _ _ _ _ (wpAny_newFunctionEnv_cells S.kind knd fun env he s1 x => ?_))
  subst he
  refine ⟨(e0.mod.nolimit.keeps fun b o e => (e0.bs b o e).1).keeps x.toInCall.keep, codeAny_func ?_⟩
  obtain ⟨t, ht, hq⟩ := hbody cdv A callers s H vs Q E0 (hr.deeper _) hg hsp
  have I0 := inv_start (CX := CX0) (E := E0) S hr.hd e0 (len _ _ _ _ hsp) rv x
  refine wpAny_mono (ht.nox.run [] s1 (start N vs) H _ I0 hq) (fun fl s' hs => ?_) fun e s' hs => hs
  cases fl with
  | ret u =>
    obtain ⟨v, σ', H', J, r1, q1⟩ := hs
    exact ⟨v, H', J.os, J.bare, J.base, J.hok, r1, q1⟩
  | next =>
    obtain ⟨σ', H', J, q1⟩ := hs
    exact ⟨.non, H', J.os, J.bare, J.base, J.hok, rfl, q1⟩
  | brk => exact absurd hs (by rintro ⟨_, _, _, q1⟩; exact q1)
  | cont => exact absurd hs (by rintro ⟨_, _, _, q1⟩; exact q1)
theorem pe_callG {X : Cx} {x : Str} {p pos : Pos} {e : Expr} {es : List Expr} {t : TA} {k : Nat} {f : Addr} {fd : FuncData} {ps : List Str} {sp : Sp} {ds : List Value} {dvs : List V} (F : FnG X.prog X.w X.K X.mg X.base k f fd ps sp) (hr : Room k X.A) (hgd : X.A.guards = some []) (hg : Gl X x) (hm : X.mg x = some (.ref f)) (hk : PySem.W.keepIn X.K (.ref f) = true)
    (hb : Binds X.K fd ps ds) (hd : Vals dvs ds) (ha : PA X (e :: es) t) (hdb : (x == ("__debug__" : Str)) = false := by decide) (he : starEach (e :: es) X.env = (false, eval e X.env) :: starEach es X.env := by rfl) (hpl : (backTo pos (starEach es X.env)).any (·.1) = false := by rfl) :
    PE X (Expr.Call (.Name x p) (e :: es) [] pos) (tCall sp dvs E0 t) := by
  refine ⟨fun pins s σ H Q I h => wpAny_Call_Name_kw (ld_glob I hg hm ?_ hdb)⟩
  refine PySem.W.callWith_K (h₀ := X.base) I.ok.mod.kin hk (thn (ha.run pos pins s σ H _ I h) fun us s1 ⟨vs, H1, I1, r, q⟩ => And.intro I1.kIn ?_) he hpl
  have rr : Vals (vs ++ dvs) (us ++ ds) := r.append hd
  have ll : (us ++ ds).length = ps.length := rr.length.symm.trans (F.len _ _ _ _ q)
  refine wpAny_call (codeAny_mono (F.go X.A X.stack s1 H1 ⟨us, []⟩ (us ++ ds) (vs ++ dvs) Q hr hgd I1.env0 (hb s1 us I1.kIn ll) rr q) fun rs s' hq => ?_)
  match rs, hq with
  | .ok (.ret u), hq => exact I1.after hq
/-! ### repr of data -/
/-- repr(x), x a list or a tuple of data -/
def rRepr (K : PySem.W.Frag) : List V → Hp → VK → Prop := fun xs H Q => ∃ x d, xs = [x] ∧ Dp K H x d ∧ d.showable = true ∧ d.hasDict = false ∧ d.depth ≤ 60 ∧ d.shown.length ≤ 16777216 ∧ (∀ z, d ≠ .str z) ∧ (∀ b, d ≠ .bool b) ∧ d ≠ .none ∧ Q (.str d.shown) H
theorem call_reprD {X : Cx} (hgd : X.A.guards = some []) (hu : X.A.units + 64 < cLine) : CallR X (.builtin "repr") (rRepr X.K) := by
  intro pins s σ H xs us Q I r h0; have h := h0
  obtain ⟨x, d, rfl, hd, hs, hnd, hdp, hz, n1, n2, n3, q⟩ := h
  rcases vals1 r with ⟨u, rfl, rx⟩
  have fin : ∀ {as : List Addr} {a : Addr}, Reads s.heap (.ref a) d as → wpAny (model X.prog X.w) X.A (call (.builtin "repr") [.ref a]) (EP X pins σ Q) X.xe s := fun {as a} rd =>
    repr_of_reads' rd hs (fun h => by rw [hnd] at h; cases h) hgd (by omega) (fun _ _ e => e) (fun h' u' tk hk => ⟨.str d.shown, H, I.kept hk, ⟨u', rfl⟩, q⟩) hz
  obtain ⟨as, rd⟩ := Dp.reads I d x u hd rx
  cases hd with
  | non => exact absurd rfl n3
  | bl b => exact absurd rfl (n2 b)
  | int i =>
    obtain ⟨t, rfl⟩ := rx
    have hi : i.natAbs.log2 < 1920 := by
      have : (PyData.int i).showable = true := hs
      simpa only [PyData.showable, decide_eq_true_eq] using this
    have e : (PyData.int i).shown = (toString i : String) := by simp only [PyData.shown]
    rw [e] at q
    exact PySem.P.repr_of_int hi ⟨.str _, H, I.tok _, ⟨_, rfl⟩, q⟩
  | str z => exact absurd rfl (n1 z)
  | lst hq ha => cases rx; exact fin rd
  | tup hq ha => cases rx; exact fin rd
/-! ### the law's end -/
/-- the script, as the heap tells it -/
theorem script_hp {P : Program} {w : World} {K : PySem.W.Frag} {s : Shared} {a : Addr} {vs : List Value} {ns : List Int} (KX : K.In s.heap) (ha : s.heap.get? a = some { cls := .type "list", data := .seq vs.toArray }) (hi : IntsAre vs ns) (hl : ns.length ≤ sizeLine) :
    ∃ H : Hp, Only H ∧ SqL K H a (ns.map V.int) ∧ HOk P w H s.heap ∧ (∀ b, H b ≠ none → b = a) ∧ (H a ≠ none → K.lookup a = none) := by
  have rv := vals_ints hi
  cases e : K.lookup a with
  | some o =>
    have h := KX a o e
    rw [ha] at h
    cases h
    refine ⟨fun _ => none, fun _ => .inl rfl, .inr ⟨_, vs.toArray, _, e, rfl, rfl, rfl, by rw [List.size_toArray, hi.length]; exact hl, by simpa using rv⟩, fun b u z => (by cases z), fun b z => absurd rfl z, fun z => absurd rfl z⟩
  | none =>
    have at_a : (fun b : Addr => if b = a then some (HO.frz { cls := .type "list", data := .seq vs.toArray } (.lst (ns.map V.int))) else none) a = some (HO.frz { cls := .type "list", data := .seq vs.toArray } (.lst (ns.map V.int))) := if_pos rfl
    refine ⟨fun b => if b = a then some (.frz { cls := .type "list", data := .seq vs.toArray } (.lst (ns.map V.int))) else none, fun b => ?_, .inl (.inr ⟨_, at_a⟩), fun b u z => ?_, fun b z => ?_, fun _ => rfl⟩
    · by_cases h : b = a
      · exact .inr ⟨_, _, if_pos h⟩
      · exact .inl (if_neg h)
    · by_cases h : b = a
      · have z2 := (if_pos h).symm.trans z
        cases z2
        subst h
        exact ⟨ha, by simpa using hl, vs, _, rv, ha⟩
      · have z2 := (if_neg h).symm.trans z
        cases z2
    · by_cases h : b = a
      · exact h
      · exact absurd (if_neg h) z
theorem law_callG {P : Program} {w : World} {K : PySem.W.Frag} {mg mb : Str → Option Value} {k : Nat} {fa a : Addr} {fd : FuncData} {x : Str} {sp : Sp} {s : Shared} {vs : List Value} {ns : List Int}
    (KX : K.In s.heap) (h1 : s.heap.Ns mainGlobals mg) (h2 : s.heap.Ns builtinsNs mb) (h3 : ∀ x : Str, x ≠ "__name__" → mb x = bootBuiltins x) (h4 : s.heap.NoLimit) (h5 : s.gens = #[])
    (ha : s.heap.get? a = some { cls := .type "list", data := .seq vs.toArray }) (hi : IntsAre vs ns) (hl : ns.length ≤ sizeLine) (hr : Room k callerA)
    (F : ∀ base : Heap, K.In base → base.Ns mainGlobals mg → FnG P w K mg base k fa fd [x] sp) (hb : ∀ (s : Shared) (u : Value), BindsTo s fd ⟨[u], []⟩ [(x, u)])
    (hsp : ∀ H : Hp, Only H → SqL K H a (ns.map V.int) → sp [.ref a] H (fun v _ => v = .bl true) E0) :
    codeAny (model P w) callerA (.call (.ref fa) ⟨[.ref a], []⟩) (fun r s' => r = .ok (.ret (.bool true)) ∧ OldK s.heap s'.heap ∧ s'.os = s.os ∧ AllBare s'.gens) s := by
  obtain ⟨H, hO, hS, hok, hA, hK⟩ := script_hp (P := P) (w := w) KX ha hi hl
  have only_a : ∀ {b : Addr} {u : HO}, H b = some u → b = a := fun e => hA _ (by rw [e]; simp)
  have unseen : ∀ {b : Addr} {o : Obj} {es : Array DictEntry} {ep : Nat}, s.heap.get? b = some o → o.data = .dict es ep → H b = none := fun {b o es ep} e d => by
    cases q : H b with
    | none => rfl
    | some u =>
      have z := only_a q
      subst z
      rw [ha] at e
      cases e
      cases d
  have ns_of : ∀ {b : Addr} {m : Str → Option Value}, s.heap.Ns b m → (hidT s.heap H).Ns b m := fun {b m} ⟨o, es, ep, e, d, r⟩ => ⟨o, es, ep, hidT_get e (unseen e d), d, r⟩
  have inB : K.In (hidT s.heap H) := fun b o e => hidT_get (KX b o e) (by
    cases q : H b with
    | none => rfl
    | some u =>
      have z := only_a q
      subst z
      rw [hK (by simp [q])] at e
      cases e)
  have md : Mod K mg (hidT s.heap H) := ⟨inB, ns_of h1, ⟨mb, ns_of h2, h3⟩, let ⟨mc, y1, y2⟩ := h4; ⟨mc, ns_of y1, y2⟩⟩
  have e0 : Env0 P w K mg (hidT s.heap H) callerA [] s H := ⟨rfl, md, fun b o e => of_hidT e, Nat.le_of_eq (hidT_size _ _), trivial, fun b hb => absurd (show b ∈ ([] : List Addr) from hb) (by simp), hok, .of_eq h5⟩
  refine codeAny_mono ((F _ inB (ns_of h1)).go callerA [] s H ⟨[.ref a], []⟩ [.ref a] [.ref a] _ hr rfl e0 (hb s (.ref a)) (.cons rfl .nil) (hsp H hO hS)) fun r s' h => ?_
  match r, h with
  | .ok (.ret u), h =>
    rcases h with ⟨v, H', os, bare, un, hok', r', q⟩
    have q' : v = .bl true := q
    subst q'
    have eu : u = Value.bool true := r'; subst eu
    refine ⟨rfl, .of_keep fun b o e => ?_, os, bare⟩
    cases q2 : H b with
    | none => exact un.keep b o e q2 (fun z => absurd (show b ∈ ([] : List Addr) from z) (by simp)) (by simp)
    | some u =>
      obtain z | ⟨ob, xs, z⟩ := hO b
      · rw [q2] at z; cases z
      · obtain ⟨e1, _⟩ := hok b _ z
        obtain ⟨e2, _⟩ := hok' b _ (un.frzs b ob _ z)
        rw [e] at e1
        cases e1
        exact e2
/-! ### programs, typed -/
inductive Ex where
  | int (i : Int)
  | name (z : Str)
  | plus (x y : Ex)
  | minus (x y : Ex)
  | times (f : Int) (x : Ex)
namespace Ex
def d : Ex → PyData
  | .int i => .int i
  | .name z => .str z
  | .plus x y => .tuple [.str "plus", x.d, y.d]
  | .minus x y => .tuple [.str "minus", x.d, y.d]
  | .times f x => .tuple [.str "times", .int f, x.d]
def ok (ns : List Str) : Ex → Nat → Prop
  | .int i, n => 1 ≤ n ∧ -99 ≤ i ∧ i ≤ 99
  | .name z, n => 1 ≤ n ∧ z ∈ ns
  | .plus x y, n => 1 ≤ n ∧ ok ns x (n - 1) ∧ ok ns y (n - 1)
  | .minus x y, n => 1 ≤ n ∧ ok ns x (n - 1) ∧ ok ns y (n - 1)
  | .times f x, n => 1 ≤ n ∧ -9 ≤ f ∧ f ≤ 9 ∧ ok ns x (n - 1)
def ev (ρ : Str → Int) : Ex → Int
  | .int i => i
  | .name z => ρ z
  | .plus x y => x.ev ρ + y.ev ρ
  | .minus x y => x.ev ρ - y.ev ρ
  | .times f x => f * x.ev ρ
theorem of {ns : List Str} {n : Nat} {e : PyData} (h : ExD ns n e) : ∃ x : Ex, x.d = e ∧ x.ok ns n := by
  induction h with
  | int i a b => exact ⟨.int i, rfl, by omega, a, b⟩
  | name z a => exact ⟨.name z, rfl, by omega, a⟩
  | plus _ _ a b => obtain ⟨x, rfl, hx⟩ := a; obtain ⟨y, rfl, hy⟩ := b; exact ⟨.plus x y, rfl, by omega, hx, hy⟩
  | minus _ _ a b => obtain ⟨x, rfl, hx⟩ := a; obtain ⟨y, rfl, hy⟩ := b; exact ⟨.minus x y, rfl, by omega, hx, hy⟩
  | times f a b _ c => obtain ⟨x, rfl, hx⟩ := c; exact ⟨.times f x, rfl, by omega, a, b, hx⟩
/-- no name has a value above B, so no expression has one above 9 ^ n times that -/
theorem ev_le {ns : List Str} {ρ : Str → Int} {B : Int} (hB : 99 ≤ B) (h : ∀ z, -B ≤ ρ z ∧ ρ z ≤ B) : ∀ (x : Ex) (n : Nat), x.ok ns n → -((9 : Int) ^ n * B) ≤ x.ev ρ * 9 ∧ x.ev ρ * 9 ≤ (9 : Int) ^ n * B
  | .int i, n, ⟨h1, h2, h3⟩ => by
    obtain ⟨m, rfl⟩ : ∃ m : Nat, n = m + 1 := ⟨n - 1, by omega⟩
    have p : (1 : Int) ≤ 9 ^ m := Int.pow_pos (by decide)
    have q : B ≤ 9 ^ m * B := by have := Int.mul_le_mul_of_nonneg_right p (show 0 ≤ B by omega); omega
    have e : (9 : Int) ^ (m + 1) * B = 9 * (9 ^ m * B) := by rw [Int.pow_succ, Int.mul_comm (9 ^ m) 9, Int.mul_assoc]
    rw [e]
    show -_ ≤ i * 9 ∧ i * 9 ≤ _
    omega
  | .name z, n, ⟨h1, h2⟩ => by
    obtain ⟨m, rfl⟩ : ∃ m : Nat, n = m + 1 := ⟨n - 1, by omega⟩
    have p : (1 : Int) ≤ 9 ^ m := Int.pow_pos (by decide)
    have q : B ≤ 9 ^ m * B := by have := Int.mul_le_mul_of_nonneg_right p (show 0 ≤ B by omega); omega
    have e : (9 : Int) ^ (m + 1) * B = 9 * (9 ^ m * B) := by rw [Int.pow_succ, Int.mul_comm (9 ^ m) 9, Int.mul_assoc]
    rw [e]
    have := h z
    show -_ ≤ ρ z * 9 ∧ ρ z * 9 ≤ _
    omega
  | .plus x y, n, ⟨h1, h2, h3⟩ => by
    obtain ⟨m, rfl⟩ : ∃ m : Nat, n = m + 1 := ⟨n - 1, by omega⟩
    have a := ev_le hB h x m h2
    have b := ev_le hB h y m h3
    have e : (9 : Int) ^ (m + 1) * B = 9 * (9 ^ m * B) := by rw [Int.pow_succ, Int.mul_comm (9 ^ m) 9, Int.mul_assoc]
    rw [e]
    show -_ ≤ (x.ev ρ + y.ev ρ) * 9 ∧ (x.ev ρ + y.ev ρ) * 9 ≤ _
    omega
  | .minus x y, n, ⟨h1, h2, h3⟩ => by
    obtain ⟨m, rfl⟩ : ∃ m : Nat, n = m + 1 := ⟨n - 1, by omega⟩
    have a := ev_le hB h x m h2
    have b := ev_le hB h y m h3
    have e : (9 : Int) ^ (m + 1) * B = 9 * (9 ^ m * B) := by rw [Int.pow_succ, Int.mul_comm (9 ^ m) 9, Int.mul_assoc]
    rw [e]
    show -_ ≤ (x.ev ρ - y.ev ρ) * 9 ∧ (x.ev ρ - y.ev ρ) * 9 ≤ _
    omega
  | .times f x, n, ⟨h1, h2, h3, h4⟩ => by
    obtain ⟨m, rfl⟩ : ∃ m : Nat, n = m + 1 := ⟨n - 1, by omega⟩
    have a := ev_le hB h x m h4
    have e : (9 : Int) ^ (m + 1) * B = 9 * (9 ^ m * B) := by rw [Int.pow_succ, Int.mul_comm (9 ^ m) 9, Int.mul_assoc]
    rw [e]
    show -_ ≤ f * x.ev ρ * 9 ∧ f * x.ev ρ * 9 ≤ _
    have c : ∀ v C : Int, -C ≤ v * 9 → v * 9 ≤ C → -(9 * C) ≤ f * v * 9 ∧ f * v * 9 ≤ 9 * C := fun v C u1 u2 => by
      rcases (show f = -9 ∨ f = -8 ∨ f = -7 ∨ f = -6 ∨ f = -5 ∨ f = -4 ∨ f = -3 ∨ f = -2 ∨ f = -1 ∨ f = 0 ∨ f = 1 ∨ f = 2 ∨ f = 3 ∨ f = 4 ∨ f = 5 ∨ f = 6 ∨ f = 7 ∨ f = 8 ∨ f = 9 by omega) with
        rfl | rfl | rfl | rfl | rfl | rfl | rfl | rfl | rfl | rfl | rfl | rfl | rfl | rfl | rfl | rfl | rfl | rfl | rfl <;> omega
    exact c _ _ a.1 a.2
end Ex
inductive Ts where
  | rest (x : Ex) (b r : Int)
  | less (x y : Ex)
  | not (t : Ts)
namespace Ts
def d : Ts → PyData
  | .rest x b r => .tuple [.str "rest", x.d, .int b, .int r]
  | .less x y => .tuple [.str "less", x.d, y.d]
  | .not t => .tuple [.str "not", t.d]
def ok (ns : List Str) : Ts → Nat → Prop
  | .rest x b r, _ => x.ok ns 3 ∧ 2 ≤ b ∧ b ≤ 6 ∧ 0 ≤ r ∧ r < b
  | .less x y, _ => x.ok ns 3 ∧ y.ok ns 3
  | .not t, n => 1 ≤ n ∧ ok ns t (n - 1)
def ev (ρ : Str → Int) : Ts → Bool
  | .rest x b r => decide ((x.ev ρ - r) % b = 0)
  | .less x y => decide (x.ev ρ < y.ev ρ)
  | .not t => !t.ev ρ
/-- of a rest -/
def isR : Ts → Bool
  | .rest _ _ _ => true
  | .less _ _ => false
  | .not t => t.isR
theorem of {ns : List Str} {n : Nat} {b : Bool} {e : PyData} (h : TsD ns n b e) : ∃ x : Ts, x.d = e ∧ x.ok ns n ∧ x.isR = b := by
  induction h with
  | rest b r a h1 h2 h3 h4 => obtain ⟨x, rfl, hx⟩ := Ex.of a; exact ⟨.rest x b r, rfl, ⟨hx, h1, h2, h3, h4⟩, rfl⟩
  | less a b => obtain ⟨x, rfl, hx⟩ := Ex.of a; obtain ⟨y, rfl, hy⟩ := Ex.of b; exact ⟨.less x y, rfl, ⟨hx, hy⟩, rfl⟩
  | not _ ih => obtain ⟨x, rfl, hx, hr⟩ := ih; exact ⟨.not x, rfl, ⟨by omega, hx⟩, hr⟩
end Ts
mutual
inductive St where
  | set (z : Str) (e : Ex)
  | pay (e : Ex)
  | stop
  | ite (t : Ts) (y n : Bk)
  | rep (k : Int) (y : Bk)
inductive Bk where
  | nil
  | cons (s : St) (b : Bk)
end
mutual
def St.d : St → PyData
  | .set z e => .tuple [.str "set", .str z, e.d]
  | .pay e => .tuple [.str "pay", e.d]
  | .stop => .tuple [.str "stop"]
  | .ite t y n => .tuple [.str "if", t.d, .tuple y.ds, .tuple n.ds]
  | .rep k y => .tuple [.str "repeat", .int k, .tuple y.ds]
def Bk.ds : Bk → List PyData
  | .nil => []
  | .cons s b => s.d :: b.ds
end
mutual
def St.ok (ns : List Str) : St → Nat → Prop
  | .set z e, _ => z ∈ ns ∧ e.ok ns 3
  | .pay e, _ => e.ok ns 3
  | .stop, _ => True
  | .ite t y n, d => t.ok ns 2 ∧ Bk.ok ns y d ∧ Bk.ok ns n d
  | .rep k y, d => 1 ≤ k ∧ k ≤ 8 ∧ Bk.ok ns y d
def Bk.ok (ns : List Str) : Bk → Nat → Prop
  | .nil, _ => True
  | .cons s b, d => 1 ≤ d ∧ St.ok ns s (d - 1) ∧ Bk.ok ns b d
end
mutual
/-- places -/
def St.sz : St → Nat
  | .set _ _ => 1
  | .pay _ => 1
  | .stop => 1
  | .ite _ y n => 1 + y.sz + n.sz
  | .rep _ y => 1 + y.sz
def Bk.sz : Bk → Nat
  | .nil => 0
  | .cons s b => s.sz + b.sz
end
mutual
def St.wt : St → Nat
  | .set _ _ => 1
  | .pay _ => 1
  | .stop => 1
  | .ite _ y n => 1 + y.wt + n.wt
  | .rep k y => 1 + k.toNat * y.wt
def Bk.wt : Bk → Nat
  | .nil => 0
  | .cons s b => s.wt + b.wt
end
mutual
/-- rests (true), comparings (false) -/
def St.tn (q : Bool) : St → Nat
  | .set _ _ => 0
  | .pay _ => 0
  | .stop => 0
  | .ite t y n => (if t.isR = q then 1 else 0) + y.tn q + n.tn q
  | .rep k y => k.toNat * y.tn q
def Bk.tn (q : Bool) : Bk → Nat
  | .nil => 0
  | .cons s b => s.tn q + b.tn q
end
mutual
theorem St.of {ns : List Str} : ∀ {d : Nat} {n w r c : Int} {e : PyData}, StD ns d n w r c e → ∃ s : St, s.d = e ∧ s.ok ns d ∧ (s.sz : Int) = n ∧ (s.wt : Int) = w ∧ (s.tn true : Int) = r ∧ (s.tn false : Int) = c
  | _, _, _, _, _, _, .set z hz hx => by
    obtain ⟨x, rfl, h⟩ := Ex.of hx
    exact ⟨.set z x, rfl, ⟨hz, h⟩, rfl, rfl, rfl, rfl⟩
  | _, _, _, _, _, _, .pay hx => by
    obtain ⟨x, rfl, h⟩ := Ex.of hx
    exact ⟨.pay x, rfl, h, rfl, rfl, rfl, rfl⟩
  | _, _, _, _, _, _, .stop => ⟨.stop, rfl, trivial, rfl, rfl, rfl, rfl⟩
  | _, _, _, _, _, _, .ite (b := b) ht hy hz => by
    obtain ⟨t, rfl, h, hb⟩ := Ts.of ht
    obtain ⟨y, hyd, y1, y2, y3, y4, y5⟩ := Bk.of hy
    obtain ⟨z, hzd, z1, z2, z3, z4, z5⟩ := Bk.of hz
    refine ⟨.ite t y z, by rw [St.d, hyd, hzd], ⟨h, y1, z1⟩, ?_, ?_, ?_, ?_⟩
    · simp only [St.sz]; omega
    · simp only [St.wt]; omega
    · simp only [St.tn, hb]; cases b <;> simp [bI] <;> omega
    · simp only [St.tn, hb]; cases b <;> simp [bI] <;> omega
  | _, _, _, _, _, _, .rep k h1 h2 hy => by
    obtain ⟨y, hyd, y1, y2, y3, y4, y5⟩ := Bk.of hy
    refine ⟨.rep k y, by rw [St.d, hyd], ⟨h1, h2, y1⟩, ?_, ?_, ?_, ?_⟩
    · simp only [St.sz]; omega
    · simp only [St.wt]; rw [← y3, Int.natCast_add, Int.natCast_mul, Int.toNat_of_nonneg (by omega)]; rfl
    · simp only [St.tn]; rw [← y4, Int.natCast_mul, Int.toNat_of_nonneg (by omega)]
    · simp only [St.tn]; rw [← y5, Int.natCast_mul, Int.toNat_of_nonneg (by omega)]
theorem Bk.of {ns : List Str} : ∀ {d : Nat} {n w r c : Int} {es : List PyData}, BkD ns d n w r c es → ∃ b : Bk, b.ds = es ∧ b.ok ns d ∧ (b.sz : Int) = n ∧ (b.wt : Int) = w ∧ (b.tn true : Int) = r ∧ (b.tn false : Int) = c
  | _, _, _, _, _, _, .nil => ⟨.nil, rfl, trivial, rfl, rfl, rfl, rfl⟩
  | _, _, _, _, _, _, .cons h hs => by
    obtain ⟨s, hsd, s1, s2, s3, s4, s5⟩ := St.of h
    obtain ⟨b, hbd, b1, b2, b3, b4, b5⟩ := Bk.of hs
    refine ⟨.cons s b, by rw [Bk.ds, hsd, hbd], ⟨by omega, s1, b1⟩, ?_, ?_, ?_, ?_⟩
    · simp only [Bk.sz]; omega
    · simp only [Bk.wt]; omega
    · simp only [Bk.tn]; omega
    · simp only [Bk.tn]; omega
end
/-! ### runs -/
structure Wd where
  en : Str → Int
  tot : Int
  pl : List Int
/-- so often, until it stops -/
def itr (f : Wd → Wd × Bool) : Nat → Wd → Wd × Bool
  | 0, w => (w, false)
  | n + 1, w => if (f w).2 = true then f w else itr f n (f w).1
mutual
def St.run : St → Int → Wd → Wd × Bool
  | .set z e, p, w => (⟨fun y => if y = z then e.ev w.en else w.en y, w.tot, w.pl ++ [p]⟩, false)
  | .pay e, p, w => (⟨w.en, w.tot + e.ev w.en, w.pl ++ [p]⟩, false)
  | .stop, p, w => (⟨w.en, w.tot, w.pl ++ [p]⟩, true)
  | .ite t y n, p, w => if t.ev w.en = true then y.run (p + 1) ⟨w.en, w.tot, w.pl ++ [p]⟩ else n.run (p + 1 + y.sz) ⟨w.en, w.tot, w.pl ++ [p]⟩
  | .rep k y, p, w => itr (y.run (p + 1)) k.toNat ⟨w.en, w.tot, w.pl ++ [p]⟩
def Bk.run : Bk → Int → Wd → Wd × Bool
  | .nil, _, w => (w, false)
  | .cons s b, p, w => if (s.run p w).2 = true then s.run p w else b.run (p + s.sz) (s.run p w).1
end
abbrev sValue : Stmt := topS 33
abbrev nValue : List Str := ["_law_names_here", "_law_expression_here", "_law_first", "_law_second"]
theorem scValue : FnScope nValue ["_law_names_here", "_law_expression_here"] (defScope sValue) := ⟨rfl, rfl, rfl, by decide +kernel, rfl, by decide +kernel, by decide +kernel⟩
/-- the names' values, in a dict -/
def En (H : Hp) (N : Addr) (ρ : Str → Int) : Prop := ∃ kvs : List (Key × V), H N = some (.dK kvs) ∧ ∀ z, (valV kvs (.inr z)).getD (.int 0) = .int (ρ z)
def spValue (ns : List Str) (d : Nat) : Sp := fun vs H Q _ => ∃ (v : V) (N : Addr) (e : Ex) (ρ : Str → Int), vs = [v, .ref N] ∧ Tp H v e.d ∧ e.ok ns d ∧ En H N ρ ∧ Q (.int (e.ev ρ)) H
theorem tp3 {H : Hp} {v : V} {x y z : PyData} (h : Tp H v (.tuple [x, y, z])) : ∃ a p q r, v = .ref a ∧ H a = some (.tup [p, q, r]) ∧ Tp H p x ∧ Tp H q y ∧ Tp H r z := by
  obtain ⟨a, xs, rfl, ha, hx⟩ := h.tuple
  cases hx with | cons h1 hx => cases hx with | cons h2 hx => cases hx with | cons h3 hx => cases hx with | nil => exact ⟨a, _, _, _, rfl, ha, h1, h2, h3⟩
theorem tp2 {H : Hp} {v : V} {x y : PyData} (h : Tp H v (.tuple [x, y])) : ∃ a p q, v = .ref a ∧ H a = some (.tup [p, q]) ∧ Tp H p x ∧ Tp H q y := by
  obtain ⟨a, xs, rfl, ha, hx⟩ := h.tuple
  cases hx with | cons h1 hx => cases hx with | cons h2 hx => cases hx with | nil => exact ⟨a, _, _, rfl, ha, h1, h2⟩
theorem tp1 {H : Hp} {v : V} {x : PyData} (h : Tp H v (.tuple [x])) : ∃ a p, v = .ref a ∧ H a = some (.tup [p]) ∧ Tp H p x := by
  obtain ⟨a, xs, rfl, ha, hx⟩ := h.tuple
  cases hx with | cons h1 hx => cases hx with | nil => exact ⟨a, _, rfl, ha, h1⟩
theorem tp4 {H : Hp} {v : V} {x y z u : PyData} (h : Tp H v (.tuple [x, y, z, u])) : ∃ a p q r s, v = .ref a ∧ H a = some (.tup [p, q, r, s]) ∧ Tp H p x ∧ Tp H q y ∧ Tp H r z ∧ Tp H s u := by
  obtain ⟨a, xs, rfl, ha, hx⟩ := h.tuple
  cases hx with | cons h1 hx => cases hx with | cons h2 hx => cases hx with | cons h3 hx => cases hx with | cons h4 hx => cases hx with | nil => exact ⟨a, _, _, _, _, rfl, ha, h1, h2, h3, h4⟩
theorem tpI {H : Hp} {v : V} {i : Int} (h : Tp H v (.int i)) : v = .int i := by cases h; rfl
theorem tpS {H : Hp} {v : V} {z : Str} (h : Tp H v (.str z)) : v = .str z := by cases h; rfl
theorem iteP {c A B : Prop} [Decidable c] (hc : c) (h : A) : if c then A else B := by rw [if_pos hc]; exact h
theorem iteN {c A B : Prop} [Decidable c] (hc : ¬ c) (h : B) : if c then A else B := by rw [if_neg hc]; exact h
section
variable {w : World} {P : Program} {K : PySem.W.Frag} {mg : Str → Option Value} {base : Heap}
end
def spTrue (ns : List Str) (n : Nat) : Sp := fun vs H Q _ => ∃ (v : V) (N : Addr) (t : Ts) (ρ : Str → Int), vs = [v, .ref N] ∧ Tp H v t.d ∧ 1 ≤ n ∧ t.ok ns (n - 1) ∧ En H N ρ ∧ Q (.bl (t.ev ρ)) H
section
variable {w : World} {P : Program} {K : PySem.W.Frag} {mg : Str → Option Value} {base : Heap}
end

/-- the scope of the comprehension that a def returns within a call -/
def cScopeOf (st : Stmt) : Scope := match defBody st with
  | [.Return (some (.Call _ [.ListComp _ _ sc _] _ _)) _] => sc
  | _ => defScope st
def St.parts : St → List PyData
  | .ite _ y n => [.tuple y.ds, .tuple n.ds]
  | .rep _ y => [.tuple y.ds]
  | _ => []
def St.blks : St → List Bk
  | .ite _ y n => [y, n]
  | .rep _ y => [y]
  | _ => []
theorem St.parts_blks (s : St) : s.parts = s.blks.map fun b => .tuple b.ds := by cases s <;> rfl
def spParts : Sp := fun vs H Q _ => ∃ (v : V) (s : St), vs = [v] ∧ Tp H v s.d ∧ ∀ H' v', Sx [] H H' → Tp H' v' (.tuple s.parts) → Q v' H'
def Bk.lst : Bk → List St
  | .nil => []
  | .cons s b => s :: b.lst
theorem Bk.ds_lst : ∀ b : Bk, b.ds = b.lst.map St.d
  | .nil => rfl
  | .cons s b => by rw [Bk.ds, Bk.lst, List.map_cons, Bk.ds_lst b]
theorem Bk.sz_lst : ∀ b : Bk, b.sz = (b.lst.map St.sz).sum
  | .nil => rfl
  | .cons s b => by rw [Bk.sz, Bk.lst, List.map_cons, List.sum_cons, Bk.sz_lst b]
theorem St.sz_blks (s : St) : s.sz = 1 + (s.blks.map Bk.sz).sum := by
  cases s <;> simp [St.sz, St.blks] <;> omega
/-- blocks lie at most so deep -/
theorem Bk.ok_mem {ns : List Str} {d : Nat} : ∀ {b : Bk} {s : St}, b.ok ns d → s ∈ b.lst → 1 ≤ d ∧ s.ok ns (d - 1)
  | .cons s b, t, h, hm => by
    rcases List.mem_cons.1 hm with rfl | hm
    · exact ⟨h.1, h.2.1⟩
    · exact Bk.ok_mem (b := b) h.2.2 hm
theorem St.ok_mem {ns : List Str} {d : Nat} {s : St} {b : Bk} (h : s.ok ns d) (hm : b ∈ s.blks) : b.ok ns d := by
  cases s with
  | ite t y n =>
    simp only [St.blks, List.mem_cons, List.not_mem_nil, or_false] at hm
    rcases hm with rfl | rfl
    · exact h.2.1
    · exact h.2.2
  | rep k y =>
    simp only [St.blks, List.mem_cons, List.not_mem_nil, or_false] at hm
    subst hm
    exact h.2.2
  | _ => simp [St.blks] at hm
theorem pi_tupK {X : Cx} {K : PySem.W.Frag} {l tg : Expr} {tl : TE} (h : X.K = K) (hl : PE X l tl) : PI X tg l (iTup K tl) := h ▸ pi_tup hl
theorem cr_sumK {X : Cx} {K : PySem.W.Frag} (h : X.K = K) (hc : X.calm = true) : CallR X (.builtin "sum") (rSum K) := h ▸ cr_sum hc
theorem sum_mem {l : List Nat} {x : Nat} (h : x ∈ l) : x ≤ l.sum := by
  induction l with
  | nil => cases h
  | cons y l ih =>
    rw [List.sum_cons]
    rcases List.mem_cons.1 h with rfl | h
    · omega
    · have := ih h; omega
theorem cast_sum (l : List Nat) : ((l.sum : Nat) : Int) = (l.map fun x : Nat => (x : Int)).sum := by
  induction l with
  | nil => rfl
  | cons y l ih => rw [List.sum_cons, List.map_cons, List.sum_cons, Int.natCast_add, ih]
section
variable {w : World} {P : Program} {K : PySem.W.Frag} {mg : Str → Option Value} {base : Heap}
/-- so deep lie the blocks of a block -/
def spSize (d : Nat) : Sp := fun vs H Q _ => ∃ (v : V) (b : Bk) (ns : List Str), vs = [v] ∧ Tp H v (.tuple b.ds) ∧ b.ok ns (d - 1) ∧ 1 ≤ d ∧ b.sz < 16777216 ∧ ∀ H', Sx [] H H' → Q (.int b.sz) H'
theorem TpAll.lst {H : Hp} {α : Type} (g : α → PyData) : ∀ {xs : List V} {as : List α}, TpAll H xs (as.map g) → xs.length = as.length ∧ ∀ (i : Nat) (x : V), xs[i]? = some x → ∃ a, as[i]? = some a ∧ Tp H x (g a)
  | [], [], .nil => ⟨rfl, fun _ _ h => by simp at h⟩
  | x :: xs, a :: as, .cons h hs => by
    have r := TpAll.lst g (as := as) hs
    refine ⟨by rw [List.length_cons, List.length_cons, r.1], fun i y hy => ?_⟩
    cases i with
    | zero => exact ⟨a, rfl, by cases hy; exact h⟩
    | succ i => exact r.2 i y hy
end

/-- the world's dict -/
def wk (N : Addr) (t : Int) (L : Addr) : List (Key × V) := [(.inr "names", .ref N), (.inr "total", .int t), (.inr "places", .ref L)]
theorem k_nt : ¬ ((.inr "names" : Key) = .inr "total") := by decide +kernel
theorem k_np : ¬ ((.inr "names" : Key) = .inr "places") := by decide +kernel
theorem k_tp : ¬ ((.inr "total" : Key) = .inr "places") := by decide +kernel
theorem k_pt : ¬ ((.inr "places" : Key) = .inr "total") := by decide +kernel
theorem wk_n (N : Addr) (t : Int) (L : Addr) : valV (wk N t L) (.inr "names") = some (.ref N) := by
  simp [valV, wk]
theorem wk_t (N : Addr) (t : Int) (L : Addr) : valV (wk N t L) (.inr "total") = some (.int t) := by
  unfold valV wk
  rw [List.find?_cons_of_neg (by simpa using k_nt), List.find?_cons_of_pos (by simp)]
  rfl
theorem wk_p (N : Addr) (t : Int) (L : Addr) : valV (wk N t L) (.inr "places") = some (.ref L) := by
  unfold valV wk
  rw [List.find?_cons_of_neg (by simpa using k_np), List.find?_cons_of_neg (by simpa using k_tp), List.find?_cons_of_pos (by simp)]
  rfl
theorem wk_put (N : Addr) (t t' : Int) (L : Addr) : putK (wk N t L) (.inr "total") (.int t') = wk N t' L := by
  have h : ((wk N t L).any fun kv => decide (kv.1 = .inr "total")) = true := by simp [wk]
  rw [putK, if_pos h]
  simp only [wk, List.map_cons, List.map_nil]
  rw [if_neg k_nt, if_pos trivial, if_neg k_pt]
/-- the world at W: the names' dict at N, the places at L; c more names fit in -/
structure Wr (H : Hp) (W N L : Addr) (w : Wd) (c : Nat) : Prop where
  hw : H W = some (.dK (wk N w.tot L))
  hn : ∃ kvs : List (Key × V), H N = some (.dK kvs) ∧ kvs.length + c ≤ w.pl.length + 1 ∧ ∀ z, (valV kvs (.inr z)).getD (.int 0) = .int (w.en z)
  hl : H L = some (.lst (w.pl.map V.int))
  ne : W ≠ N
namespace Wr
variable {H H' : Hp} {W N L p : Addr} {w : Wd} {c : Nat} {o : HO}
theorem wl (R : Wr H W N L w c) : W ≠ L := fun e => by
  have h := R.hw
  rw [e, R.hl] at h
  cases h
theorem nl (R : Wr H W N L w c) : N ≠ L := fun e => by
  obtain ⟨kvs, h, _⟩ := R.hn
  rw [e, R.hl] at h
  cases h
theorem en (R : Wr H W N L w c) : En H N w.en := by
  obtain ⟨kvs, h1, _, h2⟩ := R.hn
  exact ⟨kvs, h1, h2⟩
theorem sx (R : Wr H W N L w c) (s : Sx [] H H') : Wr H' W N L w c := by
  obtain ⟨kvs, h1, h2, h3⟩ := R.hn
  exact ⟨s _ _ (by simp) R.hw, ⟨kvs, s _ _ (by simp) h1, h2, h3⟩, s _ _ (by simp) R.hl, R.ne⟩
theorem less (R : Wr H W N L w (c + 1)) : Wr H W N L w c := by
  obtain ⟨kvs, h1, h2, h3⟩ := R.hn
  exact ⟨R.hw, ⟨kvs, h1, by omega, h3⟩, R.hl, R.ne⟩
theorem nw (R : Wr H W N L w c) (h : H p = none) : p ∉ [W, N, L] := by
  obtain ⟨kvs, h1, _, _⟩ := R.hn
  intro hm
  simp only [List.not_mem_nil, List.mem_cons, or_false] at hm
  rcases hm with rfl | rfl | rfl
  · rw [R.hw] at h; cases h
  · rw [h1] at h; cases h
  · rw [R.hl] at h; cases h
theorem nt {xs : List V} (R : Wr H W N L w c) (h : H p = some (.tup xs)) : p ∉ [W, N, L] := by
  obtain ⟨kvs, h1, _, _⟩ := R.hn
  intro hm
  simp only [List.not_mem_nil, List.mem_cons, or_false] at hm
  rcases hm with rfl | rfl | rfl
  · rw [R.hw] at h; cases h
  · rw [h1] at h; cases h
  · rw [R.hl] at h; cases h
theorem place (R : Wr H W N L w 0) (i : Int) : Wr (upd H L (.lst (w.pl.map V.int ++ [.int i]))) W N L ⟨w.en, w.tot, w.pl ++ [i]⟩ 1 := by
  obtain ⟨kvs, h1, h2, h3⟩ := R.hn
  refine ⟨by rw [upd_ne R.wl]; exact R.hw, ⟨kvs, by rw [upd_ne R.nl]; exact h1, ?_, h3⟩, by rw [upd_same, List.map_append]; rfl, R.ne⟩
  show kvs.length + 1 ≤ (w.pl ++ [i]).length + 1
  rw [List.length_append]
  have : [i].length = 1 := rfl
  omega
theorem pay (R : Wr H W N L w c) (t : Int) : Wr (upd H W (.dK (wk N t L))) W N L ⟨w.en, t, w.pl⟩ c := by
  obtain ⟨kvs, h1, h2, h3⟩ := R.hn
  exact ⟨upd_same, ⟨kvs, by rw [upd_ne R.ne.symm]; exact h1, h2, h3⟩, by rw [upd_ne R.wl.symm]; exact R.hl, R.ne⟩
theorem set {kvs : List (Key × V)} (R : Wr H W N L w 1) (h : H N = some (.dK kvs)) (z : Str) (v : Int) : kvs.length < w.pl.length + 1 ∧ Wr (upd H N (.dK (putK kvs (.inr z) (.int v)))) W N L ⟨fun y => if y = z then v else w.en y, w.tot, w.pl⟩ 0 := by
  obtain ⟨kvs', h1, h2, h3⟩ := R.hn
  rw [h1] at h
  cases h
  refine ⟨by omega, by rw [upd_ne R.ne]; exact R.hw, ⟨_, upd_same, ?_, fun y => ?_⟩, by rw [upd_ne R.nl.symm]; exact R.hl, R.ne⟩
  · have : (putK kvs (.inr z) (.int v)).length ≤ kvs.length + 1 := by
      unfold putK
      split
      · rw [List.length_map]; omega
      · rw [List.length_append]; exact Nat.le_refl _
    show (putK kvs (.inr z) (.int v)).length + 0 ≤ w.pl.length + 1
    omega
  · rw [valV_put]
    by_cases e : y = z
    · rw [if_pos (by rw [e]), e]
      show V.int v = V.int (if z = z then v else w.en z)
      rw [if_pos rfl]
    · rw [if_neg (fun q => e (Sum.inr.inj q)), h3 y]
      show V.int (w.en y) = V.int (if y = z then v else w.en y)
      rw [if_neg e]
theorem gN (R : Wr H W N L w c) : DGet H W (.str "names") (some (.ref N)) := wk_n N w.tot L ▸ DGet.k (k := .inr "names") R.hw
theorem gT (R : Wr H W N L w c) : DGet H W (.str "total") (some (.int w.tot)) := wk_t N w.tot L ▸ DGet.k (k := .inr "total") R.hw
theorem gP (R : Wr H W N L w c) : DGet H W (.str "places") (some (.ref L)) := wk_p N w.tot L ▸ DGet.k (k := .inr "places") R.hw
theorem pT (R : Wr H W N L w c) (t : Int) : DPut H W (.str "total") (.int t) (upd H W (.dK (wk N t L))) := wk_put N w.tot t L ▸ DPut.k (k := .inr "total") R.hw (by show (3 : Nat) < sizeLine; decide)
theorem tk (R : Wr H W N L w c) (s : Sx [W, N, L] H H') : Tk H H' := fun b xs e => s b _ (R.nt e) e
end Wr
theorem itr_len {f : Wd → Wd × Bool} {c : Nat} (hf : ∀ w, (f w).1.pl.length ≤ w.pl.length + c) : ∀ (n : Nat) (w : Wd), (itr f n w).1.pl.length ≤ w.pl.length + n * c
  | 0, w => by show w.pl.length ≤ _; omega
  | n + 1, w => by
    unfold itr
    have h1 := hf w
    have h2 := itr_len hf n (f w).1
    have e : (n + 1) * c = n * c + c := Nat.succ_mul n c
    split
    · omega
    · omega
mutual
theorem St.run_len : ∀ (s : St) (p : Int) (w : Wd), (s.run p w).1.pl.length ≤ w.pl.length + s.wt
  | .set z e, p, w => by simp [St.run, St.wt]
  | .pay e, p, w => by simp [St.run, St.wt]
  | .stop, p, w => by simp [St.run, St.wt]
  | .ite t y n, p, w => by
    have h1 := Bk.run_len y (p + 1) ⟨w.en, w.tot, w.pl ++ [p]⟩
    have h2 := Bk.run_len n (p + 1 + y.sz) ⟨w.en, w.tot, w.pl ++ [p]⟩
    simp only [List.length_append, List.length_cons, List.length_nil] at h1 h2
    simp only [St.run, St.wt]
    split <;> omega
  | .rep k y, p, w => by
    have h1 := itr_len (Bk.run_len y (p + 1)) k.toNat ⟨w.en, w.tot, w.pl ++ [p]⟩
    simp only [List.length_append, List.length_cons, List.length_nil] at h1
    simp only [St.run, St.wt]
    omega
theorem Bk.run_len : ∀ (b : Bk) (p : Int) (w : Wd), (b.run p w).1.pl.length ≤ w.pl.length + b.wt
  | .nil, p, w => by simp [Bk.run, Bk.wt]
  | .cons s b, p, w => by
    have h1 := St.run_len s p w
    have h2 := Bk.run_len b (p + s.sz) (s.run p w).1
    simp only [Bk.run, Bk.wt]
    split <;> omega
end
theorem itr_one (f : Wd → Wd × Bool) (w : Wd) : itr f 1 w = f w := by
  show (if (f w).2 = true then f w else ((f w).1, false)) = f w
  by_cases h : (f w).2 = true
  · rw [if_pos h]
  · rw [if_neg h]
    have : (f w).2 = false := by simpa using h
    rw [← this]
theorem flat_rep (n : Nat) (x : V) : (List.replicate n [x]).flatten = List.replicate n x := by
  induction n with
  | zero => rfl
  | succ n ih => rw [List.replicate_succ, List.flatten_cons, ih, List.replicate_succ]; rfl
/-- a statement's word -/
def St.hd : St → Str
  | .set _ _ => "set"
  | .pay _ => "pay"
  | .stop => "stop"
  | .ite _ _ _ => "if"
  | .rep _ _ => "repeat"
theorem St.at_ {H : Hp} {x : V} {s : St} (t : Tp H x s.d) : ∃ a xs, x = .ref a ∧ H a = some (.tup (.str s.hd :: xs)) := by
  have h : ∃ ds, s.d = .tuple (.str s.hd :: ds) := by cases s <;> exact ⟨_, rfl⟩
  obtain ⟨ds, e⟩ := h
  rw [e] at t
  obtain ⟨a, xs, rfl, ha, hx⟩ := t.tuple
  cases hx with
  | cons h hs =>
    obtain rfl := tpS h
    exact ⟨a, _, rfl, ha⟩
theorem at0 (v : V) (xs : List V) : atI (v :: xs) 0 = some v := atI_nat (j := 0) rfl
theorem Sx.n0 {H : Hp} {p : Addr} {o : HO} (h : H p = none) : Sx [] H (upd H p o) := (Sx.refl _).new h
def spGo (ns : List Str) (d : Nat) : Sp := fun vs H Q _ => ∃ (W N L : Addr) (v : V) (b : Bk) (p : Int) (w : Wd), vs = [.ref W, v, .int p] ∧ Tp H v (.tuple b.ds) ∧ 1 ≤ d ∧ b.ok ns (d - 1) ∧ Wr H W N L w 0 ∧ b.sz < 16777216 ∧ w.pl.length + b.wt ≤ 1000000 ∧
  ∀ H', Sx [W, N, L] H H' → Wr H' W N L (b.run p w).1 0 → Q (.bl (b.run p w).2) H'
abbrev sNumber : Stmt := topS 24
abbrev nNumber : List Str := ["_law_deck_here", "_law_way", "_law_side"]
theorem scNumber : FnScope nNumber ["_law_deck_here"] (defScope sNumber) := ⟨rfl, rfl, rfl, by decide +kernel, rfl, by decide +kernel, by decide +kernel⟩
abbrev sSign : Stmt := topS 35
abbrev nSign : List Str := ["_law_program_here", "_law_number_here", "_law_names_here", "_law_total", "_law_todo", "_law_step", "_law_row_here", "_law_k"]
theorem scSign : FnScope nSign ["_law_program_here", "_law_number_here"] (defScope sSign) := ⟨rfl, rfl, rfl, by decide +kernel, rfl, by decide +kernel, by decide +kernel⟩
def spNumber : Sp := fun vs H Q _ => ∃ (a c : Addr) (cs : List Int) (k : Int), vs = [.ref a] ∧ Dk H a c cs k ∧ k + 4 ≤ KB ∧
  ∀ H' cs' k' i, Sx [a, c] H H' → Dk H' a c cs' k' → k ≤ k' → k' ≤ k + 4 → -1000000000000000000000000000000000000000000000000000000000000 ≤ i → i ≤ 1000000000000000000000000000000000000000000000000000000000000 → Q (.int i) H'
/-- where a run begins -/
def Wd.at (x : Int) : Wd := ⟨fun y => if y = "n" then x else 0, 0, []⟩
/-- what a run tells -/
def Bk.told (b : Bk) (x : Int) : PyData := .tuple [.int (b.run 0 (Wd.at x)).1.tot, .tuple ((b.run 0 (Wd.at x)).1.pl.map .int)]
def spRun (ns : List Str) : Sp := fun vs H Q _ => ∃ (v : V) (b : Bk) (x : Int), vs = [v, .int x] ∧ Tp H v (.tuple b.ds) ∧ b.ok ns 4 ∧ b.sz < 16777216 ∧ b.wt ≤ 1000000 ∧ ∀ H' r, Sx [] H H' → Tp H' r (b.told x) → Q r H'
def sgn (t : Int) : Int := if t < 0 then -1 else if 0 < t then 1 else 0
def spSign : Sp := fun vs H Q _ => ∃ t : Int, vs = [.int t] ∧ Q (.int (sgn t)) H
theorem putK_new {kvs : List (Key × V)} {k : Key} {v : V} (h : ∀ kv ∈ kvs, ¬ kv.1 = k) : putK kvs k v = kvs ++ [(k, v)] := by
  rw [putK, if_neg]
  intro z
  rw [List.any_eq_true] at z
  obtain ⟨kv, hm, hd⟩ := z
  exact h kv hm (of_decide_eq_true hd)
theorem wk_made (N L : Addr) : mergeK [] [((.inr "names" : Key), V.ref N), (.inr "total", .int 0), (.inr "places", .ref L)] = wk N 0 L := by
  show putK (putK (putK [] (.inr "names" : Key) (V.ref N)) (.inr "total" : Key) (.int 0)) (.inr "places" : Key) (.ref L) = _
  rw [putK_new (kvs := []) (fun kv h => by cases h), putK_new (kvs := [] ++ _) (fun kv h => by rw [List.mem_singleton.mp h]; exact k_nt), putK_new (fun kv h => ?_)]
  · rfl
  · simp only [List.nil_append, List.cons_append, List.mem_cons, List.not_mem_nil, or_false] at h
    rcases h with rfl | rfl
    · exact k_np
    · exact k_tp
theorem Dk.none_ne {H : Hp} {a p : Addr} {o : HO} (h : H a = some o) (n : H p = none) : p ≠ a := fun e => by rw [e, h] at n; cases n
theorem TpAll.ints {H : Hp} : ∀ l : List Int, TpAll H (l.map V.int) (l.map PyData.int)
  | [] => .nil
  | i :: l => .cons (.int i) (TpAll.ints l)
section
variable {w : World} {P : Program} {K : PySem.W.Frag} {mg : Str → Option Value} {base : Heap}
theorem ok_number {f fD fO : Addr} {fd fdD fdO : FuncData} (F_number : Fun K "_law_number" "_law_number" sNumber f fd) (F_draw : Fun K "_law_draw" "_law_draw" sDraw fD fdD) (F_one : Fun K "_law_one" "_law_one" sOne fO fdO)
    (G_draw : FnOk P w K mg base CX0 1 fD fdD ["_law_deck_here", "_law_many"] spDraw) (G_one : FnOk P w K mg base CX0 2 fO fdO ["_law_deck_here", "_law_items"] (spOne K))
    (b_draw : Binds K fdD ["_law_deck_here", "_law_many"] []) (b_one : Binds K fdO ["_law_deck_here", "_law_items"] [])
    (m_draw : mg "_law_draw" = some (.ref fD)) (m_one : mg "_law_one" = some (.ref fO)) : FnOk P w K mg base CX0 3 f fd ["_law_deck_here"] spNumber := by
  refine F_number.ok scNumber (fun vs H Q E h => ?_) (fun cdv A outer s H vs Q E hr h => ?_)
  · obtain ⟨a, c, cs, k, rfl, _⟩ := h
    rfl
  · obtain ⟨a, c, cs, k, rfl, D, hk, q⟩ := h
    refine ⟨_, (pss_cons (ps_par (i := 1) (j := 2) (by rfl) scNumber.nd rfl rfl (by decide) rfl rfl (pa_cons (pe_call G_draw (hr.mono (by omega)) (by rfl) m_draw F_draw.kp b_draw .nil pass0 (pa_cons (pv 0) (pa_cons pe_int pa_nil))) (pa_cons (pe_call G_one (hr.mono (by omega)) (by rfl) m_one F_one.kp b_one .nil pass0 (pa_cons (pv 0) (pa_cons (pe_lst (pa_cons pe_int (pa_cons (pe_un un_neg pe_int) pa_nil))) pa_nil))) pa_nil)) (by rfl))
      (pss_cons (ps_if (pt_cmpR op_lt (pv 1) pe_int (nomark _)) (pss_one (ps_ret (pe_op op_mul (pv 2) (pe_call G_draw (hr.mono (by omega)) (by rfl) m_draw F_draw.kp b_draw .nil pass0 (pa_cons (pv 0) (pa_cons pe_int pa_nil)))))) pss_nil)
      (pss_one (ps_ret (pe_op op_mul (pv 2) (pe_op op_add (pe_op op_mul (pe_op op_pow pe_int pe_int) (pe_call G_draw (hr.mono (by omega)) (by rfl) m_draw F_draw.kp b_draw .nil pass0 (pa_cons (pv 0) (pa_cons (pe_op op_pow pe_int pe_int) pa_nil)))) (pe_call G_draw (hr.mono (by omega)) (by rfl) m_draw F_draw.kp b_draw .nil pass0 (pa_cons (pv 0) (pa_cons (pe_op op_pow pe_int pe_int) pa_nil))))))))), ?_⟩
    refine ⟨_, rfl, a, c, cs, k, 5, rfl, D, by decide, by decide, by omega, fun H1 cs1 r s1 D1 r0 r1 => ?_⟩
    refine ⟨_, rfl, 1, rfl, by show 2 ≤ sizeLine; decide, fun l hl => ?_⟩
    obtain ⟨la, lc⟩ := D1.nw hl
    refine ⟨a, c, cs1, _, _, rfl, D1.same (Sx.n0 hl), by omega, .inl ⟨l, _, rfl, .inl (.inl upd_same), by simp, by show 2 ≤ 100000; decide, la, lc, fun H2 cs2 x s2 D2 hx => ?_⟩⟩
    have s12 : Sx [a, c] H H2 := (s1.new hl).trans s2
    obtain ⟨i, rfl, hi⟩ : ∃ i : Int, x = .int i ∧ (i = 1 ∨ i = -1) := by
      simp only [List.not_mem_nil, List.mem_cons, or_false] at hx
      rcases hx with rfl | rfl
      · exact ⟨_, rfl, .inl rfl⟩
      · exact ⟨_, rfl, .inr rfl⟩
    refine ⟨_, _, rfl, ?_⟩
    refine ⟨_, rfl, _, 4, rfl, rfl, _, rfl, ite2 (fun e => ?_) (fun e => ?_)⟩
    · refine ⟨_, rfl, _, rfl, a, c, cs2, _, 40, rfl, D2, by decide, by decide, by omega, fun H3 cs3 z s3 D3 z0 z1 => ?_⟩
      refine ⟨i, z, rfl, rfl, .inl ⟨by omega, by omega⟩, ?_⟩
      refine q H3 cs3 _ _ (s12.trans s3) D3 (by omega) (by omega) ?_ ?_ <;> rcases hi with rfl | rfl <;> omega
    · refine ⟨_, rfl, 10, 50, rfl, rfl, ⟨by decide, by decide, by decide⟩, _, rfl, 10, 9, rfl, rfl, ⟨by decide, by decide, by decide⟩, a, c, cs2, _, _, rfl, D2, by decide, by decide, by omega, fun H3 cs3 z s3 D3 z0 z1 => ?_⟩
      have ez : ((10 : Int) ^ Int.toNat 9) = 1000000000 := by decide
      rw [ez] at z1
      refine ⟨_, z, rfl, rfl, .inr ⟨by omega, by omega⟩, _, rfl, 10, 9, rfl, rfl, ⟨by decide, by decide, by decide⟩, a, c, cs3, _, _, rfl, D3, by decide, by decide, by omega, fun H4 cs4 y s4 D4 y0 y1 => ?_⟩
      rw [ez] at y1
      have e50 : ((10 : Int) ^ Int.toNat 50) = 100000000000000000000000000000000000000000000000000 := by decide
      refine ⟨_, _, rfl, rfl, i, _, rfl, rfl, .inl ⟨by omega, by omega⟩, ?_⟩
      rw [e50]
      refine q H4 cs4 _ _ ((s12.trans s3).trans s4) D4 (by omega) (by omega) ?_ ?_ <;> rcases hi with rfl | rfl <;> omega
end
/-! ### data that repr shows -/
structure Shw (k n : Nat) (d : PyData) : Prop where
  s : d.showable = true
  h : d.hasDict = false
  l : d.leavesShort 1921 = true
  dp : d.depth ≤ k
  w : d.weight ≤ n
structure ShwA (k n : Nat) (ds : List PyData) : Prop where
  s : PyData.showableAll ds = true
  h : PyData.hasDictAll ds = false
  l : PyData.leavesShortAll 1921 ds = true
  dp : PyData.depthAll ds ≤ k
  w : PyData.weightAll ds ≤ n
namespace Shw
theorem mono {k n k' n' : Nat} {d : PyData} (h : Shw k n d) (hk : k ≤ k') (hn : n ≤ n') : Shw k' n' d := ⟨h.s, h.h, h.l, Nat.le_trans h.dp hk, Nat.le_trans h.w hn⟩
theorem int {i : Int} {n : Nat} (h : i.natAbs < 2 ^ n) (h0 : 0 < n) (hn : n ≤ 1920) (k : Nat) : Shw k n (.int i) := by
  have l := PySem.Flt.log2_lt_of h0 h
  have l' : i.natAbs.log2 < 1920 := by omega
  refine ⟨by simp only [PyData.showable, decide_eq_true_eq]; exact l', by simp only [PyData.hasDict], ?_, by simp only [PyData.depth]; omega, ?_⟩
  · simp only [PyData.leavesShort, decide_eq_true_eq, PyData.shown]
    exact decide_eq_true (int_text_len_1921 l')
  · simp only [PyData.weight]
    split <;> omega
theorem str {z : Str} (h : PyData.strOk z = true) (k n : Nat) (hn : z.length ≤ n) : Shw k n (.str z) := by
  refine ⟨by simp only [PyData.showable], by simp only [PyData.hasDict], ?_, by simp only [PyData.depth]; omega, by simp only [PyData.weight]; exact hn⟩
  simp only [PyData.leavesShort]
  rw [List.all_eq_true]
  intro c hc
  unfold PyData.strOk at h
  rw [Array.all_eq_true'] at h
  have := of_decide_eq_true (h c (Array.mem_toList_iff.mp hc))
  have e : (16 : Nat) ^ 8 = 4294967296 := rfl
  refine decide_eq_true ?_; omega
theorem tup {k n : Nat} {ds : List PyData} (h : ShwA k n ds) : Shw (k + 1) n (.tuple ds) :=
  ⟨by simp only [PyData.showable]; exact h.s, by simp only [PyData.hasDict]; exact h.h, by simp only [PyData.leavesShort]; exact h.l, by simp only [PyData.depth]; have := h.dp; omega, by simp only [PyData.weight]; exact h.w⟩
theorem lst {k n : Nat} {ds : List PyData} (h : ShwA k n ds) : Shw (k + 1) n (.list ds) :=
  ⟨by simp only [PyData.showable]; exact h.s, by simp only [PyData.hasDict]; exact h.h, by simp only [PyData.leavesShort]; exact h.l, by simp only [PyData.depth]; have := h.dp; omega, by simp only [PyData.weight]; exact h.w⟩
/-- what repr asks -/
theorem len {k n : Nat} {d : PyData} (h : Shw k n d) (hn : n ≤ 8000) : d.shown.length ≤ 16777216 := by
  have := PyData.shown_le 1921 (by decide) d h.l
  have := h.w
  omega
end Shw
namespace ShwA
theorem nil (k n : Nat) : ShwA k n [] := ⟨by simp only [PyData.showableAll], by simp only [PyData.hasDictAll], by simp only [PyData.leavesShortAll], by simp only [PyData.depthAll]; omega, by simp only [PyData.weightAll]; omega⟩
theorem cons {k n m : Nat} {d : PyData} {ds : List PyData} (h : Shw k n d) (hs : ShwA k m ds) : ShwA k (n + 1 + m) (d :: ds) := by
  refine ⟨?_, ?_, ?_, ?_, ?_⟩
  · simp only [PyData.showableAll, h.s, hs.s, Bool.and_self]
  · simp only [PyData.hasDictAll, h.h, hs.h, Bool.or_self]
  · simp only [PyData.leavesShortAll, h.l, hs.l, Bool.and_self]
  · simp only [PyData.depthAll]; have := h.dp; have := hs.dp; omega
  · simp only [PyData.weightAll]; have := h.w; have := hs.w; omega
theorem mono {k n k' n' : Nat} {d : List PyData} (h : ShwA k n d) (hk : k ≤ k') (hn : n ≤ n') : ShwA k' n' d := ⟨h.s, h.h, h.l, Nat.le_trans h.dp hk, Nat.le_trans h.w hn⟩
theorem allInt {l : List Int} {n : Nat} (h0 : 0 < n) (hn : n ≤ 1920) (h : ∀ i ∈ l, i.natAbs < 2 ^ n) (k : Nat) : ShwA k ((n + 1) * l.length) (l.map PyData.int) := by
  induction l with
  | nil => exact .nil _ _
  | cons i l ih =>
    refine (ShwA.cons (Shw.int (h i (by simp)) h0 hn k) (ih fun j hj => h j (List.mem_cons_of_mem _ hj))).mono (Nat.le_refl _) ?_
    rw [List.length_cons, Nat.mul_succ]
    omega
end ShwA
theorem sm {i : Int} (h1 : -120 ≤ i) (h2 : i ≤ 120) (k : Nat) : Shw k 7 (.int i) := by
  have e : (2 : Nat) ^ 7 = 128 := by decide
  exact Shw.int (by omega) (by decide) (by decide) k
def wE : Nat → Nat
  | 0 => 0
  | n + 1 => 2 * wE n + 16
theorem Ex.shw {ns : List Str} (hn : ∀ z ∈ ns, NmOk z) : ∀ (e : Ex) (n : Nat), e.ok ns n → Shw n (wE n) e.d
  | .int i, n, ⟨h1, h2, h3⟩ => by
    obtain ⟨m, rfl⟩ : ∃ m : Nat, n = m + 1 := ⟨n - 1, by omega⟩
    exact (sm (by omega) (by omega) _).mono (Nat.le_refl _) (by simp only [wE]; omega)
  | .name z, n, ⟨h1, h2⟩ => by
    obtain ⟨m, rfl⟩ : ∃ m : Nat, n = m + 1 := ⟨n - 1, by omega⟩
    exact Shw.str (hn z h2).ok _ _ (by have := (hn z h2).hi; simp only [wE]; omega)
  | .plus x y, n, ⟨h1, h2, h3⟩ => by
    obtain ⟨m, rfl⟩ : ∃ m : Nat, n = m + 1 := ⟨n - 1, by omega⟩
    exact (Shw.tup (.cons (Shw.str (n := 4) (by decide +kernel) m (by decide)) (.cons (Ex.shw hn x m h2) (.cons (Ex.shw hn y m h3) (.nil m 0))))).mono (Nat.le_refl _) (by simp only [wE]; omega)
  | .minus x y, n, ⟨h1, h2, h3⟩ => by
    obtain ⟨m, rfl⟩ : ∃ m : Nat, n = m + 1 := ⟨n - 1, by omega⟩
    exact (Shw.tup (.cons (Shw.str (n := 5) (by decide +kernel) m (by decide)) (.cons (Ex.shw hn x m h2) (.cons (Ex.shw hn y m h3) (.nil m 0))))).mono (Nat.le_refl _) (by simp only [wE]; omega)
  | .times f x, n, ⟨h1, h2, h3, h4⟩ => by
    obtain ⟨m, rfl⟩ : ∃ m : Nat, n = m + 1 := ⟨n - 1, by omega⟩
    exact (Shw.tup (.cons (Shw.str (n := 5) (by decide +kernel) m (by decide)) (.cons (sm (by omega) (by omega) m) (.cons (Ex.shw hn x m h4) (.nil m 0))))).mono (Nat.le_refl _) (by simp only [wE]; omega)
theorem Ts.shw {ns : List Str} (hn : ∀ z ∈ ns, NmOk z) : ∀ (t : Ts) (n : Nat), t.ok ns n → Shw (n + 4) (5 * n + 240) t.d
  | .rest x b r, n, ⟨h1, h2, h3, h4, h5⟩ => (Shw.tup (.cons (Shw.str (n := 4) (by decide +kernel) 3 (by decide)) (.cons (Ex.shw hn x 3 h1) (.cons (sm (by omega) (by omega) 3) (.cons (sm (by omega) (by omega) 3) (.nil 3 0)))))).mono (by omega) (by simp only [wE]; omega)
  | .less x y, n, ⟨h1, h2⟩ => (Shw.tup (.cons (Shw.str (n := 4) (by decide +kernel) 3 (by decide)) (.cons (Ex.shw hn x 3 h1) (.cons (Ex.shw hn y 3 h2) (.nil 3 0))))).mono (by omega) (by simp only [wE]; omega)
  | .not t, n, ⟨h1, h2⟩ => by
    obtain ⟨m, rfl⟩ : ∃ m : Nat, n = m + 1 := ⟨n - 1, by omega⟩
    exact (Shw.tup (.cons (Shw.str (n := 3) (by decide +kernel) _ (by decide)) (.cons (Ts.shw hn t m h2) (.nil _ 0)))).mono (by omega) (by omega)
mutual
theorem St.shw {ns : List Str} (hn : ∀ z ∈ ns, NmOk z) : ∀ (s : St) (d : Nat), s.ok ns d → Shw (2 * d + 9) (300 * s.sz - 1) s.d
  | .set z e, d, ⟨h1, h2⟩ => (Shw.tup (.cons (Shw.str (n := 3) (by decide +kernel) 3 (by decide)) (.cons (Shw.str (n := 8) (hn z h1).ok 3 (hn z h1).hi) (.cons (Ex.shw hn e 3 h2) (.nil 3 0))))).mono (by omega) (by simp only [wE, St.sz]; omega)
  | .pay e, d, h => (Shw.tup (.cons (Shw.str (n := 3) (by decide +kernel) 3 (by decide)) (.cons (Ex.shw hn e 3 h) (.nil 3 0)))).mono (by omega) (by simp only [wE, St.sz]; omega)
  | .stop, d, h => (Shw.tup (.cons (Shw.str (n := 4) (by decide +kernel) 3 (by decide)) (.nil 3 0))).mono (by omega) (by simp only [St.sz]; omega)
  | .ite t y n, d, ⟨h1, h2, h3⟩ => (Shw.tup (.cons (Shw.str (n := 2) (by decide +kernel) (2 * d + 8) (by decide)) (.cons ((Ts.shw hn t 2 h1).mono (by omega) (Nat.le_refl _)) (.cons ((Shw.tup (Bk.shw hn y d h2)).mono (by omega) (Nat.le_refl _)) (.cons ((Shw.tup (Bk.shw hn n d h3)).mono (by omega) (Nat.le_refl _)) (.nil _ 0)))))).mono (by omega) (by simp only [St.sz]; omega)
  | .rep k y, d, ⟨h1, h2, h3⟩ => (Shw.tup (.cons (Shw.str (n := 6) (by decide +kernel) (2 * d + 8) (by decide)) (.cons (sm (by omega) (by omega) _) (.cons ((Shw.tup (Bk.shw hn y d h3)).mono (by omega) (Nat.le_refl _)) (.nil _ 0))))).mono (by omega) (by simp only [St.sz]; omega)
theorem Bk.shw {ns : List Str} (hn : ∀ z ∈ ns, NmOk z) : ∀ (b : Bk) (d : Nat), b.ok ns d → ShwA (2 * d + 7) (300 * b.sz) b.ds
  | .nil, d, _ => .nil _ _
  | .cons s b, d, ⟨h1, h2, h3⟩ => by
    have p : 1 ≤ s.sz := by rw [s.sz_blks]; omega
    exact (ShwA.cons ((St.shw hn s (d - 1) h2).mono (by omega) (Nat.le_refl _)) (Bk.shw hn b d h3)).mono (Nat.le_refl _) (by simp only [Bk.sz]; omega)
end
/-! ### how far a run gets -/
structure Bd (B : Int) (w : Wd) : Prop where
  h : 99 ≤ B
  en : ∀ z, -B ≤ w.en z ∧ w.en z ≤ B
  t1 : -B ≤ w.tot
  t2 : w.tot ≤ B
theorem Bd.mono {B C : Int} {w : Wd} (h : Bd B w) (l : B ≤ C) : Bd C w := ⟨Int.le_trans h.h l, fun z => by have := h.en z; omega, by have := h.t1; omega, by have := h.t2; omega⟩
theorem Bd.pl {B : Int} {e : Str → Int} {t : Int} {l l' : List Int} (h : Bd B ⟨e, t, l⟩) : Bd B ⟨e, t, l'⟩ := ⟨h.h, h.en, h.t1, h.t2⟩
theorem p128 (n : Nat) : (1 : Int) ≤ 128 ^ n := Int.pow_pos (by decide)
theorem p128_le {B : Int} (h : 0 ≤ B) {m n : Nat} (l : m ≤ n) : (128 : Int) ^ m * B ≤ 128 ^ n * B := by
  refine Int.mul_le_mul_of_nonneg_right ?_ h
  obtain ⟨k, rfl⟩ : ∃ k, n = m + k := ⟨n - m, by omega⟩
  rw [Int.pow_add]
  have a := p128 m
  have b := p128 k
  have := Int.mul_le_mul_of_nonneg_left b (show (0 : Int) ≤ 128 ^ m by omega)
  omega
theorem Bd.up {B : Int} {w : Wd} {m n : Nat} (h : Bd (128 ^ m * B) w) (hB : 0 ≤ B) (l : m ≤ n) : Bd (128 ^ n * B) w := h.mono (p128_le hB l)
theorem ev81 {ns : List Str} {ρ : Str → Int} {B : Int} (hB : 99 ≤ B) (h : ∀ z, -B ≤ ρ z ∧ ρ z ≤ B) {e : Ex} (ho : e.ok ns 3) : -(81 * B) ≤ e.ev ρ ∧ e.ev ρ ≤ 81 * B := by
  have := Ex.ev_le hB h e 3 ho
  have e9 : (9 : Int) ^ 3 = 729 := by decide
  rw [e9] at this
  omega
theorem itr_bd {f : Wd → Wd × Bool} {c : Nat} (hf : ∀ w B, Bd B w → Bd (128 ^ c * B) (f w).1) : ∀ (n : Nat) (w : Wd) (B : Int), Bd B w → Bd (128 ^ (n * c) * B) (itr f n w).1
  | 0, w, B, h => by
    rw [Nat.zero_mul, Int.pow_zero, Int.one_mul]
    exact h
  | n + 1, w, B, h => by
    have h1 := hf w B h
    have h2 := itr_bd hf n (f w).1 _ h1
    have hB : 0 ≤ B := by have := h.h; omega
    rw [← Int.mul_assoc, ← Int.pow_add, ← Nat.succ_mul] at h2
    unfold itr
    split
    · exact h1.up hB (by rw [Nat.succ_mul]; omega)
    · exact h2
mutual
theorem St.run_bd {ns : List Str} : ∀ (s : St) (d : Nat) (p : Int) (w : Wd) (B : Int), s.ok ns d → Bd B w → Bd (128 ^ s.wt * B) (s.run p w).1
  | .set z e, d, p, w, B, ⟨h1, h2⟩, h => by
    have v := ev81 h.h h.en h2
    have hB := h.h
    rw [show St.wt (.set z e) = 1 from rfl, Int.pow_one]
    refine ⟨by omega, fun y => ?_, by have := h.t1; show -(128 * B) ≤ w.tot; omega, by have := h.t2; show w.tot ≤ 128 * B; omega⟩
    show -(128 * B) ≤ (if y = z then e.ev w.en else w.en y) ∧ (if y = z then e.ev w.en else w.en y) ≤ 128 * B
    have := h.en y
    split <;> omega
  | .pay e, d, p, w, B, h2, h => by
    have v := ev81 h.h h.en h2
    have hB := h.h
    rw [show St.wt (.pay e) = 1 from rfl, Int.pow_one]
    refine ⟨by omega, fun y => by have := h.en y; show -(128 * B) ≤ w.en y ∧ w.en y ≤ 128 * B; omega, ?_, ?_⟩
    · have := h.t1; show -(128 * B) ≤ w.tot + e.ev w.en; omega
    · have := h.t2; show w.tot + e.ev w.en ≤ 128 * B; omega
  | .stop, d, p, w, B, _, h => by
    have hB := h.h
    rw [show St.wt .stop = 1 from rfl, Int.pow_one]
    exact (Bd.pl h : Bd B ⟨w.en, w.tot, w.pl ++ [p]⟩).mono (by omega)
  | .ite t y n, d, p, w, B, ⟨h1, h2, h3⟩, h => by
    have hB := h.h
    have h' : Bd B ⟨w.en, w.tot, w.pl ++ [p]⟩ := Bd.pl h
    simp only [St.run, St.wt]
    split
    · exact (Bk.run_bd y d _ _ B h2 h').up (by omega) (by omega)
    · exact (Bk.run_bd n d _ _ B h3 h').up (by omega) (by omega)
  | .rep k y, d, p, w, B, ⟨h1, h2, h3⟩, h => by
    have hB := h.h
    have h' : Bd B ⟨w.en, w.tot, w.pl ++ [p]⟩ := Bd.pl h
    simp only [St.run, St.wt]
    exact (itr_bd (fun w B h => Bk.run_bd y d (p + 1) w B h3 h) k.toNat _ B h').up (by omega) (by omega)
theorem Bk.run_bd {ns : List Str} : ∀ (b : Bk) (d : Nat) (p : Int) (w : Wd) (B : Int), b.ok ns d → Bd B w → Bd (128 ^ b.wt * B) (b.run p w).1
  | .nil, d, p, w, B, _, h => by
    rw [show Bk.wt .nil = 0 from rfl, Int.pow_zero, Int.one_mul]
    exact h
  | .cons s b, d, p, w, B, ⟨h1, h2, h3⟩, h => by
    have hB : 0 ≤ B := by have := h.h; omega
    have a := St.run_bd s (d - 1) p w B h2 h
    have c := Bk.run_bd b d (p + s.sz) (s.run p w).1 _ h3 a
    rw [← Int.mul_assoc, ← Int.pow_add, Nat.add_comm] at c
    simp only [Bk.run, Bk.wt]
    split
    · exact a.up hB (by omega)
    · exact c
end
/-- places are places -/
def Pl (lo hi : Int) (l l' : List Int) : Prop := ∀ x ∈ l', x ∈ l ∨ (lo ≤ x ∧ x < hi)
theorem Pl.trans {lo hi : Int} {l l1 l2 : List Int} (a : Pl lo hi l l1) (b : Pl lo hi l1 l2) : Pl lo hi l l2 := fun x hx => (b x hx).elim (a x) .inr
theorem Pl.mono {lo hi lo' hi' : Int} {l l1 : List Int} (a : Pl lo hi l l1) (h1 : lo' ≤ lo) (h2 : hi ≤ hi') : Pl lo' hi' l l1 := fun x hx => (a x hx).imp id (fun z => by omega)
theorem Pl.refl (lo hi : Int) (l : List Int) : Pl lo hi l l := fun _ hx => .inl hx
theorem Pl.one {lo hi p : Int} (l : List Int) (h1 : lo ≤ p) (h2 : p < hi) : Pl lo hi l (l ++ [p]) := fun x hx => by
  rcases List.mem_append.1 hx with z | z
  · exact .inl z
  · rw [List.mem_singleton.mp z]; exact .inr ⟨h1, h2⟩
theorem itr_pl {f : Wd → Wd × Bool} {lo hi : Int} (hf : ∀ w, Pl lo hi w.pl (f w).1.pl) : ∀ (n : Nat) (w : Wd), Pl lo hi w.pl (itr f n w).1.pl
  | 0, w => .refl _ _ _
  | n + 1, w => by
    unfold itr
    split
    · exact hf w
    · exact (hf w).trans (itr_pl hf n _)
mutual
theorem St.run_pl : ∀ (s : St) (p : Int) (w : Wd), Pl p (p + s.sz) w.pl (s.run p w).1.pl
  | .set z e, p, w => .one _ (Int.le_refl _) (by simp [St.sz]; omega)
  | .pay e, p, w => .one _ (Int.le_refl _) (by simp [St.sz]; omega)
  | .stop, p, w => .one _ (Int.le_refl _) (by simp [St.sz]; omega)
  | .ite t y n, p, w => by
    simp only [St.run, St.sz]
    have z : Pl p (p + ((1 + y.sz + n.sz : Nat) : Int)) w.pl (w.pl ++ [p]) := .one _ (Int.le_refl _) (by omega)
    split
    · exact z.trans ((Bk.run_pl y (p + 1) ⟨w.en, w.tot, w.pl ++ [p]⟩).mono (by omega) (by omega))
    · exact z.trans ((Bk.run_pl n (p + 1 + y.sz) ⟨w.en, w.tot, w.pl ++ [p]⟩).mono (by omega) (by omega))
  | .rep k y, p, w => by
    simp only [St.run, St.sz]
    have z : Pl p (p + ((1 + y.sz : Nat) : Int)) w.pl (w.pl ++ [p]) := .one _ (Int.le_refl _) (by omega)
    exact z.trans ((itr_pl (Bk.run_pl y (p + 1)) k.toNat ⟨w.en, w.tot, w.pl ++ [p]⟩).mono (by omega) (by omega))
theorem Bk.run_pl : ∀ (b : Bk) (p : Int) (w : Wd), Pl p (p + b.sz) w.pl (b.run p w).1.pl
  | .nil, p, w => .refl _ _ _
  | .cons s b, p, w => by
    simp only [Bk.run, Bk.sz]
    have a := St.run_pl s p w
    have c := Bk.run_pl b (p + s.sz) (s.run p w).1
    split
    · exact a.mono (Int.le_refl _) (by omega)
    · exact (a.mono (Int.le_refl _) (by omega)).trans (c.mono (by omega) (by omega))
end
set_option exponentiation.threshold 2000 in
/-- what a run tells can be shown -/
theorem Bk.told_shw {ns : List Str} {b : Bk} {d : Nat} {x : Int} (ho : b.ok ns d) (hw : b.wt ≤ 30) (hs : b.sz ≤ 24) (h1 : -1000000000000000000000000000000000000000000000000000000000000 ≤ x) (h2 : x ≤ 1000000000000000000000000000000000000000000000000000000000000) : Shw 2 800 (b.told x) := by
  have h0 : Bd 1000000000000000000000000000000000000000000000000000000000000 (Wd.at x) := ⟨by decide, fun z => by
    show _ ≤ (if z = "n" then x else 0) ∧ (if z = "n" then x else 0) ≤ _
    split <;> omega, by show _ ≤ (0 : Int); decide, by show (0 : Int) ≤ _; decide⟩
  have h := (Bk.run_bd b d 0 _ _ ho h0).up (by decide) hw
  have e : (128 : Int) ^ 30 * 1000000000000000000000000000000000000000000000000000000000000 = 1645504557321206042154969182557350504982735865633579863348609024000000000000000000000000000000000000000000000000000000000000 := by decide
  rw [e] at h
  have p1 := Bk.run_pl b 0 (Wd.at x)
  have p2 := Bk.run_len b 0 (Wd.at x)
  have p3 : (b.run 0 (Wd.at x)).1.pl.length ≤ 30 := by
    have : (Wd.at x).pl.length = 0 := rfl
    omega
  have t1 := h.t1
  have t2 := h.t2
  have e2 : (2 : Nat) ^ 450 > 1645504557321206042154969182557350504982735865633579863348609024000000000000000000000000000000000000000000000000000000000000 := by decide
  have z : ShwA 0 ((7 + 1) * (b.run 0 (Wd.at x)).1.pl.length) ((b.run 0 (Wd.at x)).1.pl.map PyData.int) := .allInt (by decide) (by decide) (fun i hi => by
    have e7 : (2 : Nat) ^ 7 = 128 := by decide
    rcases p1 i hi with z | z
    · cases z
    · omega) 0
  exact (Shw.tup (.cons (Shw.int (n := 450) (by omega) (by decide) (by decide) 1) (.cons (Shw.tup z) (.nil 1 0)))).mono (Nat.le_refl _) (by omega)
/-! ### t[::-1] of a tuple -/
theorem places_back (n : Nat) : Builtin.Slice.slicePlaces ((n : Int) - 1) (-1) (-1) = n := by
  unfold Builtin.Slice.slicePlaces;
  rw [if_neg (by omega)]
  by_cases h : n = 0
  · subst h; rfl
  · rw [if_pos (by omega), show ((n : Int) - 1 - -1 - 1) = (n : Int) - 1 by omega, show (- -1 : Int) = 1 from rfl, Int.ediv_one]
    omega
theorem pick_back (xs : Array Value) : ((List.range xs.size).filterMap fun (m : Nat) => xs[((xs.size : Int) - 1 + (m : Int) * -1).toNat]?).toArray = xs.toList.reverse.toArray := by
  congr 1
  apply List.ext_getElem?
  intro i
  have hlen : ∀ l : List Nat, (∀ m ∈ l, m < xs.size) → (l.filterMap fun (m : Nat) => xs[((xs.size : Int) - 1 + (m : Int) * -1).toNat]?) = l.map fun m => xs.toList.reverse.getD m .none := by
    intro l
    induction l with
    | nil => intro _; rfl
    | cons m l ih =>
      intro h
      have hm := h m (by simp)
      have e : ((xs.size : Int) - 1 + (m : Int) * -1).toNat = xs.size - 1 - m := by omega
      have e2 : xs[xs.size - 1 - m]? = some (xs.toList.reverse.getD m .none) := by
        rw [List.getD_eq_getElem?_getD, List.getElem?_reverse (by simpa using hm), Array.length_toList]
        rw [Array.getElem?_toList]
        rw [Array.getElem?_eq_getElem (by omega)]
        rfl
      rw [List.filterMap_cons, e, e2, List.map_cons, ih fun k hk => h k (List.mem_cons_of_mem _ hk)]
  rw [hlen _ fun m hm => List.mem_range.mp hm, List.getElem?_map]
  by_cases hi : i < xs.size
  · rw [List.getElem?_range hi, Option.map_some, List.getD_eq_getElem?_getD, List.getElem?_eq_getElem (by simpa using hi)]
    rfl
  · rw [List.getElem?_eq_none (by simp; omega), List.getElem?_eq_none (by simp; omega)]
    rfl
theorem getItem_tuple_back {P : Program} {w : World} {A : Around} {E : Value → Shared → Prop} {s : Shared} {t sl : Addr} {items : Array Value} {vl vu vs : Value} {Q : Value → Shared → Prop} (ht : IsTup s.heap t items) (hs : s.heap.IsSliceOf sl vl vu vs) (pl : IsPart vl none) (pu : IsPart vu none) (ps : IsPart vs (some (-1)))
    (h : Q (.ref s.heap.objs.size) { s with heap := s.heap.push { cls := .type "tuple", data := .seq items.toList.reverse.toArray } }) (hz : items.size ≤ sizeLine) : wpAny (model P w) A (getItem (.ref t) (.ref sl)) Q E s := by
  have hfit : sizeOk (.seq items.toList.reverse.toArray) := by
    show items.toList.reverse.toArray.size ≤ sizeLine
    simpa using hz
  rcases id hs with ⟨os, hos, hcs, hds⟩
  have isSl : s.TypeIs (.ref sl) "slice" := ⟨os, hos, hcs⟩
  unfold getItem; try with_reducible refine wpAny_holding ?_
  try (refine wpAny_bind (wpAny_pure ?_))
  refine wpAny_bind (wpAny_sequenceKey ht.typeIs (by decide) (wpAny_bind (wpAny_callSpecial?_slot (name := Str.ofString "__getitem__") ht.typeIs PyProof.Rows.slot_tuple_getitem (wpAny_call_entry PyProof.Rows.slot_tuple_getitem ht.typeIs entry_tuple_getitem ?_ (args_tuple_getitem _ _)))))
  show wpAny _ _ (Builtin.Tuple.tupleItemsOf (.ref t) >>= fun xs => _) _ _ s
  refine wpAny_bind (tupleItemsOf_ ht (wpAny_bind (wpAny_typeOf isSl ?_))); rw [if_pos (by decide)]
  refine wpAny_bind ?_; unfold Builtin.Slice.sliceApplied Builtin.Slice.sliceFields
  refine wpAny_bind (wpAny_bind (wpAny_field hos hds (x := vl) rfl (wpAny_bind (wpAny_field hos hds (x := vu) rfl (wpAny_bind (wpAny_field hos hds (x := vs) rfl (wpAny_pure ?_))))))); refine wpAny_bind (HT.slicePart_ ps ?_)
  show wpAny _ _ (if ((-1 : Int) == 0) = true then _ else _) _ _ s; rw [if_neg (by decide)]
  refine wpAny_bind (HT.slicePart_ pl (wpAny_bind (HT.slicePart_ pu (wpAny_bind (wpAny_pure (wpAny_pure ?_))))))
  show wpAny _ _ (if (((items.size : Int) - 1) == 0 && (-1 : Int) == 1 && (Builtin.Slice.slicePlaces ((items.size : Int) - 1) (-1) (-1)) == items.size) = true then _ else _) _ _ s
  rw [if_neg (by rw [show ((-1 : Int) == 1) = false from rfl, Bool.and_false, Bool.false_and]; exact Bool.false_ne_true)]
  show wpAny _ _ (Builtin.Tuple.tupleExact ((List.range (Builtin.Slice.slicePlaces ((items.size : Int) - 1) (-1) (-1))).filterMap fun (k : Nat) => items[((items.size : Int) - 1 + (k : Int) * -1).toNat]?).toArray >>= _) _ _ s
  rw [places_back, pick_back]
  exact wpAny_bind (m := Builtin.Tuple.tupleExact _) (wpAny_newObj_type (wpAny_pure ⟨_, rfl, wpAny_pure h⟩) hfit)
section
variable {X : Cx}
/-- t[::-1]: a new tuple -/
def tRevT (K : PySem.W.Frag) (te : TE) : TE := fun σ H Q => te σ H fun x H1 => ∃ a xs, x = .ref a ∧ SqT K H1 a xs ∧ ∀ p, H1 p = none → Q (.ref p) (upd H1 p (.tup xs.reverse))
theorem pe_revT {e : Expr} {te : TE} {k : Nat} {p1 p2 p3 pos : Pos} (he : PE X e te) : PE X (.Subscript e (.Slice none none (some (.UnaryOp .USub (.Constant (.int 1) k p1) p2)) p3) pos) (tRevT X.K te) := by
  refine ⟨fun pins s σ H Q I h => Subscript_ (thn (he.run pins s σ H _ I h) fun v s1 ⟨x, H1, I1, r1, a, xs, ex, hx, q⟩ => ?_)⟩
  subst ex; cases r1
  have hst : PO X (some (.UnaryOp .USub (.Constant (.int 1) k p1) p2)) (tPart (tUn (rU fun i => .int (-i)) (tC (.int 1)))) := po_some (pe_un un_neg pe_int); refine wpAny_Slice (thn (po_none.run pins s1 σ H1 (fun o H2 => o = none ∧ H2 = H1) I1 ⟨rfl, rfl⟩) fun vl s2 ⟨l, H2, I2, pl, el, e2⟩ => ?_)
  subst el e2; refine thn (po_none.run pins s2 σ H2 (fun o H3 => o = none ∧ H3 = H2) I2 ⟨rfl, rfl⟩) fun vu s3 ⟨u, H3, I3, pu, eu, e3⟩ => ?_
  subst eu e3; refine thn (hst.run pins s3 σ H3 (fun o H4 => o = some (-1) ∧ H4 = H3) I3 ⟨1, rfl, -1, rfl, rfl, rfl⟩) fun vs s4 ⟨o, H4, I4, ps, eo, e4⟩ => ?_
  subst eo e4
  have I5 : Inv X pins σ H4 { s4 with heap := s4.heap.push { cls := .type "slice", data := .fields #[vl, vu, vs] } } := I4.kept (t' := s4.toks) fun b ob z => Heap.get?_push_of_some _ z
  obtain ⟨its, r, ht, hz⟩ := I5.tuple hx
  have hlen := r.length
  show wpAny (model X.prog X.w) X.A (subscriptTail e (.Slice none none (some (.UnaryOp .USub (.Constant (.int 1) k p1) p2)) p3) (.ref a) (.ref s4.heap.objs.size)) (EP X pins σ Q) X.xe { s4 with heap := s4.heap.push ⟨.type "slice", none, .fields #[vl, vu, vs], #[]⟩ }
  refine tail_any (ops := [.ref a, .ref s4.heap.objs.size]) ht.typeIs PyProof.Rows.slot_tuple_getitem.lookup ?_ (by with_unfolding_all rfl)
  refine getItem_tuple_back ht (Heap.IsSliceOf.new _ vl vu vs) pl pu ps ?_ (by rw [List.size_toArray]; omega)
  refine ⟨.ref _, _, I5.laid (t' := s4.toks) (o := .tup xs.reverse) (fun b ob z => Heap.get?_push_of_some _ z) (Nat.le_refl _) ?_, rfl, q _ (I5.hok.fresh (Nat.le_refl _))⟩
  exact ⟨by rw [List.length_reverse]; exact hz, _, by simpa using r.reverse, IsTup.new _ _⟩
end
abbrev sPIsInteger : Stmt := topS 2
abbrev nPIsInteger : List Str := ["value"]
theorem scPIsInteger : FnScope nPIsInteger ["value"] (defScope sPIsInteger) := ⟨rfl, rfl, rfl, by decide +kernel, rfl, by decide +kernel, by decide +kernel⟩
abbrev sPBlocksOf : Stmt := topS 4
abbrev nPBlocksOf : List Str := ["statement"]
theorem scPBlocksOf : FnScope nPBlocksOf ["statement"] (defScope sPBlocksOf) := ⟨rfl, rfl, rfl, by decide +kernel, rfl, by decide +kernel, by decide +kernel⟩
abbrev sPEachStatement : Stmt := topS 6
abbrev nPEachStatement : List Str := ["program", "waiting", "place", "depth", "statement", "block", "inner"]
theorem scPEachStatement : GScope nPEachStatement ["program"] (defScope sPEachStatement) := ⟨rfl, rfl, rfl, by decide +kernel, rfl, by decide +kernel, by decide +kernel⟩
abbrev sPPlacesIn : Stmt := topS 7
abbrev nPPlacesIn : List Str := ["block"]
theorem scPPlacesIn : FnScope nPPlacesIn ["block"] (defScope sPPlacesIn) := ⟨rfl, rfl, rfl, by decide +kernel, rfl, by decide +kernel, by decide +kernel⟩
/-! ### the program's walk over statements -/
/-- a row that is handed out: place, depth, statement -/
abbrev Rw := Int × Int × St
def rwD (r : Rw) : PyData := .tuple [.int r.1, .int r.2.1, r.2.2.d]
def prD (x : Int × St) : PyData := .tuple [.int x.1, x.2.d]
mutual
def St.rws : St → Int → Int → List Rw
  | .set z e, d, p => [(p, d, .set z e)]
  | .pay e, d, p => [(p, d, .pay e)]
  | .stop, d, p => [(p, d, .stop)]
  | .ite t y n, d, p => (p, d, .ite t y n) :: (y.rws (d + 1) (p + 1) ++ n.rws (d + 1) (p + 1 + y.sz))
  | .rep k y, d, p => (p, d, .rep k y) :: y.rws (d + 1) (p + 1)
def Bk.rws : Bk → Int → Int → List Rw
  | .nil, _, _ => []
  | .cons s b, d, p => s.rws d p ++ b.rws d (p + s.sz)
end
mutual
theorem St.rws_len : ∀ (s : St) (d p : Int), (s.rws d p).length = s.sz
  | .set _ _, _, _ => rfl
  | .pay _, _, _ => rfl
  | .stop, _, _ => rfl
  | .ite t y n, d, p => by simp only [St.rws, St.sz, List.length_cons, List.length_append, Bk.rws_len y, Bk.rws_len n]; omega
  | .rep k y, d, p => by simp only [St.rws, St.sz, List.length_cons, Bk.rws_len y]; omega
theorem Bk.rws_len : ∀ (b : Bk) (d p : Int), (b.rws d p).length = b.sz
  | .nil, _, _ => rfl
  | .cons s b, d, p => by simp only [Bk.rws, Bk.sz, List.length_append, St.rws_len s, Bk.rws_len b]
end
def stkRws : List (Int × St) → Int → List Rw
  | [], _ => []
  | (d, s) :: r, p => s.rws d p ++ stkRws r (p + s.sz)
def stkSz (l : List (Int × St)) : Nat := (l.map fun x => x.2.sz).sum
theorem stkSz_cons (x : Int × St) (l : List (Int × St)) : stkSz (x :: l) = x.2.sz + stkSz l := rfl
theorem stkSz_append (l m : List (Int × St)) : stkSz (l ++ m) = stkSz l + stkSz m := by unfold stkSz; rw [List.map_append, List.sum_append]
theorem stk_append : ∀ (l m : List (Int × St)) (p : Int), stkRws (l ++ m) p = stkRws l p ++ stkRws m (p + stkSz l)
  | [], m, p => by show stkRws m p = stkRws m (p + 0); rw [Int.add_zero]
  | (d, s) :: l, m, p => by
    show s.rws d p ++ stkRws (l ++ m) (p + s.sz) = (s.rws d p ++ stkRws l (p + s.sz)) ++ _
    rw [stk_append l m, List.append_assoc, stkSz_cons, Int.natCast_add, Int.add_assoc]
theorem stkRws_len : ∀ (l : List (Int × St)) (p : Int), (stkRws l p).length = stkSz l
  | [], _ => rfl
  | (d, s) :: l, p => by
    show (s.rws d p ++ stkRws l (p + s.sz)).length = _
    rw [List.length_append, St.rws_len, stkRws_len l, stkSz_cons]
theorem St.sz_pos (s : St) : 1 ≤ s.sz := by rw [s.sz_blks]; omega
theorem stk_le : ∀ l : List (Int × St), l.length ≤ stkSz l
  | [] => Nat.le_refl _
  | x :: l => by
    rw [List.length_cons, stkSz_cons]
    have := stk_le l
    have := x.2.sz_pos
    omega
def Bk.stk (b : Bk) (d : Int) : List (Int × St) := b.lst.map fun s => (d, s)
theorem stk_bk : ∀ (b : Bk) (d p : Int), stkRws (b.stk d) p = b.rws d p
  | .nil, _, _ => rfl
  | .cons s b, d, p => by
    show s.rws d p ++ stkRws (b.stk d) (p + s.sz) = s.rws d p ++ b.rws d (p + s.sz)
    rw [stk_bk b]
theorem stkSz_bk : ∀ (b : Bk) (d : Int), stkSz (b.stk d) = b.sz
  | .nil, _ => rfl
  | .cons s b, d => by
    show stkSz ((d, s) :: b.stk d) = s.sz + b.sz
    rw [stkSz_cons, stkSz_bk b]
/-- what lies right in a statement -/
def kidsOf (l : List Bk) (d : Int) : List (Int × St) := (l.map fun b => b.stk d).flatten
theorem St.rws_kids (s : St) (d p : Int) : s.rws d p = (p, d, s) :: stkRws (kidsOf s.blks (d + 1)) (p + 1) := by
  cases s with
  | ite t y n =>
    show (p, d, St.ite t y n) :: (y.rws (d + 1) (p + 1) ++ n.rws (d + 1) (p + 1 + y.sz)) = _ :: stkRws (y.stk (d + 1) ++ (n.stk (d + 1) ++ [])) (p + 1)
    rw [List.append_nil, stk_append, stk_bk, stk_bk, stkSz_bk]
  | rep k y =>
    show (p, d, St.rep k y) :: y.rws (d + 1) (p + 1) = _ :: stkRws (y.stk (d + 1) ++ []) (p + 1)
    rw [List.append_nil, stk_bk]
  | _ => rfl
theorem kidsSz : ∀ (l : List Bk) (d : Int), stkSz (kidsOf l d) = (l.map Bk.sz).sum
  | [], _ => rfl
  | b :: l, d => by
    show stkSz (b.stk d ++ kidsOf l d) = b.sz + (l.map Bk.sz).sum
    rw [stkSz_append, stkSz_bk, kidsSz l]
theorem rev_get {α : Type} {xs : List α} {i : Nat} {x : α} (h : xs.reverse[i]? = some x) : i < xs.length ∧ xs[xs.length - 1 - i]? = some x := by
  have hi : i < xs.length := by
    have := (List.getElem?_eq_some_iff.mp h).1
    simpa using this
  rw [List.getElem?_reverse hi] at h
  exact ⟨hi, h⟩
theorem drop_back {α : Type} {l : List α} {i : Nat} {s : α} (hi : i < l.length) (h : l[l.length - 1 - i]? = some s) : l.drop (l.length - (i + 1)) = s :: l.drop (l.length - i) := by
  obtain ⟨hlt, hge⟩ := List.getElem?_eq_some_iff.mp h
  have e : l.length - (i + 1) = l.length - 1 - i := by omega
  rw [e, List.drop_eq_getElem_cons hlt, hge]
  congr 2
  omega
theorem tpPair {H : Hp} {a : Addr} {i : Int} {x : V} {s : St} (h : H a = some (.tup [.int i, x])) (t : Tp H x s.d) : Tp H (.ref a) (prD (i, s)) := .tup h (.cons (.int i) (.cons t .nil))
theorem passCX0 {X : Cx} : Passes (CX X.prog X.w) X E0 := fun _ _ _ _ _ _ _ c => by
  obtain ⟨_, _, _, _, _, _, _, _, _, _, _, _, z⟩ := c
  exact z.elim
theorem noStop0 {K : PySem.W.Frag} : NoStop K E0 := fun _ _ _ z => z.elim
theorem bk_le (b : Bk) : b.lst.length ≤ b.sz := by
  have h := stk_le (b.stk 0)
  rw [stkSz_bk] at h
  unfold Bk.stk at h
  rwa [List.length_map] at h
theorem Tk.lst {H : Hp} {p : Addr} {ys : List V} {o : HO} (h : H p = some (.lst ys)) : Tk H (upd H p o) := fun b xs e => by
  rw [upd_ne (fun z => by rw [z, h] at e; cases e)]
  exact e
/-- an int that is no bool -/
def isIntV (H : Hp) (v : V) (b : Bool) : Prop := (∃ i, v = .int i ∧ b = true) ∨ (∃ z, v = .str z ∧ b = false) ∨ (∃ a xs, v = .ref a ∧ H a = some (.tup xs) ∧ b = false)
def spIsInt : Sp := fun vs H Q _ => ∃ v b, vs = [v] ∧ isIntV H v b ∧ Q (.bl b) H
def spBlocks : Sp := fun vs H Q _ => ∃ (v : V) (s : St), vs = [v] ∧ Tp H v s.d ∧ ∀ H' v', Sx [] H H' → Tp H' v' (.tuple s.parts) → Q v' H'
def spEach : SpG := fun vs H Q _ => ∃ (v : V) (b : Bk), vs = [v] ∧ Tp H v (.tuple b.ds) ∧ b.sz < 16777216 ∧ ∀ ys H', Sx [] H H' → TpAll H' ys ((b.rws 0 0).map rwD) → Q ys H'
def spPlaces : Sp := fun vs H Q _ => ∃ (v : V) (b : Bk), vs = [v] ∧ Tp H v (.tuple b.ds) ∧ b.sz < 16777216 ∧ ∀ H', Sx [] H H' → Q (.int b.sz) H'
section
variable {w : World} {P : Program} {K : PySem.W.Frag} {mg : Str → Option Value} {base : Heap}
theorem ok_pis_integer {f : Addr} {fd : FuncData} {k : Nat} (F_pis_integer : Fun K "is_integer" "is_integer" sPIsInteger f fd) (z_isinstance : mg "isinstance" = none) (z_int : mg "int" = none) (z_bool : mg "bool" = none) : FnOk P w K mg base CX0 (k + 1) f fd ["value"] spIsInt := by
  refine F_pis_integer.ok scPIsInteger (fun vs H Q E h => ?_) (fun cdv A outer s H vs Q E hr h => ?_)
  · obtain ⟨_, _, rfl, _⟩ := h
    rfl
  · obtain ⟨v, b, rfl, iv, q⟩ := h
    refine ⟨_, (pss_one (ps_ret (pe_and (pe_callB call_isi (by rfl) z_isinstance (by decide +kernel) (pa_cons (pv 0) (pa_cons (pe_bltn (v := .ty "int") (by rfl) z_int (by decide +kernel) rfl) pa_nil))) (pe_one (pe_not (pe_callB call_isi (by rfl) z_isinstance (by decide +kernel) (pa_cons (pv 0) (pa_cons (pe_bltn (v := .ty "bool") (by rfl) z_bool (by decide +kernel) rfl) pa_nil)))))))), ?_⟩
    rcases iv with ⟨i, rfl, rfl⟩ | ⟨z, rfl, rfl⟩ | ⟨a, xs, rfl, ha, rfl⟩
    · exact ⟨_, rfl, _, _, _, _, _, rfl, .ty _, .base (.int i), kit_ty (r := true) (by decide +kernel), _, rfl, iteT ⟨_, rfl, _, _, _, _, _, rfl, .ty _, .base (.int i), kit_ty (r := false) (by decide +kernel), _, rfl, q⟩⟩
    · exact ⟨_, rfl, _, _, _, _, _, rfl, .ty _, .base (.str z), kit_ty (r := false) (by decide +kernel), _, rfl, iteF q⟩
    · exact ⟨_, rfl, _, _, _, _, _, rfl, .ty _, .base (.tup ha), kit_ty (r := false) (by decide +kernel), _, rfl, iteF q⟩
theorem ok_pblocks_of {f : Addr} {fd : FuncData} {k : Nat} (F_pblocks_of : Fun K "blocks_of" "blocks_of" sPBlocksOf f fd) : FnOk P w K mg base CX0 (k + 1) f fd ["statement"] spBlocks := by
  refine F_pblocks_of.ok scPBlocksOf (fun vs H Q E h => ?_) (fun cdv A outer s H vs Q E hr h => ?_)
  · obtain ⟨_, _, rfl, _⟩ := h
    rfl
  · obtain ⟨v, s, rfl, t, q⟩ := h
    refine ⟨_, (pss_cons (ps_if (pt_cmpR op_eq (pe_ix ix_tup (pv 0) pe_int (fun _ _ => rfl)) pe_str (nomark _)) (pss_one (ps_ret (pe_tup (pa_cons (pe_ix ix_tup (pv 0) pe_int (fun _ _ => rfl)) (pa_cons (pe_ix ix_tup (pv 0) pe_int (fun _ _ => rfl)) pa_nil))))) pss_nil)
      (pss_cons (ps_if (pt_cmpR op_eq (pe_ix ix_tup (pv 0) pe_int (fun _ _ => rfl)) pe_str (nomark _)) (pss_one (ps_ret (pe_tup (pa_cons (pe_ix ix_tup (pv 0) pe_int (fun _ _ => rfl)) pa_nil)))) pss_nil)
      (pss_one (ps_ret (pe_tup pa_nil))))), ?_⟩
    cases s with
    | set z e =>
      obtain ⟨a, p, u, y, rfl, ha, t1, _, _⟩ := tp3 t
      obtain rfl := tpS t1
      refine ⟨_, rfl, a, _, _, _, rfl, rfl, SqT.of ha, rfl, rfl, _, rfl, iteN (by decide +kernel) ⟨_, rfl, a, _, _, _, rfl, rfl, SqT.of ha, rfl, rfl, _, rfl, iteN (by decide +kernel) ⟨by show 0 ≤ sizeLine; decide, fun p' hp' => ?_⟩⟩⟩
      exact q _ _ (Sx.n0 hp') (.tup upd_same .nil)
    | pay e =>
      obtain ⟨a, p, u, rfl, ha, t1, _⟩ := tp2 t
      obtain rfl := tpS t1
      refine ⟨_, rfl, a, _, _, _, rfl, rfl, SqT.of ha, rfl, rfl, _, rfl, iteN (by decide +kernel) ⟨_, rfl, a, _, _, _, rfl, rfl, SqT.of ha, rfl, rfl, _, rfl, iteN (by decide +kernel) ⟨by show 0 ≤ sizeLine; decide, fun p' hp' => ?_⟩⟩⟩
      exact q _ _ (Sx.n0 hp') (.tup upd_same .nil)
    | stop =>
      obtain ⟨a, p, rfl, ha, t1⟩ := tp1 t
      obtain rfl := tpS t1
      refine ⟨_, rfl, a, _, _, _, rfl, rfl, SqT.of ha, rfl, rfl, _, rfl, iteN (by decide +kernel) ⟨_, rfl, a, _, _, _, rfl, rfl, SqT.of ha, rfl, rfl, _, rfl, iteN (by decide +kernel) ⟨by show 0 ≤ sizeLine; decide, fun p' hp' => ?_⟩⟩⟩
      exact q _ _ (Sx.n0 hp') (.tup upd_same .nil)
    | ite ts y n =>
      obtain ⟨a, p, u, y', n', rfl, ha, t1, _, t3, t4⟩ := tp4 t
      obtain rfl := tpS t1
      refine ⟨_, rfl, a, _, _, _, rfl, rfl, SqT.of ha, rfl, rfl, _, rfl, iteP (by decide +kernel) ⟨_, rfl, a, _, _, y', rfl, rfl, SqT.of ha, rfl, _, rfl, a, _, _, n', rfl, rfl, SqT.of ha, rfl, by show 2 ≤ sizeLine; decide, fun p' hp' => ?_⟩⟩
      exact q _ _ (Sx.n0 hp') (.tup upd_same (.cons (t3.new hp') (.cons (t4.new hp') .nil)))
    | rep k y =>
      obtain ⟨a, p, u, y', rfl, ha, t1, _, t3⟩ := tp3 t
      obtain rfl := tpS t1
      refine ⟨_, rfl, a, _, _, _, rfl, rfl, SqT.of ha, rfl, rfl, _, rfl, iteN (by decide +kernel) ⟨_, rfl, a, _, _, _, rfl, rfl, SqT.of ha, rfl, rfl, _, rfl, iteP (by decide +kernel) ⟨_, rfl, a, _, _, y', rfl, rfl, SqT.of ha, rfl, by show 1 ≤ sizeLine; decide, fun p' hp' => ?_⟩⟩⟩
      exact q _ _ (Sx.n0 hp') (.tup upd_same (.cons (t3.new hp') .nil))
end
/-- the pieces on a stack, the top first -/
def Stk (H : Hp) (L : Addr) (ws : List (Int × St)) : Prop := ∃ vals : List V, H L = some (.lst vals.reverse) ∧ TpAll H vals (ws.map prD)
theorem Stk.keep {H H' : Hp} {L : Addr} {ws : List (Int × St)} (h : Stk H L ws) (s : Sx [] H H') : Stk H' L ws := by
  obtain ⟨vals, h1, h2⟩ := h
  exact ⟨vals, s _ _ (by simp) h1, h2.keep s.tk0⟩
theorem Stk.push {H : Hp} {L : Addr} {ws : List (Int × St)} {x : V} {y : Int × St} (h : Stk H L ws) (t : Tp H x (prD y)) : ∃ acc, H L = some (.lst acc) ∧ acc.length = ws.length ∧ Stk (upd H L (.lst (acc ++ [x]))) L (y :: ws) := by
  obtain ⟨vals, h1, h2⟩ := h
  have e := h2.len
  rw [List.length_map] at e
  refine ⟨_, h1, by rw [List.length_reverse, e], x :: vals, by rw [upd_same, List.reverse_cons], ?_⟩
  exact .cons (t.keep (Tk.lst h1)) (h2.keep (Tk.lst h1))
theorem Stk.pop {H : Hp} {L : Addr} {ws : List (Int × St)} {y : Int × St} (h : Stk H L (y :: ws)) : ∃ (acc : List V) (a : Addr) (x : V), H L = some (.lst acc) ∧ acc[acc.length - 1]? = some (.ref a) ∧ H a = some (.tup [.int y.1, x]) ∧ Tp H x y.2.d ∧ Stk (upd H L (.lst acc.dropLast)) L ws ∧ acc.length = ws.length + 1 := by
  obtain ⟨vals, h1, h2⟩ := h
  cases h2 with
  | cons h3 h4 =>
    rename_i v vs
    obtain ⟨a, xs, rfl, ha, hx⟩ := h3.tuple
    cases hx with | cons h5 hx => cases hx with | cons h6 hx => cases hx with | nil =>
    obtain rfl := tpI h5
    have e := h4.len
    rw [List.length_map] at e
    refine ⟨_, a, _, h1, ?_, ha, h6, ⟨vs, by rw [upd_same, List.reverse_cons, List.dropLast_concat], h4.keep (Tk.lst h1)⟩, by rw [List.length_reverse, List.length_cons, e]⟩
    rw [List.reverse_cons, List.length_append]
    simp
theorem Stk.nil_ {H : Hp} {L : Addr} (h : Stk H L []) : H L = some (.lst []) := by
  obtain ⟨vals, h1, h2⟩ := h
  cases h2
  exact h1
section
variable {w : World} {P : Program} {K : PySem.W.Frag} {mg : Str → Option Value} {base : Heap}
theorem ok_peach {f fB : Addr} {fd fdB : FuncData} (F_peach_statement : Fun K "each_statement" "each_statement" sPEachStatement f fd) (F_pblocks_of : Fun K "blocks_of" "blocks_of" sPBlocksOf fB fdB) (G_pblocks_of : FnOk P w K mg base CX0 1 fB fdB ["statement"] spBlocks)
    (b_pblocks_of : Binds K fdB ["statement"] []) (m_pblocks_of : mg "blocks_of" = some (.ref fB)) : GFn P w K mg base 2 f fd ["program"] spEach := by
  obtain ⟨oc, od, kV, doc, pm, an, cdv, ct, osl, rfl, lk, hcd⟩ := F_peach_statement.ex
  refine gfn_of lk hcd scPEachStatement (fun vs H Q E h => ?_) (fun A outer s H vs Q E pn hr h => ?_)
  · obtain ⟨_, _, rfl, _⟩ := h
    rfl
  · obtain ⟨v, b, rfl, t, hz, q⟩ := h
    refine ⟨_, (gss_cons (gs_ps (ps_setLc (i := 1) (own := [("statement", 4)]) (g := gName 4) (tt := tYes) rfl scPEachStatement.nd rfl rfl (sw_true rfl rfl rfl (by decide +kernel)) (pi_tup (pe_revT (pv 0))) (blkOk_by (N := nPEachStatement) (sc := defScope sPEachStatement) (by decide +kernel)) (fun _ _ _ _ _ => (pg_name (i := 4) scPEachStatement.nd rfl (by first | exact Or.inl rfl | exact Or.inr rfl))) (fun _ _ _ _ _ => pts_nil) (fun _ _ _ _ _ => (pe_tup (pa_cons pe_int (pa_cons (pv 4) pa_nil))))))
      (gss_cons (gs_ps (ps_set (i := 2) scPEachStatement.nd rfl (by first | exact Or.inl rfl | exact Or.inr rfl) pe_int))
      (gss_cons (gs_while owns_gcx (pt_truth (pv 1) (fun _ => rfl)) (gss_cons (gs_ps (ps_asg (pe_bm0 PySem.F.plainAttrs_list PySem.F.slot_list_pop PySem.F.type_list_pop mt_pop (pv 1)) (pg_tup rfl (pgs_cons (pg_name (i := 3) scPEachStatement.nd rfl (by first | exact Or.inl rfl | exact Or.inr rfl)) (pgs_cons (pg_name (i := 4) scPEachStatement.nd rfl (by first | exact Or.inl rfl | exact Or.inr rfl)) pgs_nil)))))
      (gss_cons (gs_yield (pe_tup (pa_cons (pv 2) (pa_cons (pv 3) (pa_cons (pv 4) pa_nil)))))
      (gss_pss (pss_cons (ps_aug (i := 2) scPEachStatement.nd rfl (.inl rfl) pe_int ip_add)
      (pss_one (ps_for owns_gcx rfl (pi_tup (pe_revT (pe_call G_pblocks_of (hr.mono (by omega)) (by rfl) m_pblocks_of F_pblocks_of.kp b_pblocks_of .nil pass0 (pa_cons (pv 4) pa_nil)))) (pg_name (i := 5) scPEachStatement.nd rfl (by first | exact Or.inl rfl | exact Or.inr rfl)) (pss_one (ps_for owns_gcx rfl (pi_tup (pe_revT (pv 5))) (pg_name (i := 6) scPEachStatement.nd rfl (by first | exact Or.inl rfl | exact Or.inr rfl)) (pss_one (ps_expr (pe_bm PySem.F.plainAttrs_list PySem.F.slot_list_append PySem.F.type_list_append mt_append (pv 1) (pa_cons (pe_tup (pa_cons (pe_op op_add (pv 3) pe_int) (pa_cons (pv 6) pa_nil))) pa_nil)))))))))))))
      gss_nil))), ?_⟩
    obtain ⟨a, xs, rfl, ha, hx⟩ := t.tuple
    rw [b.ds_lst] at hx
    obtain ⟨hl, hg⟩ := hx.lst
    -- the first stack
    refine ⟨_, rfl, a, xs, rfl, SqT.of ha, fun p hp => ⟨p, rfl, ⟨_, SqT.of upd_same⟩, fun D hD => lc_tup (xs := xs.reverse)
      (fun i H1 => Sx [] H H1 ∧ H1 p = some (.tup xs.reverse) ∧ Stk H1 D ((b.lst.drop (b.lst.length - i)).map fun s => (0, s)))
      ⟨(Sx.n0 hp).trans (Sx.n0 hD), by rw [upd_ne (ne_of_none upd_same hD)]; exact upd_same, [], upd_same, by rw [Nat.sub_zero, List.drop_length]; exact .nil⟩ (fun i H1 _ z => SqT.of z.2.1) (fun i x H1 hi z => ?_) (fun H1 z => ?_)⟩⟩
    · obtain ⟨s1, hp1, hv⟩ := z
      obtain ⟨hi1, hi2⟩ := rev_get hi
      rw [hl] at hi1 hi2
      obtain ⟨st, hst, tst⟩ := hg _ x hi2
      refine ⟨rfl, ?_⟩
      refine ⟨_, rfl, by show 2 ≤ sizeLine; decide, fun u hu => ?_⟩
      have hDn : H D = none := by
        cases e : H D with
        | none => rfl
        | some o => have := Sx.n0 (o := .tup xs.reverse) hp D o (by simp) e; rw [hD] at this; cases this
      have bl := bk_le b
      obtain ⟨acc, e1, e2, e3⟩ := (hv.keep (Sx.n0 hu)).push (x := .ref u) (y := (0, st)) (tpPair upd_same ((tst.keep s1.tk0).new hu))
      have npD : p ≠ D := ne_of_none upd_same hD
      refine ⟨acc, e1, lt_line (by rw [e2, List.length_map, List.length_drop]; omega), (s1.new hu).own hDn, ?_, ?_⟩
      · rw [upd_ne npD]; exact Sx.n0 hu _ _ (by simp) hp1
      · rw [drop_back hi1 hst]; exact e3
    · obtain ⟨s1, _, hv⟩ := z
      have hDn : H D = none := by
        cases e : H D with
        | none => rfl
        | some o => have := Sx.n0 (o := .tup xs.reverse) hp D o (by simp) e; rw [hD] at this; cases this
      rw [List.length_reverse, hl, Nat.sub_self, List.drop_zero] at hv
      refine ⟨fun m ys σ H' => ∃ (ws : List (Int × St)) (dn : List Rw) (o3 o4 o5 o6 : Option V), σ = [some (.ref a), some (.ref D), some (.int dn.length), o3, o4, o5, o6] ∧ Sx [] H H' ∧ Stk H' D ws ∧ TpAll H' ys (dn.map rwD) ∧ dn ++ stkRws ws dn.length = b.rws 0 0 ∧ m = stkSz ws,
        ⟨_, b.stk 0, [], _, _, _, _, rfl, s1, hv, .nil, stk_bk b 0 0, rfl⟩, ?_⟩
      rintro m ys σ H' ⟨ws, dn, o3, o4, o5, o6, rfl, s2, hs, hy, hrows, rfl⟩
      have total := congrArg List.length hrows
      rw [List.length_append, stkRws_len, Bk.rws_len] at total
      cases ws with
      | nil =>
        refine ⟨_, rfl, false, .inl ⟨_, SqL.of hs.nil_, rfl⟩, iteF ?_⟩
        rw [show stkRws [] (dn.length : Int) = [] from rfl, List.append_nil] at hrows
        exact q ys H' s2 (by rw [← hrows]; exact hy)
      | cons y ws =>
        obtain ⟨d, st⟩ := y
        obtain ⟨acc, c, x, e1, e2, e3, e4, e5, e6⟩ := hs.pop
        have ylen := hy.len
        rw [List.length_map] at ylen
        rw [stkSz_cons] at total
        have stp := st.sz_pos
        have wle := stk_le ws
        refine ⟨_, rfl, true, .inl ⟨_, SqL.of e1, ?_⟩, iteT ⟨fun ys' σ' H2 => ∃ m', m' < stkSz ((d, st) :: ws) ∧ ∃ (ws' : List (Int × St)) (dn : List Rw) (o3 o4 o5 o6 : Option V), σ' = [some (.ref a), some (.ref D), some (.int dn.length), o3, o4, o5, o6] ∧ Sx [] H H2 ∧ Stk H2 D ws' ∧ TpAll H2 ys' (dn.map rwD) ∧ dn ++ stkRws ws' dn.length = b.rws 0 0 ∧ m' = stkSz ws', fun _ _ _ z => z, ?_⟩⟩
        · cases acc with
          | nil => simp at e6
          | cons _ _ => rfl
        -- the top is taken
        refine ⟨_, rfl, .inl ⟨rfl, _, SqL.of e1⟩, D, _, _, rfl, rfl, e1, e2, ?_⟩
        have Dc : c ≠ D := fun z => by rw [z, e1] at e3; cases e3
        have k1 : Tk H' (upd H' D (.lst acc.dropLast)) := Tk.lst e1
        refine gh (H1 := upd H' D (.lst acc.dropLast)) (F := fun H2 => Sx [] H H2 ∧ Tk H' H2 ∧ Stk H2 D ws) ⟨s2.own hDn, k1, e5⟩ (fun H2 ⟨s3, k1, e5⟩ => ?_)
        refine ⟨c, _, rfl, SqT.of (k1 _ _ e3), rfl, _, _, rfl, gnm ⟨_, _, rfl, gnm ⟨rfl, ?_⟩⟩⟩
        -- it is handed out
        refine ⟨lt_line (by omega), _, rfl, _, rfl, _, rfl, by show 3 ≤ sizeLine; decide, fun u hu => ?_⟩
        have hy2 : TpAll (upd H2 u (.tup [.int dn.length, .int d, x])) (ys ++ [.ref u]) ((dn ++ [((dn.length : Int), d, st)]).map rwD) := by
          rw [List.map_append]
          exact ((hy.keep k1).new hu).append (.cons (.tup upd_same (.cons (.int _) (.cons (.int _) (.cons ((e4.keep k1).new hu) .nil)))) .nil)
        refine gh (H1 := upd H2 u _) (F := fun H3 => Sx [] H H3 ∧ Stk H3 D ws ∧ Tp H3 x st.d ∧ TpAll H3 (ys ++ [.ref u]) ((dn ++ [((dn.length : Int), d, st)]).map rwD)) ⟨s3.new hu, e5.keep (Sx.n0 hu), (e4.keep k1).new hu, hy2⟩ (fun H3 ⟨s4, e7, e8, hy3⟩ => ?_)
        -- what lies in it
        refine Exists.intro _ ⟨rfl, _, _, rfl, rfl, ?_⟩
        refine ⟨_, rfl, x, st, rfl, e8, fun H4 v4 s5 t4 => ?_⟩
        obtain ⟨a4, xs4, rfl, ha4, hx4⟩ := t4.tuple
        rw [st.parts_blks] at hx4
        obtain ⟨hl4, hg4⟩ := hx4.lst
        have okk : dn ++ [((dn.length : Int), d, st)] ++ stkRws (kidsOf st.blks (d + 1) ++ ws) (dn.length + 1) = b.rws 0 0 := by
          rw [← hrows, stk_append, kidsSz, List.append_assoc]
          show dn ++ ((↑dn.length, d, st) :: (stkRws (kidsOf st.blks (d + 1)) (↑dn.length + 1) ++ stkRws ws _)) = dn ++ (st.rws d dn.length ++ stkRws ws (dn.length + st.sz))
          rw [st.rws_kids, st.sz_blks, List.cons_append]
          congr 4
          omega
        have blk2 : st.blks.length ≤ 2 := by cases st <;> simp [St.blks]
        refine ⟨a4, xs4, rfl, SqT.of ha4, fun p4 hp4 => ⟨p4, rfl, ⟨_, SqT.of upd_same⟩, for_tup (xs := xs4.reverse)
          (fun i σ H5 => ∃ o5 o6, σ = [some (.ref a), some (.ref D), some (.int (dn.length + 1)), some (.int d), some x, o5, o6] ∧ Sx [] H H5 ∧ H5 p4 = some (.tup xs4.reverse) ∧ Tk H4 H5 ∧ Stk H5 D (kidsOf (st.blks.drop (st.blks.length - i)) (d + 1) ++ ws) ∧ TpAll H5 (ys ++ [.ref u]) ((dn ++ [((dn.length : Int), d, st)]).map rwD))
          ⟨_, _, rfl, (s4.trans s5).new hp4, upd_same, (Sx.n0 hp4).tk0, by rw [Nat.sub_zero, List.drop_length]; exact (e7.keep s5).keep (Sx.n0 hp4), (hy3.keep s5.tk0).new hp4⟩ (fun i σ H5 _ z => by obtain ⟨_, _, _, _, z, _⟩ := z; exact SqT.of z) (fun i y σ H5 hi z => ?_) (fun σ H5 z => ?_)⟩⟩
        · obtain ⟨o5, o6, rfl, s6, hp5, k5, hs5, hy5⟩ := z
          obtain ⟨hi1, hi2⟩ := rev_get hi
          rw [hl4] at hi1 hi2
          obtain ⟨bk, hbk, tbk⟩ := hg4 _ y hi2
          have hmem : bk ∈ st.blks := List.mem_of_getElem? hbk
          refine gnm ?_
          obtain ⟨a6, xs6, rfl, ha6, hx6⟩ := (tbk.keep k5).tuple
          rw [bk.ds_lst] at hx6
          obtain ⟨hl6, hg6⟩ := hx6.lst
          rw [drop_back hi1 hbk]
          have szb : bk.sz ≤ st.sz := by
            rw [st.sz_blks]
            have := sum_mem (List.mem_map_of_mem (f := Bk.sz) hmem)
            omega
          have bl := bk_le bk
          have kl : (kidsOf (st.blks.drop (st.blks.length - i)) (d + 1)).length + bk.sz ≤ st.sz := by
            have h1 := stk_le (kidsOf (st.blks.drop (st.blks.length - i)) (d + 1))
            have h2 : ∀ (l : List Bk) (n : Nat), ((l.drop n).map Bk.sz).sum ≤ (l.map Bk.sz).sum := fun l n => by
              have e := congrArg (fun l => (l.map Bk.sz).sum) (List.take_append_drop n l)
              simp only [List.map_append, List.sum_append] at e
              omega
            have h3 := h2 st.blks (st.blks.length - (i + 1))
            rw [drop_back hi1 hbk, List.map_cons, List.sum_cons] at h3
            rw [kidsSz] at h1
            rw [st.sz_blks]
            omega
          have total' : dn.length + (st.sz + stkSz ws) = b.sz := total
          refine ⟨_, rfl, a6, xs6, rfl, SqT.of ha6, fun p6 hp6 => ⟨p6, rfl, ⟨_, SqT.of upd_same⟩, for_tup (xs := xs6.reverse)
            (fun j σ H6 => ∃ o6, σ = [some (.ref a), some (.ref D), some (.int (dn.length + 1)), some (.int d), some x, some (.ref a6), o6] ∧ Sx [] H H6 ∧ H6 p4 = some (.tup xs4.reverse) ∧ H6 p6 = some (.tup xs6.reverse) ∧ Tk H5 H6 ∧ Stk H6 D ((bk.lst.drop (bk.lst.length - j)).map (fun s => (d + 1, s)) ++ (kidsOf (st.blks.drop (st.blks.length - i)) (d + 1) ++ ws)) ∧ TpAll H6 (ys ++ [.ref u]) ((dn ++ [((dn.length : Int), d, st)]).map rwD))
            ⟨_, rfl, s6.new hp6, Sx.n0 hp6 _ _ (by simp) hp5, upd_same, (Sx.n0 hp6).tk0, by rw [Nat.sub_zero, List.drop_length]; exact hs5.keep (Sx.n0 hp6), hy5.new hp6⟩ (fun j σ H6 _ z => by obtain ⟨_, _, _, _, z, _⟩ := z; exact SqT.of z) (fun j y2 σ H6 hj z => ?_) (fun σ H6 z => ?_)⟩⟩
          · obtain ⟨o6, rfl, s7, hp6a, hp6b, k6, hs6, hy6⟩ := z
            obtain ⟨hj1, hj2⟩ := rev_get hj
            rw [hl6] at hj1 hj2
            obtain ⟨st2, hst2, tst2⟩ := hg6 _ y2 hj2
            refine gnm ?_
            obtain ⟨L6, hL6, _⟩ := id hs6
            refine ⟨_, rfl, .inl ⟨rfl, _, SqL.of hL6⟩, _, rfl, d, 1, rfl, rfl, _, rfl, by show 2 ≤ sizeLine; decide, fun u2 hu2 => ?_⟩
            obtain ⟨acc2, g1, g2, g3⟩ := (hs6.keep (Sx.n0 hu2)).push (x := .ref u2) (y := (d + 1, st2)) (tpPair upd_same ((tst2.keep k6).new hu2))
            refine ⟨D, _, _, rfl, rfl, g1, lt_line (by rw [g2, List.length_append, List.length_map, List.length_drop, List.length_append]; omega), ?_⟩
            refine ⟨_, rfl, (s7.new hu2).own hDn, ?_, ?_, (k6.trans (Sx.n0 hu2).tk0).trans (Tk.lst g1), ?_, (hy6.new hu2).keep (Tk.lst g1)⟩
            · exact ((Sx.n0 hu2).tk0.trans (Tk.lst g1)) _ _ hp6a
            · exact ((Sx.n0 hu2).tk0.trans (Tk.lst g1)) _ _ hp6b
            · rw [drop_back hj1 hst2]; exact g3
          · obtain ⟨o6, rfl, s7, hp6a, hp6b, k6, hs6, hy6⟩ := z
            rw [List.length_reverse, hl6, Nat.sub_self, List.drop_zero] at hs6
            refine ⟨_, _, rfl, s7, hp6a, k5.trans k6, ?_, hy6⟩
            show Stk H6 D ((bk.stk (d + 1) ++ kidsOf (st.blks.drop (st.blks.length - i)) (d + 1)) ++ ws)
            rw [List.append_assoc]
            exact hs6
        · obtain ⟨o5, o6, rfl, s6, hp5, k5, hs5, hy5⟩ := z
          rw [List.length_reverse, hl4, Nat.sub_self, List.drop_zero] at hs5
          have e9 : ((dn ++ [((dn.length : Int), d, st)]).length : Int) = dn.length + 1 := by simp
          refine ⟨_, ?_, kidsOf st.blks (d + 1) ++ ws, dn ++ [((dn.length : Int), d, st)], _, _, _, _, by rw [e9], s6, hs5, hy5, by rw [e9]; exact okk, rfl⟩
          rw [stkSz_append, kidsSz, stkSz_cons, st.sz_blks]
          omega
theorem ok_pplaces {f fE : Addr} {fd fdE : FuncData} (F_pplaces_in : Fun K "places_in" "places_in" sPPlacesIn f fd) (F_peach_statement : Fun K "each_statement" "each_statement" sPEachStatement fE fdE) (G_peach_statement : GFn P w K mg base 2 fE fdE ["program"] spEach)
    (b_peach_statement : Binds K fdE ["program"] []) (m_peach_statement : mg "each_statement" = some (.ref fE)) (z_len : mg "len" = none) (z_list : mg "list" = none) : FnOk P w K mg base CX0 6 f fd ["block"] spPlaces := by
  refine F_pplaces_in.ok scPPlacesIn (fun vs H Q E h => ?_) (fun cdv A outer s H vs Q E hr h => ?_)
  · obtain ⟨_, _, rfl, _⟩ := h
    rfl
  · obtain ⟨v, b, rfl, t, hz, q⟩ := h
    have hr2 := hr.mono (show 2 ≤ 5 by omega)
    refine ⟨_, (pss_one (ps_ret (pe_callB call_len_seq (by rfl) z_len boot_len (pa_cons (pe_listG (pgen_call G_peach_statement hr2 (by rfl) m_peach_statement F_peach_statement.kp b_peach_statement .nil (pa_cons (pv 0) pa_nil)) passCX0 noStop0 hr (by rfl) z_list (by decide +kernel)) pa_nil)))), ?_⟩
    refine ⟨_, rfl, v, b, rfl, t, hz, fun ys H' s1 hy => fun p hp => ?_⟩
    refine ⟨p, _, rfl, .inl (SqL.of upd_same), ?_⟩
    rw [hy.len, List.length_map, Bk.rws_len]
    exact q _ (s1.new hp)
end
abbrev sPNumbered : Stmt := topS 11
abbrev nPNumbered : List Str := ["block", "place", "rows", "statement"]
theorem scPNumbered : FnScope nPNumbered ["block", "place"] (defScope sPNumbered) := ⟨rfl, rfl, rfl, by decide +kernel, rfl, by decide +kernel, by decide +kernel⟩
abbrev sPEntered : Stmt := topS 12
abbrev nPEntered : List Str := ["statement", "place", "names"]
theorem scPEntered : FnScope nPEntered ["statement", "place", "names"] (defScope sPEntered) := ⟨rfl, rfl, rfl, by decide +kernel, rfl, by decide +kernel, by decide +kernel⟩
abbrev sPValueOf : Stmt := topS 13
abbrev nPValueOf : List Str := ["expression", "names"]
theorem scPValueOf : FnScope nPValueOf ["expression", "names"] (defScope sPValueOf) := ⟨rfl, rfl, rfl, by decide +kernel, rfl, by decide +kernel, by decide +kernel⟩
abbrev sPIsTrue : Stmt := topS 14
abbrev nPIsTrue : List Str := ["test", "names"]
theorem scPIsTrue : FnScope nPIsTrue ["test", "names"] (defScope sPIsTrue) := ⟨rfl, rfl, rfl, by decide +kernel, rfl, by decide +kernel, by decide +kernel⟩
theorem Ex.isIntV {H : Hp} {v : V} {e : Ex} (t : Tp H v e.d) : GA.isIntV H v (match e with | .int _ => true | _ => false) := by
  cases e with
  | int i => exact .inl ⟨i, tpI t, rfl⟩
  | name z => exact .inr (.inl ⟨z, tpS t, rfl⟩)
  | plus x y => obtain ⟨a, p, q, r, rfl, ha, _⟩ := tp3 t; exact .inr (.inr ⟨a, _, rfl, ha, rfl⟩)
  | minus x y => obtain ⟨a, p, q, r, rfl, ha, _⟩ := tp3 t; exact .inr (.inr ⟨a, _, rfl, ha, rfl⟩)
  | times f x => obtain ⟨a, p, q, r, rfl, ha, _⟩ := tp3 t; exact .inr (.inr ⟨a, _, rfl, ha, rfl⟩)
theorem mod_is {x b r : Int} (h0 : 0 ≤ r) (h1 : r < b) : (x % b = r) ↔ ((x - r) % b = 0) := by
  constructor
  · intro h
    rw [Int.sub_emod, h, Int.emod_eq_of_lt h0 h1, Int.sub_self, Int.zero_emod]
  · intro h
    obtain ⟨k, hk⟩ := Int.dvd_of_emod_eq_zero h
    have e : x = r + b * k := by omega
    rw [e, Int.add_mul_emod_self_left, Int.emod_eq_of_lt h0 h1]
/-- places and statements of a block -/
def Bk.nums : Bk → Int → List (Int × St)
  | .nil, _ => []
  | .cons s b, p => (p, s) :: b.nums (p + s.sz)
def St.ent (ρ : Str → Int) : St → Int → List (Int × St)
  | .ite t y n, p => if t.ev ρ = true then y.nums (p + 1) else n.nums (p + 1 + y.sz)
  | .rep k y, p => (List.replicate k.toNat (y.nums (p + 1))).flatten
  | _, _ => []
def spNumbered : Sp := fun vs H Q _ => ∃ (v : V) (b : Bk) (p : Int), vs = [v, .int p] ∧ Tp H v (.tuple b.ds) ∧ b.sz < 16777216 ∧ ∀ H' l ys, Sx [] H H' → H l = none → H' l = some (.lst ys) → TpAll H' ys ((b.nums p).map prD) → Q (.ref l) H'
def spEntered (ns : List Str) : Sp := fun vs H Q _ => ∃ (v : V) (s : St) (p : Int) (N : Addr) (ρ : Str → Int) (d : Nat), vs = [v, .int p, .ref N] ∧ Tp H v s.d ∧ s.ok ns d ∧ s.sz < 16777216 ∧ s.wt ≤ 1000000 ∧ En H N ρ ∧ ((∃ t y n, s = .ite t y n) ∨ ∃ k y, s = .rep k y) ∧
  ∀ H' l ys, Sx [] H H' → H l = none → H' l = some (.lst ys) → TpAll H' ys ((s.ent ρ p).map prD) → Q (.ref l) H'
theorem nums_len : ∀ (b : Bk) (p : Int), (b.nums p).length = b.lst.length
  | .nil, _ => rfl
  | .cons s b, p => by
    show (b.nums (p + s.sz)).length + 1 = b.lst.length + 1
    rw [nums_len b]
theorem TpAll.flat {H : Hp} {ys : List V} {ds : List PyData} (h : TpAll H ys ds) : ∀ n : Nat, TpAll H (List.replicate n ys).flatten (List.replicate n ds).flatten
  | 0 => .nil
  | n + 1 => by
    simp only [List.replicate_succ, List.flatten_cons]
    exact h.append (TpAll.flat h n)
theorem map_flat {α β : Type} (f : α → β) (n : Nat) (l : List α) : (List.replicate n l).flatten.map f = (List.replicate n (l.map f)).flatten := by
  induction n with
  | zero => rfl
  | succ n ih => rw [List.replicate_succ, List.replicate_succ, List.flatten_cons, List.flatten_cons, List.map_append, ih]
theorem flat_len {α : Type} (n : Nat) (l : List α) : (List.replicate n l).flatten.length = n * l.length := by
  induction n with
  | zero => simp
  | succ n ih => rw [List.replicate_succ, List.flatten_cons, List.length_append, ih, Nat.succ_mul, Nat.add_comm]
mutual
theorem St.sz_wt {ns : List Str} : ∀ {s : St} {d : Nat}, s.ok ns d → s.sz ≤ s.wt
  | .set _ _, _, _ => Nat.le_refl _
  | .pay _, _, _ => Nat.le_refl _
  | .stop, _, _ => Nat.le_refl _
  | .ite t y n, d, ⟨h1, h2, h3⟩ => by
    have a := Bk.sz_wt h2
    have b := Bk.sz_wt h3
    simp only [St.sz, St.wt]
    omega
  | .rep k y, d, ⟨h1, h2, h3⟩ => by
    have a := Bk.sz_wt h3
    simp only [St.sz, St.wt]
    have := Nat.le_mul_of_pos_left y.wt (show 0 < k.toNat by omega)
    omega
theorem Bk.sz_wt {ns : List Str} : ∀ {b : Bk} {d : Nat}, b.ok ns d → b.sz ≤ b.wt
  | .nil, _, _ => Nat.le_refl _
  | .cons s b, d, ⟨h1, h2, h3⟩ => by
    have a := St.sz_wt h2
    have c := Bk.sz_wt h3
    simp only [Bk.sz, Bk.wt]
    omega
end
section
variable {w : World} {P : Program} {K : PySem.W.Frag} {mg : Str → Option Value} {base : Heap}
theorem ok_pvalue {f fI : Addr} {fd fdI : FuncData} {ns : List Str} (F_pvalue_of : Fun K "value_of" "value_of" sPValueOf f fd) (F_pis_integer : Fun K "is_integer" "is_integer" sPIsInteger fI fdI) (G_pis_integer : FnOk P w K mg base CX0 1 fI fdI ["value"] spIsInt)
    (b_pvalue_of : Binds K fd ["expression", "names"] []) (b_pis_integer : Binds K fdI ["value"] []) (m_pvalue_of : mg "value_of" = some (.ref f)) (m_pis_integer : mg "is_integer" = some (.ref fI)) (z_isinstance : mg "isinstance" = none) (z_str : mg "str" = none) :
    ∀ d : Nat, FnOk P w K mg base CX0 (d + 2) f fd ["expression", "names"] (spValue ns d) := by
  intro d
  induction d with
  | zero => exact ⟨fun vs H Q E h => by obtain ⟨_, _, _, _, rfl, _⟩ := h; rfl, fun _ _ _ _ _ _ _ _ _ _ _ _ _ h => by
      obtain ⟨_, _, e, _, _, _, h, _⟩ := h
      cases e <;> exact absurd h.1 (by decide)⟩
  | succ d G_pvalue_of =>
    refine F_pvalue_of.ok scPValueOf (fun vs H Q E h => ?_) (fun cdv A outer s H vs Q E hr h => ?_)
    · obtain ⟨_, _, _, _, rfl, _⟩ := h
      rfl
    · obtain ⟨v, N, e, ρ, rfl, t, ho, ⟨kvs, hN, hv⟩, q⟩ := h
      refine ⟨_, (pss_cons (ps_if (pt_val (pe_call G_pis_integer (hr.mono (by omega)) (by rfl) m_pis_integer F_pis_integer.kp b_pis_integer .nil pass0 (pa_cons (pv 0) pa_nil))) (pss_one (ps_ret (pv 0))) pss_nil)
      (pss_cons (ps_if (pt_val (pe_callB call_isi (by rfl) z_isinstance (by decide +kernel) (pa_cons (pv 0) (pa_cons (pe_bltn (v := .ty "str") (by rfl) z_str (by decide +kernel) rfl) pa_nil)))) (pss_one (ps_ret (pe_dget2 (hu_of hr) (pv 1) (pv 0) pe_int ⟨rfl, rfl, rfl, rfl⟩))) pss_nil)
      (pss_cons (ps_if (pt_cmpR op_eq (pe_ix ix_tup (pv 0) pe_int (fun _ _ => rfl)) pe_str (nomark _)) (pss_one (ps_ret (pe_op op_mul (pe_ix ix_tup (pv 0) pe_int (fun _ _ => rfl)) (pe_call G_pvalue_of (hr.mono (by omega)) (by rfl) m_pvalue_of F_pvalue_of.kp b_pvalue_of .nil pass0 (pa_cons (pe_ix ix_tup (pv 0) pe_int (fun _ _ => rfl)) (pa_cons (pv 1) pa_nil)))))) pss_nil)
      (pss_cons (ps_if (pt_cmpR op_eq (pe_ix ix_tup (pv 0) pe_int (fun _ _ => rfl)) pe_str (nomark _)) (pss_one (ps_ret (pe_op op_add (pe_call G_pvalue_of (hr.mono (by omega)) (by rfl) m_pvalue_of F_pvalue_of.kp b_pvalue_of .nil pass0 (pa_cons (pe_ix ix_tup (pv 0) pe_int (fun _ _ => rfl)) (pa_cons (pv 1) pa_nil))) (pe_call G_pvalue_of (hr.mono (by omega)) (by rfl) m_pvalue_of F_pvalue_of.kp b_pvalue_of .nil pass0 (pa_cons (pe_ix ix_tup (pv 0) pe_int (fun _ _ => rfl)) (pa_cons (pv 1) pa_nil)))))) pss_nil)
      (pss_one (ps_ret (pe_op op_sub (pe_call G_pvalue_of (hr.mono (by omega)) (by rfl) m_pvalue_of F_pvalue_of.kp b_pvalue_of .nil pass0 (pa_cons (pe_ix ix_tup (pv 0) pe_int (fun _ _ => rfl)) (pa_cons (pv 1) pa_nil))) (pe_call G_pvalue_of (hr.mono (by omega)) (by rfl) m_pvalue_of F_pvalue_of.kp b_pvalue_of .nil pass0 (pa_cons (pe_ix ix_tup (pv 0) pe_int (fun _ _ => rfl)) (pa_cons (pv 1) pa_nil)))))))))), ?_⟩
      refine ⟨_, rfl, v, _, rfl, e.isIntV t, ?_⟩
      cases e with
      | int i =>
        obtain rfl := tpI t
        exact ⟨_, rfl, iteT ⟨_, rfl, q⟩⟩
      | name z =>
        obtain rfl := tpS t
        refine ⟨_, rfl, iteF ⟨_, rfl, _, _, _, _, _, rfl, .ty _, .base (.str z), kit_ty (r := true) (by decide +kernel), _, rfl, iteT ⟨_, rfl, N, rfl, .inl ⟨kvs, .inl hN⟩, _, rfl, _, DGet.k (k := .inr z) hN, ?_⟩⟩⟩
        rw [hv z]
        exact q
      | plus x y =>
        obtain ⟨a, p, u, r, rfl, ha, t1, t2, t3⟩ := tp3 t
        obtain rfl := tpS t1
        refine ⟨_, rfl, iteF ⟨_, rfl, _, _, _, _, _, rfl, .ty _, .base (.tup ha), kit_ty (r := false) (by decide +kernel), _, rfl, iteF ?_⟩⟩
        refine ⟨_, rfl, a, _, _, _, rfl, rfl, SqT.of ha, rfl, rfl, _, rfl, iteN (by decide +kernel) ?_⟩
        refine ⟨_, rfl, a, _, _, _, rfl, rfl, SqT.of ha, rfl, rfl, _, rfl, iteP (by decide +kernel) ?_⟩
        refine ⟨_, rfl, a, _, _, u, rfl, rfl, SqT.of ha, rfl, _, rfl, u, N, x, ρ, rfl, t2, ho.2.1, ⟨kvs, hN, hv⟩, ?_⟩
        refine ⟨_, rfl, a, _, _, r, rfl, rfl, SqT.of ha, rfl, _, rfl, r, N, y, ρ, rfl, t3, ho.2.2, ⟨kvs, hN, hv⟩, ?_⟩
        exact ⟨_, _, rfl, rfl, q⟩
      | minus x y =>
        obtain ⟨a, p, u, r, rfl, ha, t1, t2, t3⟩ := tp3 t
        obtain rfl := tpS t1
        refine ⟨_, rfl, iteF ⟨_, rfl, _, _, _, _, _, rfl, .ty _, .base (.tup ha), kit_ty (r := false) (by decide +kernel), _, rfl, iteF ?_⟩⟩
        refine ⟨_, rfl, a, _, _, _, rfl, rfl, SqT.of ha, rfl, rfl, _, rfl, iteN (by decide +kernel) ?_⟩
        refine ⟨_, rfl, a, _, _, _, rfl, rfl, SqT.of ha, rfl, rfl, _, rfl, iteN (by decide +kernel) ?_⟩
        refine ⟨_, rfl, a, _, _, u, rfl, rfl, SqT.of ha, rfl, _, rfl, u, N, x, ρ, rfl, t2, ho.2.1, ⟨kvs, hN, hv⟩, ?_⟩
        refine ⟨_, rfl, a, _, _, r, rfl, rfl, SqT.of ha, rfl, _, rfl, r, N, y, ρ, rfl, t3, ho.2.2, ⟨kvs, hN, hv⟩, ?_⟩
        exact ⟨_, _, rfl, rfl, q⟩
      | times f x =>
        obtain ⟨a, p, u, r, rfl, ha, t1, t2, t3⟩ := tp3 t
        obtain rfl := tpS t1
        obtain rfl := tpI t2
        refine ⟨_, rfl, iteF ⟨_, rfl, _, _, _, _, _, rfl, .ty _, .base (.tup ha), kit_ty (r := false) (by decide +kernel), _, rfl, iteF ?_⟩⟩
        refine ⟨_, rfl, a, _, _, _, rfl, rfl, SqT.of ha, rfl, rfl, _, rfl, iteP (by decide +kernel) ?_⟩
        have h1 : -9 ≤ f := ho.2.1
        have h2 : f ≤ 9 := ho.2.2.1
        refine ⟨_, rfl, a, _, _, _, rfl, rfl, SqT.of ha, rfl, _, rfl, a, _, _, r, rfl, rfl, SqT.of ha, rfl, _, rfl, r, N, x, ρ, rfl, t3, ho.2.2.2, ⟨kvs, hN, hv⟩, ?_⟩
        exact ⟨_, _, rfl, rfl, .inl ⟨by omega, by omega⟩, q⟩
theorem ok_ptrue {f fV : Addr} {fd fdV : FuncData} {ns : List Str} (F_pis_true : Fun K "is_true" "is_true" sPIsTrue f fd) (F_pvalue_of : Fun K "value_of" "value_of" sPValueOf fV fdV)
    (b_pis_true : Binds K fd ["test", "names"] []) (b_pvalue_of : Binds K fdV ["expression", "names"] []) (m_pis_true : mg "is_true" = some (.ref f)) (m_pvalue_of : mg "value_of" = some (.ref fV))
    (G_pvalue_of : FnOk P w K mg base CX0 5 fV fdV ["expression", "names"] (spValue ns 3)) :
    ∀ n : Nat, FnOk P w K mg base CX0 (n + 5) f fd ["test", "names"] (spTrue ns n) := by
  intro n
  induction n with
  | zero => exact ⟨fun vs H Q E h => by obtain ⟨_, _, _, _, rfl, _⟩ := h; rfl, fun _ _ _ _ _ _ _ _ _ _ _ _ _ h => by
      obtain ⟨_, _, e, _, _, _, h, _⟩ := h
      omega⟩
  | succ n G_pis_true =>
    refine F_pis_true.ok scPIsTrue (fun vs H Q E h => ?_) (fun cdv A outer s H vs Q E hr h => ?_)
    · obtain ⟨_, _, _, _, rfl, _⟩ := h
      rfl
    · obtain ⟨v, N, e, ρ, rfl, t, _, ho, En0, q⟩ := h
      refine ⟨_, (pss_cons (ps_if (pt_cmpR op_eq (pe_ix ix_tup (pv 0) pe_int (fun _ _ => rfl)) pe_str (nomark _)) (pss_one (ps_ret (pe_not (pe_call G_pis_true (hr.mono (by omega)) (by rfl) m_pis_true F_pis_true.kp b_pis_true .nil pass0 (pa_cons (pe_ix ix_tup (pv 0) pe_int (fun _ _ => rfl)) (pa_cons (pv 1) pa_nil)))))) pss_nil)
      (pss_cons (ps_if (pt_cmpR op_eq (pe_ix ix_tup (pv 0) pe_int (fun _ _ => rfl)) pe_str (nomark _)) (pss_one (ps_ret (pe_cmpR op_lt (pe_call G_pvalue_of (hr.mono (by omega)) (by rfl) m_pvalue_of F_pvalue_of.kp b_pvalue_of .nil pass0 (pa_cons (pe_ix ix_tup (pv 0) pe_int (fun _ _ => rfl)) (pa_cons (pv 1) pa_nil))) (pe_call G_pvalue_of (hr.mono (by omega)) (by rfl) m_pvalue_of F_pvalue_of.kp b_pvalue_of .nil pass0 (pa_cons (pe_ix ix_tup (pv 0) pe_int (fun _ _ => rfl)) (pa_cons (pv 1) pa_nil))) (nomark _)))) pss_nil)
      (pss_one (ps_ret (pe_cmpR op_eq (pe_op op_mod (pe_call G_pvalue_of (hr.mono (by omega)) (by rfl) m_pvalue_of F_pvalue_of.kp b_pvalue_of .nil pass0 (pa_cons (pe_ix ix_tup (pv 0) pe_int (fun _ _ => rfl)) (pa_cons (pv 1) pa_nil))) (pe_ix ix_tup (pv 0) pe_int (fun _ _ => rfl))) (pe_ix ix_tup (pv 0) pe_int (fun _ _ => rfl)) (nomark _)))))), ?_⟩
      cases e with
      | rest x b r =>
        obtain ⟨a, p, u, y, z, rfl, ha, t1, t2, t3, t4⟩ := tp4 t
        obtain rfl := tpS t1
        obtain rfl := tpI t3
        obtain rfl := tpI t4
        obtain ⟨o1, o2, o3, o4, o5⟩ := ho
        refine ⟨_, rfl, a, _, _, _, rfl, rfl, SqT.of ha, rfl, rfl, _, rfl, iteN (by decide +kernel) ?_⟩
        refine ⟨_, rfl, a, _, _, _, rfl, rfl, SqT.of ha, rfl, rfl, _, rfl, iteN (by decide +kernel) ?_⟩
        refine ⟨_, rfl, a, _, _, u, rfl, rfl, SqT.of ha, rfl, _, rfl, u, N, x, ρ, rfl, t2, o1, En0, ?_⟩
        refine ⟨_, rfl, a, _, _, _, rfl, rfl, SqT.of ha, rfl, _, b, rfl, rfl, (by show (0 : Int) < b; omega), ?_⟩
        refine ⟨_, rfl, a, _, _, _, rfl, rfl, SqT.of ha, rfl, rfl, ?_⟩
        have e1 : decide (V.int (x.ev ρ % b) = V.int r) = decide ((x.ev ρ - r) % b = 0) := by
          rw [decide_eq_decide, ← mod_is o4 o5]
          simp
        rw [e1]
        exact q
      | less x y =>
        obtain ⟨a, p, u, r, rfl, ha, t1, t2, t3⟩ := tp3 t
        obtain rfl := tpS t1
        refine ⟨_, rfl, a, _, _, _, rfl, rfl, SqT.of ha, rfl, rfl, _, rfl, iteN (by decide +kernel) ?_⟩
        refine ⟨_, rfl, a, _, _, _, rfl, rfl, SqT.of ha, rfl, rfl, _, rfl, iteP (by decide +kernel) ?_⟩
        refine ⟨_, rfl, a, _, _, u, rfl, rfl, SqT.of ha, rfl, _, rfl, u, N, x, ρ, rfl, t2, ho.1, En0, ?_⟩
        refine ⟨_, rfl, a, _, _, r, rfl, rfl, SqT.of ha, rfl, _, rfl, r, N, y, ρ, rfl, t3, ho.2, En0, ?_⟩
        exact ⟨_, _, rfl, rfl, q⟩
      | not t' =>
        obtain ⟨a, p, u, rfl, ha, t1, t2⟩ := tp2 t
        obtain rfl := tpS t1
        refine ⟨_, rfl, a, _, _, _, rfl, rfl, SqT.of ha, rfl, rfl, _, rfl, iteP (by decide +kernel) ?_⟩
        refine ⟨_, rfl, a, _, _, u, rfl, rfl, SqT.of ha, rfl, _, rfl, u, N, t', ρ, rfl, t2, ho.1, ho.2, En0, ?_⟩
        exact ⟨_, rfl, q⟩
theorem ok_pnumbered {f fE : Addr} {fd fdE : FuncData} (F_pnumbered : Fun K "numbered" "numbered" sPNumbered f fd) (F_pplaces_in : Fun K "places_in" "places_in" sPPlacesIn fE fdE) (G_pplaces_in : FnOk P w K mg base CX0 6 fE fdE ["block"] spPlaces)
    (b_pplaces_in : Binds K fdE ["block"] []) (m_pplaces_in : mg "places_in" = some (.ref fE)) : FnOk P w K mg base CX0 7 f fd ["block", "place"] spNumbered := by
  refine F_pnumbered.ok scPNumbered (fun vs H Q E h => ?_) (fun cdv A outer s H vs Q E hr h => ?_)
  · obtain ⟨_, _, _, rfl, _⟩ := h
    rfl
  · obtain ⟨v, b, p, rfl, t, hz, q⟩ := h
    refine ⟨_, (pss_cons (ps_set (i := 2) scPNumbered.nd rfl (by first | exact Or.inl rfl | exact Or.inr rfl) (pe_lst pa_nil))
      (C8.pss_cut (ps_for PassesOwn.never rfl (pi_tup (pv 0)) (pg_name (i := 3) scPNumbered.nd rfl (by first | exact Or.inl rfl | exact Or.inr rfl)) (pss_cons (ps_expr (pe_bm PySem.F.plainAttrs_list PySem.F.slot_list_append PySem.F.type_list_append mt_append (pv 2) (pa_cons (pe_tup (pa_cons (pv 1) (pa_cons (pv 3) pa_nil))) pa_nil)))
      (pss_one (ps_aug (i := 1) scPNumbered.nd rfl (.inl rfl) (pe_call G_pplaces_in (hr.mono (by omega)) (by rfl) m_pplaces_in F_pplaces_in.kp b_pplaces_in .nil pass0 (pa_cons (pe_tup (pa_cons (pv 3) pa_nil)) pa_nil)) ip_add))))
      (pss_one (ps_ret (pv 2))))), ?_⟩
    obtain ⟨a, xs, rfl, ha, hx⟩ := t.tuple
    rw [b.ds_lst] at hx
    obtain ⟨hl, hg⟩ := hx.lst
    have bl := bk_le b
    refine ⟨by show 0 ≤ sizeLine; decide, fun L hL => ?_⟩
    refine ⟨fun σ H1 => ∃ o1 o3 ys, σ = [some (.ref a), o1, some (.ref L), o3] ∧ Sx [] H H1 ∧ H1 L = some (.lst ys) ∧ TpAll H1 ys ((b.nums p).map prD), ?_, ?_⟩
    · refine ⟨_, rfl, a, rfl, ⟨_, SqT.of (Sx.n0 hL _ _ (by simp) ha)⟩, for_tup (xs := xs)
        (fun i σ H1 => ∃ (b' : Bk) (p' : Int) (o3 : Option V) (ys : List V) (ds : List (Int × St)), σ = [some (.ref a), some (.int p'), some (.ref L), o3] ∧ Sx [] H H1 ∧ H1 L = some (.lst ys) ∧ TpAll H1 ys (ds.map prD) ∧ ds.length = i ∧ b'.lst = b.lst.drop i ∧ ds ++ b'.nums p' = b.nums p)
        ⟨b, p, _, [], [], rfl, Sx.n0 hL, upd_same, .nil, rfl, rfl, rfl⟩ (fun i σ H1 _ z => by obtain ⟨_, _, _, _, _, _, z, _⟩ := z; exact SqT.of (z _ _ (by simp) ha)) (fun i x σ H1 hi z => ?_) (fun σ H1 z => ?_)⟩
      · obtain ⟨b', p', o3, ys, ds, rfl, s1, hL1, hy, hd, hb, hn⟩ := z
        obtain ⟨st, hst, tst⟩ := hg i x hi
        obtain ⟨hlt, hge⟩ := List.getElem?_eq_some_iff.mp hst
        rw [List.drop_eq_getElem_cons hlt, hge] at hb
        cases b' with
        | nil => cases hb
        | cons s' b2 =>
          obtain ⟨e1, hb2⟩ := List.cons.inj hb
          subst e1
          refine gnm ?_
          have ylen := hy.len
          rw [List.length_map] at ylen
          have hmem : s' ∈ b.lst := List.mem_of_getElem? hst
          have szle : s'.sz ≤ b.sz := by rw [b.sz_lst]; exact sum_mem (List.mem_map_of_mem hmem)
          refine ⟨_, rfl, .inl ⟨rfl, _, SqL.of hL1⟩, _, rfl, _, rfl, by show 2 ≤ sizeLine; decide, fun u hu => ?_⟩
          have g1 : (upd H1 u (.tup [.int p', x])) L = some (.lst ys) := Sx.n0 hu _ _ (by simp) hL1
          refine ⟨L, _, _, rfl, rfl, g1, lt_line (by omega), ?_⟩
          have k1 : Tk H1 (upd (upd H1 u (.tup [.int p', x])) L (.lst (ys ++ [.ref u]))) := (Sx.n0 hu).tk0.trans (Tk.lst g1)
          have u1 : Tp (upd (upd H1 u (.tup [.int p', x])) L (.lst (ys ++ [.ref u]))) (.ref u) (prD (p', s')) := (tpPair upd_same ((tst.keep s1.tk0).new hu)).keep (Tk.lst g1)
          have x1 : Tp (upd (upd H1 u (.tup [.int p', x])) L (.lst (ys ++ [.ref u]))) x s'.d := (tst.keep s1.tk0).keep k1
          refine gh (H1 := upd (upd H1 u (.tup [.int p', x])) L (.lst (ys ++ [.ref u]))) (F := fun H2 => Sx [] H H2 ∧ H2 L = some (.lst (ys ++ [.ref u])) ∧ TpAll H2 (ys ++ [.ref u]) ((ds ++ [(p', s')]).map prD) ∧ Tp H2 x s'.d) ⟨(s1.new hu).own hL, upd_same, by rw [List.map_append]; exact (hy.keep k1).append (.cons u1 .nil), x1⟩ (fun H2 ⟨s2, hL2, hy2, x2⟩ => ?_)
          refine ⟨_, rfl, _, rfl, by show 1 ≤ sizeLine; decide, fun u5 h5 => ?_⟩
          refine ⟨.ref u5, .cons s' .nil, rfl, .tup upd_same (.cons (x2.new h5) .nil), by simp only [Bk.sz]; omega, fun H6 s6 => ?_⟩
          have s7 : Sx [] H2 H6 := (Sx.n0 h5).trans s6
          have e3 : ((Bk.cons s' .nil).sz : Int) = s'.sz := by simp [Bk.sz]
          refine ⟨_, _, rfl, rfl, b2, _, _, _, ds ++ [(p', s')], rfl, s2.trans s7, s7 _ _ (by simp) hL2, hy2.keep s7.tk0, by rw [List.length_append, hd]; rfl, hb2, ?_⟩
          rw [List.append_assoc, e3]
          exact hn
      · obtain ⟨b', p', o3, ys, ds, rfl, s1, hL1, hy, hd, hb, hn⟩ := z
        rw [hl, List.drop_length] at hb
        cases b' with
        | cons s b => cases hb
        | nil =>
          rw [show Bk.nil.nums p' = [] from rfl, List.append_nil] at hn
          exact ⟨_, _, ys, rfl, s1, hL1, by rw [← hn]; exact hy⟩
    · rintro _ H1 ⟨o1, o3, ys, rfl, s1, hL1, hy⟩
      exact ⟨_, rfl, q _ _ _ s1 hL hL1 hy⟩
theorem ok_pentered {f fN fE fT : Addr} {fd fdN fdE fdT : FuncData} {ns : List Str} (F_pentered : Fun K "entered" "entered" sPEntered f fd) (F_pnumbered : Fun K "numbered" "numbered" sPNumbered fN fdN) (F_pplaces_in : Fun K "places_in" "places_in" sPPlacesIn fE fdE) (F_pis_true : Fun K "is_true" "is_true" sPIsTrue fT fdT)
    (G_pnumbered : FnOk P w K mg base CX0 7 fN fdN ["block", "place"] spNumbered) (G_pplaces_in : FnOk P w K mg base CX0 6 fE fdE ["block"] spPlaces) (G_pis_true : FnOk P w K mg base CX0 8 fT fdT ["test", "names"] (spTrue ns 3))
    (b_pnumbered : Binds K fdN ["block", "place"] []) (b_pplaces_in : Binds K fdE ["block"] []) (b_pis_true : Binds K fdT ["test", "names"] [])
    (m_pnumbered : mg "numbered" = some (.ref fN)) (m_pplaces_in : mg "places_in" = some (.ref fE)) (m_pis_true : mg "is_true" = some (.ref fT)) : FnOk P w K mg base CX0 9 f fd ["statement", "place", "names"] (spEntered ns) := by
  refine F_pentered.ok scPEntered (fun vs H Q E h => ?_) (fun cdv A outer s H vs Q E hr h => ?_)
  · obtain ⟨_, _, _, _, _, _, rfl, _⟩ := h
    rfl
  · obtain ⟨v, st, p, N, ρ, d, rfl, t, so, hz, hw, En0, kind, q⟩ := h
    refine ⟨_, (pss_cons (ps_if (pt_cmpR op_eq (pe_ix ix_tup (pv 0) pe_int (fun _ _ => rfl)) pe_str (nomark _)) (pss_one (ps_ret (pe_op op_rep (pe_call G_pnumbered (hr.mono (by omega)) (by rfl) m_pnumbered F_pnumbered.kp b_pnumbered .nil pass0 (pa_cons (pe_ix ix_tup (pv 0) pe_int (fun _ _ => rfl)) (pa_cons (pe_op op_add (pv 1) pe_int) pa_nil))) (pe_ix ix_tup (pv 0) pe_int (fun _ _ => rfl))))) pss_nil)
      (pss_cons (ps_if (pt_val (pe_call G_pis_true (hr.mono (by omega)) (by rfl) m_pis_true F_pis_true.kp b_pis_true .nil pass0 (pa_cons (pe_ix ix_tup (pv 0) pe_int (fun _ _ => rfl)) (pa_cons (pv 2) pa_nil)))) (pss_one (ps_ret (pe_call G_pnumbered (hr.mono (by omega)) (by rfl) m_pnumbered F_pnumbered.kp b_pnumbered .nil pass0 (pa_cons (pe_ix ix_tup (pv 0) pe_int (fun _ _ => rfl)) (pa_cons (pe_op op_add (pv 1) pe_int) pa_nil))))) pss_nil)
      (pss_one (ps_ret (pe_call G_pnumbered (hr.mono (by omega)) (by rfl) m_pnumbered F_pnumbered.kp b_pnumbered .nil pass0 (pa_cons (pe_ix ix_tup (pv 0) pe_int (fun _ _ => rfl)) (pa_cons (pe_op op_add (pe_op op_add (pv 1) pe_int) (pe_call G_pplaces_in (hr.mono (by omega)) (by rfl) m_pplaces_in F_pplaces_in.kp b_pplaces_in .nil pass0 (pa_cons (pe_ix ix_tup (pv 0) pe_int (fun _ _ => rfl)) pa_nil))) pa_nil))))))), ?_⟩
    rcases kind with ⟨ts, y, n, rfl⟩ | ⟨k, y, rfl⟩
    · obtain ⟨a, p1, p2, p3, p4, rfl, ha, t1, t2, t3, t4⟩ := tp4 t
      obtain rfl := tpS t1
      obtain ⟨o1, yo, no⟩ := so
      simp only [St.sz] at hz
      refine ⟨_, rfl, a, _, _, _, rfl, rfl, SqT.of ha, rfl, rfl, _, rfl, iteN (by decide +kernel) ?_⟩
      refine ⟨_, rfl, a, _, _, p2, rfl, rfl, SqT.of ha, rfl, _, rfl, p2, N, ts, ρ, rfl, t2, by omega, o1, En0, ?_⟩
      refine ⟨_, rfl, ite2 (fun e => ?_) (fun e => ?_)⟩
      · refine ⟨_, rfl, a, _, _, p3, rfl, rfl, SqT.of ha, rfl, _, rfl, p, 1, rfl, rfl, p3, y, p + 1, rfl, t3, by omega, fun H' l ys s1 hl e1 hy => ?_⟩
        exact q H' l ys s1 hl e1 (by simp only [St.ent]; rw [if_pos e]; exact hy)
      · refine ⟨_, rfl, a, _, _, p4, rfl, rfl, SqT.of ha, rfl, _, rfl, p, 1, rfl, rfl, _, rfl, a, _, _, p3, rfl, rfl, SqT.of ha, rfl, p3, y, rfl, t3, by omega, fun H4 s4 => ?_⟩
        refine ⟨_, _, rfl, rfl, p4, n, _, rfl, t4.keep s4.tk0, by omega, fun H' l ys s1 hl e1 hy => ?_⟩
        exact q H' l ys (s4.trans s1) (s4.free (by simp) hl) e1 (by simp only [St.ent]; rw [if_neg e]; exact hy)
    · obtain ⟨a, p1, p2, p3, rfl, ha, t1, t2, t3⟩ := tp3 t
      obtain rfl := tpS t1
      obtain rfl := tpI t2
      obtain ⟨k1, k8, yo⟩ := so
      simp only [St.sz] at hz
      simp only [St.wt] at hw
      refine ⟨_, rfl, a, _, _, _, rfl, rfl, SqT.of ha, rfl, rfl, _, rfl, iteP (by decide +kernel) ?_⟩
      refine ⟨_, rfl, a, _, _, p3, rfl, rfl, SqT.of ha, rfl, _, rfl, p, 1, rfl, rfl, p3, y, _, rfl, t3, by omega, fun H1 l ys s1 hl e1 hy => ?_⟩
      have ylen := hy.len
      rw [List.length_map, nums_len] at ylen
      have yb : ys.length * k.toNat ≤ 1000000 := by
        have h1 := bk_le y
        have h2 := Bk.sz_wt yo
        have h3 := Nat.mul_le_mul_right k.toNat (show ys.length ≤ y.wt by omega)
        rw [Nat.mul_comm y.wt] at h3
        omega
      refine ⟨_, rfl, a, _, _, .int k, rfl, rfl, SqT.of (s1 _ _ (by simp) ha), rfl, l, k, _, rfl, rfl, e1, by omega, by omega, le_line (by omega), fun l2 hl2 => ?_⟩
      exact q _ l2 _ (s1.new hl2) (s1.free (by simp) hl2) upd_same (by simp only [St.ent]; rw [map_flat]; exact (hy.flat _).new hl2)
end
def spRunA : Sp := fun vs H Q E => ∃ ns, spRun ns vs H Q E
def spSignA : Sp := fun vs H Q _ => ∃ (ns : List Str) (v : V) (b : Bk) (x : Int), vs = [v, .int x] ∧ Tp H v (.tuple b.ds) ∧ b.ok ns 4 ∧ b.sz < 16777216 ∧ b.wt ≤ 1000000 ∧ ∀ H', Sx [] H H' → Q (.int (sgn (b.run 0 (Wd.at x)).1.tot)) H'
theorem FnOk.ex {P : Program} {w : World} {K : PySem.W.Frag} {mg : Str → Option Value} {base : Heap} {CX : CXT} {k : Nat} {f : Addr} {fd : FuncData} {ps : List Str} {ι : Type} {sp : ι → Sp} (F : ∀ i, FnOk P w K mg base CX k f fd ps (sp i)) :
    FnOk P w K mg base CX k f fd ps (fun vs H Q E => ∃ i, sp i vs H Q E) :=
  ⟨fun vs H Q E ⟨i, h⟩ => (F i).len vs H Q E h, fun A o s H ar us vs Q E hr e b r ⟨i, h⟩ => (F i).run A o s H ar us vs Q E hr e b r h⟩
abbrev sPRun : Stmt := topS 9
abbrev nPRun : List Str := ["program", "number", "names", "total", "places", "waiting", "place", "statement"]
theorem scPRun : FnScope nPRun ["program", "number"] (defScope sPRun) := ⟨rfl, rfl, rfl, by decide +kernel, rfl, by decide +kernel, by decide +kernel⟩
abbrev sPSign : Stmt := topS 10
abbrev nPSign : List Str := ["program", "number", "total"]
theorem scPSign : FnScope nPSign ["program", "number"] (defScope sPSign) := ⟨rfl, rfl, rfl, by decide +kernel, rfl, by decide +kernel, by decide +kernel⟩
/-- what lies on a stack runs -/
def runS : List (Int × St) → Wd → Wd × Bool
  | [], w => (w, false)
  | (p, s) :: r, w => if (s.run p w).2 = true then s.run p w else runS r (s.run p w).1
theorem runS_append : ∀ (l m : List (Int × St)) (w : Wd), runS (l ++ m) w = if (runS l w).2 = true then runS l w else runS m (runS l w).1
  | [], m, w => by show runS m w = if (false = true) then _ else runS m w; rw [if_neg (by simp)]
  | (p, s) :: l, m, w => by
    show (if (s.run p w).2 = true then s.run p w else runS (l ++ m) (s.run p w).1) = if (runS ((p, s) :: l) w).2 = true then _ else _
    by_cases h : (s.run p w).2 = true
    · have e : runS ((p, s) :: l) w = s.run p w := by show (if _ then _ else _) = _; rw [if_pos h]
      rw [e, if_pos h, if_pos h]
    · have e : runS ((p, s) :: l) w = runS l (s.run p w).1 := by show (if _ then _ else _) = _; rw [if_neg h]
      rw [e, if_neg h, runS_append l m]
theorem runS_nums : ∀ (b : Bk) (p : Int) (w : Wd), runS (b.nums p) w = b.run p w
  | .nil, _, _ => rfl
  | .cons s b, p, w => by
    show (if (s.run p w).2 = true then s.run p w else runS (b.nums (p + s.sz)) (s.run p w).1) = if (s.run p w).2 = true then s.run p w else b.run (p + s.sz) (s.run p w).1
    rw [runS_nums b]
theorem runS_rep (l : List (Int × St)) : ∀ (n : Nat) (w : Wd), runS (List.replicate n l).flatten w = itr (runS l) n w
  | 0, _ => rfl
  | n + 1, w => by
    rw [List.replicate_succ, List.flatten_cons, runS_append, runS_rep l n]
    rfl
/-- a test or a repeat is entered -/
theorem runS_ent {s : St} {p : Int} {w : Wd} (h : (∃ t y n, s = .ite t y n) ∨ ∃ k y, s = .rep k y) : runS (s.ent w.en p) ⟨w.en, w.tot, w.pl ++ [p]⟩ = s.run p w := by
  rcases h with ⟨t, y, n, rfl⟩ | ⟨k, y, rfl⟩
  · simp only [St.ent, St.run]
    split
    · rw [runS_nums]
    · rw [runS_nums]
  · simp only [St.ent, St.run]
    rw [runS_rep]
    congr 1
    funext w
    exact runS_nums y _ w
def stkWt (l : List (Int × St)) : Nat := (l.map fun x => x.2.wt).sum
theorem stkWt_cons (x : Int × St) (l : List (Int × St)) : stkWt (x :: l) = x.2.wt + stkWt l := rfl
theorem stkWt_append (l m : List (Int × St)) : stkWt (l ++ m) = stkWt l + stkWt m := by unfold stkWt; rw [List.map_append, List.sum_append]
theorem stkWt_nums : ∀ (b : Bk) (p : Int), stkWt (b.nums p) = b.wt
  | .nil, _ => rfl
  | .cons s b, p => by
    show stkWt ((p, s) :: b.nums (p + s.sz)) = s.wt + b.wt
    rw [stkWt_cons, stkWt_nums b]
theorem stkWt_rep (l : List (Int × St)) : ∀ n : Nat, stkWt (List.replicate n l).flatten = n * stkWt l
  | 0 => by rw [Nat.zero_mul]; rfl
  | n + 1 => by rw [List.replicate_succ, List.flatten_cons, stkWt_append, stkWt_rep l n, Nat.succ_mul, Nat.add_comm]
theorem St.wt_pos (s : St) : 1 ≤ s.wt := by cases s <;> simp [St.wt] <;> omega
theorem ent_wt {s : St} {p : Int} {ρ : Str → Int} : stkWt (s.ent ρ p) + 1 ≤ s.wt := by
  cases s with
  | ite t y n =>
    simp only [St.ent, St.wt]
    split
    · rw [stkWt_nums]; omega
    · rw [stkWt_nums]; omega
  | rep k y =>
    simp only [St.ent, St.wt]
    rw [stkWt_rep, stkWt_nums]
    omega
  | _ => simp [St.ent, St.wt, stkWt]
theorem wt_le : ∀ l : List (Int × St), l.length ≤ stkWt l
  | [] => Nat.le_refl _
  | x :: l => by
    rw [List.length_cons, stkWt_cons]
    have := wt_le l
    have := x.2.wt_pos
    omega
/-- all that lies there is a statement within bounds -/
def StkOk (ns : List Str) (l : List (Int × St)) : Prop := ∀ x ∈ l, (∃ d, x.2.ok ns d) ∧ x.2.sz < 16777216
theorem StkOk.nums {ns : List Str} {d : Nat} : ∀ {b : Bk} {p : Int}, b.ok ns d → b.sz < 16777216 → StkOk ns (b.nums p)
  | .nil, _, _, _ => fun x hx => by cases hx
  | .cons s b, p, ⟨h1, h2, h3⟩, hz => fun x hx => by
    simp only [Bk.sz] at hz
    rcases List.mem_cons.1 hx with rfl | hx
    · exact ⟨⟨_, h2⟩, by show s.sz < 16777216; omega⟩
    · exact StkOk.nums h3 (by omega) x hx
theorem StkOk.ent {ns : List Str} {s : St} {d : Nat} {p : Int} {ρ : Str → Int} (h : s.ok ns d) (hz : s.sz < 16777216) : StkOk ns (s.ent ρ p) := by
  cases s with
  | ite t y n =>
    simp only [St.sz] at hz
    simp only [St.ent]
    split
    · exact StkOk.nums h.2.1 (by omega)
    · exact StkOk.nums h.2.2 (by omega)
  | rep k y =>
    simp only [St.sz] at hz
    intro x hx
    simp only [St.ent] at hx
    obtain ⟨l, hl, hx⟩ := List.mem_flatten.1 hx
    obtain ⟨_, rfl⟩ := List.mem_replicate.mp hl
    exact StkOk.nums h.2.2 (by omega) x hx
  | _ => intro x hx; cases hx
/-- names at N, places at L; c more names fit in -/
structure Rn (H : Hp) (N L : Addr) (w : Wd) (c : Nat) : Prop where
  hn : ∃ kvs : List (Key × V), H N = some (.dK kvs) ∧ kvs.length + c ≤ w.pl.length + 1 ∧ ∀ z, (valV kvs (.inr z)).getD (.int 0) = .int (w.en z)
  hl : H L = some (.lst (w.pl.map V.int))
theorem Rn.sx {H H' : Hp} {N L : Addr} {w : Wd} {c : Nat} (R : Rn H N L w c) (s : Sx [] H H') : Rn H' N L w c := by
  obtain ⟨kvs, h1, h2, h3⟩ := R.hn
  exact ⟨⟨kvs, s _ _ (by simp) h1, h2, h3⟩, s _ _ (by simp) R.hl⟩
theorem Rn.at_ {H : Hp} {N L Z : Addr} {w : Wd} {c : Nat} {xs : List V} {o : HO} (R : Rn H N L w c) (_ : H Z = some (.lst xs)) (h2 : Z ≠ L) (h3 : Z ≠ N) : Rn (upd H Z o) N L w c := by
  obtain ⟨kvs, h1, h4, h5⟩ := R.hn
  exact ⟨⟨kvs, by rw [upd_ne h3.symm]; exact h1, h4, h5⟩, by rw [upd_ne h2.symm]; exact R.hl⟩
theorem Rn.en {H : Hp} {N L : Addr} {w : Wd} {c : Nat} (R : Rn H N L w c) : En H N w.en := by
  obtain ⟨kvs, h1, _, h2⟩ := R.hn
  exact ⟨kvs, h1, h2⟩
theorem Rn.less {H : Hp} {N L : Addr} {w : Wd} {c : Nat} (R : Rn H N L w (c + 1)) : Rn H N L w c := by
  obtain ⟨kvs, h1, h2, h3⟩ := R.hn
  exact ⟨⟨kvs, h1, by omega, h3⟩, R.hl⟩
theorem Rn.nl {H : Hp} {N L : Addr} {w : Wd} {c : Nat} (R : Rn H N L w c) : N ≠ L := fun e => by
  obtain ⟨kvs, h, _⟩ := R.hn
  rw [e, R.hl] at h
  cases h
theorem Rn.place {H : Hp} {N L : Addr} {w : Wd} (R : Rn H N L w 0) (i : Int) : Rn (upd H L (.lst (w.pl.map V.int ++ [.int i]))) N L ⟨w.en, w.tot, w.pl ++ [i]⟩ 1 := by
  obtain ⟨kvs, h1, h2, h3⟩ := R.hn
  refine ⟨⟨kvs, by rw [upd_ne R.nl]; exact h1, ?_, h3⟩, by rw [upd_same, List.map_append]; rfl⟩
  show kvs.length + 1 ≤ (w.pl ++ [i]).length + 1
  rw [List.length_append]
  have : [i].length = 1 := rfl
  omega
theorem Rn.tot {H : Hp} {N L : Addr} {w : Wd} {c : Nat} (R : Rn H N L w c) (t : Int) : Rn H N L ⟨w.en, t, w.pl⟩ c := ⟨R.hn, R.hl⟩
theorem Rn.set {H : Hp} {N L : Addr} {w : Wd} {kvs : List (Key × V)} (R : Rn H N L w 1) (h : H N = some (.dK kvs)) (z : Str) (v : Int) : kvs.length < w.pl.length + 1 ∧ Rn (upd H N (.dK (putK kvs (.inr z) (.int v)))) N L ⟨fun y => if y = z then v else w.en y, w.tot, w.pl⟩ 0 := by
  obtain ⟨kvs', h1, h2, h3⟩ := R.hn
  rw [h1] at h
  cases h
  refine ⟨by omega, ⟨_, upd_same, ?_, fun y => ?_⟩, by rw [upd_ne R.nl.symm]; exact R.hl⟩
  · have : (putK kvs (.inr z) (.int v)).length ≤ kvs.length + 1 := by
      unfold putK
      split
      · rw [List.length_map]; omega
      · rw [List.length_append]; exact Nat.le_refl _
    show (putK kvs (.inr z) (.int v)).length + 0 ≤ w.pl.length + 1
    omega
  · rw [valV_put]
    by_cases e : y = z
    · rw [if_pos (by rw [e]), e]
      show V.int v = V.int (if z = z then v else w.en z)
      rw [if_pos rfl]
    · rw [if_neg (fun q => e (Sum.inr.inj q)), h3 y]
      show V.int (w.en y) = V.int (if y = z then v else w.en y)
      rw [if_neg e]
theorem Stk.ext {H : Hp} {L : Addr} {ws es : List (Int × St)} {ys : List V} (h : Stk H L ws) (t : TpAll H ys (es.map prD)) : ∃ acc, H L = some (.lst acc) ∧ acc.length = ws.length ∧ Stk (upd H L (.lst (acc ++ ys.reverse))) L (es ++ ws) := by
  obtain ⟨vals, h1, h2⟩ := h
  have e := h2.len
  rw [List.length_map] at e
  refine ⟨_, h1, by rw [List.length_reverse, e], ys ++ vals, by rw [upd_same, List.reverse_append], ?_⟩
  rw [List.map_append]
  exact (t.keep (Tk.lst h1)).append (h2.keep (Tk.lst h1))
theorem Stk.dk {H : Hp} {L N : Addr} {ws : List (Int × St)} {kvs : List (Key × V)} {o : HO} (h : Stk H L ws) (hn : H N = some (.dK kvs)) : Stk (upd H N o) L ws := by
  obtain ⟨vals, h1, h2⟩ := h
  have k : Tk H (upd H N o) := fun b xs e => by
    rw [upd_ne (fun z => by rw [z, hn] at e; cases e)]
    exact e
  exact ⟨vals, by rw [upd_ne (fun z => by rw [z, hn] at h1; cases h1)]; exact h1, h2.keep k⟩
theorem Stk.ls {H : Hp} {L Z : Addr} {ws : List (Int × St)} {xs : List V} {o : HO} (h : Stk H L ws) (hz : H Z = some (.lst xs)) (n : L ≠ Z) : Stk (upd H Z o) L ws := by
  obtain ⟨vals, h1, h2⟩ := h
  exact ⟨vals, by rw [upd_ne n]; exact h1, h2.keep (Tk.lst hz)⟩
theorem hd_is : ¬ (decide (V.str "if" = V.str "set") = true) := by decide +kernel
theorem hd_ip : ¬ (decide (V.str "if" = V.str "pay") = true) := by decide +kernel
theorem hd_rs : ¬ (decide (V.str "repeat" = V.str "set") = true) := by decide +kernel
theorem hd_rp : ¬ (decide (V.str "repeat" = V.str "pay") = true) := by decide +kernel
theorem St.hd_kd {st : St} (kd : (∃ t y' n', st = .ite t y' n') ∨ ∃ k y', st = .rep k y') : ¬ (decide (V.str st.hd = V.str "set") = true) ∧ ¬ (decide (V.str st.hd = V.str "pay") = true) := by
  rcases kd with ⟨_, _, _, rfl⟩ | ⟨_, _, rfl⟩
  · exact ⟨hd_is, hd_ip⟩
  · exact ⟨hd_rs, hd_rp⟩
section
variable {w : World} {P : Program} {K : PySem.W.Frag} {mg : Str → Option Value} {base : Heap}
theorem ok_prun {f fN fV fE : Addr} {fd fdN fdV fdE : FuncData} {ns : List Str} (F_prun : Fun K "run" "run" sPRun f fd) (F_pnumbered : Fun K "numbered" "numbered" sPNumbered fN fdN) (F_pvalue_of : Fun K "value_of" "value_of" sPValueOf fV fdV) (F_pentered : Fun K "entered" "entered" sPEntered fE fdE)
    (G_pnumbered : FnOk P w K mg base CX0 7 fN fdN ["block", "place"] spNumbered) (G_pvalue_of : FnOk P w K mg base CX0 5 fV fdV ["expression", "names"] (spValue ns 3)) (G_pentered : FnOk P w K mg base CX0 9 fE fdE ["statement", "place", "names"] (spEntered ns))
    (b_pnumbered : Binds K fdN ["block", "place"] []) (b_pvalue_of : Binds K fdV ["expression", "names"] []) (b_pentered : Binds K fdE ["statement", "place", "names"] [])
    (m_pnumbered : mg "numbered" = some (.ref fN)) (m_pvalue_of : mg "value_of" = some (.ref fV)) (m_pentered : mg "entered" = some (.ref fE)) (z_tuple : mg "tuple" = none) : FnOk P w K mg base CX0 10 f fd ["program", "number"] (spRun ns) := by
  refine F_prun.ok scPRun (fun vs H Q E h => ?_) (fun cdv A outer s H vs Q E hr h => ?_)
  · obtain ⟨_, _, _, rfl, _⟩ := h
    rfl
  · obtain ⟨v, b, x, rfl, t, ho, hz, hw, q⟩ := h
    refine ⟨_, (pss_cons (ps_set (i := 2) scPRun.nd rfl (by first | exact Or.inl rfl | exact Or.inr rfl) (pe_disp (pps_cons pe_str (pv 1) pps_nil) (by rfl) (by rfl) (fun z => by cases z) (by decide)))
      (pss_cons (ps_set (i := 3) scPRun.nd rfl (by first | exact Or.inl rfl | exact Or.inr rfl) pe_int)
      (pss_cons (ps_set (i := 4) scPRun.nd rfl (by first | exact Or.inl rfl | exact Or.inr rfl) (pe_lst pa_nil))
      (pss_cons (ps_set (i := 5) scPRun.nd rfl (by first | exact Or.inl rfl | exact Or.inr rfl) (pe_revL (pe_call G_pnumbered (hr.mono (by omega)) (by rfl) m_pnumbered F_pnumbered.kp b_pnumbered .nil pass0 (pa_cons (pv 0) (pa_cons pe_int pa_nil)))))
      (C8.pss_cut (ps_while PassesOwn.never (pt_truth (pv 5) (fun _ => rfl)) (pss_cons (ps_asg (pe_bm0 PySem.F.plainAttrs_list PySem.F.slot_list_pop PySem.F.type_list_pop mt_pop (pv 5)) (pg_tup rfl (pgs_cons (pg_name (i := 6) scPRun.nd rfl (by first | exact Or.inl rfl | exact Or.inr rfl)) (pgs_cons (pg_name (i := 7) scPRun.nd rfl (by first | exact Or.inl rfl | exact Or.inr rfl)) pgs_nil))))
      (pss_cons (ps_expr (pe_bm PySem.F.plainAttrs_list PySem.F.slot_list_append PySem.F.type_list_append mt_append (pv 4) (pa_cons (pv 6) pa_nil)))
      (pss_cons (ps_if (pt_cmpR op_eq (pe_ix ix_tup (pv 7) pe_int (fun _ _ => rfl)) pe_str (nomark _)) (pss_one ps_break) pss_nil)
      (pss_one (ps_if (pt_cmpR op_eq (pe_ix ix_tup (pv 7) pe_int (fun _ _ => rfl)) pe_str (nomark _)) (pss_one (ps_dput (hu_of hr) (pv 2) (pe_ix ix_tup (pv 7) pe_int (fun _ _ => rfl)) (pe_call G_pvalue_of (hr.mono (by omega)) (by rfl) m_pvalue_of F_pvalue_of.kp b_pvalue_of .nil pass0 (pa_cons (pe_ix ix_tup (pv 7) pe_int (fun _ _ => rfl)) (pa_cons (pv 2) pa_nil))) rfl)) (pss_one (ps_if (pt_cmpR op_eq (pe_ix ix_tup (pv 7) pe_int (fun _ _ => rfl)) pe_str (nomark _)) (pss_one (ps_aug (i := 3) scPRun.nd rfl (.inl rfl) (pe_call G_pvalue_of (hr.mono (by omega)) (by rfl) m_pvalue_of F_pvalue_of.kp b_pvalue_of .nil pass0 (pa_cons (pe_ix ix_tup (pv 7) pe_int (fun _ _ => rfl)) (pa_cons (pv 2) pa_nil))) ip_add)) (pss_one (ps_expr (pe_bm PySem.F.plainAttrs_list PySem.F.slot_list_extend PySem.F.type_list_extend mt_extend (pv 5) (pa_cons (pe_revL (pe_call G_pentered (hr.mono (by omega)) (by rfl) m_pentered F_pentered.kp b_pentered .nil pass0 (pa_cons (pv 7) (pa_cons (pv 6) (pa_cons (pv 2) pa_nil))))) pa_nil))))))))))))
      (pss_one (ps_ret (pe_tup (pa_cons (pv 3) (pa_cons (pe_callTy call_tuple_of (by rfl) z_tuple boot_tuple (pa_cons (pv 4) pa_nil)) pa_nil)))))))))), ?_⟩
    refine fun N hN => ⟨_, rfl, upd_same, [(.inr "n", .int x)], rfl, by show 1 ≤ 15; decide, ?_⟩
    refine ⟨by show 0 ≤ sizeLine; decide, fun L hL => ?_⟩
    have en : mergeK [] [((.inr "n" : Key), V.int x)] = [(.inr "n", .int x)] := by
      show putK [] (.inr "n" : Key) (V.int x) = _
      rw [putK_new (fun kv h => by cases h)]
      rfl
    rw [en]
    have hLN : L ≠ N := Dk.none_ne (upd_same : upd (upd H N (.dK [])) N (.dK (mergeK [] [((.inr "n" : Key), V.int x)])) N = _) hL
    have hHL : H L = none := by
      rw [upd_ne hLN, upd_ne hLN] at hL
      exact hL
    refine gh (F := fun H1 => Sx [] H H1 ∧ Rn H1 N L (Wd.at x) 0) ⟨?_, ⟨[(.inr "n", .int x)], ?_, by show 1 ≤ 0 + 1; decide, fun z => ?_⟩, ?_⟩ (fun H1 ⟨s1, R1⟩ => ?_)
    · exact ((Sx.n0 hN).own hN).own hHL
    · rw [upd_ne hLN.symm, upd_same]
    · show (valV [((.inr "n" : Key), V.int x)] (.inr z)).getD (.int 0) = .int (if z = "n" then x else 0)
      by_cases h : z = "n"
      · rw [if_pos h, h]
        unfold valV
        rw [List.find?_cons_of_pos (by simp)]
        rfl
      · rw [if_neg h]
        unfold valV
        rw [List.find?_cons_of_neg (by simp only [decide_eq_true_eq]; exact fun e => h (Sum.inr.inj e).symm)]
        rfl
    · rw [upd_same]
      rfl
    refine ⟨_, rfl, v, b, 0, rfl, t.keep s1.tk0, hz, fun H2 l ys s2 hl e2 hy => ⟨l, ys, rfl, SqL.of e2, fun Z hZ => ?_⟩⟩
    have hHZ : H Z = none := (s1.trans s2).free (by simp) hZ
    have nZL : Z ≠ L := Dk.none_ne ((R1.sx s2).hl) hZ
    have nZN : Z ≠ N := by
      obtain ⟨kvs, h, _⟩ := (R1.sx s2).hn
      exact Dk.none_ne h hZ
    refine ⟨fun σ H' => ∃ (w' : Wd) (o6 o7 : Option V), σ = [some v, some (.int x), some (.ref N), some (.int w'.tot), some (.ref L), some (.ref Z), o6, o7] ∧ Sx [] H H' ∧ H' L = some (.lst (w'.pl.map V.int)) ∧ (b.run 0 (Wd.at x)).1 = w', ?_, ?_⟩
    · refine ⟨fun m σ H' => ∃ (w' : Wd) (ws : List (Int × St)) (o6 o7 : Option V), σ = [some v, some (.int x), some (.ref N), some (.int w'.tot), some (.ref L), some (.ref Z), o6, o7] ∧ Sx [] H H' ∧ Rn H' N L w' 0 ∧ Stk H' Z ws ∧ StkOk ns ws ∧ runS ws w' = b.run 0 (Wd.at x) ∧ w'.pl.length + stkWt ws ≤ 1000000 ∧ m = stkWt ws,
        ⟨_, Wd.at x, b.nums 0, _, _, rfl, (s1.trans s2).new hZ, (R1.sx s2).sx (Sx.n0 hZ), ⟨ys, upd_same, hy.new hZ⟩, StkOk.nums ho hz, runS_nums b 0 _, by rw [stkWt_nums]; show 0 + b.wt ≤ 1000000; omega, rfl⟩, ?_⟩
      rintro m σ H3 ⟨w', ws, o6, o7, rfl, s3, R3, hs, so, hrun, hm, rfl⟩
      cases ws with
      | nil =>
        refine ⟨_, rfl, false, .inl ⟨_, SqL.of hs.nil_, rfl⟩, iteF ?_⟩
        exact ⟨w', _, _, rfl, s3, R3.hl, by rw [← hrun]; rfl⟩
      | cons y ws =>
        obtain ⟨p, st⟩ := y
        obtain ⟨acc, c, xv, e1, e2, e3, e4, e5, e6⟩ := hs.pop
        obtain ⟨⟨d, sto⟩, stz⟩ := so _ (List.mem_cons_self)
        have sto : st.ok ns d := sto
        have stz : st.sz < 16777216 := stz
        have so' : StkOk ns ws := fun y hy => so y (List.mem_cons_of_mem _ hy)
        rw [stkWt_cons] at hm
        have stp := st.wt_pos
        have wle := wt_le ws
        have hm : w'.pl.length + (st.wt + stkWt ws) ≤ 1000000 := hm
        refine ⟨_, rfl, true, .inl ⟨_, SqL.of e1, ?_⟩, iteT ⟨fun σ' H4 => ∃ m', m' < stkWt ((p, st) :: ws) ∧ ∃ (w' : Wd) (ws : List (Int × St)) (o6 o7 : Option V), σ' = [some v, some (.int x), some (.ref N), some (.int w'.tot), some (.ref L), some (.ref Z), o6, o7] ∧ Sx [] H H4 ∧ Rn H4 N L w' 0 ∧ Stk H4 Z ws ∧ StkOk ns ws ∧ runS ws w' = b.run 0 (Wd.at x) ∧ w'.pl.length + stkWt ws ≤ 1000000 ∧ m' = stkWt ws, fun _ _ z => z, ?_⟩⟩
        · cases acc with
          | nil => simp at e6
          | cons _ _ => rfl
        refine ⟨_, rfl, .inl ⟨rfl, _, SqL.of e1⟩, Z, _, _, rfl, rfl, e1, e2, ?_⟩
        have k1 : Tk H3 (upd H3 Z (.lst acc.dropLast)) := Tk.lst e1
        refine gh (H1 := upd H3 Z (.lst acc.dropLast)) (F := fun H4 => Sx [] H H4 ∧ Tk H3 H4 ∧ Stk H4 Z ws ∧ Rn H4 N L w' 0) ⟨s3.own hHZ, k1, e5, R3.at_ e1 nZL nZN⟩ (fun H4 ⟨s4, k4, hs4, R4⟩ => ?_)
        refine ⟨c, _, rfl, SqT.of (k4 _ _ e3), rfl, _, _, rfl, gnm ⟨_, _, rfl, gnm ⟨rfl, ?_⟩⟩⟩
        -- its place is told
        refine ⟨_, rfl, .inl ⟨rfl, _, SqL.of R4.hl⟩, _, rfl, L, _, _, rfl, rfl, R4.hl, lt_line (by rw [List.length_map]; omega), ?_⟩
        have R5 := R4.place p
        have ts4 : Tp H4 xv st.d := e4.keep k4
        have hm2 : (w'.pl ++ [p]).length = w'.pl.length + 1 := by rw [List.length_append]; rfl
        refine gh (H1 := upd H4 L (.lst (w'.pl.map V.int ++ [.int p]))) (F := fun H5 => Sx [] H H5 ∧ Tp H5 xv st.d ∧ Stk H5 Z ws ∧ Rn H5 N L ⟨w'.en, w'.tot, w'.pl ++ [p]⟩ 1) ⟨s4.own hHL, ts4.keep (Tk.lst R4.hl), hs4.ls R4.hl nZL, R5⟩ (fun H5 ⟨s5, ts5, hs5, R5⟩ => ?_)
        obtain ⟨ax, xs', rfl, hax⟩ := St.at_ ts5
        refine ⟨_, rfl, ax, _, _, .str st.hd, rfl, rfl, SqT.of hax, at0 _ _, rfl, _, rfl, ite2 (fun e => ?_) (fun e => ?_)⟩
        · cases st with
          | stop =>
            refine ⟨⟨w'.en, w'.tot, w'.pl ++ [p]⟩, _, _, rfl, s5, R5.hl, ?_⟩
            rw [← hrun]
            rfl
          | _ => exact absurd (V.str.inj (of_decide_eq_true e)) (by simp only [St.hd]; decide +kernel)
        · have nstop : st ≠ .stop := fun z => by rw [z] at e; exact e (by decide +kernel)
          by_cases kd : (∃ t y' n', st = .ite t y' n') ∨ ∃ k y', st = .rep k y'
          · have h1 := (St.hd_kd kd).1
            have h2 := (St.hd_kd kd).2
            obtain ⟨vals5, hZ5, _⟩ := id hs5
            refine ⟨_, rfl, ax, _, _, .str st.hd, rfl, rfl, SqT.of hax, at0 _ _, rfl, _, rfl, iteN h1 ⟨_, rfl, ax, _, _, .str st.hd, rfl, rfl, SqT.of hax, at0 _ _, rfl, _, rfl, iteN h2 ?_⟩⟩
            refine ⟨_, rfl, .inl ⟨rfl, _, SqL.of hZ5⟩, _, rfl, _, rfl, _, rfl, .ref ax, st, p, N, w'.en, d, rfl, ts5, sto, stz, by omega, R5.en, kd, fun H6 l ys s6 hl e6 hy => ⟨l, ys, rfl, SqL.of e6, fun l2 hl2 => ?_⟩⟩
            obtain ⟨acc6, g1, g2, g3⟩ := ((hs5.keep s6).keep (Sx.n0 (o := .lst ys.reverse) hl2)).ext (es := st.ent w'.en p) (hy.new hl2)
            have ylen := hy.len
            rw [List.length_map] at ylen
            have ew : stkWt (st.ent w'.en p) + 1 ≤ st.wt := ent_wt
            have el := wt_le (st.ent w'.en p)
            refine ⟨Z, l2, acc6, ys.reverse, rfl, rfl, g1, upd_same, le_line (by rw [g2, List.length_reverse]; omega), ?_⟩
            refine ⟨_, ?_, ⟨w'.en, w'.tot, w'.pl ++ [p]⟩, st.ent w'.en p ++ ws, _, _, rfl, ((s5.trans s6).new hl2).own hHZ, (((R5.sx s6).sx (Sx.n0 hl2)).at_ g1 nZL nZN).less, g3, ?_, ?_, ?_, rfl⟩
            · rw [stkWt_append, stkWt_cons]
              show stkWt (st.ent w'.en p) + stkWt ws < st.wt + stkWt ws
              omega
            · intro y hy
              rcases List.mem_append.1 hy with hy | hy
              · exact StkOk.ent sto stz y hy
              · exact so' y hy
            · rw [← hrun, runS_append, runS_ent kd]
              rfl
            · rw [stkWt_append]
              simp only [hm2]
              omega
          · cases st with
            | stop => exact absurd rfl nstop
            | set z ex =>
              obtain ⟨a', p1, p2, p3, ea, hA, t1, t2, t3⟩ := tp3 ts5
              cases ea
              obtain rfl := tpS t1
              obtain rfl := tpS t2
              obtain ⟨kvs, hNk, _, hv⟩ := R5.hn
              refine ⟨_, rfl, ax, _, _, _, rfl, rfl, SqT.of hA, rfl, rfl, _, rfl, iteP (by decide +kernel) ?_⟩
              have R6 := R5.set hNk z (ex.ev w'.en)
              refine ⟨_, rfl, ax, _, _, p3, rfl, rfl, SqT.of hA, rfl, _, rfl, p3, N, ex, w'.en, rfl, t3, sto.2, R5.en, ?_⟩
              refine ⟨_, rfl, _, rfl, ax, _, _, .str z, rfl, rfl, SqT.of hA, rfl, N, _, rfl, DPut.k (k := .inr z) hNk (lt_line (by have := R6.1; simp only [List.length_append, List.length_cons, List.length_nil] at this; omega)), ?_⟩
              refine ⟨_, ?_, ⟨fun y => if y = z then ex.ev w'.en else w'.en y, w'.tot, w'.pl ++ [p]⟩, ws, _, _, rfl, s5.own hN, R6.2, hs5.dk hNk, so', ?_, ?_, rfl⟩
              · rw [stkWt_cons]
                show stkWt ws < 1 + stkWt ws
                omega
              · rw [← hrun]
                rfl
              · simp only [hm2]
                have : (St.set z ex).wt = 1 := rfl
                omega
            | pay ex =>
              obtain ⟨a', p1, p2, ea, hA, t1, t2⟩ := tp2 ts5
              cases ea
              obtain rfl := tpS t1
              refine ⟨_, rfl, ax, _, _, _, rfl, rfl, SqT.of hA, rfl, rfl, _, rfl, iteN (by decide +kernel) ⟨_, rfl, ax, _, _, _, rfl, rfl, SqT.of hA, rfl, rfl, _, rfl, iteP (by decide +kernel) ?_⟩⟩
              refine ⟨_, rfl, _, rfl, ax, _, _, p2, rfl, rfl, SqT.of hA, rfl, _, rfl, p2, N, ex, w'.en, rfl, t2, sto, R5.en, ?_⟩
              refine ⟨_, _, rfl, rfl, ?_⟩
              refine ⟨_, ?_, ⟨w'.en, w'.tot + ex.ev w'.en, w'.pl ++ [p]⟩, ws, _, _, rfl, s5, (R5.tot _).less, hs5, so', ?_, ?_, rfl⟩
              · rw [stkWt_cons]
                show stkWt ws < 1 + stkWt ws
                omega
              · rw [← hrun]
                rfl
              · simp only [hm2]
                have : (St.pay ex).wt = 1 := rfl
                omega
            | ite ts y n => exact absurd (.inl ⟨_, _, _, rfl⟩) kd
            | rep k y => exact absurd (.inr ⟨_, _, rfl⟩) kd
    · rintro _ H3 ⟨w', o6, o7, rfl, s3, hL3, rfl⟩
      refine ⟨_, rfl, _, rfl, L, _, rfl, .inl ⟨SqL.of hL3, fun l hl => ?_⟩⟩
      refine ⟨by show 2 ≤ sizeLine; decide, fun u hu => ?_⟩
      exact q _ _ ((s3.new hl).new hu) (.tup upd_same (.cons (.int _) (.cons (.tup (by rw [upd_ne (ne_of_none upd_same hu)]; exact upd_same) (TpAll.ints _)) .nil)))
theorem FnOk.up {CX : CXT} {j k : Nat} {f : Addr} {fd : FuncData} {ps : List Str} {sp : Sp} (F : FnOk P w K mg base CX j f fd ps sp) (h : j ≤ k) : FnOk P w K mg base CX k f fd ps sp :=
  ⟨F.len, fun A o s H ar us vs Q E hr => F.run A o s H ar us vs Q E (hr.mono h)⟩
theorem ok_psign {f fR : Addr} {fd fdR : FuncData} (F_psign : Fun K "sign" "sign" sPSign f fd) (F_prun : Fun K "run" "run" sPRun fR fdR) (G_prun : FnOk P w K mg base CX0 10 fR fdR ["program", "number"] spRunA)
    (b_prun : Binds K fdR ["program", "number"] []) (m_prun : mg "run" = some (.ref fR)) (z_int : mg "int" = none) : FnOk P w K mg base CX0 11 f fd ["program", "number"] spSignA := by
  refine F_psign.ok scPSign (fun vs H Q E h => ?_) (fun cdv A outer s H vs Q E hr h => ?_)
  · obtain ⟨_, _, _, _, rfl, _⟩ := h
    rfl
  · obtain ⟨ns, v, b, x, rfl, t, ho, hz, hw, q⟩ := h
    refine ⟨_, (pss_cons (ps_set (i := 2) scPSign.nd rfl (by first | exact Or.inl rfl | exact Or.inr rfl) (pe_ix ix_tup (pe_call G_prun (hr.mono (by omega)) (by rfl) m_prun F_prun.kp b_prun .nil pass0 (pa_cons (pv 0) (pa_cons (pv 1) pa_nil))) pe_int (fun _ _ => rfl)))
      (pss_one (ps_ret (pe_op op_sub (pe_callTy call_int1 (by rfl) z_int boot_int (pa_cons (pe_cmpR op_gt (pv 2) pe_int (nomark _)) pa_nil)) (pe_callTy call_int1 (by rfl) z_int boot_int (pa_cons (pe_cmpR op_lt (pv 2) pe_int (nomark _)) pa_nil)))))), ?_⟩
    refine ⟨_, rfl, _, rfl, ns, v, b, x, rfl, t, ho, hz, hw, fun H1 r s1 tr => ?_⟩
    obtain ⟨a, p1, p2, rfl, ha, t1, t2⟩ := tp2 tr
    obtain rfl := tpI t1
    refine ⟨a, _, _, _, rfl, rfl, SqT.of ha, rfl, ?_⟩
    have q' := q H1 s1
    refine ⟨_, rfl, _, 0, rfl, rfl, .inr ⟨_, rfl, ?_⟩⟩
    refine ⟨_, rfl, _, 0, rfl, rfl, .inr ⟨_, rfl, ?_⟩⟩
    refine ⟨_, _, rfl, rfl, ?_⟩
    unfold sgn at q'
    by_cases h1 : (b.run 0 (Wd.at x)).1.tot < 0
    · rw [if_pos h1] at q'
      rw [show decide ((b.run 0 (Wd.at x)).1.tot > 0) = false from decide_eq_false (by omega), show decide ((b.run 0 (Wd.at x)).1.tot < 0) = true from decide_eq_true h1]
      exact q'
    · rw [if_neg h1] at q'
      by_cases h2 : 0 < (b.run 0 (Wd.at x)).1.tot
      · rw [if_pos h2] at q'
        rw [show decide ((b.run 0 (Wd.at x)).1.tot > 0) = true from decide_eq_true h2, show decide ((b.run 0 (Wd.at x)).1.tot < 0) = false from decide_eq_false h1]
        exact q'
      · rw [if_neg h2] at q'
        rw [show decide ((b.run 0 (Wd.at x)).1.tot > 0) = false from decide_eq_false h2, show decide ((b.run 0 (Wd.at x)).1.tot < 0) = false from decide_eq_false h1]
        exact q'
end
abbrev sLittle : Stmt := topS 31
abbrev nLittle : List Str := ["_law_deck_here", "_law_names_here", "_law_a", "_law_b", "_law_c", "_law_d", "_law_e", "_law_way", "_law_by", "_law_test_here", "_law_rest", "_law_k"]
theorem scLittle : FnScope nLittle ["_law_deck_here", "_law_names_here"] (defScope sLittle) := ⟨rfl, rfl, rfl, by decide +kernel, rfl, by decide +kernel, by decide +kernel⟩
abbrev sFamily : Stmt := topS 32
abbrev nFamily : List Str := ["_law_deck_here", "_law_names_here", "_law_most", "_law_found", "_law_k", "_law_way"]
theorem scFamily : FnScope nFamily ["_law_deck_here", "_law_names_here", "_law_most"] (defScope sFamily) := ⟨rfl, rfl, rfl, by decide +kernel, rfl, by decide +kernel, by decide +kernel⟩
/-! ### small programs, and families -/
def cL : Int := 700020
def spLittle (K : PySem.W.Frag) : Sp := fun vs H Q _ => ∃ (a c : Addr) (cs : List Int) (k : Int) (nm : Addr) (ns : List Str), vs = [.ref a, .ref nm] ∧ Dk H a c cs k ∧ Nms K H nm ns ∧ nm ≠ a ∧ nm ≠ c ∧ k + cL ≤ KB ∧
  ∀ H' cs' k' v (b : Bk), Sx [a, c] H H' → Dk H' a c cs' k' → k ≤ k' → k' ≤ k + cL → Tp H' v (.tuple b.ds) → b.ok ns 4 → b.sz ≤ 12 → b.wt ≤ 16 → Q v H'
/-- so many numbers from -1 to 1 -/
def P3 (H0 : Hp) (a c : Addr) (k : Int) (Z : Addr) (i : Nat) (H' : Hp) : Prop := Sx [a, c] H0 H' ∧ (∃ cs', Dk H' a c cs' (k + i)) ∧ ∃ ls : List Int, H' Z = some (.lst (ls.map V.int)) ∧ ls.length = i ∧ ∀ x ∈ ls, -1 ≤ x ∧ x ≤ 1
theorem tpL (H : Hp) (z : Str) (x : V) (d : PyData) (p : Addr) (t : Tp H x d) (hp : H p = none) : Tp (upd H p (.tup [.str z, x])) (.ref p) (.tuple [.str z, d]) := .tup upd_same (.cons (.str _) (.cons (t.new hp) .nil))
theorem tpB {H : Hp} {x : V} {d : PyData} {p : Addr} (t : Tp H x d) (hp : H p = none) : Tp (upd H p (.tup [x])) (.ref p) (.tuple [d]) := .tup upd_same (.cons (t.new hp) .nil)
section
variable {w : World} {P : Program} {K : PySem.W.Frag} {mg : Str → Option Value} {base : Heap}
set_option maxHeartbeats 4000001 in
theorem ok_little {f fD fP : Addr} {fd fdD fdP : FuncData} (F : Fun K "_law_little" "_law_little" sLittle f fd) (F_draw : Fun K "_law_draw" "_law_draw" sDraw fD fdD) (F_program : Fun K "_law_program" "_law_program" sProgram fP fdP)
    (G_draw : FnOk P w K mg base CX0 1 fD fdD ["_law_deck_here", "_law_many"] spDraw) (G_program : FnOk P w K mg base CX0 15 fP fdP ["_law_deck_here", "_law_names_here"] (spProg9 K))
    (b_draw : Binds K fdD ["_law_deck_here", "_law_many"] []) (b_program : Binds K fdP ["_law_deck_here", "_law_names_here"] [])
    (m_draw : mg "_law_draw" = some (.ref fD)) (m_program : mg "_law_program" = some (.ref fP)) (z_range : mg "range" = none) :
    FnOk P w K mg base CX0 16 f fd ["_law_deck_here", "_law_names_here"] (spLittle K) := by
  refine F.ok scLittle (fun vs H Q E h => ?_) (fun cdv A outer s H vs Q E hr h => ?_)
  · obtain ⟨a, c, cs, k, nm, ns, rfl, _⟩ := h
    rfl
  · obtain ⟨a, c, cs, k, nm, ns, rfl, D, N, na, nc, hk, q⟩ := h
    have eL : cL = 700020 := rfl
    have eP : cP = 700000 := rfl
    refine ⟨_, (pss_cons (ps_par (i := 2) (j := 3) (by rfl) scLittle.nd rfl rfl (by decide) rfl rfl (pa_cons (pe_op op_sub (pe_call G_draw (hr.mono (by omega)) (by rfl) m_draw F_draw.kp b_draw .nil pass0 (pa_cons (pv 0) (pa_cons pe_int pa_nil))) pe_int) (pa_cons (pe_op op_sub (pe_call G_draw (hr.mono (by omega)) (by rfl) m_draw F_draw.kp b_draw .nil pass0 (pa_cons (pv 0) (pa_cons pe_int pa_nil))) pe_int) pa_nil)) (by rfl))
      (pss_cons (ps_asg (pe_lc (own := [("_law_k", 11)]) (g := gName 11) (tt := tYes) rfl scLittle.nd (pi_range1 (by rfl) z_range (pa_cons pe_int pa_nil)) (blkOk_by (N := nLittle) (sc := defScope sLittle) (by decide +kernel)) (fun _ _ _ _ _ => (pg_name (i := 11) scLittle.nd rfl (by first | exact Or.inl rfl | exact Or.inr rfl))) (fun _ _ _ _ _ => pts_nil) (fun _ _ _ _ _ => (pe_op op_sub (pe_call G_draw (hr.mono (by omega)) (by rfl) m_draw F_draw.kp b_draw .nil pass0 (pa_cons (pv 0) (pa_cons pe_int pa_nil))) pe_int))) (pg_unl rfl (pgs_cons (pg_name (i := 4) scLittle.nd rfl (by first | exact Or.inl rfl | exact Or.inr rfl)) (pgs_cons (pg_name (i := 5) scLittle.nd rfl (by first | exact Or.inl rfl | exact Or.inr rfl)) (pgs_cons (pg_name (i := 6) scLittle.nd rfl (by first | exact Or.inl rfl | exact Or.inr rfl)) pgs_nil)))))
      (pss_cons (ps_par (i := 7) (j := 8) (by rfl) scLittle.nd rfl rfl (by decide) rfl rfl (pa_cons (pe_call G_draw (hr.mono (by omega)) (by rfl) m_draw F_draw.kp b_draw .nil pass0 (pa_cons (pv 0) (pa_cons pe_int pa_nil))) (pa_cons (pe_op op_add pe_int (pe_call G_draw (hr.mono (by omega)) (by rfl) m_draw F_draw.kp b_draw .nil pass0 (pa_cons (pv 0) (pa_cons pe_int pa_nil)))) pa_nil)) (by rfl))
      (pss_cons (ps_par (i := 9) (j := 10) (by rfl) scLittle.nd rfl rfl (by decide) rfl rfl (pa_cons (pe_tup (pa_cons pe_str (pa_cons pe_str (pa_cons (pv 2) pa_nil)))) (pa_cons (pe_tup (pa_cons pe_str (pa_cons pe_str (pa_cons (pv 8) (pa_cons (pe_call G_draw (hr.mono (by omega)) (by rfl) m_draw F_draw.kp b_draw .nil pass0 (pa_cons (pv 0) (pa_cons (pv 8) pa_nil))) pa_nil))))) pa_nil)) (by rfl))
      (pss_cons (ps_if (pt_cmpR op_eq (pv 7) pe_int (nomark _)) (pss_one (ps_ret (pe_tup (pa_cons (pe_tup (pa_cons pe_str (pa_cons (pe_tup (pa_cons pe_str (pa_cons pe_str (pa_cons (pv 2) pa_nil)))) pa_nil))) pa_nil)))) pss_nil)
      (pss_cons (ps_if (pt_cmpR op_eq (pv 7) pe_int (nomark _)) (pss_one (ps_ret (pe_tup (pa_cons (pe_tup (pa_cons pe_str (pa_cons (pv 9) (pa_cons (pe_tup (pa_cons (pe_tup (pa_cons pe_str (pa_cons (pv 4) pa_nil))) pa_nil)) (pa_cons (pe_tup (pa_cons (pe_tup (pa_cons pe_str (pa_cons (pv 5) pa_nil))) pa_nil)) pa_nil))))) pa_nil)))) pss_nil)
      (pss_cons (ps_if (pt_cmpR op_eq (pv 7) pe_int (nomark _)) (pss_one (ps_ret (pe_tup (pa_cons (pe_tup (pa_cons pe_str (pa_cons (pv 10) (pa_cons (pe_tup (pa_cons (pe_tup (pa_cons pe_str (pa_cons (pv 4) pa_nil))) pa_nil)) (pa_cons (pe_tup (pa_cons (pe_tup (pa_cons pe_str (pa_cons (pe_tup (pa_cons pe_str (pa_cons (pv 2) (pa_cons pe_str pa_nil)))) pa_nil))) pa_nil)) pa_nil))))) pa_nil)))) pss_nil)
      (pss_cons (ps_if (pt_cmpR op_eq (pv 7) pe_int (nomark _)) (pss_one (ps_ret (pe_tup (pa_cons (pe_tup (pa_cons pe_str (pa_cons (pv 9) (pa_cons (pe_tup (pa_cons (pe_tup (pa_cons pe_str (pa_cons (pv 4) pa_nil))) pa_nil)) (pa_cons (pe_tup (pa_cons (pe_tup (pa_cons pe_str (pa_cons (pe_tup (pa_cons pe_str (pa_cons pe_str (pa_cons (pv 3) pa_nil)))) (pa_cons (pe_tup (pa_cons (pe_tup (pa_cons pe_str (pa_cons (pv 5) pa_nil))) pa_nil)) (pa_cons (pe_tup (pa_cons (pe_tup (pa_cons pe_str (pa_cons (pv 6) pa_nil))) pa_nil)) pa_nil))))) pa_nil)) pa_nil))))) pa_nil)))) pss_nil)
      (pss_cons (ps_if (pt_cmpR op_eq (pv 7) pe_int (nomark _)) (pss_one (ps_ret (pe_tup (pa_cons (pe_tup (pa_cons pe_str (pa_cons (pe_ix ix_list (pv 1) pe_int (fun _ _ => rfl)) (pa_cons (pe_tup (pa_cons pe_str (pa_cons pe_str (pa_cons (pv 2) pa_nil)))) pa_nil)))) (pa_cons (pe_tup (pa_cons pe_str (pa_cons pe_int (pa_cons (pe_tup (pa_cons (pe_tup (pa_cons pe_str (pa_cons (pe_ix ix_list (pv 1) pe_int (fun _ _ => rfl)) pa_nil))) pa_nil)) pa_nil)))) (pa_cons (pe_tup (pa_cons pe_str (pa_cons (pv 4) pa_nil))) pa_nil)))))) pss_nil)
      (pss_cons (ps_if (pt_cmpR op_eq (pv 7) pe_int (nomark _)) (pss_one (ps_ret (pe_tup (pa_cons (pe_tup (pa_cons pe_str (pa_cons (pv 10) (pa_cons (pe_tup (pa_cons (pe_tup (pa_cons pe_str (pa_cons (pv 9) (pa_cons (pe_tup (pa_cons (pe_tup (pa_cons pe_str (pa_cons (pv 4) pa_nil))) pa_nil)) (pa_cons (pe_tup pa_nil) pa_nil))))) pa_nil)) (pa_cons (pe_tup pa_nil) pa_nil))))) pa_nil)))) pss_nil)
      (pss_one (ps_ret (pe_ifExp (pt_cmpR op_eq (pv 7) pe_int (nomark _)) (pe_tup (pa_cons (pe_tup (pa_cons pe_str (pa_cons (pv 4) pa_nil))) pa_nil)) (pe_call G_program (hr.mono (by omega)) (by rfl) m_program F_program.kp b_program .nil pass0 (pa_cons (pv 0) (pa_cons (pv 1) pa_nil)))))))))))))))), ?_⟩
    refine ⟨_, rfl, a, c, cs, k, 13, rfl, D, by decide, by decide, by omega, fun H1 cs1 ya s1 D1 ya0 ya1 => ⟨ya, 6, rfl, rfl, ?_⟩⟩
    refine ⟨_, rfl, a, c, cs1, k + 1, 13, rfl, D1, by decide, by decide, by omega, fun H2 cs2 yb s2 D2 yb0 yb1 => ⟨yb, 6, rfl, rfl, ?_⟩⟩
    refine ⟨_, _, rfl, ?_⟩
    have s2 := s1.trans s2
    -- three numbers
    refine ⟨3, rfl, by decide, by decide, fun Z hZ => lc_range (lo := 0) (n := (3 : Int).toNat) (fun i H' => P3 H2 a c (k + 1 + 1) Z i H')
      ⟨(Sx.refl _).new hZ, ⟨cs2, by have := D2.new (o := .lst []) hZ; rw [show k + 1 + 1 + ((0 : Nat) : Int) = k + 1 + 1 by omega]; exact this⟩, [], upd_same, rfl, fun _ z => by simp at z⟩ (fun i H' hi p => ?_) (fun H' p => ?_)⟩
    · obtain ⟨p1, ⟨cs', D'⟩, ls, p3, p4, p5⟩ := p
      refine ⟨rfl, ?_⟩
      obtain ⟨Za, Zc⟩ := D2.nw hZ
      refine ⟨_, rfl, a, c, cs', _, 3, rfl, D', by decide, by decide, by omega, fun H5 cs5 x s5 D5 x0 x1 => ⟨x, 1, rfl, rfl, ?_⟩⟩
      refine ⟨_, s5 _ _ (by simp [Za, Zc]) p3, lt_line (by rw [List.length_map]; omega), (p1.trans s5).own hZ, ⟨cs5, ?_⟩, ls ++ [x - 1], by rw [upd_same, List.map_append]; rfl, by rw [List.length_append, p4]; rfl, fun y hy => ?_⟩
      · rw [show k + 1 + 1 + ((i + 1 : Nat) : Int) = k + 1 + 1 + i + 1 by omega]
        exact D5.sx ((Sx.refl (ex := [Z]) _).put (by simp)) (by simp [Za.symm]) (by simp [Zc.symm])
      · rcases List.mem_append.1 hy with z | z
        · exact p5 y z
        · rw [List.mem_singleton.mp z]; omega
    obtain ⟨p1, ⟨cs3, D3⟩, ls, p3, p4, p5⟩ := p
    have p4 : ls.length = 3 := p4
    obtain ⟨yc, yd, ye, rfl⟩ : ∃ x y z, ls = [x, y, z] := by
      match ls, p4 with
      | [x, y, z], _ => exact (⟨x, y, z, rfl⟩)
    obtain ⟨yc0, yc1⟩ := p5 yc (by simp)
    obtain ⟨yd0, yd1⟩ := p5 yd (by simp)
    obtain ⟨ye0, ye1⟩ := p5 ye (by simp)
    have D3 : Dk H' a c cs3 (k + 5) := by
      have e : k + 1 + 1 + (((3 : Int).toNat : Nat) : Int) = k + 5 := by show k + 1 + 1 + ((3 : Nat) : Int) = k + 5; omega
      rw [e] at D3
      exact D3
    refine ⟨Z, _, rfl, SqL.of p3, rfl, _, _, rfl, gnm ⟨_, _, rfl, gnm ⟨_, _, rfl, gnm ⟨rfl, ?_⟩⟩⟩⟩
    have s3 := s2.trans p1
    clear p1 p3 p4 p5 D D1 D2 s1 s2
    -- the way, and a divisor
    refine ⟨_, rfl, a, c, cs3, _, 8, rfl, D3, by decide, by decide, by omega, fun H4 cs4 wy s4 D4 w0 w1 => ?_⟩
    refine ⟨_, rfl, a, c, cs4, _, 5, rfl, D4, by decide, by decide, by omega, fun H5 cs5 by' s5 D5 b0 b1 => ⟨2, by', rfl, rfl, ?_⟩⟩
    refine ⟨_, _, rfl, ?_⟩
    have s5 := (s3.trans s4).trans s5
    -- the tests
    refine ⟨_, rfl, by show 3 ≤ sizeLine; decide, fun p1 hp1 => ?_⟩
    have D6 := D5.new (o := .tup [.str "less", .str "n", .int (ya - 6)]) hp1
    have s6 := s5.new (o := .tup [.str "less", .str "n", .int (ya - 6)]) hp1
    have t1 : Tp (upd H5 p1 (.tup [.str "less", .str "n", .int (ya - 6)])) (.ref p1) (Ts.less (.name "n") (.int (ya - 6))).d := .tup upd_same (.cons (.str _) (.cons (.str _) (.cons (.int _) .nil)))
    generalize upd H5 p1 (.tup [.str "less", .str "n", .int (ya - 6)]) = H6 at D6 s6 t1 ⊢
    refine ⟨_, rfl, _, rfl, _, rfl, a, c, cs5, _, _, rfl, D6, by show (0 : Int) < 2 + by'; omega, by show 2 + by' < 1073741824; omega, by omega, fun H7 cs7 yr s7 D7 r0 r1 => ⟨by show 4 ≤ sizeLine; decide, fun p2 hp2 => ?_⟩⟩
    have t1 := (t1.keep (D6.tk s7)).new (o := .tup [.str "rest", .str "n", .int (2 + by'), .int yr]) hp2
    have t2 : Tp (upd H7 p2 (.tup [.str "rest", .str "n", .int (2 + by'), .int yr])) (.ref p2) (Ts.rest (.name "n") (2 + by') yr).d := .tup upd_same (.cons (.str _) (.cons (.str _) (.cons (.int _) (.cons (.int _) .nil))))
    have D8 := D7.new (o := .tup [.str "rest", .str "n", .int (2 + by'), .int yr]) hp2
    have s8 := (s6.trans s7).new (o := .tup [.str "rest", .str "n", .int (2 + by'), .int yr]) hp2
    generalize upd H7 p2 (.tup [.str "rest", .str "n", .int (2 + by'), .int yr]) = H8 at t1 t2 D8 s8 ⊢
    refine ⟨_, _, rfl, ?_⟩
    have N8 := N.keep s8 (by simp [na, nc])
    clear D3 D4 D5 D6 D7 s3 s4 s5 s6 s7 hp1 hp2
    obtain ⟨z1, hz1, e1⟩ := N.two
    have nO : Ex.ok ns (.name "n") 3 := ⟨by decide, N.hn⟩
    have aO : Ex.ok ns (.int (ya - 6)) 3 := ⟨by decide, by omega, by omega⟩
    have cO : Ex.ok ns (.int yc) 3 := ⟨by decide, by omega, by omega⟩
    have dO : Ex.ok ns (.int yd) 3 := ⟨by decide, by omega, by omega⟩
    have eO : Ex.ok ns (.int ye) 3 := ⟨by decide, by omega, by omega⟩
    have lO : Ts.ok ns (.less (.name "n") (.int (ya - 6))) 2 := ⟨nO, aO⟩
    have rO : Ts.ok ns (.rest (.name "n") (2 + by') yr) 2 := ⟨nO, by omega, by omega, r0, r1⟩
    have fin : ∀ {H9 : Hp} {v : V} {b : Bk}, Sx [] H8 H9 → Tp H9 v (.tuple b.ds) → b.ok ns 4 → b.sz ≤ 12 → b.wt ≤ 16 → Q v H9 := fun {H9 v b} s9 t9 o z w => q H9 cs7 _ v b (s8.trans s9.nil) (D8.same s9) (by omega) (by omega) t9 o z w
    have pay1 : ∀ (x : Ex), x.ok ns 3 → ∀ d, 1 ≤ d → Bk.ok ns (.cons (.pay x) .nil) d := fun x hx d hd => ⟨hd, hx, trivial⟩
    refine ⟨_, rfl, rfl, _, rfl, ite2 (fun _ => ?_) (fun _ => ?_)⟩
    · refine ⟨_, rfl, by show 3 ≤ sizeLine; decide, fun q1 h1 => ⟨by show 2 ≤ sizeLine; decide, fun q2 h2 => ⟨by show 1 ≤ sizeLine; decide, fun q3 h3 => ?_⟩⟩⟩
      exact fin (b := .cons (.pay (.minus (.name "n") (.int (ya - 6)))) .nil) (((Sx.n0 h1).new h2).new h3) (tpB (tpL _ _ _ _ _ (.tup upd_same (.cons (.str _) (.cons (.str _) (.cons (.int _) .nil)))) h2) h3) (pay1 (.minus (.name "n") (.int (ya - 6))) ⟨by decide, ⟨by decide, N.hn⟩, by decide, by omega, by omega⟩ 4 (by decide)) (by simp only [Bk.sz, St.sz]; omega) (by simp only [Bk.wt, St.wt]; omega)
    refine ⟨_, rfl, rfl, _, rfl, ite2 (fun _ => ?_) (fun _ => ?_)⟩
    · refine ⟨_, rfl, _, rfl, by show 2 ≤ sizeLine; decide, fun q1 h1 => ⟨by show 1 ≤ sizeLine; decide, fun q2 h2 => ⟨_, rfl, by show 2 ≤ sizeLine; decide, fun q3 h3 => ⟨by show 1 ≤ sizeLine; decide, fun q4 h4 => ⟨by show 4 ≤ sizeLine; decide, fun q5 h5 => ⟨by show 1 ≤ sizeLine; decide, fun q6 h6 => ?_⟩⟩⟩⟩⟩⟩
      have v1 := tpB (tpL H8 "pay" (.int yc) (.int yc) q1 (.int _) h1) h2
      have v2 := tpB (tpL _ "pay" (.int yd) (.int yd) q3 (.int _) h3) h4
      refine fin (b := .cons (.ite (.less (.name "n") (.int (ya - 6))) (.cons (.pay (.int yc)) .nil) (.cons (.pay (.int yd)) .nil)) .nil) ((((((Sx.n0 h1).new h2).new h3).new h4).new h5).new h6) (tpB (.tup upd_same (.cons (.str _) (.cons (((((t1.new h1).new h2).new h3).new h4).new h5) (.cons (((v1.new h3).new h4).new h5) (.cons (v2.new h5) .nil))))) h6)
        ⟨by decide, ⟨lO, pay1 _ cO 3 (by decide), pay1 _ dO 3 (by decide)⟩, trivial⟩ (by simp only [Bk.sz, St.sz]; omega) (by simp only [Bk.wt, St.wt]; omega)
    refine ⟨_, rfl, rfl, _, rfl, ite2 (fun _ => ?_) (fun _ => ?_)⟩
    · refine ⟨_, rfl, _, rfl, by show 2 ≤ sizeLine; decide, fun q1 h1 => ⟨by show 1 ≤ sizeLine; decide, fun q2 h2 => ⟨_, rfl, by show 3 ≤ sizeLine; decide, fun q0 h0 => ⟨by show 2 ≤ sizeLine; decide, fun q3 h3 => ⟨by show 1 ≤ sizeLine; decide, fun q4 h4 => ⟨by show 4 ≤ sizeLine; decide, fun q5 h5 => ⟨by show 1 ≤ sizeLine; decide, fun q6 h6 => ?_⟩⟩⟩⟩⟩⟩⟩
      have v1 := tpB (tpL H8 "pay" (.int yc) (.int yc) q1 (.int _) h1) h2
      have v2 := tpB (tpL _ "pay" (.ref q0) (Ex.minus (.int (ya - 6)) (.name "n")).d q3 (.tup upd_same (.cons (.str _) (.cons (.int _) (.cons (.str _) .nil)))) h3) h4
      refine fin (b := .cons (.ite (.rest (.name "n") (2 + by') yr) (.cons (.pay (.int yc)) .nil) (.cons (.pay (.minus (.int (ya - 6)) (.name "n"))) .nil)) .nil) (((((((Sx.n0 h1).new h2).new h0).new h3).new h4).new h5).new h6) (tpB (.tup upd_same (.cons (.str _) (.cons ((((((t2.new h1).new h2).new h0).new h3).new h4).new h5) (.cons ((((v1.new h0).new h3).new h4).new h5) (.cons (v2.new h5) .nil))))) h6)
        ⟨by decide, ⟨rO, pay1 _ cO 3 (by decide), pay1 (.minus (.int (ya - 6)) (.name "n")) ⟨by decide, ⟨by decide, by omega, by omega⟩, by decide, N.hn⟩ 3 (by decide)⟩, trivial⟩ (by simp only [Bk.sz, St.sz]; omega) (by simp only [Bk.wt, St.wt]; omega)
    refine ⟨_, rfl, rfl, _, rfl, ite2 (fun _ => ?_) (fun _ => ?_)⟩
    · refine ⟨_, rfl, _, rfl, by show 2 ≤ sizeLine; decide, fun q1 h1 => ⟨by show 1 ≤ sizeLine; decide, fun q2 h2 => ⟨_, rfl, by show 3 ≤ sizeLine; decide, fun q0 h0 => ⟨_, rfl, by show 2 ≤ sizeLine; decide, fun q3 h3 => ⟨by show 1 ≤ sizeLine; decide, fun q4 h4 => ⟨_, rfl, by show 2 ≤ sizeLine; decide, fun q5 h5 => ⟨by show 1 ≤ sizeLine; decide, fun q6 h6 => ?_⟩⟩⟩⟩⟩⟩⟩
      refine ⟨by show 4 ≤ sizeLine; decide, fun q7 h7 => ⟨by show 1 ≤ sizeLine; decide, fun q8 h8 => ⟨by show 4 ≤ sizeLine; decide, fun q9 h9 => ⟨by show 1 ≤ sizeLine; decide, fun q10 h10 => ?_⟩⟩⟩⟩
      have v1 := tpB (tpL H8 "pay" (.int yc) (.int yc) q1 (.int _) h1) h2
      have s2 : Sx [] H8 (upd (upd H8 q1 (.tup [.str "pay", .int yc])) q2 (.tup [.ref q1])) := (Sx.n0 h1).new h2
      have t1 := t1.keep s2.tk0
      generalize upd (upd H8 q1 (.tup [.str "pay", .int yc])) q2 (.tup [.ref q1]) = H9 at h0 h3 h4 h5 h6 h7 h8 h9 h10 v1 s2 t1 ⊢
      have v0 : Tp (upd H9 q0 (.tup [.str "less", .str "n", .int (yb - 6)])) (.ref q0) (Ts.less (.name "n") (.int (yb - 6))).d := .tup upd_same (.cons (.str _) (.cons (.str _) (.cons (.int _) .nil)))
      have s3 := s2.new (o := .tup [.str "less", .str "n", .int (yb - 6)]) h0
      have t1 := t1.new (o := .tup [.str "less", .str "n", .int (yb - 6)]) h0
      have v1 := v1.new (o := .tup [.str "less", .str "n", .int (yb - 6)]) h0
      generalize upd H9 q0 (.tup [.str "less", .str "n", .int (yb - 6)]) = H9 at h3 h4 h5 h6 h7 h8 h9 h10 v1 v0 s3 t1 ⊢
      have v2 := tpB (tpL H9 "pay" (.int yd) (.int yd) q3 (.int _) h3) h4
      have s4 : Sx [] H9 (upd (upd H9 q3 (.tup [.str "pay", .int yd])) q4 (.tup [.ref q3])) := (Sx.n0 h3).new h4
      have t1 := t1.keep s4.tk0
      have v1 := v1.keep s4.tk0
      have v0 := v0.keep s4.tk0
      have s4 := s3.trans s4
      generalize upd (upd H9 q3 (.tup [.str "pay", .int yd])) q4 (.tup [.ref q3]) = H9 at h5 h6 h7 h8 h9 h10 v1 v0 v2 s4 t1 ⊢
      have v3 := tpB (tpL H9 "pay" (.int ye) (.int ye) q5 (.int _) h5) h6
      have s5 : Sx [] H9 (upd (upd H9 q5 (.tup [.str "pay", .int ye])) q6 (.tup [.ref q5])) := (Sx.n0 h5).new h6
      have t1 := t1.keep s5.tk0
      have v1 := v1.keep s5.tk0
      have v0 := v0.keep s5.tk0
      have v2 := v2.keep s5.tk0
      have s5 := s4.trans s5
      generalize upd (upd H9 q5 (.tup [.str "pay", .int ye])) q6 (.tup [.ref q5]) = H9 at h7 h8 h9 h10 v1 v0 v2 v3 s5 t1 ⊢
      have v4 := tpB (.tup upd_same (.cons (.str "if") (.cons (v0.new h7) (.cons (v2.new h7) (.cons (v3.new h7) .nil))))) h8
      exact fin (b := .cons (.ite (.less (.name "n") (.int (ya - 6))) (.cons (.pay (.int yc)) .nil) (.cons (.ite (.less (.name "n") (.int (yb - 6))) (.cons (.pay (.int yd)) .nil) (.cons (.pay (.int ye)) .nil)) .nil)) .nil) ((((s5.new h7).new h8).new h9).new h10)
        (tpB (.tup upd_same (.cons (.str _) (.cons (((t1.new h7).new h8).new h9) (.cons (((v1.new h7).new h8).new h9) (.cons (v4.new h9) .nil))))) h10)
        ⟨by decide, ⟨lO, pay1 _ cO 3 (by decide), by decide, ⟨⟨nO, by decide, by omega, by omega⟩, pay1 _ dO 2 (by decide), pay1 _ eO 2 (by decide)⟩, trivial⟩, trivial⟩ (by simp only [Bk.sz, St.sz]; omega) (by simp only [Bk.wt, St.wt]; omega)
    refine ⟨_, rfl, rfl, _, rfl, ite2 (fun _ => ?_) (fun _ => ?_)⟩
    · have at1 : atI (ns.map V.str) 1 = some (.str z1) := atI_nat (j := 1) (by rw [List.getElem?_map, e1]; rfl)
      refine ⟨_, rfl, nm, _, _, .str z1, rfl, rfl, N8.at_, at1, _, rfl, by show 3 ≤ sizeLine; decide, fun q1 h1 => ⟨by show 3 ≤ sizeLine; decide, fun q2 h2 => ?_⟩⟩
      have x1 : Tp (upd H8 q1 (.tup [.str "plus", .str "n", .int (ya - 6)])) (.ref q1) (Ex.plus (.name "n") (.int (ya - 6))).d := .tup upd_same (.cons (.str _) (.cons (.str _) (.cons (.int _) .nil)))
      have n1 := Sx.n0 (o := .tup [.str "plus", .str "n", .int (ya - 6)]) h1
      generalize upd H8 q1 (.tup [.str "plus", .str "n", .int (ya - 6)]) = H9 at h2 x1 n1 ⊢
      have x2 : Tp (upd H9 q2 (.tup [.str "set", .str z1, .ref q1])) (.ref q2) (St.set z1 (.plus (.name "n") (.int (ya - 6)))).d := .tup upd_same (.cons (.str _) (.cons (.str _) (.cons (x1.new h2) .nil)))
      have n2 := n1.new (o := .tup [.str "set", .str z1, .ref q1]) h2
      generalize upd H9 q2 (.tup [.str "set", .str z1, .ref q1]) = H9 at x2 n2 ⊢
      refine ⟨_, rfl, nm, _, _, .str z1, rfl, rfl, (N8.keep n2 (by simp)).at_, at1, by show 2 ≤ sizeLine; decide, fun q3 h3 => ⟨by show 1 ≤ sizeLine; decide, fun q4 h4 => ⟨by show 3 ≤ sizeLine; decide, fun q5 h5 => ⟨_, rfl, by show 2 ≤ sizeLine; decide, fun q6 h6 => ⟨by show 3 ≤ sizeLine; decide, fun q7 h7 => ?_⟩⟩⟩⟩⟩
      have x3 := tpB (tpL H9 "pay" (.str z1) (.str z1) q3 (.str _) h3) h4
      have x5 : Tp (upd (upd (upd H9 q3 (.tup [.str "pay", .str z1])) q4 (.tup [.ref q3])) q5 (.tup [.str "repeat", .int 2, .ref q4])) (.ref q5) (St.rep 2 (.cons (.pay (.name z1)) .nil)).d := .tup upd_same (.cons (.str _) (.cons (.int _) (.cons (x3.new h5) .nil)))
      have x6 := tpL _ "pay" (.int yc) (.int yc) q6 (.int _) h6
      refine fin (b := .cons (.set z1 (.plus (.name "n") (.int (ya - 6)))) (.cons (.rep 2 (.cons (.pay (.name z1)) .nil)) (.cons (.pay (.int yc)) .nil))) (((((n2.new h3).new h4).new h5).new h6).new h7) (.tup upd_same (.cons (((((x2.new h3).new h4).new h5).new h6).new h7) (.cons ((x5.new h6).new h7) (.cons (x6.new h7) .nil))))
        ⟨by decide, ⟨hz1, by decide, ⟨by decide, N.hn⟩, by decide, by omega, by omega⟩, by decide, ⟨by decide, by decide, pay1 (.name z1) ⟨by decide, hz1⟩ 3 (by decide)⟩, by decide, cO, trivial⟩ (by simp only [Bk.sz, St.sz]; omega) (by simp only [Bk.wt, St.wt]; omega)
    refine ⟨_, rfl, rfl, _, rfl, ite2 (fun _ => ?_) (fun _ => ?_)⟩
    · refine ⟨_, rfl, _, rfl, _, rfl, by show 2 ≤ sizeLine; decide, fun q1 h1 => ⟨by show 1 ≤ sizeLine; decide, fun q2 h2 => ⟨by show 0 ≤ sizeLine; decide, fun q3 h3 => ⟨by show 4 ≤ sizeLine; decide, fun q4 h4 => ⟨by show 1 ≤ sizeLine; decide, fun q5 h5 => ⟨by show 0 ≤ sizeLine; decide, fun q6 h6 => ⟨by show 4 ≤ sizeLine; decide, fun q7 h7 => ⟨by show 1 ≤ sizeLine; decide, fun q8 h8 => ?_⟩⟩⟩⟩⟩⟩⟩⟩
      have v1 := tpB (tpL H8 "pay" (.int yc) (.int yc) q1 (.int _) h1) h2
      have s2 : Sx [] H8 (upd (upd H8 q1 (.tup [.str "pay", .int yc])) q2 (.tup [.ref q1])) := (Sx.n0 h1).new h2
      have t1 := t1.keep s2.tk0
      have t2 := t2.keep s2.tk0
      generalize upd (upd H8 q1 (.tup [.str "pay", .int yc])) q2 (.tup [.ref q1]) = H9 at h3 h4 h5 h6 h7 h8 v1 s2 t1 t2 ⊢
      have v3 : Tp (upd H9 q3 (.tup [])) (.ref q3) (.tuple Bk.nil.ds) := .tup upd_same .nil
      have v4 := tpB (.tup upd_same (.cons (.str "if") (.cons ((t1.new h3).new h4) (.cons ((v1.new h3).new h4) (.cons (v3.new h4) .nil))))) h5
      have n5 := ((s2.new (o := .tup []) h3).new (o := .tup [.str "if", .ref p1, .ref q2, .ref q3]) h4).new (o := .tup [.ref q4]) h5
      have t2 := ((t2.new (o := .tup []) h3).new (o := .tup [.str "if", .ref p1, .ref q2, .ref q3]) h4).new (o := .tup [.ref q4]) h5
      generalize upd (upd (upd H9 q3 (.tup [])) q4 (.tup [.str "if", .ref p1, .ref q2, .ref q3])) q5 (.tup [.ref q4]) = H9 at h6 h7 h8 v4 n5 t2 ⊢
      have v6 : Tp (upd H9 q6 (.tup [])) (.ref q6) (.tuple Bk.nil.ds) := .tup upd_same .nil
      exact fin (b := .cons (.ite (.rest (.name "n") (2 + by') yr) (.cons (.ite (.less (.name "n") (.int (ya - 6))) (.cons (.pay (.int yc)) .nil) .nil) .nil) .nil) .nil) (((n5.new h6).new h7).new h8) (tpB (.tup upd_same (.cons (.str _) (.cons ((t2.new h6).new h7) (.cons ((v4.new h6).new h7) (.cons (v6.new h7) .nil))))) h8)
        ⟨by decide, ⟨rO, ⟨by decide, ⟨lO, pay1 _ cO 2 (by decide), trivial⟩, trivial⟩, trivial⟩, trivial⟩ (by simp only [Bk.sz, St.sz]; omega) (by simp only [Bk.wt, St.wt]; omega)
    refine ⟨_, rfl, rfl, _, rfl, ite2 (fun _ => ?_) (fun _ => ?_)⟩
    · refine ⟨_, rfl, by show 2 ≤ sizeLine; decide, fun q1 h1 => ⟨by show 1 ≤ sizeLine; decide, fun q2 h2 => ?_⟩⟩
      exact fin (b := .cons (.pay (.int yc)) .nil) ((Sx.n0 h1).new h2) (tpB (tpL _ _ _ _ _ (.int _) h1) h2) (pay1 _ cO 4 (by decide)) (by simp only [Bk.sz, St.sz]; omega) (by simp only [Bk.wt, St.wt]; omega)
    · refine ⟨_, rfl, _, rfl, a, c, cs7, _, nm, ns, rfl, D8, N8, na, nc, by omega, fun H9 cs9 k9 v es n w' r cc s9 D9 k9a k9b T9 B9 hn hw => ?_⟩
      obtain ⟨b, rfl, bo, bsz, bwt, _, _⟩ := Bk.of B9
      exact q H9 cs9 k9 v b (s8.trans s9) D9 (by omega) (by omega) T9 bo (by omega) (by omega)
end
/-! ### programs of a list of statements -/
def Bk.ofL : List St → Bk
  | [] => .nil
  | s :: l => .cons s (Bk.ofL l)
theorem Bk.ofL_lst : ∀ l : List St, (Bk.ofL l).lst = l
  | [] => rfl
  | s :: l => by rw [Bk.ofL, Bk.lst, Bk.ofL_lst l]
theorem Bk.ofL_ds (l : List St) : (Bk.ofL l).ds = l.map St.d := by rw [Bk.ds_lst, Bk.ofL_lst]
theorem Bk.ofL_sz (l : List St) : (Bk.ofL l).sz = (l.map St.sz).sum := by rw [Bk.sz_lst, Bk.ofL_lst]
theorem Bk.wt_sum : ∀ b : Bk, b.wt = (b.lst.map St.wt).sum
  | .nil => rfl
  | .cons s b => by rw [Bk.wt, Bk.lst, List.map_cons, List.sum_cons, Bk.wt_sum b]
theorem Bk.ofL_ok {ns : List Str} {d : Nat} : ∀ {l : List St}, (∀ s ∈ l, s.ok ns d) → (Bk.ofL l).ok ns (d + 1)
  | [], _ => trivial
  | s :: l, h => ⟨by omega, h s (List.mem_cons_self ..), Bk.ofL_ok fun x hx => h x (List.mem_cons_of_mem _ hx)⟩
theorem Bk.mem_ok {ns : List Str} {d : Nat} : ∀ {b : Bk} {s : St}, b.ok ns d → s ∈ b.lst → s.ok ns (d - 1)
  | .cons s0 b, s, ⟨h1, h2, h3⟩, h => by
    rcases List.mem_cons.1 (show s ∈ s0 :: b.lst from h) with rfl | h
    · exact h2
    · exact Bk.mem_ok h3 h
theorem sum_take_le (f : St → Nat) : ∀ (l : List St) (n : Nat), ((l.take n).map f).sum ≤ (l.map f).sum
  | [], n => by simp
  | s :: l, 0 => by simp
  | s :: l, n + 1 => by
    have := sum_take_le f l n
    simp only [List.take_succ_cons, List.map_cons, List.sum_cons]
    omega
/-- its first statements, and one payment more -/
def Bk.more (b : Bk) (n : Nat) (i : Int) : Bk := Bk.ofL (b.lst.take n ++ [.pay (.int i)])
theorem Bk.more_ok {ns : List Str} {b : Bk} (h : b.ok ns 4) (n : Nat) {i : Int} (h1 : -99 ≤ i) (h2 : i ≤ 99) : (b.more n i).ok ns 4 := Bk.ofL_ok fun s hs => by
  rcases List.mem_append.1 hs with hs | hs
  · exact Bk.mem_ok h (List.mem_of_mem_take hs)
  · rw [List.mem_singleton.mp hs]
    exact ⟨by decide, h1, h2⟩
theorem Bk.more_sz (b : Bk) (n : Nat) (i : Int) : (b.more n i).sz ≤ b.sz + 1 := by
  have := sum_take_le St.sz b.lst n
  unfold Bk.more
  rw [Bk.ofL_sz, List.map_append, List.sum_append, b.sz_lst]
  simp only [List.map_cons, List.map_nil, List.sum_cons, List.sum_nil, St.sz]
  omega
theorem Bk.more_wt (b : Bk) (n : Nat) (i : Int) : (b.more n i).wt ≤ b.wt + 1 := by
  have := sum_take_le St.wt b.lst n
  unfold Bk.more
  rw [Bk.wt_sum, Bk.ofL_lst, List.map_append, List.sum_append, b.wt_sum]
  simp only [List.map_cons, List.map_nil, List.sum_cons, List.sum_nil, St.wt]
  omega
theorem TpAll.mem {H : Hp} : ∀ {vs : List V} {ds : List PyData} {v : V}, TpAll H vs ds → v ∈ vs → ∃ d ∈ ds, Tp H v d
  | _, _, _, .cons a b, h => by
    rcases List.mem_cons.1 h with rfl | h
    · exact ⟨_, List.mem_cons_self .., a⟩
    · obtain ⟨d, hd, t⟩ := TpAll.mem b h
      exact ⟨d, List.mem_cons_of_mem _ hd, t⟩
def cF : Int := 3500130
def bkD (b : Bk) : PyData := .tuple b.ds
/-- programs over these names, each within so many statements, and so much weight -/
def Fm (ns : List Str) (n : Nat) (bs : List Bk) : Prop := ∀ b ∈ bs, b.ok ns 4 ∧ b.sz ≤ 12 + n ∧ b.wt ≤ 16 + n
def spFamily (K : PySem.W.Frag) : Sp := fun vs H Q _ => ∃ (a c : Addr) (cs : List Int) (k : Int) (nm : Addr) (ns : List Str) (m : Int), vs = [.ref a, .ref nm, .int m] ∧ Dk H a c cs k ∧ Nms K H nm ns ∧ nm ≠ a ∧ nm ≠ c ∧ 1 ≤ m ∧ m ≤ 5 ∧ k + cF ≤ KB ∧
  ∀ H' cs' k' v (bs : List Bk), Sx [a, c] H H' → Dk H' a c cs' k' → k ≤ k' → k' ≤ k + cF → Tp H' v (.tuple (bs.map bkD)) → bs ≠ [] → (bs.length : Int) ≤ m → Fm ns 5 bs → Q v H'
section
variable {w : World} {P : Program} {K : PySem.W.Frag} {mg : Str → Option Value} {base : Heap}
theorem ok_family {f fD fO fL : Addr} {fd fdD fdO fdL : FuncData} (F : Fun K "_law_family" "_law_family" sFamily f fd) (F_draw : Fun K "_law_draw" "_law_draw" sDraw fD fdD) (F_one : Fun K "_law_one" "_law_one" sOne fO fdO) (F_little : Fun K "_law_little" "_law_little" sLittle fL fdL)
    (G_draw : FnOk P w K mg base CX0 1 fD fdD ["_law_deck_here", "_law_many"] spDraw) (G_one : FnOk P w K mg base CX0 2 fO fdO ["_law_deck_here", "_law_items"] (spOne K)) (G_little : FnOk P w K mg base CX0 16 fL fdL ["_law_deck_here", "_law_names_here"] (spLittle K))
    (b_draw : Binds K fdD ["_law_deck_here", "_law_many"] []) (b_one : Binds K fdO ["_law_deck_here", "_law_items"] []) (b_little : Binds K fdL ["_law_deck_here", "_law_names_here"] [])
    (m_draw : mg "_law_draw" = some (.ref fD)) (m_one : mg "_law_one" = some (.ref fO)) (m_little : mg "_law_little" = some (.ref fL)) (z_range : mg "range" = none) (z_tuple : mg "tuple" = none) :
    FnOk P w K mg base CX0 17 f fd ["_law_deck_here", "_law_names_here", "_law_most"] (spFamily K) := by
  refine F.ok scFamily (fun vs H Q E h => ?_) (fun cdv A outer s H vs Q E hr h => ?_)
  · obtain ⟨a, c, cs, k, nm, ns, m, rfl, _⟩ := h
    rfl
  · obtain ⟨a, c, cs, k, nm, ns, m, rfl, D, N, na, nc, m1, m5, hk, q⟩ := h
    have eL : cL = 700020 := rfl
    have eF : cF = 3500130 := rfl
    refine ⟨_, (pss_cons (ps_set (i := 3) scFamily.nd rfl (by first | exact Or.inl rfl | exact Or.inr rfl) (pe_lst (pa_cons (pe_call G_little (hr.mono (by omega)) (by rfl) m_little F_little.kp b_little .nil pass0 (pa_cons (pv 0) (pa_cons (pv 1) pa_nil))) pa_nil)))
      (C8.pss_cut (ps_for PassesOwn.never rfl (pi_range1 (by rfl) z_range (pa_cons (pe_call G_draw (hr.mono (by omega)) (by rfl) m_draw F_draw.kp b_draw .nil pass0 (pa_cons (pv 0) (pa_cons (pv 2) pa_nil))) pa_nil)) (pg_name (i := 4) scFamily.nd rfl (by first | exact Or.inl rfl | exact Or.inr rfl)) (pss_cons (ps_set (i := 5) scFamily.nd rfl (by first | exact Or.inl rfl | exact Or.inr rfl) (pe_call G_draw (hr.mono (by omega)) (by rfl) m_draw F_draw.kp b_draw .nil pass0 (pa_cons (pv 0) (pa_cons pe_int pa_nil))))
      (pss_one (ps_if (pt_cmpR op_eq (pv 5) pe_int (nomark _)) (pss_one (ps_expr (pe_bm PySem.F.plainAttrs_list PySem.F.slot_list_append PySem.F.type_list_append mt_append (pv 3) (pa_cons (pe_call G_one (hr.mono (by omega)) (by rfl) m_one F_one.kp b_one .nil pass0 (pa_cons (pv 0) (pa_cons (pv 3) pa_nil))) pa_nil)))) (pss_one (ps_if (pt_cmpR op_eq (pv 5) pe_int (nomark _)) (pss_one (ps_expr (pe_bm PySem.F.plainAttrs_list PySem.F.slot_list_append PySem.F.type_list_append mt_append (pv 3) (pa_cons (pe_op op_catA (pe_slice sl_tupA (pe_call G_one (hr.mono (by omega)) (by rfl) m_one F_one.kp b_one .nil pass0 (pa_cons (pv 0) (pa_cons (pv 3) pa_nil))) po_none (po_some pe_int)) (pe_tup (pa_cons (pe_tup (pa_cons pe_str (pa_cons (pe_op op_sub (pe_call G_draw (hr.mono (by omega)) (by rfl) m_draw F_draw.kp b_draw .nil pass0 (pa_cons (pv 0) (pa_cons pe_int pa_nil))) pe_int) pa_nil))) pa_nil))) pa_nil)))) (pss_one (ps_expr (pe_bm PySem.F.plainAttrs_list PySem.F.slot_list_append PySem.F.type_list_append mt_append (pv 3) (pa_cons (pe_call G_little (hr.mono (by omega)) (by rfl) m_little F_little.kp b_little .nil pass0 (pa_cons (pv 0) (pa_cons (pv 1) pa_nil))) pa_nil))))))))))
      (pss_one (ps_ret (pe_callTy call_tuple_of (by rfl) z_tuple boot_tuple (pa_cons (pv 3) pa_nil)))))), ?_⟩
    refine ⟨_, rfl, _, rfl, a, c, cs, k, nm, ns, rfl, D, N, na, nc, by omega, fun H1 cs1 k1 v1 b1 s1 D1 k1a k1b T1 o1 z1 w1 => ?_⟩
    refine ⟨by show 1 ≤ sizeLine; decide, fun L hL => ?_⟩
    obtain ⟨La, Lc⟩ := D1.nw hL
    have T2 := T1.new (o := .lst [v1]) hL
    have D2 := D1.new (o := .lst [v1]) hL
    have s2 := s1.new (o := .lst [v1]) hL
    have eL2 : (upd H1 L (.lst [v1])) L = some (.lst [v1]) := upd_same
    have hHL : H L = none := s1.free (by simp [La, Lc]) hL
    generalize upd H1 L (.lst [v1]) = H2 at T2 D2 s2 eL2 ⊢
    refine ⟨fun σ H' => ∃ (cs' : List Int) (k' : Int) (vals : List V) (bs : List Bk) (o4 o5 : Option V), σ = [some (.ref a), some (.ref nm), some (.int m), some (.ref L), o4, o5] ∧ Sx [a, c] H H' ∧ Dk H' a c cs' k' ∧ k ≤ k' ∧ k' ≤ k + cF ∧ H' L = some (.lst vals) ∧ TpAll H' vals (bs.map bkD) ∧ bs ≠ [] ∧ (bs.length : Int) ≤ m ∧ Fm ns 5 bs, ?_, ?_⟩
    · refine ⟨_, rfl, _, rfl, a, c, cs1, k1, m, rfl, D2, by omega, by omega, by omega, fun H3 cs3 r s3 D3 r0 r1 => ⟨r, rfl, by omega, by omega, ?_⟩⟩
      refine for_range (n := r.toNat) (fun i σ H' => ∃ (cs' : List Int) (k' : Int) (vals : List V) (bs : List Bk) (o4 o5 : Option V), σ = [some (.ref a), some (.ref nm), some (.int m), some (.ref L), o4, o5] ∧ Sx [a, c] H H' ∧ Dk H' a c cs' k' ∧ k ≤ k' ∧ k' ≤ k1 + 1 + (i : Int) * 700025 ∧ H' L = some (.lst vals) ∧ TpAll H' vals (bs.map bkD) ∧ bs.length = i + 1 ∧ Fm ns i bs)
        ⟨cs3, k1 + 1, [v1], [b1], _, _, rfl, s2.trans s3, D3, by omega, by omega, s3 _ _ (by simp [La, Lc]) eL2, .cons (T2.keep (D2.tk s3)) .nil, rfl, fun b hb => by rw [List.mem_singleton.mp hb]; exact ⟨o1, by omega, by omega⟩⟩ (fun i σ' H' hi h => ?_) (fun σ' H' h => ?_)
      · obtain ⟨cs4, k4, vals, bs, o4, o5, rfl, s4, D4, k4a, k4b, e4, T4, l4, F4⟩ := h
        have hi4 : i < 4 := by omega
        have N4 := N.keep s4 (by simp [na, nc])
        have vl := T4.len
        rw [List.length_map] at vl
        refine gnm ?_
        refine ⟨_, rfl, a, c, cs4, k4, 6, rfl, D4, by decide, by decide, by omega, fun H5 cs5 y s5 D5 y0 y1 => ?_⟩
        have T5 := T4.keep (D4.tk s5)
        have e5 := s5 _ _ (by simp [La, Lc]) e4
        have N5 := N4.keep s5 (by simp [na, nc])
        have s5 := s4.trans s5
        have F5 : Fm ns (i + 1) bs := fun b hb => ⟨(F4 b hb).1, by have := (F4 b hb).2.1; omega, by have := (F4 b hb).2.2; omega⟩
        -- one more
        have more : ∀ {H6 H7 : Hp} {cs6 : List Int} {k6 : Int} {v6 : V} {b6 : Bk} {σ : L2.St}, σ = [some (.ref a), some (.ref nm), some (.int m), some (.ref L), some (.int (0 + (i : Int))), some (.int y)] → Sx [a, c] H5 H6 → Dk H6 a c cs6 k6 → k4 + 1 ≤ k6 → k6 ≤ k4 + 700025 → Tp H6 v6 (bkD b6) → b6.ok ns 4 → b6.sz ≤ 13 + i → b6.wt ≤ 17 + i →
            ∃ l xs, V.ref L = .ref l ∧ [v6] = xs ∧ H6 L = some (.lst vals) ∧ vals.length < sizeLine ∧ ∃ (cs' : List Int) (k' : Int) (vals' : List V) (bs : List Bk) (o4 o5 : Option V), σ = [some (.ref a), some (.ref nm), some (.int m), some (.ref L), o4, o5] ∧ Sx [a, c] H (upd H6 L (.lst (vals ++ xs))) ∧ Dk (upd H6 L (.lst (vals ++ xs))) a c cs' k' ∧ k ≤ k' ∧ k' ≤ k1 + 1 + ((i + 1 : Nat) : Int) * 700025 ∧ (upd H6 L (.lst (vals ++ xs))) L = some (.lst vals') ∧ TpAll (upd H6 L (.lst (vals ++ xs))) vals' (bs.map bkD) ∧ bs.length = i + 1 + 1 ∧ Fm ns (i + 1) bs := fun {H6 H7 cs6 k6 v6 b6 σ} hσ s6 D6 k6a k6b t6 o6 z6 w6 => by
          have e6 := s6 _ _ (by simp [La, Lc]) e5
          have T6 := T5.keep (D5.tk s6)
          refine ⟨L, [v6], rfl, rfl, e6, lt_line (by omega), cs6, k6, vals ++ [v6], bs ++ [b6], _, _, hσ, (s5.trans s6).own hHL, D6.sx ((Sx.refl (ex := [L]) _).put (by simp)) (by simp [La.symm]) (by simp [Lc.symm]), by omega, by omega, upd_same, ?_, by rw [List.length_append, l4]; rfl, fun b hb => ?_⟩
          · rw [List.map_append]
            exact (T6.keep (Tk.lst e6)).append (.cons (t6.keep (Tk.lst e6)) .nil)
          · rcases List.mem_append.1 hb with hb | hb
            · exact F5 b hb
            · rw [(List.mem_singleton.mp hb)]
              exact ⟨o6, by omega, by omega⟩
        refine gnm ?_
        have sqL : vals ≠ [] := fun z => by rw [z] at vl; rw [l4] at vl; simp at vl
        refine ⟨_, rfl, rfl, _, rfl, ite2 (fun _ => ?_) (fun _ => ?_)⟩
        · refine ⟨_, rfl, .inl ⟨rfl, _, SqL.of e5⟩, _, rfl, _, rfl, a, c, cs5, _, _, rfl, D5, by omega, .inl ⟨L, _, rfl, SqL.of e5, sqL, by omega, La, Lc, fun H6 cs6 x s6 D6 hx => ?_⟩⟩
          obtain ⟨d, hd, t⟩ := T5.mem hx
          obtain ⟨b6, hb6, rfl⟩ := List.mem_map.mp hd
          obtain ⟨l, xs, h1, h2, h3, h4, h5⟩ := more (H7 := H6) rfl s6 D6 (by omega) (by omega) (t.keep (D5.tk s6)) (F4 b6 hb6).1 (by have := (F4 b6 hb6).2.1; omega) (by have := (F4 b6 hb6).2.2; omega)
          cases h2
          exact ⟨L, _, _, rfl, rfl, h3, h4, h5⟩
        refine ⟨_, rfl, rfl, _, rfl, ite2 (fun _ => ?_) (fun _ => ?_)⟩
        · refine ⟨_, rfl, .inl ⟨rfl, _, SqL.of e5⟩, _, rfl, _, rfl, a, c, cs5, _, _, rfl, D5, by omega, .inl ⟨L, _, rfl, SqL.of e5, sqL, by omega, La, Lc, fun H6 cs6 x s6 D6 hx => ?_⟩⟩
          obtain ⟨d, hd, t⟩ := T5.mem hx
          obtain ⟨b6, hb6, rfl⟩ := List.mem_map.mp hd
          have t6 : Tp H6 x (.tuple b6.ds) := t.keep (D5.tk s6)
          obtain ⟨ax, xs, rfl, hax, hxs⟩ := t6.tuple
          rw [b6.ds_lst] at hxs
          have xl := hxs.len
          rw [List.length_map] at xl
          -- the slice
          have key : ∀ {H7 : Hp} {v7 : V}, Sx [] H6 H7 → Tp H7 v7 (.tuple ((b6.lst.take 14).map St.d)) → True := fun _ _ => trivial
          clear key
          have cut : cutV xs none (some 14) = xs.take 14 := by
            unfold cutV
            rw [HT.sIx_none, show HT.sIx xs.length xs.length (some 14) = min 14 xs.length from HT.sIx_nat _ _ 14, List.drop_zero, Nat.sub_zero]
            rcases Nat.le_total 14 xs.length with h | h
            · rw [Nat.min_eq_left h]
            · rw [Nat.min_eq_right h, List.take_of_length_le (Nat.le_refl _), List.take_of_length_le h]
          have bl := bk_le b6
          have zb := (F4 b6 hb6).2.1
          have finish : ∀ (H7 H8 : Hp) (v7 : V) (y8 : Int) (cs8 : List Int), Sx [] H6 H7 → Sx [a, c] H7 H8 → Dk H8 a c cs8 (k4 + 1 + 1 + 1) → 0 ≤ y8 → y8 < 3 → Tp H8 v7 (.tuple ((b6.lst.take 14).map St.d)) → ∀ p1, H8 p1 = none → ∀ p2, (upd H8 p1 (.tup [.str "pay", .int (y8 - 1)])) p2 = none →
              ∀ {Qf : V → Hp → Prop}, (∀ H9 z9, Sx [a, c] H5 H9 → Dk H9 a c cs8 (k4 + 1 + 1 + 1) → Tp H9 z9 (bkD (b6.more 14 (y8 - 1))) → Qf z9 H9) → rCatA K v7 (.ref p2) (upd (upd H8 p1 (.tup [.str "pay", .int (y8 - 1)])) p2 (.tup [.ref p1])) Qf := fun H7 H8 v7 y8 cs8 s7 s8 D8 y80 y81 t8 p1 hp1 p2 hp2 Qf h => by
            have n1 : Sx [] H8 (upd (upd H8 p1 (.tup [.str "pay", .int (y8 - 1)])) p2 (.tup [.ref p1])) := (Sx.n0 hp1).new hp2
            have u1 := tpB (tpL H8 "pay" (.int (y8 - 1)) (.int (y8 - 1)) p1 (.int _) hp1) hp2
            refine cat_tp (t8.keep n1.tk0) u1 (by rw [List.length_map, List.length_take]; show _ + 1 ≤ 16777216; omega) (fun H9 z9 s9 _ t9 => ?_)
            refine h H9 z9 (((s6.trans s7.nil).trans s8).trans (n1.trans s9).nil) (D8.same (n1.trans s9)) ?_
            unfold bkD Bk.more
            rw [Bk.ofL_ds, List.map_append]
            exact t9
          have done : ∀ (H9 : Hp) (z9 : V) (y8 : Int) (cs8 : List Int), 0 ≤ y8 → y8 < 3 → Sx [a, c] H5 H9 → Dk H9 a c cs8 (k4 + 1 + 1 + 1) → Tp H9 z9 (bkD (b6.more 14 (y8 - 1))) → ∃ l acc xs, V.ref L = .ref l ∧ [z9] = [xs] ∧ H9 l = some (.lst acc) ∧ acc.length < sizeLine ∧ ∃ (cs' : List Int) (k' : Int) (vals : List V) (bs : List Bk) (o4 o5 : Option V), [some (.ref a), some (.ref nm), some (.int m), some (.ref L), some (.int (0 + (i : Int))), some (.int y)] = [some (.ref a), some (.ref nm), some (.int m), some (.ref L), o4, o5] ∧ Sx [a, c] H (upd H9 l (.lst (acc ++ [xs]))) ∧ Dk (upd H9 l (.lst (acc ++ [xs]))) a c cs' k' ∧ k ≤ k' ∧ k' ≤ k1 + 1 + ((i + 1 : Nat) : Int) * 700025 ∧ (upd H9 l (.lst (acc ++ [xs]))) L = some (.lst vals) ∧ TpAll (upd H9 l (.lst (acc ++ [xs]))) vals (bs.map bkD) ∧ bs.length = i + 1 + 1 ∧ Fm ns (i + 1) bs := fun H9 z9 y8 cs8 y80 y81 s9 D9 t9 => by
            obtain ⟨l, xs, h1, h2, h3, h4, h5⟩ := more (H7 := H9) rfl s9 D9 (by omega) (by omega) t9 (Bk.more_ok (F4 b6 hb6).1 14 (by omega) (by omega)) (by have := Bk.more_sz b6 14 (y8 - 1); omega) (by have := Bk.more_wt b6 14 (y8 - 1); have := (F4 b6 hb6).2.2; omega)
            cases h2
            exact ⟨L, _, _, rfl, rfl, h3, h4, h5⟩
          refine ⟨14, rfl, ax, xs, rfl, SqT.of hax, fun hw => ?_, fun hw p hp => ?_⟩
          · have e14 : b6.lst.take 14 = b6.lst := List.take_of_length_le (by
              have h := hw.2
              rw [show HT.sIx xs.length xs.length (some 14) = min 14 xs.length from HT.sIx_nat _ _ 14] at h
              omega)
            have t7 : Tp H6 (.ref ax) (.tuple ((b6.lst.take 14).map St.d)) := by rw [e14]; exact .tup hax hxs
            refine ⟨_, rfl, a, c, cs6, _, 3, rfl, D6, by decide, by decide, by omega, fun H8 cs8 y8 s8 D8 y80 y81 => ⟨y8, 1, rfl, rfl, by show 2 ≤ sizeLine; decide, fun p1 hp1 => ⟨by show 1 ≤ sizeLine; decide, fun p2 hp2 => ?_⟩⟩⟩
            exact finish H6 H8 _ y8 cs8 (Sx.refl _) s8 D8 y80 y81 (t7.keep (D6.tk s8)) p1 hp1 p2 hp2 (fun H9 z9 s9 D9 t9 => done H9 z9 y8 cs8 y80 y81 s9 D9 t9)
          · rw [cut]
            have t7 : Tp (upd H6 p (.tup (xs.take 14))) (.ref p) (.tuple ((b6.lst.take 14).map St.d)) := .tup upd_same (by
              have h := (show ∀ {vs : List V} {ds : List PyData} (n : Nat), TpAll H6 vs ds → TpAll H6 (vs.take n) (ds.take n) from fun {vs ds} n h => by
                induction n generalizing vs ds with
                | zero => exact .nil
                | succ n ih =>
                  cases h with
                  | nil => exact .nil
                  | cons h1 h2 => exact .cons h1 (ih h2)) 14 hxs
              rw [List.map_take]
              exact h.new hp)
            refine ⟨_, rfl, a, c, cs6, _, 3, rfl, D6.new hp, by decide, by decide, by omega, fun H8 cs8 y8 s8 D8 y80 y81 => ⟨y8, 1, rfl, rfl, by show 2 ≤ sizeLine; decide, fun p1 hp1 => ⟨by show 1 ≤ sizeLine; decide, fun p2 hp2 => ?_⟩⟩⟩
            exact finish _ H8 _ y8 cs8 (Sx.n0 hp) s8 D8 y80 y81 (t7.keep ((D6.new hp).tk s8)) p1 hp1 p2 hp2 (fun H9 z9 s9 D9 t9 => done H9 z9 y8 cs8 y80 y81 s9 D9 t9)
        · refine ⟨_, rfl, .inl ⟨rfl, _, SqL.of e5⟩, _, rfl, _, rfl, a, c, cs5, _, nm, ns, rfl, D5, N5, na, nc, by omega, fun H6 cs6 k6 v6 b6 s6 D6 k6a k6b T6 o6 z6 w6 => ?_⟩
          obtain ⟨l, xs, h1, h2, h3, h4, h5⟩ := more (H7 := H6) rfl s6 D6 (by omega) (by omega) T6 o6 (by omega) (by omega)
          cases h2
          exact ⟨L, _, _, rfl, rfl, h3, h4, h5⟩
      · obtain ⟨cs4, k4, vals, bs, o4, o5, rfl, s4, D4, k4a, k4b, e4, T4, l4, F4⟩ := h
        exact ⟨cs4, k4, vals, bs, _, _, rfl, s4, D4, k4a, by omega, e4, T4, by intro z; rw [z] at l4; simp at l4, by omega, fun b hb => ⟨(F4 b hb).1, by have := (F4 b hb).2.1; omega, by have := (F4 b hb).2.2; omega⟩⟩
    · rintro _ H4 ⟨cs4, k4, vals, bs, o4, o5, rfl, s4, D4, k4a, k4b, e4, T4, b1', l4, F4⟩
      refine ⟨_, rfl, L, _, rfl, .inl ⟨SqL.of e4, fun p hp => ?_⟩⟩
      exact q _ cs4 k4 _ bs (s4.new hp) (D4.new hp) k4a k4b (.tup upd_same (T4.new hp)) b1' l4 F4
end
abbrev sIsTrue : Stmt := topS 34
abbrev nIsTrue : List Str := ["_law_names_here", "_law_test_here"]
theorem scIsTrue : FnScope nIsTrue ["_law_names_here", "_law_test_here"] (defScope sIsTrue) := ⟨rfl, rfl, rfl, by decide +kernel, rfl, by decide +kernel, by decide +kernel⟩
/-! ### the law's own runs -/
def spVal9 (ns : List Str) (d : Nat) : Sp := fun vs H Q _ => ∃ (v : V) (N : Addr) (e : Ex) (ρ : Str → Int), vs = [.ref N, v] ∧ Tp H v e.d ∧ e.ok ns d ∧ En H N ρ ∧ Q (.int (e.ev ρ)) H
def spTru9 (ns : List Str) (n : Nat) : Sp := fun vs H Q _ => ∃ (v : V) (N : Addr) (t : Ts) (ρ : Str → Int), vs = [.ref N, v] ∧ Tp H v t.d ∧ 1 ≤ n ∧ t.ok ns (n - 1) ∧ En H N ρ ∧ Q (.bl (t.ev ρ)) H
section
variable {w : World} {P : Program} {K : PySem.W.Frag} {mg : Str → Option Value} {base : Heap}
theorem ok_val9 {f : Addr} {fd : FuncData} {ns : List Str} (F_value : Fun K "_law_value" "_law_value" sValue f fd) (b_value : Binds K fd ["_law_names_here", "_law_expression_here"] []) (m_value : mg "_law_value" = some (.ref f))
    (z_isinstance : mg "isinstance" = none) (z_int : mg "int" = none) (z_str : mg "str" = none) :
    ∀ d : Nat, FnOk P w K mg base CX0 (d + 1) f fd ["_law_names_here", "_law_expression_here"] (spVal9 ns d) := by
  intro d
  induction d with
  | zero => exact ⟨fun vs H Q E h => by obtain ⟨_, _, _, _, rfl, _⟩ := h; rfl, fun _ _ _ _ _ _ _ _ _ _ _ _ _ h => by
      obtain ⟨_, _, e, _, _, _, h, _⟩ := h
      cases e <;> exact absurd h.1 (by decide)⟩
  | succ d G_value =>
    refine F_value.ok scValue (fun vs H Q E h => ?_) (fun cdv A outer s H vs Q E hr h => ?_)
    · obtain ⟨_, _, _, _, rfl, _⟩ := h
      rfl
    · obtain ⟨v, N, e, ρ, rfl, t, ho, ⟨kvs, hN, hv⟩, q⟩ := h
      refine ⟨_, (pss_cons (ps_if (pt_val (pe_callB call_isi (by rfl) z_isinstance (by decide +kernel) (pa_cons (pv 1) (pa_cons (pe_bltn (v := .ty "int") (by rfl) z_int (by decide +kernel) rfl) pa_nil)))) (pss_one (ps_ret (pv 1))) pss_nil)
      (pss_cons (ps_if (pt_val (pe_callB call_isi (by rfl) z_isinstance (by decide +kernel) (pa_cons (pv 1) (pa_cons (pe_bltn (v := .ty "str") (by rfl) z_str (by decide +kernel) rfl) pa_nil)))) (pss_one (ps_ret (pe_dget2 (hu_of hr) (pv 0) (pv 1) pe_int ⟨rfl, rfl, rfl, rfl⟩))) pss_nil)
      (pss_cons (ps_if (pt_cmpR op_eq (pe_ix ix_tup (pv 1) pe_int (fun _ _ => rfl)) pe_str (nomark _)) (pss_one (ps_ret (pe_op op_mul (pe_ix ix_tup (pv 1) pe_int (fun _ _ => rfl)) (pe_call G_value (hr.mono (by omega)) (by rfl) m_value F_value.kp b_value .nil pass0 (pa_cons (pv 0) (pa_cons (pe_ix ix_tup (pv 1) pe_int (fun _ _ => rfl)) pa_nil)))))) pss_nil)
      (pss_cons (ps_par (i := 2) (j := 3) (by rfl) scValue.nd rfl rfl (by decide) rfl rfl (pa_cons (pe_call G_value (hr.mono (by omega)) (by rfl) m_value F_value.kp b_value .nil pass0 (pa_cons (pv 0) (pa_cons (pe_ix ix_tup (pv 1) pe_int (fun _ _ => rfl)) pa_nil))) (pa_cons (pe_call G_value (hr.mono (by omega)) (by rfl) m_value F_value.kp b_value .nil pass0 (pa_cons (pv 0) (pa_cons (pe_ix ix_tup (pv 1) pe_int (fun _ _ => rfl)) pa_nil))) pa_nil)) (by rfl))
      (pss_one (ps_ret (pe_ifExp (pt_cmpR op_eq (pe_ix ix_tup (pv 1) pe_int (fun _ _ => rfl)) pe_str (nomark _)) (pe_op op_add (pv 2) (pv 3)) (pe_op op_sub (pv 2) (pv 3))))))))), ?_⟩
      cases e with
      | int i =>
        obtain rfl := tpI t
        exact ⟨_, rfl, _, _, _, _, _, rfl, .ty _, .base (.int i), kit_ty (r := true) (by decide +kernel), _, rfl, iteT ⟨_, rfl, q⟩⟩
      | name z =>
        obtain rfl := tpS t
        refine ⟨_, rfl, _, _, _, _, _, rfl, .ty _, .base (.str z), kit_ty (r := false) (by decide +kernel), _, rfl, iteF ⟨_, rfl, _, _, _, _, _, rfl, .ty _, .base (.str z), kit_ty (r := true) (by decide +kernel), _, rfl, iteT ⟨_, rfl, N, rfl, .inl ⟨kvs, .inl hN⟩, _, rfl, _, DGet.k (k := .inr z) hN, ?_⟩⟩⟩
        rw [hv z]
        exact q
      | plus x y =>
        obtain ⟨a, p, u, r, rfl, ha, t1, t2, t3⟩ := tp3 t
        obtain rfl := tpS t1
        refine ⟨_, rfl, _, _, _, _, _, rfl, .ty _, .base (.tup ha), kit_ty (r := false) (by decide +kernel), _, rfl, iteF ⟨_, rfl, _, _, _, _, _, rfl, .ty _, .base (.tup ha), kit_ty (r := false) (by decide +kernel), _, rfl, iteF ?_⟩⟩
        refine ⟨_, rfl, a, _, _, _, rfl, rfl, SqT.of ha, rfl, rfl, _, rfl, iteN (by decide +kernel) ?_⟩
        refine ⟨_, rfl, _, rfl, a, _, _, u, rfl, rfl, SqT.of ha, rfl, u, N, x, ρ, rfl, t2, ho.2.1, ⟨kvs, hN, hv⟩, ?_⟩
        refine ⟨_, rfl, _, rfl, a, _, _, r, rfl, rfl, SqT.of ha, rfl, r, N, y, ρ, rfl, t3, ho.2.2, ⟨kvs, hN, hv⟩, ?_⟩
        refine ⟨_, _, rfl, ?_⟩
        exact ⟨_, rfl, a, _, _, _, rfl, rfl, SqT.of ha, rfl, rfl, _, rfl, iteP (by decide +kernel) ⟨_, rfl, _, rfl, _, _, rfl, rfl, q⟩⟩
      | minus x y =>
        obtain ⟨a, p, u, r, rfl, ha, t1, t2, t3⟩ := tp3 t
        obtain rfl := tpS t1
        refine ⟨_, rfl, _, _, _, _, _, rfl, .ty _, .base (.tup ha), kit_ty (r := false) (by decide +kernel), _, rfl, iteF ⟨_, rfl, _, _, _, _, _, rfl, .ty _, .base (.tup ha), kit_ty (r := false) (by decide +kernel), _, rfl, iteF ?_⟩⟩
        refine ⟨_, rfl, a, _, _, _, rfl, rfl, SqT.of ha, rfl, rfl, _, rfl, iteN (by decide +kernel) ?_⟩
        refine ⟨_, rfl, _, rfl, a, _, _, u, rfl, rfl, SqT.of ha, rfl, u, N, x, ρ, rfl, t2, ho.2.1, ⟨kvs, hN, hv⟩, ?_⟩
        refine ⟨_, rfl, _, rfl, a, _, _, r, rfl, rfl, SqT.of ha, rfl, r, N, y, ρ, rfl, t3, ho.2.2, ⟨kvs, hN, hv⟩, ?_⟩
        refine ⟨_, _, rfl, ?_⟩
        exact ⟨_, rfl, a, _, _, _, rfl, rfl, SqT.of ha, rfl, rfl, _, rfl, iteN (by decide +kernel) ⟨_, rfl, _, rfl, _, _, rfl, rfl, q⟩⟩
      | times f x =>
        obtain ⟨a, p, u, r, rfl, ha, t1, t2, t3⟩ := tp3 t
        obtain rfl := tpS t1
        obtain rfl := tpI t2
        refine ⟨_, rfl, _, _, _, _, _, rfl, .ty _, .base (.tup ha), kit_ty (r := false) (by decide +kernel), _, rfl, iteF ⟨_, rfl, _, _, _, _, _, rfl, .ty _, .base (.tup ha), kit_ty (r := false) (by decide +kernel), _, rfl, iteF ?_⟩⟩
        refine ⟨_, rfl, a, _, _, _, rfl, rfl, SqT.of ha, rfl, rfl, _, rfl, iteP (by decide +kernel) ?_⟩
        have h1 : -9 ≤ f := ho.2.1
        have h2 : f ≤ 9 := ho.2.2.1
        refine ⟨_, rfl, a, _, _, _, rfl, rfl, SqT.of ha, rfl, _, rfl, _, rfl, a, _, _, r, rfl, rfl, SqT.of ha, rfl, r, N, x, ρ, rfl, t3, ho.2.2.2, ⟨kvs, hN, hv⟩, ?_⟩
        exact ⟨_, _, rfl, rfl, .inl ⟨by omega, by omega⟩, q⟩

theorem ok_tru9 {f fV : Addr} {fd fdV : FuncData} {ns : List Str} (F_is_true : Fun K "_law_is_true" "_law_is_true" sIsTrue f fd) (F_value : Fun K "_law_value" "_law_value" sValue fV fdV)
    (b_is_true : Binds K fd ["_law_names_here", "_law_test_here"] []) (b_value : Binds K fdV ["_law_names_here", "_law_expression_here"] []) (m_is_true : mg "_law_is_true" = some (.ref f)) (m_value : mg "_law_value" = some (.ref fV)) (z_int : mg "int" = none)
    (G_value : FnOk P w K mg base CX0 5 fV fdV ["_law_names_here", "_law_expression_here"] (spVal9 ns 3)) :
    ∀ n : Nat, FnOk P w K mg base CX0 (n + 5) f fd ["_law_names_here", "_law_test_here"] (spTru9 ns n) := by
  intro n
  induction n with
  | zero => exact ⟨fun vs H Q E h => by obtain ⟨_, _, _, _, rfl, _⟩ := h; rfl, fun _ _ _ _ _ _ _ _ _ _ _ _ _ h => by
      obtain ⟨_, _, e, _, _, _, h, _⟩ := h
      omega⟩
  | succ n G_is_true =>
    refine F_is_true.ok scIsTrue (fun vs H Q E h => ?_) (fun cdv A outer s H vs Q E hr h => ?_)
    · obtain ⟨_, _, _, _, rfl, _⟩ := h
      rfl
    · obtain ⟨v, N, e, ρ, rfl, t, _, ho, En0, q⟩ := h
      refine ⟨_, (pss_cons (ps_if (pt_cmpR op_eq (pe_ix ix_tup (pv 1) pe_int (fun _ _ => rfl)) pe_str (nomark _)) (pss_one (ps_ret (pe_not (pe_call G_is_true (hr.mono (by omega)) (by rfl) m_is_true F_is_true.kp b_is_true .nil pass0 (pa_cons (pv 0) (pa_cons (pe_ix ix_tup (pv 1) pe_int (fun _ _ => rfl)) pa_nil)))))) pss_nil)
      (pss_cons (ps_if (pt_cmpR op_eq (pe_ix ix_tup (pv 1) pe_int (fun _ _ => rfl)) pe_str (nomark _)) (pss_one (ps_ret (pe_cmpR op_eq (pe_op op_mod (pe_callTy call_int1 (by rfl) z_int boot_int (pa_cons (pe_call G_value (hr.mono (by omega)) (by rfl) m_value F_value.kp b_value .nil pass0 (pa_cons (pv 0) (pa_cons (pe_ix ix_tup (pv 1) pe_int (fun _ _ => rfl)) pa_nil))) pa_nil)) (pe_ix ix_tup (pv 1) pe_int (fun _ _ => rfl))) (pe_ix ix_tup (pv 1) pe_int (fun _ _ => rfl)) (nomark _)))) pss_nil)
      (pss_one (ps_ret (pe_cmpR op_lt (pe_call G_value (hr.mono (by omega)) (by rfl) m_value F_value.kp b_value .nil pass0 (pa_cons (pv 0) (pa_cons (pe_ix ix_tup (pv 1) pe_int (fun _ _ => rfl)) pa_nil))) (pe_call G_value (hr.mono (by omega)) (by rfl) m_value F_value.kp b_value .nil pass0 (pa_cons (pv 0) (pa_cons (pe_ix ix_tup (pv 1) pe_int (fun _ _ => rfl)) pa_nil))) (nomark _)))))), ?_⟩
      cases e with
      | rest x b r =>
        obtain ⟨a, p, u, y, z, rfl, ha, t1, t2, t3, t4⟩ := tp4 t
        obtain rfl := tpS t1
        obtain rfl := tpI t3
        obtain rfl := tpI t4
        obtain ⟨o1, o2, o3, o4, o5⟩ := ho
        refine ⟨_, rfl, a, _, _, _, rfl, rfl, SqT.of ha, rfl, rfl, _, rfl, iteN (by decide +kernel) ?_⟩
        refine ⟨_, rfl, a, _, _, _, rfl, rfl, SqT.of ha, rfl, rfl, _, rfl, iteP (by decide +kernel) ?_⟩
        refine ⟨_, rfl, _, rfl, a, _, _, u, rfl, rfl, SqT.of ha, rfl, u, N, x, ρ, rfl, t2, o1, En0, .inl ⟨_, rfl, ?_⟩⟩
        refine ⟨_, rfl, a, _, _, _, rfl, rfl, SqT.of ha, rfl, _, b, rfl, rfl, (by show (0 : Int) < b; omega), ?_⟩
        refine ⟨_, rfl, a, _, _, _, rfl, rfl, SqT.of ha, rfl, rfl, ?_⟩
        have e1 : decide (V.int (x.ev ρ % b) = V.int r) = decide ((x.ev ρ - r) % b = 0) := by
          rw [decide_eq_decide, ← mod_is o4 o5]
          simp
        rw [e1]
        exact q
      | less x y =>
        obtain ⟨a, p, u, r, rfl, ha, t1, t2, t3⟩ := tp3 t
        obtain rfl := tpS t1
        refine ⟨_, rfl, a, _, _, _, rfl, rfl, SqT.of ha, rfl, rfl, _, rfl, iteN (by decide +kernel) ?_⟩
        refine ⟨_, rfl, a, _, _, _, rfl, rfl, SqT.of ha, rfl, rfl, _, rfl, iteN (by decide +kernel) ?_⟩
        refine ⟨_, rfl, _, rfl, a, _, _, u, rfl, rfl, SqT.of ha, rfl, u, N, x, ρ, rfl, t2, ho.1, En0, ?_⟩
        refine ⟨_, rfl, _, rfl, a, _, _, r, rfl, rfl, SqT.of ha, rfl, r, N, y, ρ, rfl, t3, ho.2, En0, ?_⟩
        exact ⟨_, _, rfl, rfl, q⟩
      | not t' =>
        obtain ⟨a, p, u, rfl, ha, t1, t2⟩ := tp2 t
        obtain rfl := tpS t1
        refine ⟨_, rfl, a, _, _, _, rfl, rfl, SqT.of ha, rfl, rfl, _, rfl, iteP (by decide +kernel) ?_⟩
        refine ⟨_, rfl, _, rfl, a, _, _, u, rfl, rfl, SqT.of ha, rfl, u, N, t', ρ, rfl, t2, ho.1, ho.2, En0, ?_⟩
        exact ⟨_, rfl, q⟩
end
/-! ### a list is made longer by a tuple -/
theorem extend_tup (l : Addr) (items : Array Value) (n : Nat) (b : Addr) (items2 : Array Value) (n2 : Nat) (dd : Option Addr) (sl : Array (Option Value)) (hs0 : ¬(!items.isEmpty && Builtin.List.listTooLong (items.size + items2.size)) = true) (hs1 : items.size ≤ sizeLine) (hs2 : items.size + items2.size ≤ sizeLine + 1) :
    Meets (Builtin.«list.extend» ⟨[.ref l, .ref b], []⟩) (fun _ R s => s.heap.get? l = some { cls := .type "list", data := .seq items n } ∧ s.heap.get? b = some { cls := .type "tuple", dict := dd, data := .seq items2 n2, slots := sl } ∧ R (.ok (.ret Value.none)) { s with heap := s.heap.update l (Obj.mapSeq fun x => x ++ items2), toks := s.toks }) :=
  .of_wp fun pr w0 A0 R0 s0 h0 => by
    obtain ⟨hp, g, d, tk, os⟩ := s0; obtain ⟨ht, hb, h⟩ := h0
    have f1 := AutoSeq1.idx_int; have f2 := AutoSeq1.sub_tuple_tuple; have f3 := AutoSeq1.sub_list_list; have f4 := AutoSeq1.sub_tuple_list; have f5 := AutoSeq1.sub_list_tuple
    have hz' : ((items ++ items2).size ≤ sizeLine + 1) := by rw [Array.size_append]; exact hs2
    (wp_walk using (wpAny_updateSeq ht rfl (hz := hs1) (_hz' := hz')), AutoSeq1.wpAny_loadPart' ht, AutoSeq1.wpAny_loadPart' hb; exact ⟨_, rfl, h⟩)
def rExtendT (K : PySem.W.Frag) : V → List V → Hp → VK → Prop := fun x vs H Q => ∃ l b xs zs, x = .ref l ∧ vs = [.ref b] ∧ H l = some (.lst xs) ∧ SqT K H b zs ∧ xs.length + zs.length ≤ sizeLine ∧ Q .non (upd H l (.lst (xs ++ zs)))
theorem mt_extendT {X : Cx} : MtM X "list.extend" (rExtendT X.K) := by
  intro pins s σ H x0 vs v us Q I rx rv h
  rcases h with ⟨l, b, xs, zs, rfl, rfl, hH, hB, hz, q⟩
  cases rx
  obtain ⟨u, rfl, ru⟩ := rv.one
  cases ru
  rcases I.lstM hH with ⟨z, its, n, r, hl, e⟩
  obtain ⟨its2, r2, ⟨⟨cls, dd, data, sl⟩, ho, hc, n2, hd⟩, hs⟩ := I.tuple hB
  simp only at hc hd
  subst hc hd
  have hl2 := r2.length
  have hsz : its.toArray.size + its2.toArray.size ≤ sizeLine := by rw [List.size_toArray, List.size_toArray, ← hl2, ← hl]; exact hz
  have hlong : (¬ (!its.toArray.isEmpty && Builtin.List.listTooLong (its.toArray.size + its2.toArray.size)) = true) := by
    rw [notLongL hsz]; rw [Bool.and_false]
    simp
  refine call_meets F.slot_list_extend ⟨_, e, rfl⟩ F.entry_list_extend
    (F.args_list_extend_2 _ _) (extend_tup l its.toArray n b its2.toArray n2 dd sl hlong (by rw [List.size_toArray]; omega) (by omega)) ⟨e, ho, ?_⟩
  refine (⟨.non, _, I.lset (its' := its ++ its2) hH e (by simp) (r.append r2) ?_, rfl, q⟩)
  rw [List.length_append]
  exact hz
theorem TpAll.reverse {H : Hp} : ∀ {vs : List V} {ds : List PyData}, TpAll H vs ds → TpAll H vs.reverse ds.reverse
  | _, _, .nil => .nil
  | _, _, .cons a b => by
    rw [List.reverse_cons]; rw [List.reverse_cons]
    exact (TpAll.reverse b).append (.cons a .nil)
theorem TpAll.dpL {K : PySem.W.Frag} {H : Hp} {l : Addr} {vs : List V} {ds : List PyData} (h : H l = some (.lst vs)) (t : TpAll H vs ds) : Dp K H (.ref l) (.list ds) := .lst (SqL.of h) t.dp
theorem eqvL_nil {ds : List PyData} (h : ds ≠ []) : PyData.eqv (.list ds) (.list []) = false := by
  cases ds with
  | nil => exact absurd rfl h
  | cons _ _ => rfl
theorem Sh.lst' {n : Nat} {es : List PyData} (h : ShA n es) : Sh (n + 1) (.list es) := ⟨by simp only [PyData.canLay0, h.1], by simp only [PyData.depth]; have := h.2; omega⟩
theorem ShA.of_mem {n : Nat} : ∀ {es : List PyData}, (∀ e ∈ es, Sh n e) → ShA n es
  | [], _ => .nil
  | e :: es, h => .cons (h e (List.mem_cons_self ..)) (ShA.of_mem fun x hx => h x (List.mem_cons_of_mem _ hx))
theorem sne {x y : Str} (h : (x == y) = false) : ¬ (decide (V.str x = V.str y) = true) := fun z => by
  have e := V.str.inj (of_decide_eq_true z)
  rw [e] at h
  simp at h
/-! ### the law's own sign -/
theorem Ex.ok_sh {ns : List Str} (hn : ∀ z ∈ ns, NmOk z) : ∀ (x : Ex) (n : Nat), x.ok ns n → Sh n x.d
  | .int i, n, _ => .int i
  | .name z, n, h => .str (hn z h.2).ok
  | .plus x y, n, ⟨h1, h2, h3⟩ => by
    obtain ⟨m, rfl⟩ : ∃ m : Nat, n = m + 1 := ⟨n - 1, by omega⟩
    exact .tup (.cons (.str (by decide +kernel)) (.cons (Ex.ok_sh hn x m h2) (.cons (Ex.ok_sh hn y m h3) .nil)))
  | .minus x y, n, ⟨h1, h2, h3⟩ => by
    obtain ⟨m, rfl⟩ : ∃ m : Nat, n = m + 1 := ⟨n - 1, by omega⟩
    exact .tup (.cons (.str (by decide +kernel)) (.cons (Ex.ok_sh hn x m h2) (.cons (Ex.ok_sh hn y m h3) .nil)))
  | .times f x, n, ⟨h1, h2, h3, h4⟩ => by
    obtain ⟨m, rfl⟩ : ∃ m : Nat, n = m + 1 := ⟨n - 1, by omega⟩
    exact .tup (.cons (.str (by decide +kernel)) (.cons (.int f) (.cons (Ex.ok_sh hn x m h4) .nil)))
theorem Ts.ok_sh {ns : List Str} (hn : ∀ z ∈ ns, NmOk z) : ∀ (t : Ts) (n : Nat), t.ok ns n → Sh (n + 4) t.d
  | .rest x b r, n, h => (Sh.tup (.cons (.str (by decide +kernel)) (.cons (Ex.ok_sh hn x 3 h.1) (.cons (.int b) (.cons (.int r) .nil))))).mono (by omega)
  | .less x y, n, h => (Sh.tup (.cons (.str (by decide +kernel)) (.cons (Ex.ok_sh hn x 3 h.1) (.cons (Ex.ok_sh hn y 3 h.2) .nil)))).mono (by omega)
  | .not t, n, ⟨h1, h2⟩ => by
    obtain ⟨m, rfl⟩ : ∃ m : Nat, n = m + 1 := ⟨n - 1, by omega⟩
    exact .tup (.cons (.str (by decide +kernel)) (.cons (Ts.ok_sh hn t m h2) .nil))
mutual
theorem St.ok_sh {ns : List Str} (hn : ∀ z ∈ ns, NmOk z) : ∀ (s : St) (d : Nat), s.ok ns d → Sh (2 * d + 9) s.d
  | .set z e, d, ⟨h1, h2⟩ => (Sh.tup (.cons (.str (by decide +kernel)) (.cons (.str (hn z h1).ok) (.cons (Ex.ok_sh hn e 3 h2) .nil)))).mono (by omega)
  | .pay e, d, h => (Sh.tup (.cons (.str (by decide +kernel)) (.cons (Ex.ok_sh hn e 3 h) .nil))).mono (by omega)
  | .stop, d, _ => (Sh.tup (n := 0) (.cons (.str (by decide +kernel)) .nil)).mono (by omega)
  | .ite t y n, d, ⟨h1, h2, h3⟩ => (Sh.tup (n := 2 * d + 8) (.cons (.str (by decide +kernel)) (.cons ((Ts.ok_sh hn t 2 h1).mono (by omega)) (.cons ((Sh.tup (Bk.ok_sh hn y d h2)).mono (by omega)) (.cons ((Sh.tup (Bk.ok_sh hn n d h3)).mono (by omega)) .nil))))).mono (by omega)
  | .rep k y, d, ⟨_, _, h3⟩ => (Sh.tup (n := 2 * d + 8) (.cons (.str (by decide +kernel)) (.cons (.int k) (.cons ((Sh.tup (Bk.ok_sh hn y d h3)).mono (by omega)) .nil)))).mono (by omega)
theorem Bk.ok_sh {ns : List Str} (hn : ∀ z ∈ ns, NmOk z) : ∀ (b : Bk) (d : Nat), b.ok ns d → ShA (2 * d + 7) b.ds
  | .nil, _, _ => .nil
  | .cons s b, d, ⟨h1, h2, h3⟩ => .cons ((St.ok_sh hn s (d - 1) h2).mono (by omega)) (Bk.ok_sh hn b d h3)
end
/-- the statements on a stack, the top first -/
def Stt (H : Hp) (L : Addr) (ws : List (Int × St)) : Prop := ∃ vals : List V, H L = some (.lst vals.reverse) ∧ TpAll H vals (ws.map fun x => x.2.d)
theorem Stt.keep {H H' : Hp} {L : Addr} {ws : List (Int × St)} (h : Stt H L ws) (s : Sx [] H H') : Stt H' L ws := by
  obtain ⟨vals, h1, h2⟩ := h
  exact ⟨vals, s _ _ (by simp) h1, h2.keep s.tk0⟩
theorem Stt.pop {H : Hp} {L : Addr} {ws : List (Int × St)} {y : Int × St} (h : Stt H L (y :: ws)) : ∃ (acc : List V) (x : V), H L = some (.lst acc) ∧ acc[acc.length - 1]? = some x ∧ Tp H x y.2.d ∧ Stt (upd H L (.lst acc.dropLast)) L ws ∧ acc.length = ws.length + 1 := by
  obtain ⟨vals, h1, h2⟩ := h
  cases h2 with
  | cons h3 h4 =>
    have e := h4.len
    rw [List.length_map] at e
    refine ⟨_, _, h1, ?_, h3, ⟨_, by rw [upd_same, List.reverse_cons, List.dropLast_concat], h4.keep (Tk.lst h1)⟩, by rw [List.length_reverse, List.length_cons, e]⟩
    rw [List.reverse_cons, List.length_append]
    simp
theorem Stt.ext {H : Hp} {L : Addr} {ws es : List (Int × St)} {ys : List V} (h : Stt H L ws) (t : TpAll H ys (es.map fun x => x.2.d)) : ∃ acc, H L = some (.lst acc) ∧ acc.length = ws.length ∧ Stt (upd H L (.lst (acc ++ ys.reverse))) L (es ++ ws) := by
  obtain ⟨vals, h1, h2⟩ := h
  have e := h2.len
  rw [List.length_map] at e
  refine ⟨_, h1, by rw [List.length_reverse, e], ys ++ vals, by rw [upd_same, List.reverse_append], ?_⟩
  rw [List.map_append]
  exact (t.keep (Tk.lst h1)).append (h2.keep (Tk.lst h1))
theorem Stt.dk {H : Hp} {L N : Addr} {ws : List (Int × St)} {kvs : List (Key × V)} {o : HO} (h : Stt H L ws) (hn : H N = some (.dK kvs)) : Stt (upd H N o) L ws := by
  obtain ⟨vals, h1, h2⟩ := h
  have k : Tk H (upd H N o) := fun b xs e => by
    rw [upd_ne (fun z => by rw [z, hn] at e; cases e)]
    exact e
  exact ⟨vals, by rw [upd_ne (fun z => by rw [z, hn] at h1; cases h1)]; exact h1, h2.keep k⟩
theorem nums_ds : ∀ (b : Bk) (p : Int), (b.nums p).map (fun x => x.2.d) = b.lst.map St.d
  | .nil, _ => rfl
  | .cons s b, p => by
    show s.d :: (b.nums (p + s.sz)).map (fun x => x.2.d) = s.d :: b.lst.map St.d
    rw [nums_ds b]
/-- the names' values in a dict of so many entries -/
def Nd (H : Hp) (N : Addr) (ρ : Str → Int) (c : Nat) : Prop := ∃ kvs : List (Key × V), H N = some (.dK kvs) ∧ kvs.length ≤ c ∧ ∀ z, (valV kvs (.inr z)).getD (.int 0) = .int (ρ z)
theorem Nd.en {H : Hp} {N : Addr} {ρ : Str → Int} {c : Nat} (h : Nd H N ρ c) : En H N ρ := by
  obtain ⟨kvs, h1, _, h2⟩ := h
  exact ⟨kvs, h1, h2⟩
theorem Nd.sx {H H' : Hp} {N : Addr} {ρ : Str → Int} {c : Nat} (h : Nd H N ρ c) (s : Sx [] H H') : Nd H' N ρ c := by
  obtain ⟨kvs, h1, h2, h3⟩ := h
  exact ⟨kvs, s _ _ (by simp) h1, h2, h3⟩
theorem Nd.ls {H : Hp} {N Z : Addr} {ρ : Str → Int} {c : Nat} {xs : List V} {o : HO} (h : Nd H N ρ c) (hz : H Z = some (.lst xs)) : Nd (upd H Z o) N ρ c := by
  obtain ⟨kvs, h1, h2, h3⟩ := h
  exact ⟨kvs, by rw [upd_ne (fun z => by rw [z, hz] at h1; cases h1)]; exact h1, h2, h3⟩
theorem Nd.up {H : Hp} {N : Addr} {ρ : Str → Int} {c e : Nat} (h : Nd H N ρ c) (l : c ≤ e) : Nd H N ρ e := by
  obtain ⟨kvs, h1, h2, h3⟩ := h
  exact ⟨kvs, h1, by omega, h3⟩
theorem Nd.set {H : Hp} {N : Addr} {ρ : Str → Int} {c : Nat} {kvs : List (Key × V)} (h : Nd H N ρ c) (hk : H N = some (.dK kvs)) (z : Str) (v : Int) : kvs.length ≤ c ∧ Nd (upd H N (.dK (putK kvs (.inr z) (.int v)))) N (fun y => if y = z then v else ρ y) (c + 1) := by
  obtain ⟨kvs', h1, h2, h3⟩ := h
  rw [hk] at h1
  cases h1
  refine ⟨h2, _, upd_same, ?_, fun y => ?_⟩
  · have : (putK kvs (.inr z) (.int v)).length ≤ kvs.length + 1 := by
      unfold putK
      split
      · rw [List.length_map]; omega
      · rw [List.length_append]; exact Nat.le_refl _
    omega
  · rw [valV_put]
    by_cases e : y = z
    · rw [if_pos (by rw [e])]
      show V.int v = V.int (if y = z then v else ρ y)
      rw [if_pos e]
    · rw [if_neg (fun q => e (Sum.inr.inj q)), h3 y]
      show V.int (ρ y) = V.int (if y = z then v else ρ y)
      rw [if_neg e]
/-- all that lies there is a right statement -/
def StkO (ns : List Str) (l : List (Int × St)) : Prop := ∀ x ∈ l, ∃ d, d ≤ 3 ∧ x.2.ok ns d
theorem StkO.nums {ns : List Str} {d : Nat} (hd : d ≤ 4) : ∀ {b : Bk} {p : Int}, b.ok ns d → StkO ns (b.nums p)
  | .nil, _, _ => fun x hx => by cases hx
  | .cons s b, p, ⟨h1, h2, h3⟩ => fun x hx => by
    rcases List.mem_cons.1 hx with rfl | hx
    · exact ⟨d - 1, by omega, h2⟩
    · exact StkO.nums hd h3 x hx
theorem StkO.ent {ns : List Str} {s : St} {d : Nat} {p : Int} {ρ : Str → Int} (hd : d ≤ 3) (h : s.ok ns d) : StkO ns (s.ent ρ p) := by
  cases s with
  | ite t y n =>
    simp only [St.ent]
    split
    · exact StkO.nums (by omega) h.2.1
    · exact StkO.nums (by omega) h.2.2
  | rep k y =>
    intro x hx
    simp only [St.ent] at hx
    obtain ⟨l, hl, hx⟩ := List.mem_flatten.1 hx
    obtain ⟨_, rfl⟩ := List.mem_replicate.mp hl
    exact StkO.nums (by omega) h.2.2 x hx
  | _ => intro x hx; cases hx
def spSig9 (ns : List Str) : Sp := fun vs H Q _ => ∃ (v : V) (b : Bk) (x : Int), vs = [v, .int x] ∧ Tp H v (.tuple b.ds) ∧ b.ok ns 4 ∧ (∀ z ∈ ns, NmOk z) ∧ b.sz < 16777216 ∧ b.wt ≤ 100 ∧ ∀ H', Sx [] H H' → Q (.int (sgn (b.run 0 (Wd.at x)).1.tot)) H'
section
variable {w : World} {P : Program} {K : PySem.W.Frag} {mg : Str → Option Value} {base : Heap}
set_option maxHeartbeats 4000001 in
theorem ok_sig9 {f fV fT : Addr} {fd fdV fdT : FuncData} {ns : List Str} (F : Fun K "_law_sign" "_law_sign" sSign f fd) (F_value : Fun K "_law_value" "_law_value" sValue fV fdV) (F_is_true : Fun K "_law_is_true" "_law_is_true" sIsTrue fT fdT)
    (G_value : FnOk P w K mg base CX0 5 fV fdV ["_law_names_here", "_law_expression_here"] (spVal9 ns 3)) (G_is_true : FnOk P w K mg base CX0 8 fT fdT ["_law_names_here", "_law_test_here"] (spTru9 ns 3))
    (b_value : Binds K fdV ["_law_names_here", "_law_expression_here"] []) (b_is_true : Binds K fdT ["_law_names_here", "_law_test_here"] [])
    (m_value : mg "_law_value" = some (.ref fV)) (m_is_true : mg "_law_is_true" = some (.ref fT)) (z_range : mg "range" = none) (z_list : mg "list" = none) (z_int : mg "int" = none) :
    FnOk P w K mg base CX0 9 f fd ["_law_program_here", "_law_number_here"] (spSig9 ns) := by
  refine F.ok scSign (fun vs H Q E h => ?_) (fun cdv A outer s H vs Q E hr h => ?_)
  · obtain ⟨_, _, _, rfl, _⟩ := h
    rfl
  · obtain ⟨v, b, x, rfl, t, ho, hns, hz, hw, q⟩ := h
    refine ⟨_, (pss_cons (ps_par3 (i := 2) (j := 3) (l := 4) (by rfl) scSign.nd rfl rfl rfl (by decide) (by decide) (by decide) rfl rfl rfl (pa_cons (pe_disp (pps_cons pe_str (pv 1) pps_nil) (by rfl) (by rfl) (fun z => by cases z) (by decide)) (pa_cons pe_int (pa_cons (pe_callTy call_list_of (by rfl) z_list boot_list (pa_cons (pe_revT (pv 0)) pa_nil)) pa_nil))) (by rfl))
      (C8.pss_cut (ps_for PassesOwn.never rfl (pi_range1 (by rfl) z_range (pa_cons pe_int pa_nil)) (pg_name (i := 5) scSign.nd rfl (by first | exact Or.inl rfl | exact Or.inr rfl)) (pss_cons (ps_if (pt_cmpR (op_eqD hr.units) (pv 4) (pe_lst pa_nil) (nomark _)) (pss_one (ps_ret (pe_op op_sub (pe_callTy call_int1 (by rfl) z_int boot_int (pa_cons (pe_cmpR op_gt (pv 3) pe_int (nomark _)) pa_nil)) (pe_callTy call_int1 (by rfl) z_int boot_int (pa_cons (pe_cmpR op_lt (pv 3) pe_int (nomark _)) pa_nil))))) pss_nil)
      (pss_cons (ps_set (i := 6) scSign.nd rfl (by first | exact Or.inl rfl | exact Or.inr rfl) (pe_bm0 PySem.F.plainAttrs_list PySem.F.slot_list_pop PySem.F.type_list_pop mt_pop (pv 4)))
      (pss_one (ps_if (pt_cmpR op_eq (pe_ix ix_tup (pv 6) pe_int (fun _ _ => rfl)) pe_str (nomark _)) (pss_one (ps_dput (hu_of hr) (pv 2) (pe_ix ix_tup (pv 6) pe_int (fun _ _ => rfl)) (pe_call G_value (hr.mono (by omega)) (by rfl) m_value F_value.kp b_value .nil pass0 (pa_cons (pv 2) (pa_cons (pe_ix ix_tup (pv 6) pe_int (fun _ _ => rfl)) pa_nil))) rfl)) (pss_one (ps_if (pt_cmpR op_eq (pe_ix ix_tup (pv 6) pe_int (fun _ _ => rfl)) pe_str (nomark _)) (pss_one (ps_set (i := 3) scSign.nd rfl (by first | exact Or.inl rfl | exact Or.inr rfl) (pe_op op_add (pv 3) (pe_call G_value (hr.mono (by omega)) (by rfl) m_value F_value.kp b_value .nil pass0 (pa_cons (pv 2) (pa_cons (pe_ix ix_tup (pv 6) pe_int (fun _ _ => rfl)) pa_nil)))))) (pss_one (ps_if (pt_cmpR op_eq (pe_ix ix_tup (pv 6) pe_int (fun _ _ => rfl)) pe_str (nomark _)) (pss_one (ps_expr (pe_bm PySem.F.plainAttrs_list PySem.F.slot_list_extend PySem.F.type_list_extend mt_extendT (pv 4) (pa_cons (pe_revT (pe_ifExp (pt_val (pe_call G_is_true (hr.mono (by omega)) (by rfl) m_is_true F_is_true.kp b_is_true .nil pass0 (pa_cons (pv 2) (pa_cons (pe_ix ix_tup (pv 6) pe_int (fun _ _ => rfl)) pa_nil)))) (pe_ix ix_tup (pv 6) pe_int (fun _ _ => rfl)) (pe_ix ix_tup (pv 6) pe_int (fun _ _ => rfl)))) pa_nil)))) (pss_one (ps_if (pt_cmpR op_eq (pe_ix ix_tup (pv 6) pe_int (fun _ _ => rfl)) pe_str (nomark _)) (pss_one (ps_for PassesOwn.never rfl (pi_range1 (by rfl) z_range (pa_cons (pe_ix ix_tup (pv 6) pe_int (fun _ _ => rfl)) pa_nil)) (pg_name (i := 7) scSign.nd rfl (by first | exact Or.inl rfl | exact Or.inr rfl)) (pss_one (ps_expr (pe_bm PySem.F.plainAttrs_list PySem.F.slot_list_extend PySem.F.type_list_extend mt_extendT (pv 4) (pa_cons (pe_revT (pe_ix ix_tup (pv 6) pe_int (fun _ _ => rfl))) pa_nil)))))) (pss_one (ps_set (i := 4) scSign.nd rfl (by first | exact Or.inl rfl | exact Or.inr rfl) (pe_lst pa_nil))))))))))))))
      (pss_one (ps_ret pe_non)))), ?_⟩
    refine fun N hN => ⟨_, rfl, upd_same, [(.inr "n", .int x)], rfl, by show 1 ≤ 15; decide, ?_⟩
    have en : mergeK [] [((.inr "n" : Key), V.int x)] = [(.inr "n", .int x)] := by
      show putK [] (.inr "n" : Key) (V.int x) = _
      rw [putK_new (fun kv h => by cases h)]
      rfl
    rw [en]
    have s1 : Sx [] H (upd (upd H N (.dK [])) N (.dK [(.inr "n", .int x)])) := (Sx.n0 hN).own hN
    have n1 : Nd (upd (upd H N (.dK [])) N (.dK [(.inr "n", .int x)])) N (Wd.at x).en 1 := ⟨[(.inr "n", .int x)], upd_same, Nat.le_refl _, fun z => by
      show (valV [((.inr "n" : Key), V.int x)] (.inr z)).getD (.int 0) = .int (if z = "n" then x else 0)
      by_cases h : z = "n"
      · rw [if_pos h, h]
        unfold valV
        rw [List.find?_cons_of_pos (by simp)]
        rfl
      · rw [if_neg h]
        unfold valV
        rw [List.find?_cons_of_neg (by simp only [decide_eq_true_eq]; exact fun e => h (Sum.inr.inj e).symm)]
        rfl⟩
    generalize upd (upd H N (.dK [])) N (.dK [(.inr "n", .int x)]) = H1 at s1 n1 ⊢
    obtain ⟨a, xs, rfl, ha, hx⟩ := t.tuple
    rw [b.ds_lst] at hx
    refine ⟨_, rfl, a, xs, rfl, SqT.of (s1 _ _ (by simp) ha), fun p hp => ⟨p, _, rfl, .inr (SqT.of upd_same), fun T hT => ?_⟩⟩
    refine ⟨_, _, _, rfl, ?_⟩
    have nx : Sx [] H1 (upd (upd H1 p (.tup xs.reverse)) T (.lst xs.reverse)) := (Sx.n0 hp).new hT
    have st0 : Stt (upd (upd H1 p (.tup xs.reverse)) T (.lst xs.reverse)) T (b.nums 0) := ⟨xs, upd_same, by rw [nums_ds]; exact (hx.keep s1.tk0).keep nx.tk0⟩
    have s2 := s1.trans nx
    have n2 := n1.sx nx
    have hHT : H T = none := (s1.new (o := .tup xs.reverse) hp).free (by simp) hT
    generalize upd (upd H1 p (.tup xs.reverse)) T (.lst xs.reverse) = H2 at st0 s2 n2 ⊢
    have bsn : ∀ {u : Int} {o : St}, True := trivial
    clear bsn
    refine ⟨fun _ _ => False, ?_, fun _ _ h => h.elim⟩
    refine ⟨200, rfl, by decide, by decide, for_range (n := 200) (fun i σ H' => ∃ (T : Addr) (w' : Wd) (ws : List (Int × St)) (o5 o6 o7 : Option V), σ = [some (.ref a), some (.int x), some (.ref N), some (.int w'.tot), some (.ref T), o5, o6, o7] ∧ Sx [] H H' ∧ H T = none ∧ Nd H' N w'.en (i + 1) ∧ Stt H' T ws ∧ StkO ns ws ∧ (runS ws w').1 = (b.run 0 (Wd.at x)).1 ∧ i + stkWt ws ≤ 100)
      ⟨T, Wd.at x, b.nums 0, _, _, _, rfl, s2, hHT, n2, st0, StkO.nums (by decide) ho, by rw [runS_nums], by rw [stkWt_nums]; omega⟩ (fun i σ H3 hi h => ?_) (fun σ H3 h => ?_)⟩
    rotate_left
    · obtain ⟨T, w', ws, o5, o6, o7, rfl, _, _, _, _, _, _, hm⟩ := h
      omega
    obtain ⟨T, w', ws, o5, o6, o7', rfl, s3, hHT, n3, st3, so, hrun, hm⟩ := h
    refine gnm ?_
    obtain ⟨vals, h3, t3⟩ := id st3
    have shA : ShA 50 (ws.map fun y => y.2.d).reverse := ShA.of_mem fun e he => by
      obtain ⟨y, hy, rfl⟩ := List.mem_map.mp (List.mem_reverse.mp he)
      obtain ⟨d, hd3, hd⟩ := so y hy
      exact (St.ok_sh hns y.2 d hd).mono (by omega)
    refine ⟨_, rfl, by show 0 ≤ sizeLine; decide, fun u hu => ⟨_, .list [], TpAll.dpL (Sx.n0 hu _ _ (by simp) h3) (t3.reverse.new hu), .lst (SqL.of upd_same) .nil, (Sh.lst' shA).shaped (by decide), by decide, _, rfl, ?_⟩⟩
    have s4 : Sx [] H (upd H3 u (.lst [])) := s3.new hu
    have n4 := n3.sx (Sx.n0 (o := .lst []) hu)
    have st4 := st3.keep (Sx.n0 (o := .lst []) hu)
    generalize upd H3 u (.lst []) = H4 at s4 n4 st4 ⊢
    clear shA h3 t3 st3 n3
    cases ws with
    | nil =>
      refine iteT ?_
      refine ⟨_, rfl, _, 0, rfl, rfl, .inr ⟨_, rfl, ?_⟩⟩
      refine ⟨_, rfl, _, 0, rfl, rfl, .inr ⟨_, rfl, ?_⟩⟩
      refine ⟨_, _, rfl, rfl, ?_⟩
      have q' := q H4 s4
      have et : (b.run 0 (Wd.at x)).1.tot = w'.tot := by rw [← hrun]; rfl
      rw [et] at q'
      unfold sgn at q'
      by_cases h1 : w'.tot < 0
      · rw [if_pos h1] at q'
        rw [show decide (w'.tot > 0) = false from decide_eq_false (by omega), show decide (w'.tot < 0) = true from decide_eq_true h1]
        exact q'
      · rw [if_neg h1] at q'
        by_cases h2 : 0 < w'.tot
        · rw [if_pos h2] at q'
          rw [show decide (w'.tot > 0) = true from decide_eq_true h2, show decide (w'.tot < 0) = false from decide_eq_false h1]
          exact q'
        · rw [if_neg h2] at q'
          rw [show decide (w'.tot > 0) = false from decide_eq_false h2, show decide (w'.tot < 0) = false from decide_eq_false h1]
          exact q'
    | cons y ws =>
      obtain ⟨p, st⟩ := y
      rw [show ((((p, st) : Int × St) :: ws).map fun y => y.2.d).reverse = ((ws.map fun y => y.2.d).reverse ++ [st.d]) from by simp, eqvL_nil (by simp)]
      refine iteF ?_
      obtain ⟨acc, xv, e1, e2, e4, e5, e6⟩ := st4.pop
      obtain ⟨d, hd3, sto⟩ := so _ (List.mem_cons_self)
      have sto : st.ok ns d := sto
      have so' : StkO ns ws := fun y hy => so y (List.mem_cons_of_mem _ hy)
      rw [stkWt_cons] at hm
      have stp := st.wt_pos
      have wle := wt_le ws
      have hm : i + (st.wt + stkWt ws) ≤ 100 := hm
      refine ⟨_, rfl, .inl ⟨rfl, _, SqL.of e1⟩, T, _, _, rfl, rfl, e1, e2, ?_⟩
      refine gnm ?_
      have k1 : Tk H4 (upd H4 T (.lst acc.dropLast)) := Tk.lst e1
      have ts5 := e4.keep k1
      have s5 : Sx [] H (upd H4 T (.lst acc.dropLast)) := s4.own hHT
      have n5 := n4.ls (o := .lst acc.dropLast) e1
      generalize upd H4 T (.lst acc.dropLast) = H5 at s5 n5 e5 ts5 ⊢
      clear k1 e1 e2 e4 e6 st4 n4 s4
      obtain ⟨ax, xs', rfl, hax⟩ := St.at_ ts5
      have n6 := n5.up (show i + 1 ≤ i + 1 + 1 by omega)
      refine ⟨_, rfl, ax, _, _, .str st.hd, rfl, rfl, SqT.of hax, at0 _ _, rfl, _, rfl, ?_⟩
      cases st with
      | set z ex =>
        obtain ⟨a', p1, p2, p3, ea, hA, t1, t2, t3⟩ := tp3 ts5
        cases ea
        obtain rfl := tpS t1
        obtain rfl := tpS t2
        obtain ⟨kvs, hNk, _, hv⟩ := id n5
        refine iteP (by simp only [St.hd]; decide +kernel) ?_
        have R6 := n5.set hNk z (ex.ev w'.en)
        refine ⟨_, rfl, _, rfl, ax, _, _, p3, rfl, rfl, SqT.of hA, rfl, p3, N, ex, w'.en, rfl, t3, sto.2, n5.en, ?_⟩
        refine ⟨_, rfl, _, rfl, ax, _, _, .str z, rfl, rfl, SqT.of hA, rfl, N, _, rfl, DPut.k (k := .inr z) hNk (lt_line (by have := R6.1; omega)), ?_⟩
        refine ⟨T, ⟨fun y => if y = z then ex.ev w'.en else w'.en y, w'.tot, w'.pl ++ [p]⟩, ws, _, _, _, rfl, s5.own hN, hHT, R6.2, e5.dk hNk, so', ?_, ?_⟩
        · rw [← hrun]
          rfl
        · have : (St.set z ex).wt = 1 := rfl
          omega
      | pay ex =>
        obtain ⟨a', p1, p2, ea, hA, t1, t2⟩ := tp2 ts5
        cases ea
        refine iteN (sne (show (("pay" : Str) == "set") = false by decide +kernel)) ?_
        refine ⟨_, rfl, ax, _, _, .str "pay", rfl, rfl, SqT.of hax, at0 _ _, rfl, _, rfl, iteP (by decide +kernel) ?_⟩
        refine ⟨_, rfl, _, rfl, _, rfl, ax, _, _, p2, rfl, rfl, SqT.of hA, rfl, p2, N, ex, w'.en, rfl, t2, sto, n5.en, ?_⟩
        refine ⟨_, _, rfl, rfl, ?_⟩
        refine ⟨T, ⟨w'.en, w'.tot + ex.ev w'.en, w'.pl ++ [p]⟩, ws, _, _, _, rfl, s5, hHT, n6, e5, so', ?_, ?_⟩
        · rw [← hrun]
          rfl
        · have : (St.pay ex).wt = 1 := rfl
          omega
      | stop =>
        refine iteN (sne (show (("stop" : Str) == "set") = false by decide +kernel)) ?_
        refine ⟨_, rfl, ax, _, _, .str "stop", rfl, rfl, SqT.of hax, at0 _ _, rfl, _, rfl, iteN (sne (show (("stop" : Str) == "pay") = false by decide +kernel)) ?_⟩
        refine ⟨_, rfl, ax, _, _, .str "stop", rfl, rfl, SqT.of hax, at0 _ _, rfl, _, rfl, iteN (sne (show (("stop" : Str) == "if") = false by decide +kernel)) ?_⟩
        refine ⟨_, rfl, ax, _, _, .str "stop", rfl, rfl, SqT.of hax, at0 _ _, rfl, _, rfl, iteN (sne (show (("stop" : Str) == "repeat") = false by decide +kernel)) ?_⟩
        refine ⟨by show 0 ≤ sizeLine; decide, fun T2 hT2 => ?_⟩
        refine ⟨T2, ⟨w'.en, w'.tot, w'.pl ++ [p]⟩, [], _, _, _, rfl, s5.new hT2, s5.free (by simp) hT2, n6.sx (Sx.n0 hT2), ⟨[], upd_same, .nil⟩, (fun y hy => by cases hy), ?_, ?_⟩
        · rw [← hrun]
          rfl
        · show i + 1 + 0 ≤ 100
          omega
      | ite ts y n =>
        obtain ⟨a', p1, p2, p3, p4, ea, hA, t1, t2, t3, t4⟩ := tp4 ts5
        cases ea
        refine iteN (sne (show (("if" : Str) == "set") = false by decide +kernel)) ?_
        refine ⟨_, rfl, ax, _, _, .str "if", rfl, rfl, SqT.of hax, at0 _ _, rfl, _, rfl, iteN (sne (show (("if" : Str) == "pay") = false by decide +kernel)) ?_⟩
        refine ⟨_, rfl, ax, _, _, .str "if", rfl, rfl, SqT.of hax, at0 _ _, rfl, _, rfl, iteP (by decide +kernel) ?_⟩
        obtain ⟨valsT, hT5, _⟩ := id e5
        have wt1 : (St.ite ts y n).wt = 1 + y.wt + n.wt := rfl
        have ew : stkWt ((St.ite ts y n).ent w'.en p) + 1 ≤ (St.ite ts y n).wt := ent_wt
        have el := wt_le ((St.ite ts y n).ent w'.en p)
        -- what is laid on the stack
        have go : ∀ (bl : Bk) (p0 : Int) (xs4 : List V) (p4 : Addr), H5 p4 = none → TpAll H5 xs4 (bl.lst.map St.d) → (St.ite ts y n).ent w'.en p = bl.nums p0 → ∃ acc6, (upd H5 p4 (.tup xs4.reverse)) T = some (.lst acc6) ∧ acc6.length + xs4.reverse.length ≤ sizeLine ∧
            ∃ (T' : Addr) (w0 : Wd) (ws : List (Int × St)) (o5 o6 o7 : Option V), [some (.ref a), some (.int x), some (.ref N), some (.int w'.tot), some (.ref T), some (.int (0 + (i : Int))), some (.ref ax), o7'] = [some (.ref a), some (.int x), some (.ref N), some (.int w0.tot), some (.ref T'), o5, o6, o7] ∧ Sx [] H (upd (upd H5 p4 (.tup xs4.reverse)) T (.lst (acc6 ++ xs4.reverse))) ∧ H T' = none ∧ Nd (upd (upd H5 p4 (.tup xs4.reverse)) T (.lst (acc6 ++ xs4.reverse))) N w0.en (i + 1 + 1) ∧ Stt (upd (upd H5 p4 (.tup xs4.reverse)) T (.lst (acc6 ++ xs4.reverse))) T' ws ∧ StkO ns ws ∧ (runS ws w0).1 = (b.run 0 (Wd.at x)).1 ∧ i + 1 + stkWt ws ≤ 100 := fun bl p0 xs4 p4 hp4 hx4 ee => by
          rw [← nums_ds bl p0, ← ee] at hx4
          obtain ⟨acc6, g1, g2, g3⟩ := (e5.keep (Sx.n0 (o := .tup xs4.reverse) hp4)).ext (es := (St.ite ts y n).ent w'.en p) (hx4.new hp4)
          have ylen := hx4.len
          rw [List.length_map] at ylen
          refine ⟨acc6, g1, le_line (by rw [g2, List.length_reverse]; omega), T, ⟨w'.en, w'.tot, w'.pl ++ [p]⟩, (St.ite ts y n).ent w'.en p ++ ws, _, _, _, rfl, (s5.new hp4).own hHT, hHT, (n6.sx (Sx.n0 hp4)).ls g1, g3, fun y hy => ?_, ?_, ?_⟩
          · rcases List.mem_append.1 hy with hy | hy
            · exact StkO.ent hd3 sto y hy
            · exact so' y hy
          · rw [← hrun, runS_append, runS_ent (.inl ⟨_, _, _, rfl⟩)]
            rfl
          · rw [stkWt_append]
            omega
        refine ⟨_, rfl, .inl ⟨rfl, _, SqL.of hT5⟩, _, rfl, _, rfl, ax, _, _, p2, rfl, rfl, SqT.of hA, rfl, p2, N, ts, w'.en, rfl, t2, by decide, sto.1, n5.en, ?_⟩
        refine ⟨_, rfl, ite2 (fun e => ?_) (fun e => ?_)⟩
        · obtain ⟨a4, xs4, rfl, ha4, hx4⟩ := t3.tuple
          rw [y.ds_lst] at hx4
          refine ⟨_, rfl, ax, _, _, _, rfl, rfl, SqT.of hA, rfl, a4, xs4, rfl, SqT.of ha4, fun p4 hp4 => ?_⟩
          obtain ⟨acc6, g1, g2, g3⟩ := go y (p + 1) xs4 p4 hp4 hx4 (by simp only [St.ent]; rw [if_pos e])
          exact ⟨T, p4, acc6, xs4.reverse, rfl, rfl, g1, SqT.of upd_same, g2, g3⟩
        · obtain ⟨a4, xs4, rfl, ha4, hx4⟩ := t4.tuple
          rw [n.ds_lst] at hx4
          refine ⟨_, rfl, ax, _, _, _, rfl, rfl, SqT.of hA, rfl, a4, xs4, rfl, SqT.of ha4, fun p4 hp4 => ?_⟩
          obtain ⟨acc6, g1, g2, g3⟩ := go n (p + 1 + y.sz) xs4 p4 hp4 hx4 (by simp only [St.ent]; rw [if_neg e])
          exact ⟨T, p4, acc6, xs4.reverse, rfl, rfl, g1, SqT.of upd_same, g2, g3⟩
      | rep k y =>
        obtain ⟨a', p1, p2, p3, ea, hA, t1, t2, t3⟩ := tp3 ts5
        cases ea
        obtain rfl := tpI t2
        refine iteN (sne (show (("repeat" : Str) == "set") = false by decide +kernel)) ?_
        refine ⟨_, rfl, ax, _, _, .str "repeat", rfl, rfl, SqT.of hax, at0 _ _, rfl, _, rfl, iteN (sne (show (("repeat" : Str) == "pay") = false by decide +kernel)) ?_⟩
        refine ⟨_, rfl, ax, _, _, .str "repeat", rfl, rfl, SqT.of hax, at0 _ _, rfl, _, rfl, iteN (sne (show (("repeat" : Str) == "if") = false by decide +kernel)) ?_⟩
        refine ⟨_, rfl, ax, _, _, .str "repeat", rfl, rfl, SqT.of hax, at0 _ _, rfl, _, rfl, iteP (by decide +kernel) ?_⟩
        have wt1 : (St.rep k y).wt = 1 + k.toNat * y.wt := rfl
        have k1 : 1 ≤ k := sto.1
        have k8 : k ≤ 8 := sto.2.1
        obtain ⟨a4, xs4, rfl, ha4, hx4⟩ := t3.tuple
        rw [y.ds_lst, ← nums_ds y (p + 1)] at hx4
        have ylen := hx4.len
        rw [List.length_map] at ylen
        have yl := wt_le (y.nums (p + 1))
        rw [stkWt_nums] at yl
        refine ⟨_, rfl, ax, _, _, _, rfl, rfl, SqT.of hA, rfl, k, rfl, by omega, by omega, for_range (n := k.toNat) (fun j σ H' => ∃ o7, σ = [some (.ref a), some (.int x), some (.ref N), some (.int w'.tot), some (.ref T), some (.int (0 + (i : Int))), some (.ref ax), o7] ∧ Sx [] H H' ∧ Tk H5 H' ∧ Nd H' N w'.en (i + 1 + 1) ∧ Stt H' T ((List.replicate j (y.nums (p + 1))).flatten ++ ws))
          ⟨_, rfl, s5, Tk.refl _, n6, e5⟩ (fun j σ H6 hj h => ?_) (fun σ H6 h => ?_)⟩
        · obtain ⟨o7, rfl, s6, k6, m6, e6⟩ := h
          refine gnm ?_
          obtain ⟨valsT, hT6, _⟩ := id e6
          refine ⟨_, rfl, .inl ⟨rfl, _, SqL.of hT6⟩, _, rfl, ax, _, _, _, rfl, rfl, SqT.of (k6 _ _ hA), rfl, a4, xs4, rfl, SqT.of (k6 _ _ ha4), fun p4 hp4 => ?_⟩
          have hx6 := (hx4.keep k6).new (o := .tup xs4.reverse) hp4
          obtain ⟨acc6, g1, g2, g3⟩ := (e6.keep (Sx.n0 (o := .tup xs4.reverse) hp4)).ext (es := y.nums (p + 1)) hx6
          have jl : ((List.replicate j (y.nums (p + 1))).flatten).length ≤ j * y.wt := by
            have := wt_le ((List.replicate j (y.nums (p + 1))).flatten)
            rw [stkWt_rep, stkWt_nums] at this
            exact this
          have jk : j * y.wt + y.wt ≤ k.toNat * y.wt := by
            rw [← Nat.succ_mul]
            exact Nat.mul_le_mul_right _ hj
          refine ⟨T, p4, acc6, xs4.reverse, rfl, rfl, g1, SqT.of upd_same, le_line (by rw [g2, List.length_reverse, List.length_append]; omega), ?_⟩
          refine ⟨_, rfl, (s6.new hp4).own hHT, (k6.trans (Sx.n0 hp4).tk0).trans (Tk.lst g1), (m6.sx (Sx.n0 hp4)).ls g1, ?_⟩
          rw [List.replicate_succ]; rw [List.flatten_cons, List.append_assoc]
          exact g3
        · obtain ⟨o7, rfl, s6, k6, m6, e6⟩ := h
          refine ⟨T, ⟨w'.en, w'.tot, w'.pl ++ [p]⟩, (St.rep k y).ent w'.en p ++ ws, _, _, _, rfl, s6, hHT, m6, e6, fun y hy => ?_, ?_, ?_⟩
          · rcases List.mem_append.1 hy with hy | hy
            · exact StkO.ent hd3 sto y hy
            · exact so' y hy
          · rw [← hrun, runS_append, runS_ent (.inr ⟨_, _, rfl⟩)]
            rfl
          · have ew : stkWt ((St.rep k y).ent w'.en p) + 1 ≤ (St.rep k y).wt := ent_wt
            rw [stkWt_append]
            omega
end
/-! ### a tuple so many times -/
theorem tuple_mul1 (l : Addr) (items : Array Value) (n : Nat) (dd : Option Addr) (sl : Array (Option Value)) (u : Tok) (c1 : items.isEmpty = false) :
    Meets (Builtin.«tuple.__mul__» ⟨[.ref l, .int 1 u], []⟩) (fun _ R s => s.heap.get? l = some { cls := .type "tuple", dict := dd, data := .seq items n, slots := sl } ∧
      R (.ok (.ret (Value.ref l))) s) :=
  .of_wp fun pr w A R s h => by
    rcases s with ⟨hp, g, d, tk, os⟩
    obtain ⟨hl, h⟩ := h
    have f1 := AutoSeq1.idx_int
    (wp_walk using wpAny_loadPart' hl)
    repeat (first
      | (refine wpAny_ite_false (decide_eq_false (by decide)) ?_; wp_walk using wpAny_loadPart' hl)
      | (refine wpAny_ite_true (decide_eq_true (by rw [c1]; rfl)) ?_; wp_walk using wpAny_loadPart' hl))
    exact ⟨_, rfl, h⟩
theorem tuple_mul0 (l : Addr) (items : Array Value) (n : Nat) (dd : Option Addr) (sl : Array (Option Value)) (x : Int) (tx : Tok) (c0 : (decide (x < -(2 ^ 63)) || decide (x ≥ 2 ^ 63)) = false) (c1 : (items.isEmpty || x == 1) = false) (c2 : (decide (x ≤ 0) || items.isEmpty) = true) :
    Meets (Builtin.«tuple.__mul__» ⟨[.ref l, .int x tx], []⟩) (fun _ R s => s.heap.get? l = some { cls := .type "tuple", dict := dd, data := .seq items n, slots := sl } ∧
      R (.ok (.ret (Value.ref s.heap.objs.size))) { s with heap := s.heap.push { cls := Value.type "tuple", data := Data.seq #[] }, toks := s.toks }) :=
  .of_wp fun pr w0 A0 R0 s0 h0 => by
    obtain ⟨hp, g, d, tk, os⟩ := s0
    obtain ⟨ht, h⟩ := h0
    have f1 := AutoSeq1.idx_int
    (wp_walk using AutoSeq1.wpAny_loadPart' ht)
    repeat (first
      | (refine wpAny_ite_false (decide_eq_false (by rw [c0]; exact Bool.false_ne_true)) ?_; wp_walk using AutoSeq1.wpAny_loadPart' ht)
      | (refine wpAny_ite_false (decide_eq_false (by rw [c1]; exact Bool.false_ne_true)) ?_; wp_walk using AutoSeq1.wpAny_loadPart' ht)
      | (refine wpAny_ite_true (decide_eq_true c2) ?_; wp_walk using AutoSeq1.wpAny_loadPart' ht))
    exact ⟨_, rfl, h⟩
def rRepW (K : PySem.W.Frag) : R2 := fun x y H Q => ∃ l k xs, x = .ref l ∧ y = .int k ∧ SqT K H l xs ∧ xs ≠ [] ∧ 0 ≤ k ∧ k ≤ 10000 ∧ xs.length ≤ 1000 ∧ (k = 1 → Q (.ref l) H) ∧ (k ≠ 1 → ∀ p, H p = none → Q (.ref p) (upd H p (.tup (List.replicate k.toNat xs).flatten)))
section
variable {X : Cx}
theorem op_repW : OpR X (binaryOp .Mult) (rRepW X.K) := by
  intro pins s σ H x0 y0 v u Q I rx ry h
  obtain ⟨l, k, xs, rfl, rfl, hT, hne, h1, h2, hz, q1, q⟩ := h
  cases rx
  obtain ⟨t, rfl⟩ := ry
  rcases I.tuple hT with ⟨its, r, ⟨⟨cls, dd, data, sl⟩, ho, hc, n, hd⟩, hs⟩
  simp only at hc hd
  subst hc hd
  have hle : (its.length = xs.length) := r.length.symm
  have hn : (its ≠ []) := fun e => hne (by
    exact List.eq_nil_of_length_eq_zero (e ▸ hle).symm)
  have hi : (its.toArray.isEmpty = false) := by
    cases its with
    | nil => exact absurd rfl hn
    | cons a b => rfl
  have hsz0 : (its.toArray.size = xs.length) := by rw [List.size_toArray, hle]
  by_cases hk : k = 1
  · subst hk
    exact wpAny_binaryOp_repeat_ref (U := "int") (T := "tuple") (by decide) ⟨_, ho, rfl⟩ (fun s' => typeIs_int s' 1 t) noFill_tuple_mul F.fills_int_mul F.slot_int_rmul repeat_tuple F.slot_int_index.lookup
      (call_meets F.slot_int_rmul (typeIs_int s 1 t) F.entry_int_rmul (F.args_int_rmul_2 _ _) (int_rmul_tuple 1 t l its.toArray n dd sl)
        ⟨ho, rfl, ⟨_, ho, rfl⟩, call_meets F.slot_tuple_mul ⟨_, ho, rfl⟩ F.entry_tuple_mul (F.args_tuple_mul_2 _ _) (tuple_mul1 l its.toArray n dd sl t hi) ⟨ho, .ref l, H, I, rfl, q1 rfl⟩⟩)
  have q := q hk
  have c0 : ((decide (k < -(2 ^ 63)) || decide (k ≥ 2 ^ 63)) = false) := by
    (rw [decide_eq_false (by omega), decide_eq_false (by omega)]; rfl)
  have c1 : ((its.toArray.isEmpty || k == 1) = false) := by
    rw [hi, Bool.false_or]
    exact (beq_eq_false_iff_ne.mpr (by omega))
  by_cases hk0 : k = 0
  · subst hk0
    refine wpAny_binaryOp_repeat_ref (U := "int") (T := "tuple") (by decide) ⟨_, ho, rfl⟩ (fun s' => typeIs_int s' 0 t) noFill_tuple_mul F.fills_int_mul F.slot_int_rmul repeat_tuple F.slot_int_index.lookup
      (call_meets F.slot_int_rmul (typeIs_int s 0 t) F.entry_int_rmul (F.args_int_rmul_2 _ _) (int_rmul_tuple 0 t l its.toArray n dd sl)
        ⟨ho, rfl, ⟨_, ho, rfl⟩, call_meets F.slot_tuple_mul ⟨_, ho, rfl⟩ F.entry_tuple_mul (F.args_tuple_mul_2 _ _) (tuple_mul0 l its.toArray n dd sl 0 t c0 c1 (by rw [hi]; rfl)) ⟨ho, ?_⟩⟩)
    exact ⟨.ref s.heap.objs.size, _, I.laid (t' := s.toks) (o := .tup []) (fun b ob q => Heap.get?_push_of_some _ q) (Nat.le_refl _) ⟨by show 0 ≤ sizeLine; decide, [], .nil, IsTup.new _ _⟩, rfl, q _ (I.hok.fresh (Nat.le_refl _))⟩
  have hm : ((its.toArray.size : Nat) : Int) * k ≤ 10000000 := by
    rw [hsz0]
    have a1 : (((xs.length : Nat) : Int) * k ≤ 1000 * k) := Int.mul_le_mul_of_nonneg_right (by omega) (by omega)
    omega
  have flen : ((List.replicate k.toNat its).flatten.length ≤ sizeLine) := by
    rw [PyProof.Rows.lm_len_rep_flat]; rw [hle, sizeLine_eq]
    have a1 : k.toNat * xs.length ≤ 10000 * 1000 := Nat.mul_le_mul (by omega) hz
    omega
  have c2 : ((decide (k ≤ 0) || its.toArray.isEmpty) = false) := by
    rw [hi, Bool.or_false]
    exact (decide_eq_false (by omega))
  have c4 : (Builtin.Tuple.tupleTooMany (((its.toArray.size : Nat) : Int) * k) = false) := by
    rw [Builtin.Tuple.tupleTooMany, sizeLine_eq]
    exact (decide_eq_false (by omega))
  refine wpAny_binaryOp_repeat_ref (U := "int") (T := "tuple") (by decide) ⟨_, ho, rfl⟩ (fun s' => typeIs_int s' k t) noFill_tuple_mul F.fills_int_mul F.slot_int_rmul repeat_tuple F.slot_int_index.lookup
    (call_meets F.slot_int_rmul (typeIs_int s k t) F.entry_int_rmul (F.args_int_rmul_2 _ _) (int_rmul_tuple k t l its.toArray n dd sl) ⟨ho, rfl, ⟨_, ho, rfl⟩,
      call_meets F.slot_tuple_mul ⟨_, ho, rfl⟩ F.entry_tuple_mul (F.args_tuple_mul_2 _ _) (tuple_mulW l its.toArray n dd sl k t c0 c1 c2 (by omega) c4 (by rw [size_rep, List.size_toArray]; exact flen)) ⟨ho, ?_⟩⟩)
  rw [size_rep]
  refine (⟨.ref s.heap.objs.size, _, I.laid (t' := s.toks) (o := .tup (List.replicate k.toNat xs).flatten) (fun b ob q => Heap.get?_push_of_some _ q) (Nat.le_refl _) ?_, rfl, q _ (I.hok.fresh (Nat.le_refl _))⟩)
  exact ⟨by rw [PyProof.Rows.lm_len_rep_flat, sizeLine_eq]; have a1 : k.toNat * xs.length ≤ 10000 * 1000 := Nat.mul_le_mul (by omega) hz; omega, _, r.rep k.toNat, IsTup.new _ _⟩
end
theorem rep_tp {K : PySem.W.Frag} {H : Hp} {l : Addr} {x : V} {d : PyData} {m : Int} {Q : VK} (h : H l = some (.tup [x])) (t : Tp H x d) (h1 : 0 ≤ m) (h2 : m ≤ 10000)
    (q : ∀ H' z, Sx [] H H' → Tp H' z (.tuple (List.replicate m.toNat d)) → Q z H') : rRepW K (.ref l) (.int m) H Q := by
  refine ⟨l, m, [x], rfl, rfl, SqT.of h, by simp, h1, h2, by show 1 ≤ 1000; decide, fun e => ?_, fun _ p hp => ?_⟩
  · subst e
    exact q H _ (Sx.refl _) (.tup h (.cons t .nil))
  · have fl : ∀ n : Nat, (List.replicate n [x]).flatten = List.replicate n x := fun n => by
      induction n with
      | zero => rfl
      | succ n ih => rw [List.replicate_succ, List.flatten_cons, ih]; rfl
    have tr : ∀ n : Nat, TpAll H (List.replicate n x) (List.replicate n d) := fun n => by
      induction n with
      | zero => exact .nil
      | succ n ih => exact .cons t ih
    rw [fl]
    exact q _ _ (Sx.n0 hp) (.tup upd_same ((tr _).new hp))
/-! ### enumerate(tuple) -/
theorem meets_enumT (l : Addr) (items : Array Value) (n : Nat) (dct : Option Addr) (sl : Array (Option Value)) :
    Meets (Builtin.«enumerate.__new__» ⟨[.type "enumerate", .ref l], []⟩) (fun _ R s => s.heap.get? l = some { cls := .type "tuple", dict := dct, data := .seq items n, slots := sl } ∧
      R (.ok (.ret (.ref (s.heap.push { cls := .type "tuple_iterator", data := .fields #[.ref l, .int 0 0] }).objs.size)))
        { s with heap := (s.heap.push { cls := .type "tuple_iterator", data := .fields #[.ref l, .int 0 0] }).push { cls := .type "enumerate", data := .fields #[.none, .bool false, .ref s.heap.objs.size, rawInt 0, .none, .none] } }) :=
  .of_wp fun pr w0 A0 R0 s0 h0 => by
    obtain ⟨hp, g, d, tk, os⟩ := s0; obtain ⟨ht, h⟩ := h0
    have hsb := sub_enumerate
    have hT : Heap.IsTuple (Shared.heap ⟨hp, g, d, tk, os⟩) l items := ⟨_, ht, rfl, n, rfl⟩
    (wp_walk using AutoSeq1.wpAny_loadPart' ht)
    refine wpAny_stack_any fun stk => wpAny_pure ?_
    split
    · rename_i c _ _ _ _ _
      cases (c == Value.type "enumerate") <;> (wp_walk using AutoSeq1.wpAny_loadPart' ht, wpAny_pyIter_tuple hT; exact ⟨_, rfl, h⟩)
    · (wp_walk using AutoSeq1.wpAny_loadPart' ht, wpAny_pyIter_tuple hT; exact ⟨_, rfl, h⟩)
theorem call_enumT {pr : Program} {w : World} {A : Around} {E : Value → Shared → Prop} {s : Shared} {l : Addr} {items : Array Value} {Q : Value → Shared → Prop} (hL : s.heap.IsTuple l items)
    (h : ∀ h', IsEnum h' (s.heap.objs.size + 1) s.heap.objs.size 0 .none → h'.IsTupleIter s.heap.objs.size l 0 → h'.objs.size = s.heap.objs.size + 2 →
      (∀ y oy, s.heap.get? y = some oy → h'.get? y = some oy) → Q (.ref (s.heap.objs.size + 1)) { s with heap := h' }) :
    wpAny (model pr w) A (call (.type "enumerate") [.ref l]) Q E s := by
  obtain ⟨⟨c, dct, dt, sl⟩, ht, hc, n, hd⟩ := hL
  have hc : c = .type "tuple" := hc
  have hd : dt = .seq items n := hd
  subst hc hd
  refine callType_new F.called_enumerate (by decide) (F.typeCall_enumerate_1 _) (F.newCall_enumerate_1 _) (fun ob => F.args_object_init_2 ob _) F.entry_enumerate_new (meets_enumT l items n dct sl) ⟨ht, ?_⟩
  have hz : (s.heap.push { cls := .type "tuple_iterator", data := .fields #[.ref l, .int 0 0] }).objs.size = s.heap.objs.size + 1 := Heap.size_push ..
  show _ ∧ _
  rw [hz]
  have he : IsEnum ((s.heap.push { cls := .type "tuple_iterator", data := .fields #[.ref l, .int 0 0] }).push { cls := .type "enumerate", data := .fields #[.none, .bool false, .ref s.heap.objs.size, rawInt 0, .none, .none] }) (s.heap.objs.size + 1) s.heap.objs.size 0 .none := by
    have e := Heap.get?_push_size (s.heap.push { cls := .type "tuple_iterator", data := .fields #[.ref l, .int 0 0] }) (o := { cls := .type "enumerate", data := .fields #[.none, .bool false, .ref s.heap.objs.size, rawInt 0, .none, .none] }) rfl
    rw [hz] at e
    exact e
  exact ⟨⟨_, he, rfl⟩, h _ he ⟨_, Heap.get?_push_of_some _ (Heap.get?_push_size _ rfl), rfl, rfl⟩ (by rw [Heap.size_push, hz]) fun b o x => Heap.get?_push_of_some _ (Heap.get?_push_of_some _ x)⟩
/-- the tuple at a as it stands at each turn, each item in a new pair -/
def IteT (K : PySem.W.Frag) (a : Addr) : It :=
  ⟨fun i H => ∃ (xs : List V) (x : V), SqT K H a xs ∧ xs[i]? = some x, fun i H v H' => ∃ T x, v = .ref T ∧ H T = none ∧ H' = upd H T (.tup [.int (i : Nat), x]) ∧ ∀ xs, SqT K H a xs → xs[i]? = some x, fun i H => ∃ xs : List V, SqT K H a xs ∧ xs.length = i⟩
theorem tupInj {X : Cx} {pins : List (Addr × Obj)} {σ : L2.St} {H : Hp} {s : Shared} {a : Addr} {xs ys : List V} (I : Inv X pins σ H s) (h1 : SqT X.K H a xs) (h2 : SqT X.K H a ys) : xs = ys := I.tuple_inj h1 h2
theorem turn_enumT {P : Program} {w : World} {K : PySem.W.Frag} {elts : List Expr} {kk : Nat} {tpos : Pos} (a e it : Addr) :
    Turn P w K (.Tuple elts kk tpos) (IteT K a) [e, it] e (fun i h => (∃ old, IsEnum h e it ((i : Nat) : Int) old) ∧ h.IsTupleIter it a i ∧ e ≠ it ∧ a ≠ it ∧ a ≠ e) where
  mem := by simp
  obj := fun i h st b hb => by
    rcases st with ⟨⟨old, he⟩, ⟨o, ho, hc, hd⟩, _⟩
    rcases (show b = e ∨ b = it by simpa using hb) with z | z
    · rw [z]
      exact ⟨_, he, fun v q => nomatch q⟩
    · rw [z]
      exact ⟨o, ho, fun v q => by rw [hd] at q; cases q⟩
  keep := fun i h h' st k => by
    obtain ⟨⟨was, ee⟩, hi, ne⟩ := st
    exact ⟨⟨was, k e (by simp) _ ee⟩, hi.at fun o q => k it (by simp) o q, ne⟩
  item := by
    intro X hP hw hK hc i pins s σ H Ex I hf st hg
    subst hP hw hK
    obtain ⟨⟨old, he⟩, hit, hne, hai, hae⟩ := st
    obtain ⟨xs, x, hq, hx⟩ := hg
    rcases I.tuple hq with ⟨its, rv, p, hz⟩
    rcases rv.get hx with ⟨u, hu, ru⟩
    have hel : (e < s.heap.objs.size) := Heap.lt_size he
    have hil : (it < s.heap.objs.size) := by obtain ⟨_, q, _⟩ := hit; exact Heap.lt_size q
    have hlt : i < its.toArray.size := by
      rw [List.size_toArray]
      exact (List.getElem?_eq_some_iff.mp hu).1
    refine wpAny_pyNext_enum_itemD (Draws.tuple (prog := X.prog) (w := X.w) (A := X.A.in1) (I.ok.hd hc) it a hai its.toArray) he ⟨hit, p⟩ hlt hne (by simp [hne, hae.symm]) fun x' h' tk hP ho hs' hT hsz hk => ?_
    have ex : x' = u := by
      have q : its[i]? = some x' := by simpa using hP
      rw [hu] at q
      exact ((Option.some.inj q).symm)
    subst ex
    refine ⟨_, rfl, wpAny_letOwnedTupleGo_enum (s := { s with heap := h', toks := tk + 1 }) ho fun h'' he' sb => ?_⟩
    have hT2 : h''.get? s.heap.objs.size = some { cls := .type "tuple", data := .seq #[.int i tk, x'] } := (sb.2 _ (Nat.ne_of_gt hel)).trans hT
    have made : ObjOk X.prog X.w (upd H s.heap.objs.size (.tup [.int (i : Nat), x])) h'' s.heap.objs.size (.tup [.int (i : Nat), x]) :=
      ⟨by show 2 ≤ sizeLine; decide, [.int i tk, x'], .cons ⟨_, rfl⟩ (.cons ru .nil), ⟨_, hT2, rfl, _, rfl⟩⟩
    have I1 : Inv X pins σ (upd H s.heap.objs.size (.tup [.int (i : Nat), x])) { s with heap := h'', toks := tk + 1 } :=
      Inv.turnedNew (ch := [e, it]) I (fun b ob hb q => (sb.2 b (fun z => hb (by simp [z]))).trans (hk b ob (fun z => hb (by simp [z])) (fun z => hb (by simp [z])) q)) hf (Nat.le_refl _) made
    refine ⟨.ref s.heap.objs.size, _, I1, rfl, ⟨_, x, rfl, I.hok.fresh (Nat.le_refl _), rfl, fun ys hy => by rw [tupInj I hy hq]; exact hx⟩, ⟨⟨x', ?_⟩, hs'.1.at fun o q => (sb.2 it (Ne.symm hne)).trans q, hne, hai, hae⟩, fun b hb => ?_⟩
    · have e1 : (((i + 1 : Nat) : Int) = (i : Int) + 1) := by omega
      rw [e1]; exact he'
    · have hb' : (b < s.heap.objs.size) := by
        rcases (show b = e ∨ b = it by simpa using hb) with z | z
        · rw [z]; exact hel
        · rw [z]; exact hil
      rw [(upd_ne (Nat.ne_of_lt hb'))]
      exact (hf b hb).1
  done := by
    intro X hP hw hK hc i pins s σ H Ex I hf st hg
    subst hP hw hK
    obtain ⟨⟨old, he⟩, hit, hne, hai, hae⟩ := st
    obtain ⟨xs, hq, hx⟩ := hg
    rcases I.tuple hq with ⟨its, rv, p, hz⟩
    rcases hf it (by simp) with ⟨f0, f1, f2, f3, f4, f5⟩
    have hl := rv.length
    subst hx
    have en : xs.length = its.toArray.size := by rw [List.size_toArray]; exact hl
    rw [en] at he hit
    exact wpAny_pyNext_enum_endD (Draws.tuple (prog := X.prog) (w := X.w) (A := X.A.in1) (I.ok.hd hc) it a hai its.toArray) he ⟨hit, p⟩ fun h' eb => ⟨rfl, I.turned (t' := s.toks) (fun b o hb q => eb b o hb q) f0 f1 f3 f4 f5⟩
  self := fun A i s Q Ex st h => wpAny_pyIter_enum st.1.choose_spec h
def iEnumT (K : PySem.W.Frag) (ta : TA) : TI := fun σ H R => ta σ H fun vs H1 => ∃ a xs, vs = [.ref a] ∧ SqT K H1 a xs ∧ R (IteT K a) H1
theorem pi_enumT {X : Cx} {e : Expr} {ta : TA} {p pos tpos : Pos} {elts : List Expr} {kk : Nat} (hg : Gl X "enumerate") (hm : X.mg "enumerate" = none) (ha : PA X [e] ta) (hs : starEach [e] X.env = [(false, eval e X.env)] := by rfl) :
    PI X (.Tuple elts kk tpos) (.Call (.Name "enumerate" p) [e] [] pos) (iEnumT X.K ta) := by
  refine (⟨fun pins s σ H R I h => ?_⟩)
  refine (Call_ (ld_blt I hg hm boot_enumerate (PyProof.Rows.callWith_type1 (thn (ha.run pos pins s σ H _ I h) fun us s1 ⟨vs, H1, I1, r1, q1⟩ => ?_) hs rfl)))
  rcases q1 with ⟨a, xs, ex, hq, q⟩
  subst ex
  cases r1 with
  | cons r rr =>
    cases rr
    cases r
    obtain ⟨its, rv, p', hz⟩ := I1.tuple hq
    have hal : a < s1.heap.objs.size := by obtain ⟨_, z, _⟩ := p'; exact Heap.lt_size z
    refine call_enumT p' fun h' he hit hsz hk => wpAny_pyIter_enum he ?_
    have I2 : (Inv X pins σ H1 { s1 with heap := h' }) := I1.kept (t' := s1.toks) hk
    refine ⟨s1.heap.objs.size + 1, [s1.heap.objs.size + 1, s1.heap.objs.size], _, _, H1, rfl, I2, turn_enumT a (s1.heap.objs.size + 1) s1.heap.objs.size, ⟨⟨.none, he⟩, hit, Nat.succ_ne_self _, Nat.ne_of_lt hal, Nat.ne_of_lt (Nat.lt_succ_of_lt hal)⟩, fun b hb => ?_, q⟩
    have hle : (s1.heap.objs.size ≤ b) := by
      rcases (show b = s1.heap.objs.size + 1 ∨ b = s1.heap.objs.size by simpa using hb) with z | z
      · rw [z]
        exact Nat.le_add_right _ _
      · rw [z]; exact Nat.le_refl _
    exact (I1.fpOk hle (I1.hok.fresh hle))
theorem walk_enumT {K : PySem.W.Frag} {a : Addr} {xs : List V} : Walk (IteT K a) xs.length (fun H => SqT K H a xs) (YPair (fun i => some (.int (i : Nat))) (fun i => xs[i]?)) := by
  refine ⟨fun i _ hi q => ⟨xs, xs[i], q, by simp [hi]⟩, fun _ q => ⟨xs, q, rfl⟩, fun i H v H' _ q y => ?_⟩
  rcases y with ⟨T, x, h1, h2, h3, h4⟩
  exact (⟨T, .int (i : Nat), x, h1, h2, h3, rfl, h4 xs q⟩)
abbrev sPIsBetween : Stmt := topS 3
abbrev nPIsBetween : List Str := ["value", "low", "high"]
theorem scPIsBetween : FnScope nPIsBetween ["value", "low", "high"] (defScope sPIsBetween) := ⟨rfl, rfl, rfl, by decide +kernel, rfl, by decide +kernel, by decide +kernel⟩
abbrev sPHeardError : Stmt := topS 16
abbrev nPHeardError : List Str := ["value", "index", "pair"]
theorem scPHeardError : FnScope nPHeardError ["value"] (defScope sPHeardError) := ⟨rfl, rfl, rfl, by decide +kernel, rfl, by decide +kernel, by decide +kernel⟩
abbrev sPIsPair : Stmt := topS 17
abbrev nPIsPair : List Str := ["value"]
theorem scPIsPair : FnScope nPIsPair ["value"] (defScope sPIsPair) := ⟨rfl, rfl, rfl, by decide +kernel, rfl, by decide +kernel, by decide +kernel⟩
abbrev sPLeft : Stmt := topS 18
abbrev nPLeft : List Str := ["family", "heard", "lies", "index", "program"]
theorem scPLeft : FnScope nPLeft ["family", "heard", "lies"] (defScope sPLeft) := ⟨rfl, rfl, rfl, by decide +kernel, rfl, by decide +kernel, by decide +kernel⟩
abbrev sPWrongIn : Stmt := topS 19
abbrev nPWrongIn : List Str := ["program", "heard", "number", "shown"]
theorem scPWrongIn : FnScope nPWrongIn ["program", "heard"] (defScope sPWrongIn) := ⟨rfl, rfl, rfl, by decide +kernel, rfl, by decide +kernel, by decide +kernel⟩
/-! ### what was heard, and values like it -/
/-- an int that is no bool, or another value -/
def isIntA (H : Hp) (v : V) (b : Bool) : Prop := (∃ i, v = .int i ∧ b = true) ∨ ((v = .non ∨ (∃ c, v = .bl c) ∨ (∃ z, v = .str z)) ∧ b = false)
def spIsIntA : Sp := fun vs H Q _ => ∃ v b, vs = [v] ∧ isIntA H v b ∧ Q (.bl b) H
def spBetweenA : Sp := fun vs H Q _ => ∃ (v : V) (b : Bool) (lo hi : Int), vs = [v, .int lo, .int hi] ∧ isIntA H v b ∧ (∀ i, v = .int i → Q (.bl (decide (lo ≤ i) && decide (i ≤ hi))) H) ∧ (b = false → Q (.bl false) H)
/-- whether a value is a pair of an integer and a sign -/
inductive PairK (H : Hp) : V → Bool → Prop where
  | non : PairK H .non false
  | bl (b : Bool) : PairK H (.bl b) false
  | int (i : Int) : PairK H (.int i) false
  | str (z : Str) : PairK H (.str z) false
  | lst {a : Addr} {xs : List V} (h : H a = some (.lst xs)) : PairK H (.ref a) false
  | len {a : Addr} {xs : List V} (h : H a = some (.tup xs)) (n : xs.length ≠ 2) : PairK H (.ref a) false
  | fst {a : Addr} {x y : V} (h : H a = some (.tup [x, y])) (f : isIntA H x false) : PairK H (.ref a) false
  | snd {a : Addr} {i : Int} {y : V} (h : H a = some (.tup [.int i, y])) (f : isIntA H y false) : PairK H (.ref a) false
  | two {a : Addr} {i j : Int} (h : H a = some (.tup [.int i, .int j])) : PairK H (.ref a) (decide (-1 ≤ j) && decide (j ≤ 1))
inductive PairAll (H : Hp) : List V → List Bool → Prop where
  | nil : PairAll H [] []
  | cons {v : V} {b : Bool} {vs : List V} {bs : List Bool} : PairK H v b → PairAll H vs bs → PairAll H (v :: vs) (b :: bs)
/-- lists stay lists -/
def Lk (H H' : Hp) : Prop := ∀ b xs, H b = some (.lst xs) → ∃ ys, H' b = some (.lst ys)
theorem Sx.lk0 {H H' : Hp} (s : Sx [] H H') : Lk H H' := fun b xs e => ⟨xs, s b _ (by simp) e⟩
theorem Lk.trans {H H1 H2 : Hp} (a : Lk H H1) (b : Lk H1 H2) : Lk H H2 := fun x xs h => by
  obtain ⟨ys, e⟩ := a x xs h
  exact b x ys e
theorem Dk.lk {H H' : Hp} {a c : Addr} {cs' : List Int} {k' : Int} (D' : Dk H' a c cs' k') (s : Sx [a, c] H H') : Lk H H' := fun b xs e => by
  by_cases h : b ∈ [a, c]
  · rcases List.mem_cons.1 h with rfl | h
    · exact ⟨_, D'.ha⟩
    · rw [List.mem_singleton.mp h]; exact ⟨_, D'.hc⟩
  · exact ⟨xs, s b _ h e⟩
theorem PairK.keep {H H' : Hp} (k : Tk H H') (l : Lk H H') {v : V} {b : Bool} (h : PairK H v b) : PairK H' v b := by
  cases h with
  | non => exact .non
  | bl b => exact .bl b
  | int i => exact .int i
  | str z => exact .str z
  | lst h => obtain ⟨ys, e⟩ := l _ _ h; exact .lst e
  | len h n => exact .len (k _ _ h) n
  | fst h f => exact .fst (k _ _ h) f
  | snd h f => exact .snd (k _ _ h) f
  | two h => exact .two (k _ _ h)
theorem PairAll.keep {H H' : Hp} (k : Tk H H') (l : Lk H H') : ∀ {vs : List V} {bs : List Bool}, PairAll H vs bs → PairAll H' vs bs
  | _, _, .nil => .nil
  | _, _, .cons a b => .cons (a.keep k l) (PairAll.keep k l b)
theorem PairAll.len {H : Hp} : ∀ {vs : List V} {bs : List Bool}, PairAll H vs bs → vs.length = bs.length
  | _, _, .nil => rfl
  | _, _, .cons _ b => by rw [List.length_cons, List.length_cons, PairAll.len b]
theorem PairAll.get {H : Hp} : ∀ {vs : List V} {bs : List Bool} {i : Nat} {v : V}, PairAll H vs bs → vs[i]? = some v → ∃ b, bs[i]? = some b ∧ PairK H v b
  | _, _, 0, _, .cons a _, e => ⟨_, rfl, by cases e; exact a⟩
  | _, _, i + 1, _, .cons _ b, e => PairAll.get (i := i) b e
theorem PairAll.append {H : Hp} : ∀ {vs ws : List V} {bs cs : List Bool}, PairAll H vs bs → PairAll H ws cs → PairAll H (vs ++ ws) (bs ++ cs)
  | _, _, _, _, .nil, h => h
  | _, _, _, _, .cons a b, h => .cons a (PairAll.append b h)
theorem PairAll.take {H : Hp} : ∀ {vs : List V} {bs : List Bool} (n : Nat), PairAll H vs bs → PairAll H (vs.take n) (bs.take n)
  | _, _, 0, _ => .nil
  | _, _, n + 1, .nil => .nil
  | _, _, n + 1, .cons a b => .cons a (PairAll.take n b)
theorem PairAll.drop {H : Hp} : ∀ {vs : List V} {bs : List Bool} (n : Nat), PairAll H vs bs → PairAll H (vs.drop n) (bs.drop n)
  | _, _, 0, h => h
  | _, _, n + 1, .nil => .nil
  | _, _, n + 1, .cons _ b => PairAll.drop n b
theorem PairAll.rep {H : Hp} {v : V} {b : Bool} (h : PairK H v b) : ∀ n : Nat, PairAll H (List.replicate n v) (List.replicate n b)
  | 0 => .nil
  | n + 1 => .cons h (PairAll.rep h n)
/-- the first that is none, or what the number of them tells -/
def hAt : List Bool → Nat → PyData → PyData
  | [], _, e => e
  | true :: r, i, e => hAt r (i + 1) e
  | false :: _, i, _ => .tuple [.int i, .str "pair"]
def hEnd (n : Nat) : PyData := if 40 < (n : Int) then .tuple [.none, .str "many"] else .none
def HvK (H : Hp) (v : V) : Option (List Bool) → Prop
  | none => v = .non ∨ (∃ i, v = .int i) ∨ (∃ z, v = .str z) ∨ ∃ a xs, v = .ref a ∧ H a = some (.lst xs)
  | some ps => ∃ a xs, v = .ref a ∧ H a = some (.tup xs) ∧ PairAll H xs ps ∧ ps.length < 10000
def hErr : Option (List Bool) → PyData
  | none => .tuple [.none, .str "heard"]
  | some ps => hAt ps 0 (hEnd ps.length)
theorem HvK.keep {H H' : Hp} (k : Tk H H') (l : Lk H H') {v : V} {o : Option (List Bool)} (h : HvK H v o) : HvK H' v o := by
  cases o with
  | none =>
    rcases h with h | h | h | ⟨a, xs, h1, h2⟩
    · exact .inl h
    · exact .inr (.inl h)
    · exact .inr (.inr (.inl h))
    · obtain ⟨ys, e⟩ := l _ _ h2
      exact .inr (.inr (.inr ⟨a, ys, h1, e⟩))
  | some ps =>
    obtain ⟨a, xs, h1, h2, h3, h4⟩ := h
    exact ⟨a, xs, h1, k _ _ h2, h3.keep k l, h4⟩
theorem hAt_at {ps : List Bool} {i : Nat} {e : PyData} (h : ps[i]? = some false) : hAt (ps.drop i) i e = .tuple [.int i, .str "pair"] := by
  rw [List.drop_eq_getElem?_toList_append, h]
  rfl
theorem hAt_on {ps : List Bool} {i : Nat} {e : PyData} (h : ps[i]? = some true) : hAt (ps.drop i) i e = hAt (ps.drop (i + 1)) (i + 1) e := by
  rw [List.drop_eq_getElem?_toList_append, h]
  rfl
def spPairA : Sp := fun vs H Q _ => ∃ (v : V) (b : Bool), vs = [v] ∧ PairK H v b ∧ Q (.bl b) H
def spHeardE : Sp := fun vs H Q _ => ∃ (v : V) (o : Option (List Bool)), vs = [v] ∧ HvK H v o ∧ ∀ H' r, Sx [] H H' → Tp H' r (hErr o) → Q r H'
/-- pairs of a number and a sign -/
def prP (y : Int × Int) : PyData := .tuple [.int y.1, .int y.2]
def badP (b : Bk) (y : Int × Int) : Bool := !decide (V.int (sgn (b.run 0 (Wd.at y.1)).1.tot) = V.int y.2)
def wr (b : Bk) (l : List (Int × Int)) : Nat := (l.filter (badP b)).length
/-- a right program -/
def Rp (b : Bk) : Prop := ∃ ns, b.ok ns 4 ∧ (∀ z ∈ ns, NmOk z) ∧ b.sz ≤ 24 ∧ b.wt ≤ 30
def spWrong : Sp := fun vs H Q _ => ∃ (v u : V) (b : Bk) (l : List (Int × Int)), vs = [v, u] ∧ Tp H v (bkD b) ∧ Rp b ∧ Tp H u (.tuple (l.map prP)) ∧ l.length < 1000 ∧ ∀ H', Sx [] H H' → Q (.int (wr b l)) H'
def lfI (bs : List Bk) (l : List (Int × Int)) (m : Int) (i : Nat) : List Int := ((List.range i).filter fun j => decide (((bs[j]?.map fun b => wr b l).getD 0 : Nat) ≤ m)).map fun (j : Nat) => (j : Int)
def spLeft : Sp := fun vs H Q _ => ∃ (v u : V) (bs : List Bk) (l : List (Int × Int)) (m : Int), vs = [v, u, .int m] ∧ Tp H v (.tuple (bs.map bkD)) ∧ (∀ b ∈ bs, Rp b) ∧ bs.length ≤ 1000 ∧ Tp H u (.tuple (l.map prP)) ∧ l.length < 1000 ∧ ∀ H' r, Sx [] H H' → Tp H' r (.tuple ((lfI bs l m bs.length).map PyData.int)) → Q r H'
theorem lfI_up {bs : List Bk} {l : List (Int × Int)} {m : Int} {i : Nat} {b : Bk} (h : bs[i]? = some b) : lfI bs l m (i + 1) = lfI bs l m i ++ (if decide ((wr b l : Int) ≤ m) = true then [(i : Int)] else []) := by
  unfold lfI
  rw [List.range_succ, List.filter_append, List.map_append]
  congr 1
  rw [List.filter_cons, h]
  show (if decide ((wr b l : Int) ≤ m) = true then [i] else []).map _ = _
  split <;> rfl
theorem wr_up {b : Bk} {l : List (Int × Int)} {i : Nat} {y : Int × Int} (h : l[i]? = some y) : wr b (l.take (i + 1)) = wr b (l.take i) + (if badP b y = true then 1 else 0) := by
  unfold wr
  rw [List.take_add_one, h, List.filter_append, List.length_append]
  congr 1
  show (List.filter (badP b) [y]).length = _
  rw [List.filter_cons]
  split <;> rfl
section
variable {w : World} {P : Program} {K : PySem.W.Frag} {mg : Str → Option Value} {base : Heap}
theorem ok_intA {f : Addr} {fd : FuncData} {k : Nat} (F_pis_integer : Fun K "is_integer" "is_integer" sPIsInteger f fd) (z_isinstance : mg "isinstance" = none) (z_int : mg "int" = none) (z_bool : mg "bool" = none) : FnOk P w K mg base CX0 (k + 1) f fd ["value"] spIsIntA := by
  refine F_pis_integer.ok scPIsInteger (fun vs H Q E h => ?_) (fun cdv A outer s H vs Q E hr h => ?_)
  · obtain ⟨_, _, rfl, _⟩ := h
    rfl
  · obtain ⟨v, b, rfl, iv, q⟩ := h
    refine ⟨_, (pss_one (ps_ret (pe_and (pe_callB call_isi (by rfl) z_isinstance (by decide +kernel) (pa_cons (pv 0) (pa_cons (pe_bltn (v := .ty "int") (by rfl) z_int (by decide +kernel) rfl) pa_nil))) (pe_one (pe_not (pe_callB call_isi (by rfl) z_isinstance (by decide +kernel) (pa_cons (pv 0) (pa_cons (pe_bltn (v := .ty "bool") (by rfl) z_bool (by decide +kernel) rfl) pa_nil)))))))), ?_⟩
    rcases iv with ⟨i, rfl, rfl⟩ | ⟨rfl | ⟨c, rfl⟩ | ⟨z, rfl⟩, rfl⟩
    · exact ⟨_, rfl, _, _, _, _, _, rfl, .ty _, .base (.int i), kit_ty (r := true) (by decide +kernel), _, rfl, iteT ⟨_, rfl, _, _, _, _, _, rfl, .ty _, .base (.int i), kit_ty (r := false) (by decide +kernel), _, rfl, q⟩⟩
    · exact ⟨_, rfl, _, _, _, _, _, rfl, .ty _, .base .non, kit_ty (r := false) (by decide +kernel), _, rfl, iteF q⟩
    · exact ⟨_, rfl, _, _, _, _, _, rfl, .ty _, .base (.bl c), kit_ty (r := true) (by decide +kernel), _, rfl, iteT ⟨_, rfl, _, _, _, _, _, rfl, .ty _, .base (.bl c), kit_ty (r := true) (by decide +kernel), _, rfl, q⟩⟩
    · exact ⟨_, rfl, _, _, _, _, _, rfl, .ty _, .base (.str z), kit_ty (r := false) (by decide +kernel), _, rfl, iteF q⟩
theorem ok_betA {f fI : Addr} {fd fdI : FuncData} {k : Nat} (F_pis_between : Fun K "is_between" "is_between" sPIsBetween f fd) (F_pis_integer : Fun K "is_integer" "is_integer" sPIsInteger fI fdI) (G_pis_integer : FnOk P w K mg base CX0 1 fI fdI ["value"] spIsIntA)
    (b_pis_integer : Binds K fdI ["value"] []) (m_pis_integer : mg "is_integer" = some (.ref fI)) : FnOk P w K mg base CX0 (k + 2) f fd ["value", "low", "high"] spBetweenA := by
  refine F_pis_between.ok scPIsBetween (fun vs H Q E h => ?_) (fun cdv A outer s H vs Q E hr h => ?_)
  · obtain ⟨_, _, _, _, rfl, _⟩ := h
    rfl
  · obtain ⟨v, b, lo, hi, rfl, iv, q1, q2⟩ := h
    refine ⟨_, (pss_one (ps_ret (pe_and (pe_call G_pis_integer (hr.mono (by omega)) (by rfl) m_pis_integer F_pis_integer.kp b_pis_integer .nil pass0 (pa_cons (pv 0) pa_nil)) (pe_one (pe_chain op_le op_le (pv 1) (pv 0) (pv 2)))))), ?_⟩
    refine ⟨_, rfl, v, b, rfl, iv, _, rfl, ?_⟩
    rcases iv with ⟨i, rfl, rfl⟩ | ⟨_, rfl⟩
    · have q := q1 i rfl
      refine iteT ⟨_, rfl, _, rfl, _, _, rfl, rfl, _, rfl, ?_⟩
      by_cases h : lo ≤ i
      · rw [decide_eq_true h] at q ⊢
        exact iteT ⟨_, rfl, _, _, rfl, rfl, q⟩
      · rw [decide_eq_false h] at q ⊢
        exact iteF q
    · exact iteF (q2 rfl)
theorem ok_pair {f fI fB : Addr} {fd fdI fdB : FuncData} (F_pis_pair : Fun K "is_pair" "is_pair" sPIsPair f fd) (F_pis_integer : Fun K "is_integer" "is_integer" sPIsInteger fI fdI) (F_pis_between : Fun K "is_between" "is_between" sPIsBetween fB fdB)
    (G_pis_integer : FnOk P w K mg base CX0 1 fI fdI ["value"] spIsIntA) (G_pis_between : FnOk P w K mg base CX0 2 fB fdB ["value", "low", "high"] spBetweenA) (b_pis_integer : Binds K fdI ["value"] []) (b_pis_between : Binds K fdB ["value", "low", "high"] [])
    (m_pis_integer : mg "is_integer" = some (.ref fI)) (m_pis_between : mg "is_between" = some (.ref fB)) (z_isinstance : mg "isinstance" = none) (z_tuple : mg "tuple" = none) (z_len : mg "len" = none) : FnOk P w K mg base CX0 3 f fd ["value"] spPairA := by
  refine F_pis_pair.ok scPIsPair (fun vs H Q E h => ?_) (fun cdv A outer s H vs Q E hr h => ?_)
  · obtain ⟨_, _, rfl, _⟩ := h
    rfl
  · obtain ⟨v, b, rfl, pk, q⟩ := h
    refine ⟨_, (pss_one (ps_ret (pe_and (pe_callB call_isi (by rfl) z_isinstance (by decide +kernel) (pa_cons (pv 0) (pa_cons (pe_bltn (v := .ty "tuple") (by rfl) z_tuple (by decide +kernel) rfl) pa_nil))) (pe_and (pe_cmpR op_eq (pe_callB call_len_seq (by rfl) z_len boot_len (pa_cons (pv 0) pa_nil)) pe_int (nomark _)) (pe_and (pe_call G_pis_integer (hr.mono (by omega)) (by rfl) m_pis_integer F_pis_integer.kp b_pis_integer .nil pass0 (pa_cons (pe_ix ix_tup (pv 0) pe_int (fun _ _ => rfl)) pa_nil)) (pe_one (pe_call G_pis_between (hr.mono (by omega)) (by rfl) m_pis_between F_pis_between.kp b_pis_between .nil pass0 (pa_cons (pe_ix ix_tup (pv 0) pe_int (fun _ _ => rfl)) (pa_cons (pe_un un_neg pe_int) (pa_cons pe_int pa_nil)))))))))), ?_⟩
    have two : ∀ {a : Addr} {x y : V}, H a = some (.tup [x, y]) → SqT K H a [x, y] := fun h => SqT.of h
    cases pk with
    | non => exact ⟨_, rfl, _, _, _, _, _, rfl, .ty _, .base .non, kit_ty (r := false) (by decide +kernel), _, rfl, iteF q⟩
    | bl b => exact ⟨_, rfl, _, _, _, _, _, rfl, .ty _, .base (.bl b), kit_ty (r := false) (by decide +kernel), _, rfl, iteF q⟩
    | int i => exact ⟨_, rfl, _, _, _, _, _, rfl, .ty _, .base (.int i), kit_ty (r := false) (by decide +kernel), _, rfl, iteF q⟩
    | str z => exact ⟨_, rfl, _, _, _, _, _, rfl, .ty _, .base (.str z), kit_ty (r := false) (by decide +kernel), _, rfl, iteF q⟩
    | lst h => exact ⟨_, rfl, _, _, _, _, _, rfl, .ty _, .base (.lst h), kit_ty (r := false) (by decide +kernel), _, rfl, iteF q⟩
    | len h n =>
      rename_i a xs
      refine ⟨_, rfl, _, _, _, _, _, rfl, .ty _, .base (.tup h), kit_ty (r := true) (by decide +kernel), _, rfl, iteT ⟨_, rfl, a, xs, rfl, .inr (SqT.of h), rfl, _, rfl, ?_⟩⟩
      rw [decide_eq_false (fun e => n (by have := V.int.inj e; omega))]
      exact iteF q
    | fst h f =>
      refine ⟨_, rfl, _, _, _, _, _, rfl, .ty _, .base (.tup h), kit_ty (r := true) (by decide +kernel), _, rfl, iteT ⟨_, rfl, _, _, rfl, .inr (two h), rfl, _, rfl, iteP (decide_eq_true rfl) ?_⟩⟩
      exact ⟨_, rfl, _, _, _, _, rfl, rfl, two h, rfl, _, false, rfl, f, _, rfl, iteF q⟩
    | snd h f =>
      refine ⟨_, rfl, _, _, _, _, _, rfl, .ty _, .base (.tup h), kit_ty (r := true) (by decide +kernel), _, rfl, iteT ⟨_, rfl, _, _, rfl, .inr (two h), rfl, _, rfl, iteP (decide_eq_true rfl) ?_⟩⟩
      refine ⟨_, rfl, _, _, _, _, rfl, rfl, two h, rfl, _, true, rfl, .inl ⟨_, rfl, rfl⟩, _, rfl, iteT ?_⟩
      refine ⟨_, rfl, _, _, _, _, rfl, rfl, two h, rfl, 1, rfl, _, false, -1, 1, rfl, f, fun i e => ?_, fun _ => q⟩
      rcases f with ⟨j, _, z⟩ | ⟨z | ⟨_, z⟩ | ⟨_, z⟩, _⟩
      · cases z
      · rw [z] at e; cases e
      · rw [z] at e; cases e
      · rw [z] at e; cases e
    | two h =>
      refine ⟨_, rfl, _, _, _, _, _, rfl, .ty _, .base (.tup h), kit_ty (r := true) (by decide +kernel), _, rfl, iteT ⟨_, rfl, _, _, rfl, .inr (two h), rfl, _, rfl, iteP (decide_eq_true rfl) ?_⟩⟩
      refine ⟨_, rfl, _, _, _, _, rfl, rfl, two h, rfl, _, true, rfl, .inl ⟨_, rfl, rfl⟩, _, rfl, iteT ?_⟩
      exact ⟨_, rfl, _, _, _, _, rfl, rfl, two h, rfl, 1, rfl, _, true, -1, 1, rfl, .inl ⟨_, rfl, rfl⟩, fun i e => by cases e; exact q, fun z => by cases z⟩
theorem ok_heardE {f fR : Addr} {fd fdR : FuncData} {t1 : Tok} (F_pheard_error : Fun K "heard_error" "heard_error" sPHeardError f fd) (F_pis_pair : Fun K "is_pair" "is_pair" sPIsPair fR fdR) (G_pis_pair : FnOk P w K mg base CX0 3 fR fdR ["value"] spPairA) (b_pis_pair : Binds K fdR ["value"] []) (m_pis_pair : mg "is_pair" = some (.ref fR))
    (m_MAX_HEARD : mg "MAX_HEARD" = some (.int 40 t1)) (z_isinstance : mg "isinstance" = none) (z_tuple : mg "tuple" = none) (z_len : mg "len" = none) (z_enumerate : mg "enumerate" = none) : FnOk P w K mg base CX0 4 f fd ["value"] spHeardE := by
  refine F_pheard_error.ok scPHeardError (fun vs H Q E h => ?_) (fun cdv A outer s H vs Q E hr h => ?_)
  · obtain ⟨_, _, rfl, _⟩ := h
    rfl
  · obtain ⟨v, o, rfl, hv, q⟩ := h
    refine ⟨_, (pss_cons (ps_if (pt_not (pt_val (pe_callB call_isi (by rfl) z_isinstance (by decide +kernel) (pa_cons (pv 0) (pa_cons (pe_bltn (v := .ty "tuple") (by rfl) z_tuple (by decide +kernel) rfl) pa_nil))))) (pss_one (ps_ret (pe_tup (pa_cons pe_non (pa_cons pe_str pa_nil))))) pss_nil)
      (C8.pss_cut (ps_for PassesOwn.never rfl (pi_enumT (by rfl) z_enumerate (pa_cons (pv 0) pa_nil)) (pg_tup rfl (pgs_cons (pg_name (i := 1) scPHeardError.nd rfl (by first | exact Or.inl rfl | exact Or.inr rfl)) (pgs_cons (pg_name (i := 2) scPHeardError.nd rfl (by first | exact Or.inl rfl | exact Or.inr rfl)) pgs_nil))) (pss_one (ps_if (pt_not (pt_val (pe_call G_pis_pair (hr.mono (by omega)) (by rfl) m_pis_pair F_pis_pair.kp b_pis_pair .nil pass0 (pa_cons (pv 2) pa_nil)))) (pss_one (ps_ret (pe_tup (pa_cons (pv 1) (pa_cons pe_str pa_nil))))) pss_nil)))
      (pss_cons (ps_if (pt_cmpR op_gt (pe_callB call_len_seq (by rfl) z_len boot_len (pa_cons (pv 0) pa_nil)) (pe_glob (v := .int 40) (by rfl) m_MAX_HEARD ⟨_, rfl⟩) (nomark _)) (pss_one (ps_ret (pe_tup (pa_cons pe_non (pa_cons pe_str pa_nil))))) pss_nil)
      (pss_one (ps_ret pe_non))))), ?_⟩
    cases o with
    | none =>
      have fin : 2 ≤ sizeLine ∧ ∀ p, H p = none → Q (.ref p) (upd H p (.tup [.non, .str "heard"])) := ⟨by decide, fun p hp => q _ _ (Sx.n0 hp) (.tup upd_same (.cons .non (.cons (.str _) .nil)))⟩
      rcases hv with rfl | ⟨i, rfl⟩ | ⟨z, rfl⟩ | ⟨a, xs, rfl, h⟩
      · exact ⟨_, rfl, _, _, _, _, _, rfl, .ty _, .base .non, kit_ty (r := false) (by decide +kernel), _, rfl, iteT fin⟩
      · exact ⟨_, rfl, _, _, _, _, _, rfl, .ty _, .base (.int i), kit_ty (r := false) (by decide +kernel), _, rfl, iteT fin⟩
      · exact ⟨_, rfl, _, _, _, _, _, rfl, .ty _, .base (.str z), kit_ty (r := false) (by decide +kernel), _, rfl, iteT fin⟩
      · exact ⟨_, rfl, _, _, _, _, _, rfl, .ty _, .base (.lst h), kit_ty (r := false) (by decide +kernel), _, rfl, iteT fin⟩
    | some ps =>
      obtain ⟨a, xs, rfl, ha, hx, hps⟩ := hv
      have hl := hx.len
      refine ⟨_, rfl, _, _, _, _, _, rfl, .ty _, .base (.tup ha), kit_ty (r := true) (by decide +kernel), _, rfl, iteF ?_⟩
      refine ⟨fun σ H' => ∃ o1 o2, σ = [some (.ref a), o1, o2] ∧ Sx [] H H' ∧ hEnd ps.length = hErr (some ps), ?_, ?_⟩
      · refine ⟨_, rfl, a, xs, rfl, SqT.of ha, for_it (walk_enumT (xs := xs)) (fun i σ H' => ∃ o1 o2, σ = [some (.ref a), o1, o2] ∧ Sx [] H H' ∧ hAt (ps.drop i) i (hEnd ps.length) = hErr (some ps)) ⟨_, _, rfl, Sx.refl _, rfl⟩ (fun i σ H1 _ z => by obtain ⟨_, _, _, z, _⟩ := z; exact SqT.of (z _ _ (by simp) ha)) (fun i x σ H1 H2 hi z y => ?_) (fun σ H1 z => ?_)⟩
        · obtain ⟨o1, o2, rfl, s1, he⟩ := z
          obtain ⟨T, y1, y2, rfl, nT, rfl, h1, h2⟩ := y
          obtain rfl : V.int (i : Nat) = y1 := Option.some.inj h1
          have h2 : xs[i]? = some y2 := h2
          obtain ⟨b, hb, pk⟩ := hx.get h2
          refine ⟨T, _, rfl, SqT.of upd_same, rfl, _, _, rfl, gnm ⟨_, _, rfl, gnm ⟨rfl, ?_⟩⟩⟩
          have s2 := s1.new (o := .tup [.int (i : Nat), y2]) nT
          refine ⟨_, rfl, y2, b, rfl, pk.keep s2.tk0 s2.lk0, _, rfl, ?_⟩
          cases b with
          | false =>
            refine iteT ⟨_, rfl, by show 2 ≤ sizeLine; decide, fun p hp => q _ _ (s2.new hp) ?_⟩
            rw [← he, hAt_at hb]
            exact .tup upd_same (.cons (.int _) (.cons (.str _) .nil))
          | true =>
            rw [hAt_on hb] at he
            exact iteF ⟨_, _, rfl, s2, he⟩
        · obtain ⟨o1, o2, rfl, s1, he⟩ := z
          rw [hl, List.drop_length] at he
          exact ⟨_, _, rfl, s1, he⟩
      · rintro _ H1 ⟨o1, o2, rfl, s1, he⟩
        refine ⟨_, rfl, a, xs, rfl, .inr (SqT.of (s1 _ _ (by simp) ha)), _, 40, rfl, rfl, _, rfl, ite2 (fun e => ?_) (fun e => ?_)⟩
        · refine ⟨by show 2 ≤ sizeLine; decide, fun p hp => q _ _ (s1.new hp) ?_⟩
          have e' : (40 : Int) < (xs.length : Nat) := of_decide_eq_true e
          rw [hl] at e'
          rw [← he, hEnd, if_pos e']
          exact .tup upd_same (.cons .non (.cons (.str _) .nil))
        · have e' : ¬ (40 : Int) < (xs.length : Nat) := fun z => e (decide_eq_true z)
          rw [hl] at e'
          refine q _ _ s1 ?_
          rw [← he, hEnd, if_neg e']
          exact .non
theorem ok_wrong {f fS : Addr} {fd fdS : FuncData} (F_pwrong_in : Fun K "wrong_in" "wrong_in" sPWrongIn f fd) (F_psign : Fun K "sign" "sign" sPSign fS fdS) (G_psign : FnOk P w K mg base CX0 11 fS fdS ["program", "number"] spSignA) (b_psign : Binds K fdS ["program", "number"] []) (m_psign : mg "sign" = some (.ref fS)) (z_len : mg "len" = none) :
    FnOk P w K mg base CX0 12 f fd ["program", "heard"] spWrong := by
  refine F_pwrong_in.ok scPWrongIn (fun vs H Q E h => ?_) (fun cdv A outer s H vs Q E hr h => ?_)
  · obtain ⟨_, _, _, _, rfl, _⟩ := h
    rfl
  · obtain ⟨v, u, b, l, rfl, t, ⟨ns, bo, _, bz, bw⟩, tu, hl, q⟩ := h
    refine ⟨_, (pss_one (ps_ret (pe_callB call_len_seq (by rfl) z_len boot_len (pa_cons (pe_lc (own := [("number", 2), ("shown", 3)]) (g := gTup K 2 (gCons (gName 2) (gCons (gName 3) gNil))) (tt := _) rfl scPWrongIn.nd (pi_tup (pv 1)) (blkOk_by (N := nPWrongIn) (sc := defScope sPWrongIn) (by decide +kernel)) (fun _ _ _ _ _ => (pg_tup rfl (pgs_cons (pg_name (i := 2) scPWrongIn.nd rfl (by first | exact Or.inl rfl | exact Or.inr rfl)) (pgs_cons (pg_name (i := 3) scPWrongIn.nd rfl (by first | exact Or.inl rfl | exact Or.inr rfl)) pgs_nil)))) (fun _ _ _ _ _ => pts_one (pt_cmpR op_ne (pe_call G_psign (hr.mono (by omega)) (by rfl) m_psign F_psign.kp b_psign .nil pass0 (pa_cons (pv 0) (pa_cons (pv 2) pa_nil))) (pv 3) (nomark _))) (fun _ _ _ _ _ => (pv 2))) pa_nil)))), ?_⟩
    obtain ⟨a, xs, rfl, ha, hx⟩ := tu.tuple
    obtain ⟨hxl, hg⟩ := hx.lst
    refine ⟨_, rfl, a, rfl, ⟨_, SqT.of ha⟩, fun D hD => lc_tup (xs := xs) (fun i H1 => Sx [] H H1 ∧ ∃ vals, H1 D = some (.lst vals) ∧ vals.length = wr b (l.take i)) ⟨Sx.n0 hD, [], upd_same, rfl⟩ (fun i H1 _ z => SqT.of (z.1 _ _ (by simp) ha)) (fun i x H1 hi z => ?_) (fun H1 z => ?_)⟩
    · obtain ⟨s1, vals, e1, e2⟩ := z
      obtain ⟨y, hy, ty⟩ := hg i x hi
      obtain ⟨ap, p1, p2, rfl, hap, u1, u2⟩ := tp2 (ty.keep s1.tk0)
      obtain rfl := tpI u1
      obtain rfl := tpI u2
      have wl : wr b (l.take i) ≤ l.length := by
        unfold wr
        exact Nat.le_trans (List.length_filter_le _ _) (List.length_take_le' _ _)
      have up := wr_up (b := b) hy
      refine ⟨ap, _, rfl, SqT.of hap, rfl, _, _, rfl, gnm ⟨_, _, rfl, gnm ⟨rfl, rfl, ?_⟩⟩⟩
      refine ⟨_, rfl, _, rfl, ns, v, b, y.1, rfl, t.keep s1.tk0, bo, by omega, by omega, fun H2 s2 => ⟨_, rfl, rfl, _, rfl, ?_⟩⟩
      show (if badP b y = true then _ else _)
      have e1' := s2 _ _ (by simp) e1
      refine ite2 (fun e => ?_) (fun e => ?_)
      · rw [if_pos e] at up
        exact ⟨_, rfl, vals, e1', lt_line (by omega), (s1.trans s2).own hD, _, upd_same, by rw [List.length_append, e2, up]; rfl⟩
      · rw [if_neg e] at up
        exact ⟨s1.trans s2, vals, e1', by rw [e2, up]; rfl⟩
    · obtain ⟨s1, vals, e1, e2⟩ := z
      rw [hxl, List.take_length] at e2
      refine ⟨D, vals, rfl, .inl (SqL.of e1), ?_⟩
      rw [e2]
      exact q H1 s1
theorem ok_pleft {f fW : Addr} {fd fdW : FuncData} (F_pleft : Fun K "left" "left" sPLeft f fd) (F_pwrong_in : Fun K "wrong_in" "wrong_in" sPWrongIn fW fdW) (G_pwrong_in : FnOk P w K mg base CX0 12 fW fdW ["program", "heard"] spWrong) (b_pwrong_in : Binds K fdW ["program", "heard"] []) (m_pwrong_in : mg "wrong_in" = some (.ref fW))
    (z_tuple : mg "tuple" = none) (z_enumerate : mg "enumerate" = none) : FnOk P w K mg base CX0 13 f fd ["family", "heard", "lies"] spLeft := by
  refine F_pleft.ok scPLeft (fun vs H Q E h => ?_) (fun cdv A outer s H vs Q E hr h => ?_)
  · obtain ⟨_, _, _, _, _, rfl, _⟩ := h
    rfl
  · obtain ⟨v, u, bs, l, m, rfl, t, hb, hbl, tu, hl, q⟩ := h
    refine ⟨_, (pss_one (ps_ret (pe_callTy call_tuple_of (by rfl) z_tuple boot_tuple (pa_cons (pe_lc (own := [("index", 3), ("program", 4)]) (g := gTup K 2 (gCons (gName 3) (gCons (gName 4) gNil))) (tt := _) rfl scPLeft.nd (pi_enumT (by rfl) z_enumerate (pa_cons (pv 0) pa_nil)) (blkOk_by (N := nPLeft) (sc := defScope sPLeft) (by decide +kernel)) (fun _ _ _ _ _ => (pg_tup rfl (pgs_cons (pg_name (i := 3) scPLeft.nd rfl (by first | exact Or.inl rfl | exact Or.inr rfl)) (pgs_cons (pg_name (i := 4) scPLeft.nd rfl (by first | exact Or.inl rfl | exact Or.inr rfl)) pgs_nil)))) (fun _ _ _ _ _ => pts_one (pt_cmpR op_le (pe_call G_pwrong_in (hr.mono (by omega)) (by rfl) m_pwrong_in F_pwrong_in.kp b_pwrong_in .nil pass0 (pa_cons (pv 4) (pa_cons (pv 1) pa_nil))) (pv 2) (nomark _))) (fun _ _ _ _ _ => (pv 3))) pa_nil)))), ?_⟩
    obtain ⟨a, xs, rfl, ha, hx⟩ := t.tuple
    obtain ⟨hxl, hg⟩ := hx.lst
    refine ⟨_, rfl, a, xs, rfl, SqT.of ha, fun D hD => lc_it (walk_enumT (xs := xs)) (fun i H1 => Sx [] H H1 ∧ H1 D = some (.lst ((lfI bs l m i).map V.int))) ⟨Sx.n0 hD, upd_same⟩ (fun i H1 _ z => SqT.of (z.1 _ _ (by simp) ha)) (fun i x H1 H2 hi z y => ?_) (fun H1 z => ?_)⟩
    · obtain ⟨s1, e1⟩ := z
      obtain ⟨T, y1, y2, rfl, nT, rfl, h1, h2⟩ := y
      obtain rfl : V.int (i : Nat) = y1 := Option.some.inj h1
      have h2 : xs[i]? = some y2 := h2
      obtain ⟨b, hbi, tb⟩ := hg i y2 h2
      have s2 := s1.new (o := .tup [.int (i : Nat), y2]) nT
      have e2 := Sx.n0 (o := .tup [.int (i : Nat), y2]) nT _ _ (by simp) e1
      have up := lfI_up (l := l) (m := m) hbi
      have ll : (lfI bs l m i).length ≤ i := by
        unfold lfI
        rw [List.length_map]
        exact Nat.le_trans (List.length_filter_le _ _) (by rw [List.length_range]; exact Nat.le_refl _)
      refine ⟨T, _, rfl, SqT.of upd_same, rfl, _, _, rfl, gnm ⟨_, _, rfl, gnm ⟨rfl, rfl, ?_⟩⟩⟩
      refine ⟨_, rfl, _, rfl, y2, u, b, l, rfl, tb.keep s2.tk0, hb b (List.mem_of_getElem? hbi), tu.keep s2.tk0, hl, fun H3 s3 => ⟨_, rfl, _, _, rfl, rfl, _, rfl, ?_⟩⟩
      have e3 := s3 _ _ (by simp) e2
      refine ite2 (fun e => ?_) (fun e => ?_)
      · rw [if_pos e] at up
        exact ⟨_, rfl, _, e3, lt_line (by rw [List.length_map]; omega), (s2.trans s3).own hD, by rw [upd_same, up, List.map_append]; rfl⟩
      · rw [if_neg e, List.append_nil] at up
        exact ⟨s2.trans s3, by rw [up]; exact e3⟩
    · obtain ⟨s1, e1⟩ := z
      rw [hxl] at e1
      refine ⟨D, _, rfl, .inl ⟨SqL.of e1, fun p hp => q _ _ (s1.new hp) (.tup upd_same ?_)⟩⟩
      exact TpAll.ints _
end
abbrev sHeard : Stmt := topS 37
abbrev nHeard : List Str := ["_law_deck_here", "_law_family_here", "_law_many", "_law_own", "_law_found", "_law_k", "_law_number_here", "_law_told"]
theorem scHeard : FnScope nHeard ["_law_deck_here", "_law_family_here", "_law_many"] (defScope sHeard) := ⟨rfl, rfl, rfl, by decide +kernel, rfl, by decide +kernel, by decide +kernel⟩
abbrev sDue : Stmt := topS 38
abbrev nDue : List Str := ["_law_value_here", "_law_k", "_law_pair"]
theorem scDue : FnScope nDue ["_law_value_here"] (defScope sDue) := ⟨rfl, rfl, rfl, by decide +kernel, rfl, by decide +kernel, by decide +kernel⟩
/-! ### one of a tuple's items -/
def spOneT : Sp := fun vs H Q _ => ∃ (a c : Addr) (cs : List Int) (k : Int) (p : Addr) (xs : List V), vs = [.ref a, .ref p] ∧ Dk H a c cs k ∧ k < KB ∧ H p = some (.tup xs) ∧ xs ≠ [] ∧ xs.length ≤ 100000 ∧
  ∀ H' cs' x, Sx [a, c] H H' → Dk H' a c cs' (k + 1) → x ∈ xs → Q x H'
def spSig9A : Sp := fun vs H Q E => ∃ ns, spSig9 ns vs H Q E
def PrOk (y : Int × Int) : Prop := -1 ≤ y.2 ∧ y.2 ≤ 1 ∧ -1000000000000000000000000000000000000000000000000000000000000 ≤ y.1 ∧ y.1 ≤ 1000000000000000000000000000000000000000000000000000000000000
def spHeardG : Sp := fun vs H Q _ => ∃ (a c : Addr) (cs : List Int) (k : Int) (v : V) (bs : List Bk) (m : Int), vs = [.ref a, v, .int m] ∧ Dk H a c cs k ∧ Tp H v (.tuple (bs.map bkD)) ∧ bs ≠ [] ∧ bs.length ≤ 1000 ∧ (∀ b ∈ bs, Rp b) ∧ 0 ≤ m ∧ m ≤ 40 ∧ k + 245 ≤ KB ∧
  ∀ H' cs' k' r (l : List (Int × Int)), Sx [a, c] H H' → Dk H' a c cs' k' → k ≤ k' → k' ≤ k + 245 → Tp H' r (.tuple (l.map prP)) → (l.length : Int) = m → (∀ y ∈ l, PrOk y) → Q r H'
section
variable {w : World} {P : Program} {K : PySem.W.Frag} {mg : Str → Option Value} {base : Heap}
theorem ok_oneT {f fD : Addr} {fd fdD : FuncData} {k : Nat} (F : Fun K "_law_one" "_law_one" sOne f fd) (F_draw : Fun K "_law_draw" "_law_draw" sDraw fD fdD) (G_draw : FnOk P w K mg base CX0 (k + 1) fD fdD ["_law_deck_here", "_law_many"] spDraw)
    (b_draw : Binds K fdD ["_law_deck_here", "_law_many"] []) (m_draw : mg "_law_draw" = some (.ref fD)) (z_len : mg "len" = none) : FnOk P w K mg base CX0 (k + 2) f fd ["_law_deck_here", "_law_items"] spOneT := by
  refine F.ok scOne (fun vs H Q E h => ?_) (fun cdv A outer s H vs Q E hr h => ?_)
  · obtain ⟨a, c, cs, k, p, xs, rfl, _⟩ := h
    rfl
  · obtain ⟨a, c, cs, k, p, xs, rfl, D, hk, hp, hne, hlen, q⟩ := h
    refine ⟨_, (pss_one (ps_ret (pe_ix ix_tup (pv 1) (pe_call G_draw (hr.mono (by omega)) (by rfl) m_draw F_draw.kp b_draw .nil pass0 (pa_cons (pv 0) (pa_cons (pe_callB call_len_seq (by rfl) z_len boot_len (pa_cons (pv 1) pa_nil)) pa_nil))) (fun _ _ => rfl)))), ?_⟩
    refine ⟨_, rfl, _, rfl, _, rfl, p, xs, rfl, .inr (SqT.of hp), a, c, cs, k, _, rfl, D, by have : 0 < xs.length := List.length_pos_iff.mpr hne; omega, by omega, hk, fun H' cs' r s1 D1 r0 r1 => ?_⟩
    obtain ⟨j, rfl⟩ := Int.eq_ofNat_of_zero_le r0
    have hj : j < xs.length := by omega
    exact ⟨p, xs, _, xs[j], rfl, rfl, SqT.of (D.tk s1 _ _ hp), atI_nat (List.getElem?_eq_getElem hj), q H' cs' _ s1 D1 (List.getElem_mem hj)⟩
theorem ok_heardG {f fD fO fN fS : Addr} {fd fdD fdO fdN fdS : FuncData} (F : Fun K "_law_heard" "_law_heard" sHeard f fd) (F_draw : Fun K "_law_draw" "_law_draw" sDraw fD fdD) (F_one : Fun K "_law_one" "_law_one" sOne fO fdO) (F_number : Fun K "_law_number" "_law_number" sNumber fN fdN) (F_sign : Fun K "_law_sign" "_law_sign" sSign fS fdS)
    (G_draw : FnOk P w K mg base CX0 1 fD fdD ["_law_deck_here", "_law_many"] spDraw) (G_oneT : FnOk P w K mg base CX0 2 fO fdO ["_law_deck_here", "_law_items"] spOneT) (G_number : FnOk P w K mg base CX0 3 fN fdN ["_law_deck_here"] spNumber) (G_sign : FnOk P w K mg base CX0 9 fS fdS ["_law_program_here", "_law_number_here"] spSig9A)
    (b_draw : Binds K fdD ["_law_deck_here", "_law_many"] []) (b_one : Binds K fdO ["_law_deck_here", "_law_items"] []) (b_number : Binds K fdN ["_law_deck_here"] []) (b_sign : Binds K fdS ["_law_program_here", "_law_number_here"] [])
    (m_draw : mg "_law_draw" = some (.ref fD)) (m_one : mg "_law_one" = some (.ref fO)) (m_number : mg "_law_number" = some (.ref fN)) (m_sign : mg "_law_sign" = some (.ref fS)) (z_range : mg "range" = none) (z_tuple : mg "tuple" = none) :
    FnOk P w K mg base CX0 10 f fd ["_law_deck_here", "_law_family_here", "_law_many"] spHeardG := by
  refine F.ok scHeard (fun vs H Q E h => ?_) (fun cdv A outer s H vs Q E hr h => ?_)
  · obtain ⟨a, c, cs, k, v, bs, m, rfl, _⟩ := h
    rfl
  · obtain ⟨a, c, cs, k, v, bs, m, rfl, D, t, hne, hbl, hb, m0, m1, hk, q⟩ := h
    refine ⟨_, (pss_cons (ps_par (i := 3) (j := 4) (by rfl) scHeard.nd rfl rfl (by decide) rfl rfl (pa_cons (pe_call G_oneT (hr.mono (by omega)) (by rfl) m_one F_one.kp b_one .nil pass0 (pa_cons (pv 0) (pa_cons (pv 1) pa_nil))) (pa_cons (pe_lst pa_nil) pa_nil)) (by rfl))
      (C8.pss_cut (ps_for PassesOwn.never rfl (pi_range1 (by rfl) z_range (pa_cons (pv 2) pa_nil)) (pg_name (i := 5) scHeard.nd rfl (by first | exact Or.inl rfl | exact Or.inr rfl)) (pss_cons (ps_set (i := 6) scHeard.nd rfl (by first | exact Or.inl rfl | exact Or.inr rfl) (pe_call G_number (hr.mono (by omega)) (by rfl) m_number F_number.kp b_number .nil pass0 (pa_cons (pv 0) pa_nil)))
      (C8.pss_cut (ps_set (i := 7) scHeard.nd rfl (by first | exact Or.inl rfl | exact Or.inr rfl) (pe_ifExp (pt_cmpR op_gt (pe_call G_draw (hr.mono (by omega)) (by rfl) m_draw F_draw.kp b_draw .nil pass0 (pa_cons (pv 0) (pa_cons pe_int pa_nil))) pe_int (nomark _)) (pe_call G_sign (hr.mono (by omega)) (by rfl) m_sign F_sign.kp b_sign .nil pass0 (pa_cons (pv 3) (pa_cons (pv 6) pa_nil))) (pe_op op_sub (pe_call G_draw (hr.mono (by omega)) (by rfl) m_draw F_draw.kp b_draw .nil pass0 (pa_cons (pv 0) (pa_cons pe_int pa_nil))) pe_int)))
      (pss_one (ps_expr (pe_bm PySem.F.plainAttrs_list PySem.F.slot_list_append PySem.F.type_list_append mt_append (pv 4) (pa_cons (pe_tup (pa_cons (pv 6) (pa_cons (pv 7) pa_nil))) pa_nil)))))))
      (pss_one (ps_ret (pe_callTy call_tuple_of (by rfl) z_tuple boot_tuple (pa_cons (pv 4) pa_nil)))))), ?_⟩
    obtain ⟨av, xs, rfl, hav, hxs⟩ := t.tuple
    have xl := hxs.len
    rw [List.length_map] at xl
    have xne : xs ≠ [] := fun e => hne (List.eq_nil_of_length_eq_zero (by rw [← xl, e]; rfl))
    refine ⟨_, rfl, _, rfl, a, c, cs, k, av, xs, rfl, D, by omega, hav, xne, by omega, fun H1 cs1 x s1 D1 hx => ⟨by show 0 ≤ sizeLine; decide, fun L hL => ⟨_, _, rfl, ?_⟩⟩⟩
    obtain ⟨d, hd, t1⟩ := (hxs.keep (D.tk s1)).mem hx
    obtain ⟨b, hbb, rfl⟩ := List.mem_map.mp hd
    obtain ⟨ns, bo, hns, bz, bw⟩ := hb b hbb
    obtain ⟨La, Lc⟩ := D1.nw hL
    have hHL : H L = none := s1.free (by simp [La, Lc]) hL
    have t2 := t1.new (o := .lst []) hL
    have D2 := D1.new (o := .lst []) hL
    have s2 := s1.new (o := .lst []) hL
    have eL2 : (upd H1 L (.lst [])) L = some (.lst []) := upd_same
    generalize upd H1 L (.lst []) = H2 at t2 D2 s2 eL2 ⊢
    refine ⟨fun σ H' => ∃ (cs' : List Int) (k' : Int) (vals : List V) (l : List (Int × Int)) (o5 o6 o7 : Option V), σ = [some (.ref a), some (.ref av), some (.int m), some x, some (.ref L), o5, o6, o7] ∧ Sx [a, c] H H' ∧ Dk H' a c cs' k' ∧ k ≤ k' ∧ k' ≤ k + 245 ∧ H' L = some (.lst vals) ∧ TpAll H' vals (l.map prP) ∧ (l.length : Int) = m ∧ ∀ y ∈ l, PrOk y, ?_, ?_⟩
    · refine ⟨_, rfl, m, rfl, by omega, by omega, ?_⟩
      refine for_range (n := m.toNat) (fun i σ H' => ∃ (cs' : List Int) (k' : Int) (vals : List V) (l : List (Int × Int)) (o5 o6 o7 : Option V), σ = [some (.ref a), some (.ref av), some (.int m), some x, some (.ref L), o5, o6, o7] ∧ Sx [a, c] H H' ∧ Dk H' a c cs' k' ∧ k ≤ k' ∧ k' ≤ k + 1 + (i : Int) * 6 ∧ H' L = some (.lst vals) ∧ TpAll H' vals (l.map prP) ∧ Tp H' x (bkD b) ∧ l.length = i ∧ ∀ y ∈ l, PrOk y)
        ⟨cs1, k + 1, [], [], _, _, _, rfl, s2, D2, by omega, by omega, eL2, .nil, t2, rfl, fun y hy => by cases hy⟩ (fun i σ' H' hi h => ?_) (fun σ' H' h => ?_)
      · obtain ⟨cs4, k4, vals, l, o5, o6, o7, rfl, s4, D4, k4a, k4b, e4, T4, t4, l4, p4⟩ := h
        have vl := T4.len
        rw [List.length_map] at vl
        refine gnm ?_
        refine ⟨_, rfl, a, c, cs4, k4, rfl, D4, by omega, fun H5 cs5 k5 n s5 D5 k5a k5b n0 n1 => ?_⟩
        have T5 := T4.keep (D4.tk s5)
        have t5 := t4.keep (D4.tk s5)
        have e5 := s5 _ _ (by simp [La, Lc]) e4
        refine ⟨fun σ H' => ∃ (cs' : List Int) (k' : Int) (y : Int), σ = [some (.ref a), some (.ref av), some (.int m), some x, some (.ref L), some (.int (0 + (i : Int))), some (.int n), some (.int y)] ∧ Sx [a, c] H5 H' ∧ Dk H' a c cs' k' ∧ k5 ≤ k' ∧ k' ≤ k5 + 2 ∧ -1 ≤ y ∧ y ≤ 1, ?_, ?_⟩
        · refine ⟨_, rfl, a, c, cs5, k5, 4, rfl, D5, by decide, by decide, by omega, fun H6 cs6 y s6 D6 y0 y1 => ⟨_, 0, rfl, rfl, _, rfl, ite2 (fun _ => ?_) (fun _ => ?_)⟩⟩
          · refine ⟨_, rfl, _, rfl, ns, x, b, n, rfl, t5.keep (D5.tk s6), bo, hns, by omega, by omega, fun H7 s7 => ⟨cs6, k5 + 1, _, rfl, s6.trans s7.nil, D6.same s7, by omega, by omega, ?_, ?_⟩⟩
            · unfold sgn; split <;> first | omega | (split <;> omega)
            · unfold sgn; split <;> first | omega | (split <;> omega)
          · exact ⟨_, rfl, a, c, cs6, _, 3, rfl, D6, by decide, by decide, by omega, fun H7 cs7 z s7 D7 z0 z1 => ⟨z, 1, rfl, rfl, cs7, _, _, rfl, s6.trans s7, D7, by omega, by omega, by omega, by omega⟩⟩
        · rintro _ H6 ⟨cs6, k6, y, rfl, s6, D6, k6a, k6b, y0, y1⟩
          have T6 := T5.keep (D5.tk s6)
          have t6 := t5.keep (D5.tk s6)
          have e6 := s6 _ _ (by simp [La, Lc]) e5
          refine ⟨_, rfl, .inl ⟨rfl, _, SqL.of e6⟩, _, rfl, _, rfl, by show 2 ≤ sizeLine; decide, fun p hp => ?_⟩
          have pL : p ≠ L := fun e => by rw [e, e6] at hp; cases hp
          have e7 := Sx.n0 (o := .tup [.int n, .int y]) hp _ _ (by simp) e6
          have s7 : Sx [a, c] H (upd H6 p (.tup [.int n, .int y])) := ((s4.trans s5).trans s6).new hp
          have D7 := D6.new (o := .tup [.int n, .int y]) hp
          have T7 := T6.new (o := .tup [.int n, .int y]) hp
          have t7 := t6.new (o := .tup [.int n, .int y]) hp
          have tn : Tp (upd H6 p (.tup [.int n, .int y])) (.ref p) (prP (n, y)) := .tup upd_same (.cons (.int n) (.cons (.int y) .nil))
          generalize upd H6 p (.tup [.int n, .int y]) = H7 at e7 s7 D7 T7 t7 tn ⊢
          refine ⟨L, vals, _, rfl, rfl, e7, lt_line (by omega), cs6, k6, vals ++ [.ref p], l ++ [(n, y)], _, _, _, rfl, s7.own hHL, D7.sx ((Sx.refl (ex := [L]) _).put (by simp)) (by simp [La.symm]) (by simp [Lc.symm]), by omega, by omega, upd_same, ?_, t7.keep (Tk.lst e7), by rw [List.length_append, l4]; rfl, fun z hz => ?_⟩
          · rw [List.map_append]
            exact (T7.keep (Tk.lst e7)).append (.cons (tn.keep (Tk.lst e7)) .nil)
          · rcases List.mem_append.1 hz with hz | hz
            · exact p4 z hz
            · rw [(List.mem_singleton.mp hz)]
              exact ⟨y0, y1, n0, n1⟩
      · obtain ⟨cs4, k4, vals, l, o5, o6, o7, rfl, s4, D4, k4a, k4b, e4, T4, t4, l4, p4⟩ := h
        exact ⟨cs4, k4, vals, l, o5, o6, o7, rfl, s4, D4, by omega, by omega, e4, T4, by omega, p4⟩
    · rintro _ H3 ⟨cs', k', vals, l, o5, o6, o7, rfl, s3, D3, k3a, k3b, e3, T3, l3, p3⟩
      exact ⟨_, rfl, L, vals, rfl, .inl ⟨SqL.of e3, fun p hp => q _ _ _ _ l (s3.new hp) (D3.new hp) k3a k3b (.tup upd_same (T3.new hp)) l3 p3⟩⟩
theorem ok_due {f : Addr} {fd : FuncData} {k : Nat} (F_due : Fun K "_law_due" "_law_due" sDue f fd) (z_isinstance : mg "isinstance" = none) (z_tuple : mg "tuple" = none) (z_int : mg "int" = none) (z_bool : mg "bool" = none) (z_len : mg "len" = none) (z_range : mg "range" = none) : FnOk P w K mg base CX0 (k + 1) f fd ["_law_value_here"] spHeardE := by
  refine F_due.ok scDue (fun vs H Q E h => ?_) (fun cdv A outer s H vs Q E hr h => ?_)
  · obtain ⟨_, _, rfl, _⟩ := h
    rfl
  · obtain ⟨v, o, rfl, hv, q⟩ := h
    refine ⟨_, (pss_cons (ps_if (pt_not (pt_val (pe_callB call_isi (by rfl) z_isinstance (by decide +kernel) (pa_cons (pv 0) (pa_cons (pe_bltn (v := .ty "tuple") (by rfl) z_tuple (by decide +kernel) rfl) pa_nil))))) (pss_one (ps_ret (pe_tup (pa_cons pe_non (pa_cons pe_str pa_nil))))) pss_nil)
      (C8.pss_cut (ps_for PassesOwn.never rfl (pi_range1 (by rfl) z_range (pa_cons (pe_callB call_len_seq (by rfl) z_len boot_len (pa_cons (pv 0) pa_nil)) pa_nil)) (pg_name (i := 1) scDue.nd rfl (by first | exact Or.inl rfl | exact Or.inr rfl)) (pss_cons (ps_set (i := 2) scDue.nd rfl (by first | exact Or.inl rfl | exact Or.inr rfl) (pe_ix ix_tup (pv 0) (pv 1) (fun _ _ => rfl)))
      (pss_cons (ps_if (PW.pt (pw_or (pt_not (pt_val (pe_callB call_isi (by rfl) z_isinstance (by decide +kernel) (pa_cons (pv 2) (pa_cons (pe_bltn (v := .ty "tuple") (by rfl) z_tuple (by decide +kernel) rfl) pa_nil))))) (pw_or (pt_cmpR op_ne (pe_callB call_len_seq (by rfl) z_len boot_len (pa_cons (pv 2) pa_nil)) pe_int (nomark _)) (pw_or (pt_val (pe_callB call_isi (by rfl) z_isinstance (by decide +kernel) (pa_cons (pe_ix ix_tup (pv 2) pe_int (fun _ _ => rfl)) (pa_cons (pe_bltn (v := .ty "bool") (by rfl) z_bool (by decide +kernel) rfl) pa_nil)))) (pw_or1 (pt_not (pt_val (pe_callB call_isi (by rfl) z_isinstance (by decide +kernel) (pa_cons (pe_ix ix_tup (pv 2) pe_int (fun _ _ => rfl)) (pa_cons (pe_bltn (v := .ty "int") (by rfl) z_int (by decide +kernel) rfl) pa_nil)))))))))) (pss_one (ps_ret (pe_tup (pa_cons (pv 1) (pa_cons pe_str pa_nil))))) pss_nil)
      (pss_one (ps_if (PW.pt (pw_or (pt_val (pe_callB call_isi (by rfl) z_isinstance (by decide +kernel) (pa_cons (pe_ix ix_tup (pv 2) pe_int (fun _ _ => rfl)) (pa_cons (pe_bltn (v := .ty "bool") (by rfl) z_bool (by decide +kernel) rfl) pa_nil)))) (pw_or (pt_not (pt_val (pe_callB call_isi (by rfl) z_isinstance (by decide +kernel) (pa_cons (pe_ix ix_tup (pv 2) pe_int (fun _ _ => rfl)) (pa_cons (pe_bltn (v := .ty "int") (by rfl) z_int (by decide +kernel) rfl) pa_nil))))) (pw_or1 (pt_not (pt_chain op_le op_le (pe_un un_neg pe_int) (pe_ix ix_tup (pv 2) pe_int (fun _ _ => rfl)) pe_int)))))) (pss_one (ps_ret (pe_tup (pa_cons (pv 1) (pa_cons pe_str pa_nil))))) pss_nil)))))
      (pss_one (ps_ret (pe_ifExp (pt_cmpR op_gt (pe_callB call_len_seq (by rfl) z_len boot_len (pa_cons (pv 0) pa_nil)) pe_int (nomark _)) (pe_tup (pa_cons pe_non (pa_cons pe_str pa_nil))) pe_non))))), ?_⟩
    cases o with
    | none =>
      have fin : 2 ≤ sizeLine ∧ ∀ p, H p = none → Q (.ref p) (upd H p (.tup [.non, .str "heard"])) := ⟨by decide, fun p hp => q _ _ (Sx.n0 hp) (.tup upd_same (.cons .non (.cons (.str _) .nil)))⟩
      rcases hv with rfl | ⟨i, rfl⟩ | ⟨z, rfl⟩ | ⟨a, xs, rfl, h⟩
      · exact ⟨_, rfl, _, _, _, _, _, rfl, .ty _, .base .non, kit_ty (r := false) (by decide +kernel), _, rfl, iteT fin⟩
      · exact ⟨_, rfl, _, _, _, _, _, rfl, .ty _, .base (.int i), kit_ty (r := false) (by decide +kernel), _, rfl, iteT fin⟩
      · exact ⟨_, rfl, _, _, _, _, _, rfl, .ty _, .base (.str z), kit_ty (r := false) (by decide +kernel), _, rfl, iteT fin⟩
      · exact ⟨_, rfl, _, _, _, _, _, rfl, .ty _, .base (.lst h), kit_ty (r := false) (by decide +kernel), _, rfl, iteT fin⟩
    | some ps =>
      obtain ⟨a, xs, rfl, ha, hx, hps⟩ := hv
      have hl := hx.len
      refine ⟨_, rfl, _, _, _, _, _, rfl, .ty _, .base (.tup ha), kit_ty (r := true) (by decide +kernel), _, rfl, iteF ?_⟩
      refine ⟨fun σ H' => ∃ o1 o2, σ = [some (.ref a), o1, o2] ∧ Sx [] H H' ∧ hEnd ps.length = hErr (some ps), ?_, ?_⟩
      · refine ⟨_, rfl, a, xs, rfl, .inr (SqT.of ha), _, rfl, by omega, by omega, ?_⟩
        refine for_range (n := xs.length) (fun i σ H' => ∃ o1 o2, σ = [some (.ref a), o1, o2] ∧ Sx [] H H' ∧ hAt (ps.drop i) i (hEnd ps.length) = hErr (some ps)) ⟨_, _, rfl, Sx.refl _, rfl⟩ (fun i σ H1 hi z => ?_) (fun σ H1 z => ?_)
        · obtain ⟨o1, o2, rfl, s1, he⟩ := z
          have hi : i < xs.length := by omega
          have h2 : xs[i]? = some xs[i] := List.getElem?_eq_getElem hi
          obtain ⟨b, hb, pk⟩ := hx.get h2
          have pk := pk.keep s1.tk0 s1.lk0
          have a1 := s1 _ _ (by simp) ha
          refine gnm ⟨_, rfl, _, rfl, a, xs, _, xs[i], rfl, rfl, SqT.of a1, ?_, ?_⟩
          · rw [Int.zero_add]; exact atI_nat h2
          generalize xs[i] = x at pk ⊢
          have no : b = false → ∀ p, H1 p = none → Q (.ref p) (upd H1 p (.tup [.int (0 + (i : Int)), .str "pair"])) := fun e p hp => by
            subst e
            refine q _ _ (s1.new hp) ?_
            rw [← he, hAt_at hb, Int.zero_add]
            exact .tup upd_same (.cons (.int _) (.cons (.str _) .nil))
          have n2 : 2 ≤ sizeLine := by decide
          have go : b = true → ∃ o1 o2, [some (V.ref a), some (.int (0 + (i : Int))), some x] = [some (.ref a), o1, o2] ∧ Sx [] H H1 ∧ hAt (ps.drop (i + 1)) (i + 1) (hEnd ps.length) = hErr (some ps) := fun e => by
            subst e
            rw [hAt_on hb] at he
            exact ⟨_, _, rfl, s1, he⟩
          generalize V.int (0 + (i : Int)) = vi at no go ⊢
          have two : ∀ {a : Addr} {x y : V}, H1 a = some (.tup [x, y]) → SqT K H1 a [x, y] := fun h => SqT.of h
          have out : b = false → ∃ v, v = vi ∧ True := fun _ => ⟨_, rfl, trivial⟩
          clear out
          cases pk with
          | non => exact ⟨_, rfl, _, _, _, _, _, rfl, .ty _, .base .non, kit_ty (r := false) (by decide +kernel), _, rfl, iteT ⟨_, rfl, n2, no rfl⟩⟩
          | bl b => exact ⟨_, rfl, _, _, _, _, _, rfl, .ty _, .base (.bl b), kit_ty (r := false) (by decide +kernel), _, rfl, iteT ⟨_, rfl, n2, no rfl⟩⟩
          | int i => exact ⟨_, rfl, _, _, _, _, _, rfl, .ty _, .base (.int i), kit_ty (r := false) (by decide +kernel), _, rfl, iteT ⟨_, rfl, n2, no rfl⟩⟩
          | str z => exact ⟨_, rfl, _, _, _, _, _, rfl, .ty _, .base (.str z), kit_ty (r := false) (by decide +kernel), _, rfl, iteT ⟨_, rfl, n2, no rfl⟩⟩
          | lst h => exact ⟨_, rfl, _, _, _, _, _, rfl, .ty _, .base (.lst h), kit_ty (r := false) (by decide +kernel), _, rfl, iteT ⟨_, rfl, n2, no rfl⟩⟩
          | len h n =>
            rename_i a xs
            refine ⟨_, rfl, _, _, _, _, _, rfl, .ty _, .base (.tup h), kit_ty (r := true) (by decide +kernel), _, rfl, iteF ?_⟩
            refine ⟨_, rfl, a, xs, rfl, .inr (SqT.of h), rfl, _, rfl, iteP (by rw [decide_eq_false (fun e => n (by have := V.int.inj e; omega))]; rfl) ⟨_, rfl, n2, no rfl⟩⟩
          | fst h f =>
            refine ⟨_, rfl, _, _, _, _, _, rfl, .ty _, .base (.tup h), kit_ty (r := true) (by decide +kernel), _, rfl, iteF ⟨_, rfl, _, _, rfl, .inr (two h), rfl, _, rfl, iteF ?_⟩⟩
            refine ⟨_, rfl, _, _, _, _, rfl, rfl, two h, rfl, ?_⟩
            rcases f with ⟨i, _, e⟩ | ⟨rfl | ⟨c, rfl⟩ | ⟨z, rfl⟩, _⟩
            · cases e
            · exact ⟨_, _, _, _, _, rfl, .ty _, .base .non, kit_ty (r := false) (by decide +kernel), _, rfl, iteF ⟨_, rfl, _, _, _, _, rfl, rfl, two h, rfl, _, _, _, _, _, rfl, .ty _, .base .non, kit_ty (r := false) (by decide +kernel), _, rfl, iteT ⟨_, rfl, n2, no rfl⟩⟩⟩
            · exact ⟨_, _, _, _, _, rfl, .ty _, .base (.bl c), kit_ty (r := true) (by decide +kernel), _, rfl, iteT ⟨_, rfl, n2, no rfl⟩⟩
            · exact ⟨_, _, _, _, _, rfl, .ty _, .base (.str z), kit_ty (r := false) (by decide +kernel), _, rfl, iteF ⟨_, rfl, _, _, _, _, rfl, rfl, two h, rfl, _, _, _, _, _, rfl, .ty _, .base (.str z), kit_ty (r := false) (by decide +kernel), _, rfl, iteT ⟨_, rfl, n2, no rfl⟩⟩⟩
          | snd h f =>
            refine ⟨_, rfl, _, _, _, _, _, rfl, .ty _, .base (.tup h), kit_ty (r := true) (by decide +kernel), _, rfl, iteF ⟨_, rfl, _, _, rfl, .inr (two h), rfl, _, rfl, iteF ?_⟩⟩
            refine ⟨_, rfl, _, _, _, _, rfl, rfl, two h, rfl, _, _, _, _, _, rfl, .ty _, .base (.int _), kit_ty (r := false) (by decide +kernel), _, rfl, iteF ⟨_, rfl, _, _, _, _, rfl, rfl, two h, rfl, _, _, _, _, _, rfl, .ty _, .base (.int _), kit_ty (r := true) (by decide +kernel), _, rfl, iteF ?_⟩⟩
            refine ⟨_, rfl, _, _, _, _, rfl, rfl, two h, rfl, ?_⟩
            rcases f with ⟨i, _, e⟩ | ⟨rfl | ⟨c, rfl⟩ | ⟨z, rfl⟩, _⟩
            · cases e
            · exact ⟨_, _, _, _, _, rfl, .ty _, .base .non, kit_ty (r := false) (by decide +kernel), _, rfl, iteF ⟨_, rfl, _, _, _, _, rfl, rfl, two h, rfl, _, _, _, _, _, rfl, .ty _, .base .non, kit_ty (r := false) (by decide +kernel), _, rfl, iteT ⟨_, rfl, n2, no rfl⟩⟩⟩
            · exact ⟨_, _, _, _, _, rfl, .ty _, .base (.bl c), kit_ty (r := true) (by decide +kernel), _, rfl, iteT ⟨_, rfl, n2, no rfl⟩⟩
            · exact ⟨_, _, _, _, _, rfl, .ty _, .base (.str z), kit_ty (r := false) (by decide +kernel), _, rfl, iteF ⟨_, rfl, _, _, _, _, rfl, rfl, two h, rfl, _, _, _, _, _, rfl, .ty _, .base (.str z), kit_ty (r := false) (by decide +kernel), _, rfl, iteT ⟨_, rfl, n2, no rfl⟩⟩⟩
          | two h =>
            rename_i p i j
            refine ⟨_, rfl, _, _, _, _, _, rfl, .ty _, .base (.tup h), kit_ty (r := true) (by decide +kernel), _, rfl, iteF ⟨_, rfl, _, _, rfl, .inr (two h), rfl, _, rfl, iteF ?_⟩⟩
            refine ⟨_, rfl, _, _, _, _, rfl, rfl, two h, rfl, _, _, _, _, _, rfl, .ty _, .base (.int _), kit_ty (r := false) (by decide +kernel), _, rfl, iteF ⟨_, rfl, _, _, _, _, rfl, rfl, two h, rfl, _, _, _, _, _, rfl, .ty _, .base (.int _), kit_ty (r := true) (by decide +kernel), _, rfl, iteF ?_⟩⟩
            refine ⟨_, rfl, _, _, _, _, rfl, rfl, two h, rfl, _, _, _, _, _, rfl, .ty _, .base (.int _), kit_ty (r := false) (by decide +kernel), _, rfl, iteF ⟨_, rfl, _, _, _, _, rfl, rfl, two h, rfl, _, _, _, _, _, rfl, .ty _, .base (.int _), kit_ty (r := true) (by decide +kernel), _, rfl, iteF ?_⟩⟩
            refine ⟨1, rfl, _, rfl, _, _, _, _, rfl, rfl, two h, rfl, ?_⟩
            refine ⟨_, _, rfl, rfl, _, rfl, ite2 (fun e => ?_) (fun e => ?_)⟩
            · have e1 : decide (-1 ≤ j) = true := e
              refine ⟨_, _, rfl, rfl, _, rfl, ite2 (fun e => ?_) (fun e => ?_)⟩
              · have e2 : ¬ decide (j ≤ 1) = true := fun z => by
                  have e' : (!decide (j ≤ 1)) = true := e
                  rw [z] at e'; cases e'
                exact ⟨_, rfl, n2, no (by rw [e1, eq_false_of_ne_true e2]; rfl)⟩
              · have e2 : decide (j ≤ 1) = true := by
                  cases e3 : decide (j ≤ 1) with
                  | true => rfl
                  | false => exact absurd (show (!decide (j ≤ 1)) = true by rw [e3]; rfl) e
                exact go (by rw [e1, e2]; rfl)
            · have e1 : ¬ decide (-1 ≤ j) = true := e
              exact ⟨_, rfl, iteT ⟨_, rfl, n2, no (by rw [eq_false_of_ne_true e1]; rfl)⟩⟩
        · obtain ⟨o1, o2, rfl, s1, he⟩ := z
          rw [hl, List.drop_length] at he
          exact ⟨_, _, rfl, s1, he⟩
      · rintro _ H1 ⟨o1, o2, rfl, s1, he⟩
        refine ⟨_, rfl, a, xs, rfl, .inr (SqT.of (s1 _ _ (by simp) ha)), _, 40, rfl, rfl, _, rfl, ite2 (fun e => ?_) (fun e => ?_)⟩
        · refine ⟨by show 2 ≤ sizeLine; decide, fun p hp => q _ _ (s1.new hp) ?_⟩
          have e' : (40 : Int) < (xs.length : Nat) := of_decide_eq_true e
          rw [hl] at e'
          rw [← he, hEnd, if_pos e']
          exact .tup upd_same (.cons .non (.cons (.str _) .nil))
        · have e' : ¬ (40 : Int) < (xs.length : Nat) := fun z => e (decide_eq_true z)
          rw [hl] at e'
          refine q _ _ s1 ?_
          rw [← he, hEnd, if_neg e']
          exact .non
end
/-! ### values that look like what was heard -/
/-- a tuple of values, each a pair or none, at most so many -/
def TpE (H : Hp) (v : V) (n : Nat) : Prop := ∃ a xs ps, v = .ref a ∧ H a = some (.tup xs) ∧ PairAll H xs ps ∧ xs.length ≤ n
theorem TpE.keep {H H' : Hp} {v : V} {n : Nat} (h : TpE H v n) (k : Tk H H') (l : Lk H H') : TpE H' v n := by
  obtain ⟨a, xs, ps, h1, h2, h3, h4⟩ := h
  exact ⟨a, xs, ps, h1, k _ _ h2, h3.keep k l, h4⟩
theorem TpE.mono {H : Hp} {v : V} {n m : Nat} (h : TpE H v n) (z : n ≤ m) : TpE H v m := by
  obtain ⟨a, xs, ps, h1, h2, h3, h4⟩ := h
  exact ⟨a, xs, ps, h1, h2, h3, by omega⟩
theorem TpE.hv {H : Hp} {v : V} {n : Nat} (h : TpE H v n) (z : n < 10000) : ∃ o, HvK H v o := by
  obtain ⟨a, xs, ps, h1, h2, h3, h4⟩ := h
  exact ⟨some ps, a, xs, h1, h2, h3, by have := h3.len; omega⟩
theorem TpE.one {H : Hp} {a : Addr} {x : V} {b : Bool} (h : H a = some (.tup [x])) (p : PairK H x b) : TpE H (.ref a) 1 := ⟨a, [x], [b], rfl, h, .cons p .nil, Nat.le_refl _⟩
theorem TpE.cat {K : PySem.W.Frag} {H : Hp} {v u : V} {n m : Nat} {Q : VK} (h1 : TpE H v n) (h2 : TpE H u m) (hz : n + m ≤ 16777216) (q : ∀ H' z, Sx [] H H' → TpE H' z (n + m) → Q z H') : rCatA K v u H Q := by
  obtain ⟨a, xs, ps, rfl, ha, hx, lx⟩ := h1
  obtain ⟨b, ys, qs, rfl, hb, hy, ly⟩ := h2
  refine ⟨a, b, xs, ys, rfl, rfl, SqT.of ha, SqT.of hb, by show _ ≤ 16777216; omega, fun e => ?_, fun _ e => ?_, fun _ _ p hp => ?_⟩
  · exact q H _ (Sx.refl _) ⟨b, ys, qs, rfl, hb, hy, by omega⟩
  · exact q H _ (Sx.refl _) ⟨a, xs, ps, rfl, ha, hx, by omega⟩
  · have s := Sx.n0 (o := .tup (xs ++ ys)) hp
    exact q _ _ s ⟨p, xs ++ ys, ps ++ qs, rfl, upd_same, (hx.append hy).keep s.tk0 s.lk0, by rw [List.length_append]; omega⟩
theorem TpE.rep {K : PySem.W.Frag} {H : Hp} {l : Addr} {x : V} {b : Bool} {m : Int} {Q : VK} (h : H l = some (.tup [x])) (t : PairK H x b) (h1 : 0 ≤ m) (h2 : m ≤ 10000)
    (q : ∀ H' z, Sx [] H H' → TpE H' z m.toNat → Q z H') : rRepW K (.ref l) (.int m) H Q := by
  refine ⟨l, m, [x], rfl, rfl, SqT.of h, by simp, h1, h2, by show 1 ≤ 1000; decide, fun e => ?_, fun _ p hp => ?_⟩
  · subst e
    exact q H _ (Sx.refl _) (TpE.one h t)
  · have fl : ∀ n : Nat, (List.replicate n [x]).flatten = List.replicate n x := fun n => by
      induction n with
      | zero => rfl
      | succ n ih => rw [List.replicate_succ, List.flatten_cons, ih]; rfl
    rw [fl]
    have s := Sx.n0 (o := .tup (List.replicate m.toNat x)) hp
    exact q _ _ s ⟨p, _, _, rfl, upd_same, (PairAll.rep t m.toNat).keep s.tk0 s.lk0, by rw [List.length_replicate]; exact Nat.le_refl _⟩
theorem TpE.cut {K : PySem.W.Frag} {H : Hp} {v : V} {n : Nat} {lo hi : Option Int} {Q : VK} (h : TpE H v n) (q : ∀ H' z, Sx [] H H' → TpE H' z n → Q z H') : rSlA K v lo hi H Q := by
  obtain ⟨a, xs, ps, rfl, ha, hx, lx⟩ := h
  refine ⟨a, xs, rfl, SqT.of ha, fun _ => q H _ (Sx.refl _) ⟨a, xs, ps, rfl, ha, hx, lx⟩, fun _ p hp => ?_⟩
  have s := Sx.n0 (o := .tup (cutV xs lo hi)) hp
  refine q _ _ s ⟨p, cutV xs lo hi, _, rfl, upd_same, ((hx.drop _).take _).keep s.tk0 s.lk0, Nat.le_trans (cutV_length ..) lx⟩
theorem pairs_of {H : Hp} : ∀ {vs : List V} {l : List (Int × Int)}, TpAll H vs (l.map prP) → (∀ y ∈ l, PrOk y) → PairAll H vs (l.map fun _ => true)
  | _, [], h, _ => by cases h; exact .nil
  | _, (i, j) :: l, h, p => by
    cases h with
    | cons a b =>
      obtain ⟨ap, x, y, rfl, hap, u1, u2⟩ := tp2 a
      obtain rfl := tpI u1
      obtain rfl := tpI u2
      have e : (decide (-1 ≤ j) && decide (j ≤ 1)) = true := by
        obtain ⟨h1, h2, _⟩ := p (i, j) (List.mem_cons_self ..)
        rw [decide_eq_true h1, decide_eq_true h2]; rfl
      exact .cons (e ▸ PairK.two hap) (pairs_of b (fun y hy => p y (List.mem_cons_of_mem _ hy)))
theorem TpE.of {H : Hp} {v : V} {l : List (Int × Int)} {n : Nat} (t : Tp H v (.tuple (l.map prP))) (p : ∀ y ∈ l, PrOk y) (hl : l.length ≤ n) : TpE H v n := by
  obtain ⟨a, xs, rfl, ha, hx⟩ := t.tuple
  have xl := hx.len
  rw [List.length_map] at xl
  exact ⟨a, xs, _, rfl, ha, pairs_of hx p, by omega⟩
/-- the odd values: none is a pair -/
structure Od (H : Hp) (O : Addr) : Prop where
  od : ∃ xs, H O = some (.lst xs) ∧ xs ≠ [] ∧ xs.length ≤ 100 ∧ ∀ x ∈ xs, PairK H x false
theorem Od.keep {H H' : Hp} {O : Addr} (h : Od H O) {ex : List Addr} (s : Sx ex H H') (hO : O ∉ ex) (k : Tk H H') (l : Lk H H') : Od H' O := by
  obtain ⟨xs, h1, h2, h3, h4⟩ := h.od
  exact ⟨xs, s _ _ hO h1, h2, h3, fun x hx => (h4 x hx).keep k l⟩
theorem Od.nw {H : Hp} {O p : Addr} (h : Od H O) (n : H p = none) : p ≠ O := fun e => by
  obtain ⟨xs, h1, _⟩ := h.od
  rw [e, h1] at n; cases n
theorem hAt_shw : ∀ (ps : List Bool) (i : Nat) (e : PyData), i + ps.length < 10000 → Shw 1 60 e → Shw 1 60 (hAt ps i e)
  | [], _, _, _, z => z
  | true :: r, i, e, h, z => hAt_shw r (i + 1) e (by rw [List.length_cons] at h; omega) z
  | false :: _, i, e, h, z => (Shw.tup (.cons (Shw.int (n := 20) (by have e2 : (2 : Nat) ^ 20 = 1048576 := by decide
                                                                     omega) (by decide) (by decide) 0) (.cons (Shw.str (n := 4) (by decide +kernel) 0 (by decide)) (.nil 0 0)))).mono (by omega) (by omega)
theorem non_shw (k n : Nat) (h : 4 ≤ n) : Shw k n .none := ⟨by simp only [PyData.showable], by simp only [PyData.hasDict], by simp only [PyData.leavesShort], by simp only [PyData.depth]; omega, by simp only [PyData.weight]; omega⟩
theorem tell_shw {z : Str} (h : PyData.strOk z = true) (hz : z.length ≤ 10) : Shw 1 60 (.tuple [.none, .str z]) :=
  (Shw.tup (.cons (non_shw 0 4 (by decide)) (.cons (Shw.str h 0 10 hz) (.nil 0 0)))).mono (by omega) (by omega)
theorem hErr_shw {H : Hp} {v : V} {o : Option (List Bool)} (h : HvK H v o) : Shw 1 60 (hErr o) := by
  cases o with
  | none => exact tell_shw (by decide +kernel) (by decide)
  | some ps =>
    obtain ⟨_, _, _, _, _, h4⟩ := h
    refine hAt_shw ps 0 _ (by omega) ?_
    unfold hEnd
    split
    · exact tell_shw (by decide +kernel) (by decide)
    · exact non_shw 1 60 (by decide)
theorem lfI_shw {bs : List Bk} {l : List (Int × Int)} {m : Int} {i : Nat} (h : i ≤ 5) : Shw 1 200 (.tuple ((lfI bs l m i).map PyData.int)) := by
  have hm : ∀ z ∈ lfI bs l m i, z.natAbs < 2 ^ 20 := fun z hz => by
    unfold lfI at hz
    obtain ⟨j, hj, rfl⟩ := List.mem_map.mp hz
    have := List.mem_range.mp (List.mem_filter.mp hj).1
    have e2 : ((2 : Nat) ^ 20 = 1048576) := by decide
    omega
  have hl : (lfI bs l m i).length ≤ i := by
    unfold lfI
    rw [List.length_map]
    exact Nat.le_trans (List.length_filter_le _ _) (by rw [List.length_range]; exact Nat.le_refl _)
  exact (Shw.tup (ShwA.allInt (n := 20) (by decide) (by decide) hm 0)).mono (by omega) (by omega)
def spLaw39 (K : PySem.W.Frag) : Sp := fun vs H Q _ => ∃ (a : Addr) (ns : List Int), vs = [.ref a] ∧ SqL K H a (ns.map V.int) ∧ ns.length ≤ 63 ∧ ∀ H', Q (.bl true) H'
theorem Lk.lst {H : Hp} {p : Addr} {ys zs : List V} (h : H p = some (.lst ys)) : Lk H (upd H p (.lst zs)) := fun b xs e => by
  by_cases z : b = p
  · rw [z]; exact ⟨zs, upd_same⟩
  · exact ⟨xs, by rw [upd_ne z]; exact e⟩
/-! ### rules told over K -/
theorem ix_tupK {X : Cx} {K : PySem.W.Frag} (h : X.K = K) : IxR X (rIxT K) := h ▸ ix_tup
theorem op_catAK {X : Cx} {K : PySem.W.Frag} (h : X.K = K) : OpR X (binaryOp .Add) (rCatA K) := h ▸ op_catA
theorem op_repWK {X : Cx} {K : PySem.W.Frag} (h : X.K = K) : OpR X (binaryOp .Mult) (rRepW K) := h ▸ op_repW
def rLen (K : PySem.W.Frag) : List V → Hp → VK → Prop := fun xs H Q => ∃ p ys, xs = [.ref p] ∧ (SqL K H p ys ∨ SqT K H p ys) ∧ Q (.int (ys.length : Nat)) H
theorem call_lenK {X : Cx} {K : PySem.W.Frag} (h : X.K = K) : CallR X (.builtin "len") (rLen K) := h ▸ call_len_seq
/-- a value that heard_error may be asked about -/
def OkH (H : Hp) (v : V) : Prop := ∃ o, HvK H v o
theorem OkH.keep {H H' : Hp} {v : V} (h : OkH H v) (k : Tk H H') (l : Lk H H') : OkH H' v := by
  obtain ⟨o, h⟩ := h
  exact ⟨o, h.keep k l⟩
/-- a list of such values -/
def SomeK (H : Hp) (S : Addr) (n : Nat) : Prop := ∃ xs, H S = some (.lst xs) ∧ xs.length = n ∧ ∀ x ∈ xs, OkH H x
theorem SomeK.keep {H H' : Hp} {S : Addr} {n : Nat} (h : SomeK H S n) {ex : List Addr} (s : Sx ex H H') (hS : S ∉ ex) (k : Tk H H') (l : Lk H H') : SomeK H' S n := by
  obtain ⟨xs, h1, h2, h3⟩ := h
  exact ⟨xs, s _ _ hS h1, h2, fun x hx => (h3 x hx).keep k l⟩
theorem SomeK.add {H : Hp} {S : Addr} {n : Nat} {xs ys : List V} (h : SomeK H S n) (e : H S = some (.lst xs)) (hy : ∀ y ∈ ys, OkH H y) : SomeK (upd H S (.lst (xs ++ ys))) S (n + ys.length) := by
  obtain ⟨zs, h1, h2, h3⟩ := h
  rw [e] at h1
  cases h1
  refine ⟨xs ++ ys, upd_same, by rw [List.length_append, h2], fun x hx => ?_⟩
  rcases List.mem_append.1 hx with hx | hx
  · exact (h3 x hx).keep (Tk.lst e) (Lk.lst e)
  · exact (hy x hx).keep (Tk.lst e) (Lk.lst e)
theorem gC {v : V} {σ : L2.St} {H : Hp} {Q : VK} (h : Q v H) : tC v σ H Q := h
theorem gNo {σ : L2.St} {H : Hp} {Q : Option Int → Hp → Prop} (h : Q none H) : tNoPart σ H Q := h
theorem gYes {σ : L2.St} {H : Hp} {Q : Bool → Hp → Prop} (h : Q true H) : tYes σ H Q := h
/-! ### repr of any data -/
structure RpA (K : PySem.W.Frag) (H : Hp) (v : V) (d : PyData) : Prop where
  r1 : Dp K H v d
  r2 : d.showable = true
  r3 : d.hasDict = false
  r4 : d.depth ≤ 60
  r5 : d.shown.length ≤ 16777216
theorem RpA.of {K : PySem.W.Frag} {H : Hp} {v : V} {d : PyData} {k n : Nat} (h : Dp K H v d) (z : Shw k n d) (hk : k ≤ 60) (hn : n ≤ 8000) : RpA K H v d :=
  ⟨h, z.s, z.h, by have := z.dp; omega, z.len hn⟩
def rReprA (K : PySem.W.Frag) : List V → Hp → VK → Prop := fun xs H Q => ∃ x d, xs = [x] ∧ RpA K H x d ∧ Q (.str d.shown) H
theorem call_reprA {X : Cx} (hgd : X.A.guards = some []) (hu : X.A.units + 64 < cLine) : CallR X (.builtin "repr") (rReprA X.K) := by
  intro pins s σ H xs us Q I r h0; have h := h0
  obtain ⟨x, d, rfl, ⟨hd, hs, hnd, hdp, hz⟩, q⟩ := h
  rcases vals1 r with ⟨u, rfl, rx⟩
  have fin : ∀ {as : List Addr} {a : Addr}, Reads s.heap (.ref a) d as → wpAny (model X.prog X.w) X.A (call (.builtin "repr") [.ref a]) (EP X pins σ Q) X.xe s := fun {as a} rd =>
    repr_of_reads' rd hs (fun h => by rw [hnd] at h; cases h) hgd (by omega) (fun _ _ e => e) (fun h' u' tk hk => ⟨.str d.shown, H, I.kept hk, ⟨u', rfl⟩, q⟩) hz
  obtain ⟨as, rd⟩ := Dp.reads I d x u hd rx
  cases hd with
  | non =>
    cases rx
    have e : PyData.shown .none = "None" := by simp only [PyData.shown]
    rw [e] at q
    exact PySem.P.repr_of_none ⟨.str _, H, I.tok _, ⟨_, rfl⟩, q⟩
  | bl b =>
    cases rx
    have e : (PyData.bool b).shown = (if b then "True" else "False" : Str) := by cases b <;> simp [PyData.shown]
    rw [e] at q
    exact PySem.P.repr_of_bool ⟨.str _, H, I.tok _, ⟨_, rfl⟩, q⟩
  | int i =>
    obtain ⟨t, rfl⟩ := rx
    have hi : i.natAbs.log2 < 1920 := by
      have : (PyData.int i).showable = true := hs
      simpa only [PyData.showable, decide_eq_true_eq] using this
    have e : (PyData.int i).shown = (toString i : String) := by simp only [PyData.shown]
    rw [e] at q
    exact PySem.P.repr_of_int hi ⟨.str _, H, I.tok _, ⟨_, rfl⟩, q⟩
  | str z =>
    obtain ⟨t, rfl⟩ := rx
    have e : (PyData.str z).shown = reprText z := by simp only [PyData.shown]
    rw [e] at q hz
    exact PySem.P.repr_of_str ⟨.str _, H, I.tok _, ⟨_, rfl⟩, q⟩ hz
  | lst hq ha => cases rx; exact fin rd
  | tup hq ha => cases rx; exact fin rd
abbrev sSigns : Stmt := topS 36
abbrev nSigns : List Str := ["_law_family_here", "_law_number_here", "_law_program_here"]
theorem scSigns : FnScope nSigns ["_law_family_here", "_law_number_here"] (defScope sSigns) := ⟨rfl, rfl, rfl, by decide +kernel, rfl, by decide +kernel, by decide +kernel⟩
abbrev sPLaw : Stmt := topS 39
abbrev nPLaw : List Str := ["_law_script", "_law_deck_here", "_law_odd", "_law_turn", "_law_family_here", "_law_heard_here", "_law_lies", "_law_due_here", "_law_k", "_law_at", "_law_some", "_law_value_here", "_law_pair", "_law_many"]
theorem scPLaw : FnScope nPLaw ["_law_script"] (defScope sPLaw) := ⟨rfl, rfl, rfl, by decide +kernel, rfl, by decide +kernel, by decide +kernel⟩
section
variable {w : World} {P : Program} {K : PySem.W.Frag} {mg : Str → Option Value} {base : Heap}
set_option maxHeartbeats 8000001 in
theorem ok_law39 {f fA fB fC fD fE fF fG fH fI fJ : Addr} {fd fdA fdB fdC fdD fdE fdF fdG fdH fdI fdJ : FuncData} (F_law : Fun K "law" "law" sPLaw f fd)
    (F_deck : Fun K "_law_deck" "_law_deck" sDeck fA fdA) (F_draw : Fun K "_law_draw" "_law_draw" sDraw fB fdB) (F_one : Fun K "_law_one" "_law_one" sOne fC fdC) (F_names : Fun K "_law_names" "_law_names" sNames fD fdD) (F_family : Fun K "_law_family" "_law_family" sFamily fE fdE)
    (F_heard : Fun K "_law_heard" "_law_heard" sHeard fF fdF) (F_sign : Fun K "_law_sign" "_law_sign" sSign fG fdG) (F_due : Fun K "_law_due" "_law_due" sDue fH fdH) (F_pleft : Fun K "left" "left" sPLeft fI fdI) (F_pheard_error : Fun K "heard_error" "heard_error" sPHeardError fJ fdJ)
    (G_deck : FnOk P w K mg base CX0 1 fA fdA ["_law_script"] (spDeck K)) (G_draw : FnOk P w K mg base CX0 1 fB fdB ["_law_deck_here", "_law_many"] spDraw) (G_one : FnOk P w K mg base CX0 2 fC fdC ["_law_deck_here", "_law_items"] (spOne K)) (G_names : FnOk P w K mg base CX0 3 fD fdD ["_law_deck_here"] (spNames K))
    (G_family : FnOk P w K mg base CX0 17 fE fdE ["_law_deck_here", "_law_names_here", "_law_most"] (spFamily K)) (G_heard : FnOk P w K mg base CX0 10 fF fdF ["_law_deck_here", "_law_family_here", "_law_many"] spHeardG) (G_sign : FnOk P w K mg base CX0 9 fG fdG ["_law_program_here", "_law_number_here"] spSig9A)
    (G_due : FnOk P w K mg base CX0 1 fH fdH ["_law_value_here"] spHeardE) (G_pleft : FnOk P w K mg base CX0 13 fI fdI ["family", "heard", "lies"] spLeft) (G_pheard_error : FnOk P w K mg base CX0 4 fJ fdJ ["value"] spHeardE)
    (b_deck : Binds K fdA ["_law_script"] []) (b_draw : Binds K fdB ["_law_deck_here", "_law_many"] []) (b_one : Binds K fdC ["_law_deck_here", "_law_items"] []) (b_names : Binds K fdD ["_law_deck_here"] []) (b_family : Binds K fdE ["_law_deck_here", "_law_names_here", "_law_most"] [])
    (b_heard : Binds K fdF ["_law_deck_here", "_law_family_here", "_law_many"] []) (b_sign : Binds K fdG ["_law_program_here", "_law_number_here"] []) (b_due : Binds K fdH ["_law_value_here"] []) (b_pleft : Binds K fdI ["family", "heard", "lies"] []) (b_pheard_error : Binds K fdJ ["value"] [])
    (m_deck : mg "_law_deck" = some (.ref fA)) (m_draw : mg "_law_draw" = some (.ref fB)) (m_one : mg "_law_one" = some (.ref fC)) (m_names : mg "_law_names" = some (.ref fD)) (m_family : mg "_law_family" = some (.ref fE)) (m_heard : mg "_law_heard" = some (.ref fF)) (m_sign : mg "_law_sign" = some (.ref fG)) (m_due : mg "_law_due" = some (.ref fH)) (m_pleft : mg "left" = some (.ref fI)) (m_pheard_error : mg "heard_error" = some (.ref fJ))
    (z_repr : mg "repr" = none) (z_range : mg "range" = none) (z_len : mg "len" = none) (z_tuple : mg "tuple" = none) (z_list : mg "list" = none) : FnG P w K mg base 18 f fd ["_law_script"] (spLaw39 K) := by
  refine Fun.okG F_law scPLaw (fun vs H Q E h => ?_) (fun cdv A outer s H vs Q E hr hgd h => ?_)
  · obtain ⟨_, _, rfl, _⟩ := h
    rfl
  · rcases h with ⟨a, ns, rfl, hS, hlen, q⟩
    have hu := hr.units
    have KBe : KB = 1099511627776 := rfl
    have eF : cF = 3500130 := rfl
    refine ⟨_, (pss_cons (ps_set (i := 1) scPLaw.nd rfl (by first | exact Or.inl rfl | exact Or.inr rfl) (pe_call G_deck (hr.mono (by omega)) (by rfl) m_deck F_deck.kp b_deck .nil pass0 (pa_cons (pv 0) pa_nil)))
      (pss_cons (ps_set (i := 2) scPLaw.nd rfl (by first | exact Or.inl rfl | exact Or.inr rfl) (pe_lst (pa_cons pe_non (pa_cons pe_bl (pa_cons (pe_tup (pa_cons pe_int pa_nil)) (pa_cons (pe_tup (pa_cons pe_int (pa_cons pe_int pa_nil))) (pa_cons (pe_tup (pa_cons pe_int (pa_cons (pe_un un_neg pe_int) pa_nil))) (pa_cons (pe_tup (pa_cons pe_bl (pa_cons pe_int pa_nil))) (pa_cons (pe_tup (pa_cons pe_int (pa_cons pe_bl pa_nil))) (pa_cons (pe_tup (pa_cons pe_str (pa_cons pe_int pa_nil))) (pa_cons (pe_tup (pa_cons pe_int (pa_cons pe_non pa_nil))) (pa_cons (pe_lst (pa_cons pe_int (pa_cons pe_int pa_nil))) (pa_cons (pe_tup (pa_cons pe_int (pa_cons pe_int (pa_cons pe_int pa_nil)))) pa_nil)))))))))))))
      (pss_cons (ps_expr (pe_bm PySem.F.plainAttrs_list PySem.F.slot_list_extend PySem.F.type_list_extend mt_extend (pv 2) (pa_cons (pe_lst (pa_cons (pe_tup pa_nil) (pa_cons pe_int (pa_cons pe_str pa_nil)))) pa_nil)))
      (C8.pss_cut (ps_for PassesOwn.never rfl (pi_range1 (by rfl) z_range (pa_cons pe_int pa_nil)) (pg_name (i := 3) scPLaw.nd rfl (by first | exact Or.inl rfl | exact Or.inr rfl)) (pss_cons (ps_set (i := 4) scPLaw.nd rfl (by first | exact Or.inl rfl | exact Or.inr rfl) (pe_call G_family (hr.mono (by omega)) (by rfl) m_family F_family.kp b_family .nil pass0 (pa_cons (pv 1) (pa_cons (pe_call G_names (hr.mono (by omega)) (by rfl) m_names F_names.kp b_names .nil pass0 (pa_cons (pv 1) pa_nil)) (pa_cons pe_int pa_nil)))))
      (pss_cons (ps_set (i := 5) scPLaw.nd rfl (by first | exact Or.inl rfl | exact Or.inr rfl) (pe_call G_heard (hr.mono (by omega)) (by rfl) m_heard F_heard.kp b_heard .nil pass0 (pa_cons (pv 1) (pa_cons (pv 4) (pa_cons (pe_call G_one (hr.mono (by omega)) (by rfl) m_one F_one.kp b_one .nil pass0 (pa_cons (pv 1) (pa_cons (pe_lst (pa_cons pe_int (pa_cons pe_int (pa_cons pe_int (pa_cons pe_int (pa_cons pe_int (pa_cons pe_int (pa_cons pe_int (pa_cons pe_int pa_nil))))))))) pa_nil))) pa_nil)))))
      (C8.pss_cut (ps_for PassesOwn.never rfl (pi_range1 (by rfl) z_range (pa_cons pe_int pa_nil)) (pg_name (i := 6) scPLaw.nd rfl (by first | exact Or.inl rfl | exact Or.inr rfl)) (pss_cons (ps_set (i := 7) scPLaw.nd rfl (by first | exact Or.inl rfl | exact Or.inr rfl) (pe_lst pa_nil))
      (C8.pss_cut (ps_for PassesOwn.never rfl (pi_range1 (by rfl) z_range (pa_cons (pe_callB call_len_seq (by rfl) z_len boot_len (pa_cons (pv 4) pa_nil)) pa_nil)) (pg_name (i := 8) scPLaw.nd rfl (by first | exact Or.inl rfl | exact Or.inr rfl)) (pss_one (ps_if (pt_cmpR op_le (pe_callB call_len_seq (by rfl) z_len boot_len (pa_cons (pe_lc (own := [("_law_pair", 12)]) (g := gName 12) (tt := _) rfl scPLaw.nd (pi_tup (pv 5)) (blkOk_by (N := nPLaw) (sc := defScope sPLaw) (by decide +kernel)) (fun _ _ _ _ _ => (pg_name (i := 12) scPLaw.nd rfl (by first | exact Or.inl rfl | exact Or.inr rfl))) (fun _ _ _ _ _ => pts_one (pt_cmpR op_ne (pe_call G_sign (hr.mono (by omega)) (by rfl) m_sign F_sign.kp b_sign .nil pass0 (pa_cons (pe_ix (ix_tupK (K := K) rfl) (pv 4) (pv 8) (fun _ _ => rfl)) (pa_cons (pe_ix (ix_tupK (K := K) rfl) (pv 12) pe_int (fun _ _ => rfl)) pa_nil))) (pe_ix (ix_tupK (K := K) rfl) (pv 12) pe_int (fun _ _ => rfl)) (nomark _))) (fun _ _ _ _ _ => (pv 12))) pa_nil)) (pv 6) (nomark _)) (pss_one (ps_expr (pe_bm PySem.F.plainAttrs_list PySem.F.slot_list_append PySem.F.type_list_append mt_append (pv 7) (pa_cons (pv 8) pa_nil)))) pss_nil)))
      (pss_one (ps_if (pt_cmpR op_ne (pe_callB (call_reprA hgd hu) (by rfl) z_repr boot_repr (pa_cons (pe_call G_pleft (hr.mono (by omega)) (by rfl) m_pleft F_pleft.kp b_pleft .nil pass0 (pa_cons (pv 4) (pa_cons (pv 5) (pa_cons (pv 6) pa_nil)))) pa_nil)) (pe_callB (call_reprA hgd hu) (by rfl) z_repr boot_repr (pa_cons (pe_callTy call_tuple_of (by rfl) z_tuple boot_tuple (pa_cons (pv 7) pa_nil)) pa_nil)) (nomark _)) (pss_one (ps_ret pe_bl)) pss_nil)))))
      (pss_cons (ps_set (i := 9) scPLaw.nd rfl (by first | exact Or.inl rfl | exact Or.inr rfl) (pe_call G_draw (hr.mono (by omega)) (by rfl) m_draw F_draw.kp b_draw .nil pass0 (pa_cons (pv 1) (pa_cons (pe_op op_add (pe_callB (call_lenK (K := K) rfl) (by rfl) z_len boot_len (pa_cons (pv 5) pa_nil)) pe_int) pa_nil))))
      (pss_cons (ps_set (i := 10) scPLaw.nd rfl (by first | exact Or.inl rfl | exact Or.inr rfl) (pe_lst (pa_cons (pv 5) (pa_cons (pe_callTy call_list_of (by rfl) z_list boot_list (pa_cons (pv 5) pa_nil)) (pa_cons pe_non (pa_cons pe_int (pa_cons pe_str (pa_cons (pe_op op_catA (pe_op op_catA (pv 5) (pv 5)) (pe_op op_repW (pe_tup (pa_cons (pe_tup (pa_cons pe_int (pa_cons pe_int pa_nil))) pa_nil)) pe_int)) (pa_cons (pe_op op_catA (pe_op op_repW (pe_tup (pa_cons (pe_tup (pa_cons pe_int (pa_cons pe_int pa_nil))) pa_nil)) pe_int) (pe_tup (pa_cons pe_int pa_nil))) pa_nil)))))))))
      (pss_cons (ps_expr (pe_bm PySem.F.plainAttrs_list PySem.F.slot_list_append PySem.F.type_list_append mt_append (pv 10) (pa_cons (pe_op op_catA (pe_op op_catA (pe_slice sl_tupA (pv 5) po_none (po_some (pv 9))) (pe_tup (pa_cons (pe_call G_one (hr.mono (by omega)) (by rfl) m_one F_one.kp b_one .nil pass0 (pa_cons (pv 1) (pa_cons (pv 2) pa_nil))) pa_nil))) (pe_slice sl_tupA (pv 5) (po_some (pv 9)) po_none)) pa_nil)))
      (pss_cons (ps_expr (pe_bm PySem.F.plainAttrs_list PySem.F.slot_list_append PySem.F.type_list_append mt_append (pv 10) (pa_cons (pe_op op_catA (pe_op op_catA (pe_slice sl_tupA (pv 5) po_none (po_some (pv 9))) (pe_tup (pa_cons (pe_call G_one (hr.mono (by omega)) (by rfl) m_one F_one.kp b_one .nil pass0 (pa_cons (pv 1) (pa_cons (pv 2) pa_nil))) pa_nil))) (pe_slice sl_tupA (pv 5) (po_some (pe_op op_add (pv 9) pe_int)) po_none)) pa_nil)))
      (pss_cons (ps_expr (pe_bm PySem.F.plainAttrs_list PySem.F.slot_list_extend PySem.F.type_list_extend mt_extend (pv 10) (pa_cons (pe_lc (own := [("_law_many", 13)]) (g := gName 13) (tt := tYes) rfl scPLaw.nd (pi_tup (pe_tup (pa_cons pe_int (pa_cons pe_int pa_nil)))) (blkOk_by (N := nPLaw) (sc := defScope sPLaw) (by decide +kernel)) (fun _ _ _ _ _ => (pg_name (i := 13) scPLaw.nd rfl (by first | exact Or.inl rfl | exact Or.inr rfl))) (fun _ _ _ _ _ => pts_nil) (fun _ _ _ _ _ => (pe_op (op_catAK (K := K) rfl) (pv 5) (pe_op (op_repWK (K := K) rfl) (pe_tup (pa_cons (pe_tup (pa_cons pe_int (pa_cons pe_int pa_nil))) pa_nil)) (pe_op op_sub (pv 13) (pe_callB (call_lenK (K := K) rfl) (by rfl) z_len boot_len (pa_cons (pv 5) pa_nil))))))) pa_nil)))
      (pss_one (ps_for PassesOwn.never rfl (pi_list (pv 10)) (pg_name (i := 11) scPLaw.nd rfl (by first | exact Or.inl rfl | exact Or.inr rfl)) (pss_one (ps_if (pt_cmpR op_ne (pe_callB (call_reprA hgd hu) (by rfl) z_repr boot_repr (pa_cons (pe_call G_pheard_error (hr.mono (by omega)) (by rfl) m_pheard_error F_pheard_error.kp b_pheard_error .nil pass0 (pa_cons (pv 11) pa_nil)) pa_nil)) (pe_callB (call_reprA hgd hu) (by rfl) z_repr boot_repr (pa_cons (pe_call G_due (hr.mono (by omega)) (by rfl) m_due F_due.kp b_due .nil pass0 (pa_cons (pv 11) pa_nil)) pa_nil)) (nomark _)) (pss_one (ps_ret pe_bl)) pss_nil)))))))))))))
      (pss_one (ps_ret pe_bl)))))), ?_⟩
    refine ⟨_, rfl, a, ns, rfl, hS, hlen, fun H1 D c cs s1 _ _ DK => ?_⟩
    refine ⟨by show 1 ≤ sizeLine; decide, fun p1 h1 => ?_⟩
    have np1 : Sx [] H1 (upd H1 p1 (.tup [.int 1])) := Sx.n0 h1
    have DK := DK.same np1
    have z1 : PairK (upd H1 p1 (.tup [.int 1])) (.ref p1) false := .len upd_same (by decide)
    clear np1
    generalize upd H1 p1 (.tup [.int 1]) = Hp1 at DK z1 ⊢
    refine ⟨by show 2 ≤ sizeLine; decide, fun p2 h2 => ?_⟩
    have np2 : Sx [] Hp1 (upd Hp1 p2 (.tup [.int 1, .int 2])) := Sx.n0 h2
    have DK := DK.same np2
    have z1 := z1.keep np2.tk0 np2.lk0
    have z2 : PairK (upd Hp1 p2 (.tup [.int 1, .int 2])) (.ref p2) false := .two upd_same
    clear np2
    generalize upd Hp1 p2 (.tup [.int 1, .int 2]) = Hp2 at DK z1 z2 ⊢
    refine ⟨2, rfl, by show 2 ≤ sizeLine; decide, fun p3 h3 => ?_⟩
    have np3 : Sx [] Hp2 (upd Hp2 p3 (.tup [.int 1, .int (-2)])) := Sx.n0 h3
    have DK := DK.same np3
    have z1 := z1.keep np3.tk0 np3.lk0
    have z2 := z2.keep np3.tk0 np3.lk0
    have z3 : PairK (upd Hp2 p3 (.tup [.int 1, .int (-2)])) (.ref p3) false := .two upd_same
    clear np3
    generalize upd Hp2 p3 (.tup [.int 1, .int (-2)]) = Hp3 at DK z1 z2 z3 ⊢
    refine ⟨by show 2 ≤ sizeLine; decide, fun p4 h4 => ?_⟩
    have np4 : Sx [] Hp3 (upd Hp3 p4 (.tup [.bl true, .int 0])) := Sx.n0 h4
    have DK := DK.same np4
    have z1 := z1.keep np4.tk0 np4.lk0
    have z2 := z2.keep np4.tk0 np4.lk0
    have z3 := z3.keep np4.tk0 np4.lk0
    have z4 : PairK (upd Hp3 p4 (.tup [.bl true, .int 0])) (.ref p4) false := .fst upd_same (.inr ⟨.inr (.inl ⟨_, rfl⟩), rfl⟩)
    clear np4
    generalize upd Hp3 p4 (.tup [.bl true, .int 0]) = Hp4 at DK z1 z2 z3 z4 ⊢
    refine ⟨by show 2 ≤ sizeLine; decide, fun p5 h5 => ?_⟩
    have np5 : Sx [] Hp4 (upd Hp4 p5 (.tup [.int 0, .bl false])) := Sx.n0 h5
    have DK := DK.same np5
    have z1 := z1.keep np5.tk0 np5.lk0
    have z2 := z2.keep np5.tk0 np5.lk0
    have z3 := z3.keep np5.tk0 np5.lk0
    have z4 := z4.keep np5.tk0 np5.lk0
    have z5 : PairK (upd Hp4 p5 (.tup [.int 0, .bl false])) (.ref p5) false := .snd upd_same (.inr ⟨.inr (.inl ⟨_, rfl⟩), rfl⟩)
    clear np5
    generalize upd Hp4 p5 (.tup [.int 0, .bl false]) = Hp5 at DK z1 z2 z3 z4 z5 ⊢
    refine ⟨by show 2 ≤ sizeLine; decide, fun p6 h6 => ?_⟩
    have np6 : Sx [] Hp5 (upd Hp5 p6 (.tup [.str "1", .int 0])) := Sx.n0 h6
    have DK := DK.same np6
    have z1 := z1.keep np6.tk0 np6.lk0
    have z2 := z2.keep np6.tk0 np6.lk0
    have z3 := z3.keep np6.tk0 np6.lk0
    have z4 := z4.keep np6.tk0 np6.lk0
    have z5 := z5.keep np6.tk0 np6.lk0
    have z6 : PairK (upd Hp5 p6 (.tup [.str "1", .int 0])) (.ref p6) false := .fst upd_same (.inr ⟨.inr (.inr ⟨_, rfl⟩), rfl⟩)
    clear np6
    generalize upd Hp5 p6 (.tup [.str "1", .int 0]) = Hp6 at DK z1 z2 z3 z4 z5 z6 ⊢
    refine ⟨by show 2 ≤ sizeLine; decide, fun p7 h7 => ?_⟩
    have np7 : Sx [] Hp6 (upd Hp6 p7 (.tup [.int 1, .non])) := Sx.n0 h7
    have DK := DK.same np7
    have z1 := z1.keep np7.tk0 np7.lk0
    have z2 := z2.keep np7.tk0 np7.lk0
    have z3 := z3.keep np7.tk0 np7.lk0
    have z4 := z4.keep np7.tk0 np7.lk0
    have z5 := z5.keep np7.tk0 np7.lk0
    have z6 := z6.keep np7.tk0 np7.lk0
    have z7 : PairK (upd Hp6 p7 (.tup [.int 1, .non])) (.ref p7) false := .snd upd_same (.inr ⟨.inl rfl, rfl⟩)
    clear np7
    generalize upd Hp6 p7 (.tup [.int 1, .non]) = Hp7 at DK z1 z2 z3 z4 z5 z6 z7 ⊢
    refine ⟨by show 2 ≤ sizeLine; decide, fun p8 h8 => ?_⟩
    have np8 : Sx [] Hp7 (upd Hp7 p8 (.lst [.int 1, .int 0])) := Sx.n0 h8
    have DK := DK.same np8
    have z1 := z1.keep np8.tk0 np8.lk0
    have z2 := z2.keep np8.tk0 np8.lk0
    have z3 := z3.keep np8.tk0 np8.lk0
    have z4 := z4.keep np8.tk0 np8.lk0
    have z5 := z5.keep np8.tk0 np8.lk0
    have z6 := z6.keep np8.tk0 np8.lk0
    have z7 := z7.keep np8.tk0 np8.lk0
    have z8 : PairK (upd Hp7 p8 (.lst [.int 1, .int 0])) (.ref p8) false := .lst upd_same
    clear np8
    generalize upd Hp7 p8 (.lst [.int 1, .int 0]) = Hp8 at DK z1 z2 z3 z4 z5 z6 z7 z8 ⊢
    refine ⟨by show 3 ≤ sizeLine; decide, fun p9 h9 => ?_⟩
    have np9 : Sx [] Hp8 (upd Hp8 p9 (.tup [.int 1, .int 0, .int 0])) := Sx.n0 h9
    have DK := DK.same np9
    have z1 := z1.keep np9.tk0 np9.lk0
    have z2 := z2.keep np9.tk0 np9.lk0
    have z3 := z3.keep np9.tk0 np9.lk0
    have z4 := z4.keep np9.tk0 np9.lk0
    have z5 := z5.keep np9.tk0 np9.lk0
    have z6 := z6.keep np9.tk0 np9.lk0
    have z7 := z7.keep np9.tk0 np9.lk0
    have z8 := z8.keep np9.tk0 np9.lk0
    have z9 : PairK (upd Hp8 p9 (.tup [.int 1, .int 0, .int 0])) (.ref p9) false := .len upd_same (by decide)
    clear np9
    generalize upd Hp8 p9 (.tup [.int 1, .int 0, .int 0]) = Hp9 at DK z1 z2 z3 z4 z5 z6 z7 z8 z9 ⊢
    refine ⟨by show 11 ≤ sizeLine; decide, fun O hO => ?_⟩
    obtain ⟨OD, Oc⟩ := DK.nw hO
    have nO : Sx [] Hp9 (upd Hp9 O (.lst [.non, .bl true, .ref p1, .ref p2, .ref p3, .ref p4, .ref p5, .ref p6, .ref p7, .ref p8, .ref p9])) := Sx.n0 hO
    have DK := DK.same nO
    have z1 := z1.keep nO.tk0 nO.lk0
    have z2 := z2.keep nO.tk0 nO.lk0
    have z3 := z3.keep nO.tk0 nO.lk0
    have z4 := z4.keep nO.tk0 nO.lk0
    have z5 := z5.keep nO.tk0 nO.lk0
    have z6 := z6.keep nO.tk0 nO.lk0
    have z7 := z7.keep nO.tk0 nO.lk0
    have z8 := z8.keep nO.tk0 nO.lk0
    have z9 := z9.keep nO.tk0 nO.lk0
    have hOv : (upd Hp9 O (.lst [.non, .bl true, .ref p1, .ref p2, .ref p3, .ref p4, .ref p5, .ref p6, .ref p7, .ref p8, .ref p9])) O = some (.lst [.non, .bl true, .ref p1, .ref p2, .ref p3, .ref p4, .ref p5, .ref p6, .ref p7, .ref p8, .ref p9]) := upd_same
    clear nO
    generalize upd Hp9 O (.lst [.non, .bl true, .ref p1, .ref p2, .ref p3, .ref p4, .ref p5, .ref p6, .ref p7, .ref p8, .ref p9]) = HO at DK hOv z1 z2 z3 z4 z5 z6 z7 z8 z9 ⊢
    refine ⟨_, rfl, .inl ⟨rfl, _, SqL.of hOv⟩, ?_⟩
    refine ⟨by show 0 ≤ sizeLine; decide, fun p10 h10 => ?_⟩
    have hOv := Sx.n0 (o := .tup []) h10 _ _ (by simp) hOv
    have np10 : Sx [] HO (upd HO p10 (.tup [])) := Sx.n0 h10
    have DK := DK.same np10
    have z1 := z1.keep np10.tk0 np10.lk0
    have z2 := z2.keep np10.tk0 np10.lk0
    have z3 := z3.keep np10.tk0 np10.lk0
    have z4 := z4.keep np10.tk0 np10.lk0
    have z5 := z5.keep np10.tk0 np10.lk0
    have z6 := z6.keep np10.tk0 np10.lk0
    have z7 := z7.keep np10.tk0 np10.lk0
    have z8 := z8.keep np10.tk0 np10.lk0
    have z9 := z9.keep np10.tk0 np10.lk0
    have z10 : PairK (upd HO p10 (.tup [])) (.ref p10) false := .len upd_same (by decide)
    clear np10
    generalize upd HO p10 (.tup []) = Hp10 at DK hOv z1 z2 z3 z4 z5 z6 z7 z8 z9 z10 ⊢
    refine ⟨by show 3 ≤ sizeLine; decide, fun p11 h11 => ?_⟩
    have hOv := Sx.n0 (o := .lst [.ref p10, .int 3, .str "10"]) h11 _ _ (by simp) hOv
    have h11v : (upd Hp10 p11 (.lst [.ref p10, .int 3, .str "10"])) p11 = some (.lst [.ref p10, .int 3, .str "10"]) := upd_same
    have np11 : Sx [] Hp10 (upd Hp10 p11 (.lst [.ref p10, .int 3, .str "10"])) := Sx.n0 h11
    have DK := DK.same np11
    have z1 := z1.keep np11.tk0 np11.lk0
    have z2 := z2.keep np11.tk0 np11.lk0
    have z3 := z3.keep np11.tk0 np11.lk0
    have z4 := z4.keep np11.tk0 np11.lk0
    have z5 := z5.keep np11.tk0 np11.lk0
    have z6 := z6.keep np11.tk0 np11.lk0
    have z7 := z7.keep np11.tk0 np11.lk0
    have z8 := z8.keep np11.tk0 np11.lk0
    have z9 := z9.keep np11.tk0 np11.lk0
    have z10 := z10.keep np11.tk0 np11.lk0
    clear np11
    generalize upd Hp10 p11 (.lst [.ref p10, .int 3, .str "10"]) = Hp11 at DK hOv h11v z1 z2 z3 z4 z5 z6 z7 z8 z9 z10 ⊢
    refine ⟨O, p11, _, _, rfl, rfl, hOv, h11v, by show 14 ≤ sizeLine; decide, ?_⟩
    have sO : Sx [O] Hp11 (upd Hp11 O (.lst ([.non, .bl true, .ref p1, .ref p2, .ref p3, .ref p4, .ref p5, .ref p6, .ref p7, .ref p8, .ref p9] ++ [.ref p10, .int 3, .str "10"]))) := (Sx.refl _).put (by simp)
    have kO : Tk Hp11 (upd Hp11 O (.lst ([.non, .bl true, .ref p1, .ref p2, .ref p3, .ref p4, .ref p5, .ref p6, .ref p7, .ref p8, .ref p9] ++ [.ref p10, .int 3, .str "10"]))) := Tk.lst hOv
    have lO : Lk Hp11 (upd Hp11 O (.lst ([.non, .bl true, .ref p1, .ref p2, .ref p3, .ref p4, .ref p5, .ref p6, .ref p7, .ref p8, .ref p9] ++ [.ref p10, .int 3, .str "10"]))) := Lk.lst hOv
    have DK : Dk (upd Hp11 O (.lst ([.non, .bl true, .ref p1, .ref p2, .ref p3, .ref p4, .ref p5, .ref p6, .ref p7, .ref p8, .ref p9] ++ [.ref p10, .int 3, .str "10"]))) D c cs 0 := DK.sx sO (by simp [OD.symm]) (by simp [Oc.symm])
    have od : Od (upd Hp11 O (.lst ([.non, .bl true, .ref p1, .ref p2, .ref p3, .ref p4, .ref p5, .ref p6, .ref p7, .ref p8, .ref p9] ++ [.ref p10, .int 3, .str "10"]))) O := ⟨_, upd_same, by simp, by show 14 ≤ 100; decide, fun x hx => by
      simp only [List.cons_append, List.nil_append, List.mem_cons, List.not_mem_nil, or_false] at hx
      rcases hx with rfl | rfl | rfl | rfl | rfl | rfl | rfl | rfl | rfl | rfl | rfl | rfl | rfl | rfl
      · exact .non
      · exact .bl _
      · exact z1.keep kO lO
      · exact z2.keep kO lO
      · exact z3.keep kO lO
      · exact z4.keep kO lO
      · exact z5.keep kO lO
      · exact z6.keep kO lO
      · exact z7.keep kO lO
      · exact z8.keep kO lO
      · exact z9.keep kO lO
      · exact z10.keep kO lO
      · exact .int _
      · exact .str _⟩
    clear z1 z2 z3 z4 z5 z6 z7 z8 z9 z10 sO kO lO hOv h11v
    generalize (upd Hp11 O (.lst ([.non, .bl true, .ref p1, .ref p2, .ref p3, .ref p4, .ref p5, .ref p6, .ref p7, .ref p8, .ref p9] ++ [.ref p10, .int 3, .str "10"]))) = H1 at DK od ⊢
    have nxt : ∀ {σ : L2.St} {H' : Hp}, True → True := fun _ => trivial
    clear nxt
    refine ⟨fun _ _ => True, ?_, fun _ H' _ => q H'⟩
    refine ⟨6, rfl, by decide, by decide, for_range (n := 6) (fun i σ' H' => ∃ o3 o4 o5 o6 o7 o8 o9 o10 o11 o12 o13, σ' = [some (.ref a), some (.ref D), some (.ref O), o3, o4, o5, o6, o7, o8, o9, o10, o11, o12, o13] ∧ Od H' O ∧ O ≠ D ∧ O ≠ c ∧ ∃ cs k, Dk H' D c cs k ∧ k ≤ (i : Int) * 3501000)
      ⟨_, _, _, _, _, _, _, _, _, _, _, rfl, od, OD, Oc, _, _, DK, by decide⟩ (fun i σ' H' hi h => ?_) (fun σ' H' h => trivial)⟩
    clear DK od
    obtain ⟨o3, o4, o5, o6, o7, o8, o9, o10, o11, o12, o13, rfl, od, _, _, cs1, k1, DK, hk1⟩ := h
    refine gnm ?_
    have Oac : O ∉ [D, c] := by simp [OD, Oc]
    refine ⟨_, rfl, _, rfl, D, c, cs1, k1, rfl, DK, by omega, fun H2 cs2 k2 nm ns s2 D2 k2a k2b hnm na nc N => ?_⟩
    have od := od.keep s2 Oac (DK.tk s2) (D2.lk s2)
    refine ⟨D, c, cs2, k2, nm, ns, 5, rfl, D2, N, na, nc, by decide, by decide, by omega, fun H3 cs3 k3 v bs s3 D3 k3a k3b T3 bne bl F3 => ?_⟩
    have od := od.keep s3 Oac (D2.tk s3) (D3.lk s3)
    have hR : ∀ b ∈ bs, Rp b := fun b hb => ⟨ns, (F3 b hb).1, N.ok, by have := (F3 b hb).2.1; omega, by have := (F3 b hb).2.2; omega⟩
    -- what was heard
    refine ⟨_, rfl, _, rfl, _, rfl, by show 8 ≤ sizeLine; decide, fun l hl => ?_⟩
    obtain ⟨la, lc⟩ := D3.nw hl
    have T3 := T3.new (o := .lst [.int 0, .int 1, .int 2, .int 3, .int 5, .int 8, .int 39, .int 40]) hl
    have n3 := Sx.n0 (o := .lst [.int 0, .int 1, .int 2, .int 3, .int 5, .int 8, .int 39, .int 40]) hl
    have od := od.keep n3 (by simp) n3.tk0 n3.lk0
    have D3 := D3.same n3
    refine ⟨D, c, cs3, k3, _, rfl, D3, by omega, .inl ⟨l, _, rfl, .inl (.inl upd_same), by simp, by show 8 ≤ 100000; decide, la, lc, fun H4 cs4 x s4 D4 hx => ?_⟩⟩
    have od := od.keep s4 Oac (D3.tk s4) (D4.lk s4)
    have T4 := T3.keep (D3.tk s4)
    obtain ⟨m, rfl, m0, m1⟩ : ∃ m : Int, x = .int m ∧ 0 ≤ m ∧ m ≤ 40 := by
      simp only [List.not_mem_nil, List.mem_cons, or_false] at hx
      rcases hx with rfl | rfl | rfl | rfl | rfl | rfl | rfl | rfl <;> exact ⟨_, rfl, by decide, by decide⟩
    clear T3 n3 D3 s4 hx hl la lc
    refine ⟨D, c, cs4, _, v, bs, m, rfl, D4, T4, bne, by omega, hR, m0, m1, by omega, fun H5 cs5 k5 u l s5 D5 k5a k5b T5 l5 p5 => ?_⟩
    have od := od.keep s5 Oac (D4.tk s5) (D5.lk s5)
    have T4 := T4.keep (D4.tk s5)
    clear s5 D4 D2 s2 s3 N F3
    refine ⟨fun σ H' => ∃ o6 o7 o8 o9 o10 o11 o12 o13, σ = [some (.ref a), some (.ref D), some (.ref O), some (.int (0 + (i : Int))), some v, some u, o6, o7, o8, o9, o10, o11, o12, o13] ∧ Sx [] H5 H', ?_, ?_⟩
    · refine ⟨2, rfl, by decide, by decide, for_range (n := 2) (fun j σ H' => ∃ o6 o7 o8 o9 o10 o11 o12 o13, σ = [some (.ref a), some (.ref D), some (.ref O), some (.int (0 + (i : Int))), some v, some u, o6, o7, o8, o9, o10, o11, o12, o13] ∧ Sx [] H5 H')
        ⟨_, _, _, _, _, _, _, _, rfl, Sx.refl _⟩ (fun j σ H6 hj h => ?_) (fun σ H6 h => h)⟩
      obtain ⟨o6, o7, o8, o9, o10, o11, o12, o13, rfl, s6⟩ := h
      have Tv := T4.keep s6.tk0
      have Tu := T5.keep s6.tk0
      clear T4 T5 od D5
      refine gnm ?_
      refine ⟨by show 0 ≤ sizeLine; decide, fun L hL => ?_⟩
      refine ⟨fun σ H' => ∃ o8 o9 o10 o11 o12 o13, σ = [some (.ref a), some (.ref D), some (.ref O), some (.int (0 + (i : Int))), some v, some u, some (.int (0 + (j : Int))), some (.ref L), o8, o9, o10, o11, o12, o13] ∧ Sx [] H6 H' ∧ H' L = some (.lst ((lfI bs l (0 + (j : Int)) bs.length).map V.int)), ?_, ?_⟩
      · obtain ⟨av, xs, rfl, hav, hxs⟩ := Tv.tuple
        have xl := hxs.len
        rw [List.length_map] at xl
        obtain ⟨au, ys, rfl, hau, hys⟩ := Tu.tuple
        obtain ⟨yl, hg⟩ := hys.lst
        have nL := Sx.n0 (o := .lst []) hL
        refine ⟨_, rfl, av, xs, rfl, .inr (SqT.of (nL _ _ (by simp) hav)), _, rfl, by omega, by omega, ?_⟩
        refine for_range (n := xs.length) (fun k σ H' => ∃ o8 o9 o10 o11 o12 o13, σ = [some (.ref a), some (.ref D), some (.ref O), some (.int (0 + (i : Int))), some (.ref av), some (.ref au), some (.int (0 + (j : Int))), some (.ref L), o8, o9, o10, o11, o12, o13] ∧ Sx [] H6 H' ∧ H' L = some (.lst ((lfI bs l (0 + (j : Int)) k).map V.int)))
          ⟨_, _, _, _, _, _, rfl, nL, upd_same⟩ (fun k σ H7 hk h => ?_) (fun σ H7 h => ?_)
        · obtain ⟨o8, o9, o10, o11, o12, o13, rfl, s7, e7⟩ := h
          refine gnm ?_
          have hk : k < xs.length := by omega
          have hk2 : k < bs.length := by omega
          have hbk : bs[k]? = some bs[k] := List.getElem?_eq_getElem hk2
          have hxk : xs[k]? = some xs[k] := List.getElem?_eq_getElem hk
          have tk : Tp H6 xs[k] (bkD bs[k]) := by
            obtain ⟨d, hd, t⟩ := hxs.get hxk
            rw [List.getElem?_map, hbk] at hd
            cases hd
            exact t
          obtain ⟨ns', bo, hns, bz, bw⟩ := hR bs[k] (List.getElem_mem hk2)
          have up := lfI_up (l := l) (m := 0 + (j : Int)) hbk
          have ll : (lfI bs l (0 + (j : Int)) k).length ≤ k := by
            unfold lfI
            rw [List.length_map]
            exact Nat.le_trans (List.length_filter_le _ _) (by rw [List.length_range]; exact Nat.le_refl _)
          generalize bs[k] = b at up tk bo bz bw
          generalize xs[k] = x at hxk tk
          have tk := tk.keep s7.tk0
          have hav7 := s7 _ _ (by simp) hav
          have hau7 := s7 _ _ (by simp) hau
          refine ⟨_, rfl, au, rfl, ⟨_, SqT.of hau7⟩, fun D' hD' => lc_tup (xs := ys) (fun i H1 => Sx [] H7 H1 ∧ ∃ vals, H1 D' = some (.lst vals) ∧ vals.length = wr b (l.take i)) ⟨Sx.n0 hD', [], upd_same, rfl⟩ (fun i H1 _ z => SqT.of (z.1 _ _ (by simp) hau7)) (fun i x1 H1 hi z => ?_) (fun H1 z => ?_)⟩
          · obtain ⟨s1, vals, e1, e2⟩ := z
            obtain ⟨y, hy, ty⟩ := hg i x1 hi
            obtain ⟨ap, p1, p2, rfl, hap, u1, u2⟩ := tp2 (ty.keep (s7.tk0.trans s1.tk0))
            obtain rfl := tpI u1
            obtain rfl := tpI u2
            have wl : wr b (l.take i) ≤ l.length := by
              unfold wr
              exact Nat.le_trans (List.length_filter_le _ _) (List.length_take_le' _ _)
            have up := wr_up (b := b) hy
            refine gnm ⟨rfl, ?_⟩
            refine ⟨_, rfl, _, rfl, av, xs, _, x, rfl, rfl, SqT.of (s1 _ _ (by simp) hav7), by rw [Int.zero_add]; exact atI_nat hxk, _, rfl, _, _, _, _, rfl, rfl, SqT.of hap, rfl, ?_⟩
            refine ⟨ns', x, b, y.1, rfl, tk.keep s1.tk0, bo, hns, by omega, by omega, fun H2 s2 => ⟨_, rfl, _, _, _, _, rfl, rfl, SqT.of (s2 _ _ (by simp) hap), rfl, rfl, _, rfl, ?_⟩⟩
            have e1' := s2 _ _ (by simp) e1
            refine ite2 (fun e => ?_) (fun e => ?_)
            · have e : badP b y = true := e
              rw [if_pos e] at up
              exact ⟨_, rfl, vals, e1', lt_line (by omega), (s1.trans s2).own hD', _, upd_same, by rw [List.length_append, e2, up]; rfl⟩
            · have e : ¬ badP b y = true := e
              rw [if_neg e] at up
              exact ⟨s1.trans s2, vals, e1', by rw [e2, up]; rfl⟩
          · obtain ⟨s1, vals, e1, e2⟩ := z
            rw [yl, List.take_length] at e2
            refine ⟨D', vals, rfl, .inl (SqL.of e1), ?_⟩
            rw [e2]
            refine (⟨_, rfl, _, _, rfl, rfl, _, rfl, ?_⟩)
            have e3 := s1 _ _ (by simp) e7
            refine ite2 (fun e => ?_) (fun e => ?_)
            · rw [if_pos e] at up
              refine ⟨_, rfl, .inl ⟨rfl, _, SqL.of e3⟩, _, rfl, L, _, _, rfl, rfl, e3, lt_line (by rw [List.length_map]; omega), _, _, _, _, _, _, rfl, (s7.trans s1).own hL, ?_⟩
              rw [upd_same, up, List.map_append, show (0 + (k : Int)) = k from Int.zero_add _]; rfl
            · rw [if_neg e, List.append_nil] at up
              exact ⟨_, _, _, _, _, _, rfl, s7.trans s1, by rw [up]; exact e3⟩
        · obtain ⟨o8, o9, o10, o11, o12, o13, rfl, s7, e7⟩ := h
          exact ⟨_, _, _, _, _, _, rfl, s7, by rw [xl] at e7; exact e7⟩
      · rintro _ H7 ⟨o8, o9, o10, o11, o12, o13, rfl, s7, e7⟩
        refine ⟨_, rfl, _, rfl, _, rfl, v, u, bs, l, _, rfl, Tv.keep s7.tk0, hR, by omega, Tu.keep s7.tk0, by omega, fun H8 r s8 t8 => ?_⟩
        have z8 := lfI_shw (bs := bs) (l := l) (m := 0 + (j : Int)) (i := bs.length) (by omega)
        refine ⟨_, _, rfl, RpA.of t8.dp z8 (by decide) (by decide), ?_⟩
        refine ⟨_, rfl, L, _, rfl, .inl ⟨SqL.of (s8 _ _ (by simp) e7), fun p hp => ?_⟩⟩
        refine ⟨_, _, rfl, RpA.of (d := .tuple ((lfI bs l (0 + (j : Int)) bs.length).map PyData.int)) (Tp.dp (.tup upd_same (TpAll.ints _))) z8 (by decide) (by decide), ?_⟩
        refine ⟨rfl, _, rfl, iteNS rfl ?_⟩
        exact ⟨_, _, _, _, _, _, _, _, rfl, (s6.trans s7).trans (s8.trans (Sx.n0 hp))⟩
    · rintro _ H6 ⟨o6, o7, o8, o9, o10, o11, o12, o13, rfl, s6⟩
      have Tu := T5.keep s6.tk0
      have DK := D5.same s6
      have od := od.keep s6 (by simp) s6.tk0 s6.lk0
      have tu : TpE H6 u 40 := TpE.of Tu p5 (by omega)
      obtain ⟨au, ys, rfl, hau, hys⟩ := Tu.tuple
      have yl := hys.len
      rw [List.length_map] at yl
      clear T5 D5 T4 hys Tu
      refine ⟨_, rfl, _, rfl, au, ys, rfl, .inr (SqT.of hau), _, 1, rfl, rfl, D, c, cs5, k5, _, rfl, DK, by omega, by omega, by omega, fun H7 cs7 r s7 D7 r0 r1 => ?_⟩
      have od := od.keep s7 Oac (DK.tk s7) (D7.lk s7)
      have tu := tu.keep (DK.tk s7) (D7.lk s7)
      have hau := DK.tk s7 _ _ hau
      clear DK s7 s6
      -- the values
      refine ⟨_, rfl, _, rfl, au, ys, rfl, .inr (SqT.of hau), fun l1 hl1 => ?_⟩
      have n1 := Sx.n0 (o := .lst ys) hl1
      have ok1 : OkH (upd H7 l1 (.lst ys)) (.ref l1) := ⟨none, .inr (.inr (.inr ⟨l1, ys, rfl, upd_same⟩))⟩
      have od := od.keep n1 (by simp) n1.tk0 n1.lk0
      have tu := tu.keep n1.tk0 n1.lk0
      have hau := n1 _ _ (by simp) hau
      have DK := D7.same n1
      generalize upd H7 l1 (.lst ys) = H8 at ok1 od tu hau DK ⊢
      refine ⟨_, rfl, _, rfl, TpE.cat tu tu (by decide) (fun H9 z9 s9 t9 => ?_)⟩
      have ok1 := ok1.keep s9.tk0 s9.lk0
      have od := od.keep s9 (by simp) s9.tk0 s9.lk0
      have tu := tu.keep s9.tk0 s9.lk0
      have hau := s9 _ _ (by simp) hau
      have DK := DK.same s9
      clear s9 n1 D7 hl1
      refine ⟨by show 2 ≤ sizeLine; decide, fun q1 h1 => ⟨by show 1 ≤ sizeLine; decide, fun q2 h2 => ?_⟩⟩
      have n2 : Sx [] H9 (upd (upd H9 q1 (.tup [.int 0, .int 0])) q2 (.tup [.ref q1])) := (Sx.n0 h1).new h2
      have pk : PairK (upd (upd H9 q1 (.tup [.int 0, .int 0])) q2 (.tup [.ref q1])) (.ref q1) _ := .two (Sx.n0 h2 _ _ (by simp) upd_same)
      have e2 : (upd (upd H9 q1 (.tup [.int 0, .int 0])) q2 (.tup [.ref q1])) q2 = some (.tup [.ref q1]) := upd_same
      have ok1 := ok1.keep n2.tk0 n2.lk0
      have od := od.keep n2 (by simp) n2.tk0 n2.lk0
      have tu := tu.keep n2.tk0 n2.lk0
      have t9 := t9.keep n2.tk0 n2.lk0
      have hau := n2 _ _ (by simp) hau
      have DK := DK.same n2
      generalize upd (upd H9 q1 (.tup [.int 0, .int 0])) q2 (.tup [.ref q1]) = Ha at pk e2 ok1 od tu t9 hau DK ⊢
      refine gC (TpE.rep (m := 41) e2 pk (by decide) (by decide) (fun Hb zb sb tb => ?_))
      refine TpE.cat (t9.keep sb.tk0 sb.lk0) tb (by decide) (fun Hc zc sc tc => ?_)
      have s := sb.trans sc
      have ok1 := ok1.keep s.tk0 s.lk0
      have od := od.keep s (by simp) s.tk0 s.lk0
      have tu := tu.keep s.tk0 s.lk0
      have hau := s _ _ (by simp) hau
      have DK := DK.same s
      have ok5 : OkH Hc zc := tc.hv (by decide)
      clear s sb sc tb tc pk e2 t9 n2 h1 h2
      refine ⟨by show 2 ≤ sizeLine; decide, fun q1 h1 => ⟨by show 1 ≤ sizeLine; decide, fun q2 h2 => ?_⟩⟩
      have n2 : Sx [] Hc (upd (upd Hc q1 (.tup [.int 1, .int 0])) q2 (.tup [.ref q1])) := (Sx.n0 h1).new h2
      have pk : PairK (upd (upd Hc q1 (.tup [.int 1, .int 0])) q2 (.tup [.ref q1])) (.ref q1) _ := .two (Sx.n0 h2 _ _ (by simp) upd_same)
      have e2 : (upd (upd Hc q1 (.tup [.int 1, .int 0])) q2 (.tup [.ref q1])) q2 = some (.tup [.ref q1]) := upd_same
      have ok1 := ok1.keep n2.tk0 n2.lk0
      have ok5 := ok5.keep n2.tk0 n2.lk0
      have od := od.keep n2 (by simp) n2.tk0 n2.lk0
      have tu := tu.keep n2.tk0 n2.lk0
      have hau := n2 _ _ (by simp) hau
      have DK := DK.same n2
      generalize upd (upd Hc q1 (.tup [.int 1, .int 0])) q2 (.tup [.ref q1]) = Hd at pk e2 ok1 ok5 od tu hau DK ⊢
      refine gC (TpE.rep (m := 41) e2 pk (by decide) (by decide) (fun He ze se te => ?_))
      refine ⟨by show 1 ≤ sizeLine; decide, fun q3 h3 => ?_⟩
      have n3 := Sx.n0 (o := .tup [.int 3]) h3
      refine TpE.cat (te.keep n3.tk0 n3.lk0) (TpE.one upd_same (.int 3)) (by decide) (fun Hf zf sf tf => ?_)
      have s := se.trans (n3.trans sf)
      have ok1 := ok1.keep s.tk0 s.lk0
      have ok5 := ok5.keep s.tk0 s.lk0
      have od := od.keep s (by simp) s.tk0 s.lk0
      have tu := tu.keep s.tk0 s.lk0
      have hau := s _ _ (by simp) hau
      have DK := DK.same s
      have ok6 : OkH Hf zf := tf.hv (by decide)
      clear s se sf te tf pk e2 n2 n3 h1 h2 h3
      refine ⟨by show 7 ≤ sizeLine; decide, fun S hS => ?_⟩
      obtain ⟨SD, Sc⟩ := DK.nw hS
      have SO := od.nw hS
      have n4 := Sx.n0 (o := .lst [.ref au, .ref l1, .non, .int 7, .str "heard", zc, zf]) hS
      have ok0 : OkH Hf (.ref au) := tu.hv (by decide)
      have ok0 := ok0.keep n4.tk0 n4.lk0
      have ok1 := ok1.keep n4.tk0 n4.lk0
      have ok5 := ok5.keep n4.tk0 n4.lk0
      have ok6 := ok6.keep n4.tk0 n4.lk0
      have al : SomeK (upd Hf S (.lst [.ref au, .ref l1, .non, .int 7, .str "heard", zc, zf])) S 7 := ⟨_, upd_same, rfl, fun x hx => by
        simp only [List.not_mem_nil, List.mem_cons, or_false] at hx
        rcases hx with rfl | rfl | rfl | rfl | rfl | rfl | rfl
        · exact ok0
        · exact ok1
        · exact ⟨none, .inl rfl⟩
        · exact ⟨none, .inr (.inl ⟨_, rfl⟩)⟩
        · exact ⟨none, .inr (.inr (.inl ⟨_, rfl⟩))⟩
        · exact ok5
        · exact ok6⟩
      have od := od.keep n4 (by simp) n4.tk0 n4.lk0
      have tu := tu.keep n4.tk0 n4.lk0
      have hau := n4 _ _ (by simp) hau
      have DK := DK.same n4
      generalize upd Hf S (.lst [.ref au, .ref l1, .non, .int 7, .str "heard", zc, zf]) = Hg at al od tu hau DK ⊢
      clear ok0 ok1 ok5 ok6 n4 hS
      have Sac : S ∉ [D, c] := by simp [SD, Sc]
      have SO' : O ∉ [S] := by simp [SO.symm]
      obtain ⟨vals, eS, vl, va⟩ := id al
      refine ⟨_, rfl, .inl ⟨rfl, _, SqL.of eS⟩, ?_⟩
      refine ⟨_, rfl, _, rfl, _, rfl, TpE.cut tu (fun Ha0 z1 sa t1 => ?_)⟩
      have al := al.keep sa (by simp) sa.tk0 sa.lk0
      have od := od.keep sa (by simp) sa.tk0 sa.lk0
      have tu := tu.keep sa.tk0 sa.lk0
      have hau := sa _ _ (by simp) hau
      have DK := DK.same sa
      clear vals eS vl va sa
      obtain ⟨xo, eo, ne, lo, ho⟩ := id od.od
      refine ⟨_, rfl, _, rfl, D, c, _, _, _, rfl, DK, by omega, .inl ⟨O, xo, rfl, SqL.of eo, ne, by omega, OD, Oc, fun Hb0 cs8 x sb Db hx => ?_⟩⟩
      have px := (ho x hx).keep (DK.tk sb) (Db.lk sb)
      have al := al.keep sb Sac (DK.tk sb) (Db.lk sb)
      have od := od.keep sb Oac (DK.tk sb) (Db.lk sb)
      have tu := tu.keep (DK.tk sb) (Db.lk sb)
      have t1 := t1.keep (DK.tk sb) (Db.lk sb)
      have hau := DK.tk sb _ _ hau
      clear DK xo eo ne lo ho hx sb
      have DK := Db
      clear Db
      refine ⟨by show 1 ≤ sizeLine; decide, fun q4 hq => ?_⟩
      have n1 := Sx.n0 (o := .tup [x]) hq
      have t2 : TpE (upd Hb0 q4 (.tup [x])) (.ref q4) 1 := TpE.one upd_same (px.keep n1.tk0 n1.lk0)
      have al := al.keep n1 (by simp) n1.tk0 n1.lk0
      have od := od.keep n1 (by simp) n1.tk0 n1.lk0
      have tu := tu.keep n1.tk0 n1.lk0
      have hau := n1 _ _ (by simp) hau
      have DK := DK.same n1
      have t1 := t1.keep n1.tk0 n1.lk0
      generalize upd Hb0 q4 (.tup [x]) = Hc0 at t1 t2 al od tu hau DK ⊢
      clear n1 px hq
      refine TpE.cat t1 t2 (by decide) (fun Hd0 z2 sc t3 => ?_)
      have al := al.keep sc (by simp) sc.tk0 sc.lk0
      have od := od.keep sc (by simp) sc.tk0 sc.lk0
      have tu := tu.keep sc.tk0 sc.lk0
      have hau := sc _ _ (by simp) hau
      have DK := DK.same sc
      clear sc t1 t2
      refine ⟨_, rfl, _, rfl, _, rfl, gNo (TpE.cut tu (fun He0 z3 sd t4 => ?_))⟩
      have t3 := t3.keep sd.tk0 sd.lk0
      have al := al.keep sd (by simp) sd.tk0 sd.lk0
      have od := od.keep sd (by simp) sd.tk0 sd.lk0
      have tu := tu.keep sd.tk0 sd.lk0
      have hau := sd _ _ (by simp) hau
      have DK := DK.same sd
      refine TpE.cat t3 t4 (by decide) (fun Hf0 z4 se t5 => ?_)
      have al := al.keep se (by simp) se.tk0 se.lk0
      have od := od.keep se (by simp) se.tk0 se.lk0
      have tu := tu.keep se.tk0 se.lk0
      have hau := se _ _ (by simp) hau
      have DK := DK.same se
      clear sd t3 t4 se
      have oz : OkH Hf0 z4 := t5.hv (by decide)
      obtain ⟨vals, eS, vl, va⟩ := id al
      refine ⟨S, vals, _, rfl, rfl, eS, lt_line (by omega), ?_⟩
      have al : SomeK (upd Hf0 S (.lst (vals ++ [z4]))) S 8 := al.add eS (ys := [z4]) (fun y hy => by rw [List.mem_singleton.mp hy]; exact oz)
      have sS : Sx [S] Hf0 (upd Hf0 S (.lst (vals ++ [z4]))) := (Sx.refl _).put (by simp)
      have kS : Tk Hf0 (upd Hf0 S (.lst (vals ++ [z4]))) := Tk.lst eS
      have lS : Lk Hf0 (upd Hf0 S (.lst (vals ++ [z4]))) := Lk.lst eS
      have od := od.keep sS SO' kS lS
      have tu := tu.keep kS lS
      have hau := kS _ _ hau
      have DK := DK.sx sS (by simp [SD.symm]) (by simp [Sc.symm])
      generalize upd Hf0 S (.lst (vals ++ [z4])) = Hg0 at al od tu hau DK ⊢
      clear oz sS kS lS eS vl va t5
      obtain ⟨vals, eS, vl, va⟩ := id al
      refine ⟨_, rfl, .inl ⟨rfl, _, SqL.of eS⟩, ?_⟩
      refine ⟨_, rfl, _, rfl, _, rfl, TpE.cut tu (fun Ha1 z1 sa t1 => ?_)⟩
      have al := al.keep sa (by simp) sa.tk0 sa.lk0
      have od := od.keep sa (by simp) sa.tk0 sa.lk0
      have tu := tu.keep sa.tk0 sa.lk0
      have hau := sa _ _ (by simp) hau
      have DK := DK.same sa
      clear vals eS vl va sa
      obtain ⟨xo, eo, ne, lo, ho⟩ := id od.od
      refine ⟨_, rfl, _, rfl, D, c, _, _, _, rfl, DK, by omega, .inl ⟨O, xo, rfl, SqL.of eo, ne, by omega, OD, Oc, fun Hb1 cs9 x sb Db hx => ?_⟩⟩
      have px := (ho x hx).keep (DK.tk sb) (Db.lk sb)
      have al := al.keep sb Sac (DK.tk sb) (Db.lk sb)
      have od := od.keep sb Oac (DK.tk sb) (Db.lk sb)
      have tu := tu.keep (DK.tk sb) (Db.lk sb)
      have t1 := t1.keep (DK.tk sb) (Db.lk sb)
      have hau := DK.tk sb _ _ hau
      clear DK xo eo ne lo ho hx sb
      have DK := Db
      clear Db
      refine ⟨by show 1 ≤ sizeLine; decide, fun q4 hq => ?_⟩
      have n1 := Sx.n0 (o := .tup [x]) hq
      have t2 : TpE (upd Hb1 q4 (.tup [x])) (.ref q4) 1 := TpE.one upd_same (px.keep n1.tk0 n1.lk0)
      have al := al.keep n1 (by simp) n1.tk0 n1.lk0
      have od := od.keep n1 (by simp) n1.tk0 n1.lk0
      have tu := tu.keep n1.tk0 n1.lk0
      have hau := n1 _ _ (by simp) hau
      have DK := DK.same n1
      have t1 := t1.keep n1.tk0 n1.lk0
      generalize upd Hb1 q4 (.tup [x]) = Hc1 at t1 t2 al od tu hau DK ⊢
      clear n1 px hq
      refine TpE.cat t1 t2 (by decide) (fun Hd1 z2 sc t3 => ?_)
      have al := al.keep sc (by simp) sc.tk0 sc.lk0
      have od := od.keep sc (by simp) sc.tk0 sc.lk0
      have tu := tu.keep sc.tk0 sc.lk0
      have hau := sc _ _ (by simp) hau
      have DK := DK.same sc
      clear sc t1 t2
      refine ⟨_, rfl, _, rfl, _, 1, rfl, rfl, _, rfl, gNo (TpE.cut tu (fun He1 z3 sd t4 => ?_))⟩
      have t3 := t3.keep sd.tk0 sd.lk0
      have al := al.keep sd (by simp) sd.tk0 sd.lk0
      have od := od.keep sd (by simp) sd.tk0 sd.lk0
      have tu := tu.keep sd.tk0 sd.lk0
      have hau := sd _ _ (by simp) hau
      have DK := DK.same sd
      refine TpE.cat t3 t4 (by decide) (fun Hf1 z4 se t5 => ?_)
      have al := al.keep se (by simp) se.tk0 se.lk0
      have od := od.keep se (by simp) se.tk0 se.lk0
      have tu := tu.keep se.tk0 se.lk0
      have hau := se _ _ (by simp) hau
      have DK := DK.same se
      clear sd t3 t4 se
      have oz : OkH Hf1 z4 := t5.hv (by decide)
      obtain ⟨vals, eS, vl, va⟩ := id al
      refine ⟨S, vals, _, rfl, rfl, eS, lt_line (by omega), ?_⟩
      have al : SomeK (upd Hf1 S (.lst (vals ++ [z4]))) S 9 := al.add eS (ys := [z4]) (fun y hy => by rw [List.mem_singleton.mp hy]; exact oz)
      have sS : Sx [S] Hf1 (upd Hf1 S (.lst (vals ++ [z4]))) := (Sx.refl _).put (by simp)
      have kS : Tk Hf1 (upd Hf1 S (.lst (vals ++ [z4]))) := Tk.lst eS
      have lS : Lk Hf1 (upd Hf1 S (.lst (vals ++ [z4]))) := Lk.lst eS
      have od := od.keep sS SO' kS lS
      have tu := tu.keep kS lS
      have hau := kS _ _ hau
      have DK := DK.sx sS (by simp [SD.symm]) (by simp [Sc.symm])
      generalize upd Hf1 S (.lst (vals ++ [z4])) = Hg1 at al od tu hau DK ⊢
      clear oz sS kS lS eS vl va t5
      -- the last two
      obtain ⟨vals, eS, vl, va⟩ := id al
      refine ⟨_, rfl, .inl ⟨rfl, _, SqL.of eS⟩, ?_⟩
      refine ⟨by show 2 ≤ sizeLine; decide, fun q5 h5 => ?_⟩
      have n5 := Sx.n0 (o := .tup [.int 40, .int 41]) h5
      have al := al.keep n5 (by simp) n5.tk0 n5.lk0
      have od := od.keep n5 (by simp) n5.tk0 n5.lk0
      have tu := tu.keep n5.tk0 n5.lk0
      have hau := n5 _ _ (by simp) hau
      have DK := DK.same n5
      have eS := n5 _ _ (by simp) eS
      have e5 : (upd Hg1 q5 (.tup [.int 40, .int 41])) q5 = some (.tup [.int 40, .int 41]) := upd_same
      generalize upd Hg1 q5 (.tup [.int 40, .int 41]) = Hh at al od tu hau DK eS e5 ⊢
      clear n5 va
      refine ⟨q5, rfl, ⟨_, SqT.of e5⟩, fun D' hD' => lc_tup (xs := [.int 40, .int 41]) (fun i H1 => Sx [] Hh H1 ∧ ∃ ws, H1 D' = some (.lst ws) ∧ ws.length = i ∧ ∀ x ∈ ws, OkH H1 x) ⟨Sx.n0 hD', [], upd_same, rfl, fun x hx => by cases hx⟩ (fun i H1 _ z => SqT.of (z.1 _ _ (by simp) e5)) (fun i x H1 hi z => ?_) (fun H1 z => ?_)⟩
      · obtain ⟨s1, ws, e1, wl, wa⟩ := z
        obtain ⟨m, rfl, m0, m1⟩ : ∃ m : Int, x = .int m ∧ 40 ≤ m ∧ m ≤ 41 := by
          match i, hi with
          | 0, hi => cases hi; exact ⟨_, rfl, by decide, by decide⟩
          | 1, hi => cases hi; exact ⟨_, rfl, by decide, by decide⟩
          | i + 2, hi => simp at hi
        have il : i < 2 := (List.getElem?_eq_some_iff.mp hi).1
        refine gnm ⟨rfl, gYes (iteT ?_)⟩
        have tu := tu.keep s1.tk0 s1.lk0
        have hau := s1 _ _ (by simp) hau
        refine ⟨_, rfl, by show 2 ≤ sizeLine; decide, fun q1 h1 => ⟨by show 1 ≤ sizeLine; decide, fun q2 h2 => ?_⟩⟩
        have n2 : Sx [] H1 (upd (upd H1 q1 (.tup [.int 1, .int 0])) q2 (.tup [.ref q1])) := (Sx.n0 h1).new h2
        have pk : PairK (upd (upd H1 q1 (.tup [.int 1, .int 0])) q2 (.tup [.ref q1])) (.ref q1) _ := .two (Sx.n0 h2 _ _ (by simp) upd_same)
        have e2 : (upd (upd H1 q1 (.tup [.int 1, .int 0])) q2 (.tup [.ref q1])) q2 = some (.tup [.ref q1]) := upd_same
        have tu := tu.keep n2.tk0 n2.lk0
        have hau := n2 _ _ (by simp) hau
        have e1 := n2 _ _ (by simp) e1
        have s2 := s1.trans n2
        have wa : ∀ x ∈ ws, OkH (upd (upd H1 q1 (.tup [.int 1, .int 0])) q2 (.tup [.ref q1])) x := fun x hx => (wa x hx).keep n2.tk0 n2.lk0
        generalize upd (upd H1 q1 (.tup [.int 1, .int 0])) q2 (.tup [.ref q1]) = H2 at pk e2 tu hau e1 s2 wa ⊢
        clear s1 n2 h1 h2
        refine ⟨_, rfl, _, rfl, au, ys, rfl, .inr (SqT.of hau), _, _, rfl, rfl, ?_⟩
        refine TpE.rep e2 pk (by omega) (by omega) (fun H3 z3 s3 t3 => ?_)
        refine TpE.cat (tu.keep s3.tk0 s3.lk0) t3 (by omega) (fun H4 z4 s4 t4 => ?_)
        have s5 := s3.trans s4
        have oz : OkH H4 z4 := t4.hv (by omega)
        have e4 := s5 _ _ (by simp) e1
        refine ⟨ws, e4, lt_line (by omega), (s2.trans s5).own hD', _, upd_same, by rw [List.length_append, wl]; rfl, fun x hx => ?_⟩
        rcases List.mem_append.1 hx with hx | hx
        · exact ((wa x hx).keep s5.tk0 s5.lk0).keep (Tk.lst e4) (Lk.lst e4)
        · rw [List.mem_singleton.mp hx]
          exact oz.keep (Tk.lst e4) (Lk.lst e4)
      · obtain ⟨s1, ws, e1, wl, wa⟩ := z
        have wl : ws.length = 2 := wl
        have al := al.keep s1 (by simp) s1.tk0 s1.lk0
        have od := od.keep s1 (by simp) s1.tk0 s1.lk0
        have DK := DK.same s1
        have eS := s1 _ _ (by simp) eS
        refine ⟨S, D', vals, ws, rfl, rfl, eS, e1, le_line (by omega), ?_⟩
        have al : SomeK (upd H1 S (.lst (vals ++ ws))) S (9 + ws.length) := al.add eS wa
        have sS : Sx [S] H1 (upd H1 S (.lst (vals ++ ws))) := (Sx.refl _).put (by simp)
        have kS : Tk H1 (upd H1 S (.lst (vals ++ ws))) := Tk.lst eS
        have lS : Lk H1 (upd H1 S (.lst (vals ++ ws))) := Lk.lst eS
        have od := od.keep sS SO' kS lS
        have DK := DK.sx sS (by simp [SD.symm]) (by simp [Sc.symm])
        generalize upd H1 S (.lst (vals ++ ws)) = H2 at al od DK ⊢
        clear sS kS lS eS e1 s1 tu hau e5 wa
        obtain ⟨xs, eX, xl, xa⟩ := al
        refine ⟨_, rfl, S, rfl, ⟨_, SqL.of eX⟩, for_list (xs := xs) (fun j σ' H' => ∃ o11, σ' = [some (.ref a), some (.ref D), some (.ref O), some (.int (0 + (i : Int))), some v, some (.ref au), o6, o7, o8, some (.int r), some (.ref S), o11, o12, o13] ∧ Sx [] H2 H')
          ⟨_, rfl, Sx.refl _⟩ (fun j σ' H' _ h => by obtain ⟨_, _, h⟩ := h; exact SqL.of (h _ _ (by simp) eX)) (fun j x σ' H' hx h => ?_) (fun σ' H' h => ?_)⟩
        · obtain ⟨o11, rfl, s3⟩ := h
          obtain ⟨o, hv⟩ := (xa x (List.mem_of_getElem? hx)).keep s3.tk0 s3.lk0
          have zs := hErr_shw hv
          refine gnm ?_
          refine ⟨_, rfl, x, o, rfl, hv, fun H4 r4 s4 t4 => ⟨_, _, rfl, RpA.of t4.dp zs (by decide) (by decide), ?_⟩⟩
          refine ⟨_, rfl, x, o, rfl, hv.keep s4.tk0 s4.lk0, fun H5 r5 s5 t5 => ⟨_, _, rfl, RpA.of t5.dp zs (by decide) (by decide), ?_⟩⟩
          refine ⟨rfl, _, rfl, iteNS rfl ?_⟩
          exact ⟨_, rfl, (s3.trans s4).trans s5⟩
        · obtain ⟨o11, rfl, s3⟩ := h
          exact ⟨_, _, _, _, _, _, _, _, _, _, _, rfl, od.keep s3 (by simp) s3.tk0 s3.lk0, OD, Oc, _, _, DK.same s3, by omega⟩
end
theorem walk_ofEG {l : PySem.W.OpenLaw} {n k : Nat} {q : Program} {loose : List Str} {XP : (Str → Option Value) → Heap → Prop} {YP : World → Heap → Prop} {d : DefRec} {x : Str}
    (hn : l.most = some n) (hn2 : n ≤ sizeLine) (hr : Room k callerA) (hdf : d.params.defaults = [])
    (F : ∀ (w : World) (mg : Str → Option Value) (fa : Addr) (h : PySem.Heap), YP w h → h.Ns mainGlobals mg → mg d.name = some (.ref fa) →
      ∃ (K : PySem.W.Frag) (fd : PySem.FuncData) (sp : Sp), K.In h ∧ (∀ (s : Shared) (u : Value), BindsTo s fd ⟨[u], []⟩ [(x, u)]) ∧
        (∀ (H : Hp) (a : Addr) (ns : List Int), ns.length ≤ n → Only H → SqL K H a (ns.map V.int) → sp [.ref a] H (fun v _ => v = .bl true) E0) ∧ ∀ base : Heap, K.In base → base.Ns mainGlobals mg → FnG l.prog w K mg base k fa fd [x] sp) :
    PySem.W.WalkO q loose XP YP l.row.toRowW d [] (fun g us => PySem.call g us) := by
  refine Att.attach_call hn hdf fun w s₀ s₁ mg mb fa o pm cd doc a vs ns G Y _ _ _ hmg hobj hints hlen hg => ?_
  rcases F w mg fa _ Y G.T.g hmg with ⟨K, fd, sp, KX, hb, hsp, hF⟩
  exact law_callG KX G.T.g G.T.b G.T.builtins G.T.nolimit hg hobj hints (Nat.le_trans hlen hn2) hr hF hb fun H hO hS => hsp H a ns hlen hO hS
/-! ### the head -/
theorem Fun.of {K : PySem.W.Frag} {x qual : Str} {st : Stmt} {kws : List (Str × V)} {f : Addr} {fd : FuncData} (F : FunD K x qual (defArgs st) (defBody st) (defScope st) [] kws f fd) : Fun K x qual st f fd := by
  rcases F.ex with ⟨oc, od, dV, kV, doc, pm, an, cdv, ct, osl, rfl, lk, hcd, hD, hK⟩
  obtain ⟨_, rfl⟩ | ⟨e, _⟩ := hD
  · exact ⟨⟨oc, od, kV, doc, pm, an, cdv, ct, osl, rfl, lk, hcd⟩, F.kp⟩
  · exact absurd rfl e
def dPIsInteger : He.DefD := ⟨("is_integer", none), "is_integer", "is_integer", defArgs sPIsInteger, defBody sPIsInteger, defScope sPIsInteger, [], []⟩
def dPIsBetween : He.DefD := ⟨("is_between", none), "is_between", "is_between", defArgs sPIsBetween, defBody sPIsBetween, defScope sPIsBetween, [], []⟩
def dPBlocksOf : He.DefD := ⟨("blocks_of", none), "blocks_of", "blocks_of", defArgs sPBlocksOf, defBody sPBlocksOf, defScope sPBlocksOf, [], []⟩
def dPEachStatement : He.DefD := ⟨("each_statement", none), "each_statement", "each_statement", defArgs sPEachStatement, defBody sPEachStatement, defScope sPEachStatement, [], []⟩
def dPPlacesIn : He.DefD := ⟨("places_in", none), "places_in", "places_in", defArgs sPPlacesIn, defBody sPPlacesIn, defScope sPPlacesIn, [], []⟩
def dPRun : He.DefD := ⟨("run", none), "run", "run", defArgs sPRun, defBody sPRun, defScope sPRun, [], []⟩
def dPSign : He.DefD := ⟨("sign", none), "sign", "sign", defArgs sPSign, defBody sPSign, defScope sPSign, [], []⟩
def dPNumbered : He.DefD := ⟨("numbered", none), "numbered", "numbered", defArgs sPNumbered, defBody sPNumbered, defScope sPNumbered, [], []⟩
def dPEntered : He.DefD := ⟨("entered", none), "entered", "entered", defArgs sPEntered, defBody sPEntered, defScope sPEntered, [], []⟩
def dPValueOf : He.DefD := ⟨("value_of", none), "value_of", "value_of", defArgs sPValueOf, defBody sPValueOf, defScope sPValueOf, [], []⟩
def dPIsTrue : He.DefD := ⟨("is_true", none), "is_true", "is_true", defArgs sPIsTrue, defBody sPIsTrue, defScope sPIsTrue, [], []⟩
def dPHeardError : He.DefD := ⟨("heard_error", none), "heard_error", "heard_error", defArgs sPHeardError, defBody sPHeardError, defScope sPHeardError, [], []⟩
def dPIsPair : He.DefD := ⟨("is_pair", none), "is_pair", "is_pair", defArgs sPIsPair, defBody sPIsPair, defScope sPIsPair, [], []⟩
def dPLeft : He.DefD := ⟨("left", none), "left", "left", defArgs sPLeft, defBody sPLeft, defScope sPLeft, [], []⟩
def dPWrongIn : He.DefD := ⟨("wrong_in", none), "wrong_in", "wrong_in", defArgs sPWrongIn, defBody sPWrongIn, defScope sPWrongIn, [], []⟩
def dDeck : He.DefD := ⟨("_law_deck", none), "_law_deck", "_law_deck", defArgs sDeck, defBody sDeck, defScope sDeck, [], []⟩
def dDraw : He.DefD := ⟨("_law_draw", none), "_law_draw", "_law_draw", defArgs sDraw, defBody sDraw, defScope sDraw, [], []⟩
def dOne : He.DefD := ⟨("_law_one", none), "_law_one", "_law_one", defArgs sOne, defBody sOne, defScope sOne, [], []⟩
def dNumber : He.DefD := ⟨("_law_number", none), "_law_number", "_law_number", defArgs sNumber, defBody sNumber, defScope sNumber, [], []⟩
def dNames : He.DefD := ⟨("_law_names", none), "_law_names", "_law_names", defArgs sNames, defBody sNames, defScope sNames, [], []⟩
def dExpression : He.DefD := ⟨("_law_expression", none), "_law_expression", "_law_expression", defArgs sExpression, defBody sExpression, defScope sExpression, [], []⟩
def dTest : He.DefD := ⟨("_law_test", none), "_law_test", "_law_test", defArgs sTest, defBody sTest, defScope sTest, [], []⟩
def dRow : He.DefD := ⟨("_law_row", none), "_law_row", "_law_row", defArgs sRow, defBody sRow, defScope sRow, [], []⟩
def dBlock : He.DefD := ⟨("_law_block", none), "_law_block", "_law_block", defArgs sBlock, defBody sBlock, defScope sBlock, [], []⟩
def dProgram : He.DefD := ⟨("_law_program", none), "_law_program", "_law_program", defArgs sProgram, defBody sProgram, defScope sProgram, [], []⟩
def dLittle : He.DefD := ⟨("_law_little", none), "_law_little", "_law_little", defArgs sLittle, defBody sLittle, defScope sLittle, [], []⟩
def dFamily : He.DefD := ⟨("_law_family", none), "_law_family", "_law_family", defArgs sFamily, defBody sFamily, defScope sFamily, [], []⟩
def dValue : He.DefD := ⟨("_law_value", none), "_law_value", "_law_value", defArgs sValue, defBody sValue, defScope sValue, [], []⟩
def dIsTrue : He.DefD := ⟨("_law_is_true", none), "_law_is_true", "_law_is_true", defArgs sIsTrue, defBody sIsTrue, defScope sIsTrue, [], []⟩
def dSign : He.DefD := ⟨("_law_sign", none), "_law_sign", "_law_sign", defArgs sSign, defBody sSign, defScope sSign, [], []⟩
def dSigns : He.DefD := ⟨("_law_signs", none), "_law_signs", "_law_signs", defArgs sSigns, defBody sSigns, defScope sSigns, [], []⟩
def dHeard : He.DefD := ⟨("_law_heard", none), "_law_heard", "_law_heard", defArgs sHeard, defBody sHeard, defScope sHeard, [], []⟩
def dDue : He.DefD := ⟨("_law_due", none), "_law_due", "_law_due", defArgs sDue, defBody sDue, defScope sDue, [], []⟩
def dPLaw : He.DefD := ⟨("law", none), "law", "law", defArgs sPLaw, defBody sPLaw, defScope sPLaw, [], []⟩
def fn0 : List He.DefD := [dPIsInteger, dPIsBetween, dPBlocksOf, dPEachStatement, dPPlacesIn, dPRun, dPSign, dPNumbered, dPEntered, dPValueOf, dPIsTrue, dPHeardError]
def fn1 : List He.DefD := [dPIsPair, dPLeft, dPWrongIn, dDeck, dDraw, dOne, dNumber, dNames, dExpression, dTest, dRow, dBlock]
def fn2 : List He.DefD := [dProgram, dLittle, dFamily, dValue, dIsTrue, dSign, dSigns, dHeard, dDue, dPLaw]
def fn : List He.DefD := fn0 ++ fn1 ++ fn2
def fa0 : List He.Fa := [.glo "is_integer", .glo "is_between", .glo "blocks_of", .glo "each_statement", .glo "places_in", .glo "run", .glo "sign", .glo "numbered", .glo "entered", .glo "value_of", .glo "is_true", .glo "heard_error", .glo "is_pair", .glo "left", .glo "wrong_in", .glo "_law_deck", .glo "_law_draw", .glo "_law_one", .glo "_law_number", .glo "_law_names"]
def fa1 : List He.Fa := [.glo "_law_expression", .glo "_law_test", .glo "_law_row", .glo "_law_block", .glo "_law_program", .glo "_law_little", .glo "_law_family", .glo "_law_value", .glo "_law_is_true", .glo "_law_sign", .glo "_law_signs", .glo "_law_heard", .glo "_law_due", .glo "law", .free "abs", .free "bool", .free "enumerate", .free "int", .free "isinstance", .free "len"]
def fa2 : List He.Fa := [.free "list", .free "range", .free "repr", .free "str", .free "tuple", .int "MAX_HEARD" 40]
def fa : List He.Fa := fa0 ++ fa1 ++ fa2
def loose0 : List PySem.Str := ["is_integer", "is_between", "blocks_of", "each_statement", "places_in", "run", "sign", "numbered", "entered", "value_of", "is_true", "heard_error", "is_pair", "left", "wrong_in", "_law_deck", "_law_draw", "_law_one", "_law_number", "_law_names"]
def loose1 : List PySem.Str := ["_law_expression", "_law_test", "_law_row", "_law_block", "_law_program", "_law_little", "_law_family", "_law_value", "_law_is_true", "_law_sign", "_law_signs", "_law_heard", "_law_due", "MAX_HEARD"]
def looseN : List PySem.Str := loose0 ++ loose1
abbrev R : PySem.W.OpenRow := PySem.W.OpenLaw.row PySem.Challenge.rw_whichheld_k39_what_was_heard
abbrev hookH : PySem.W.Hook := He.hookD 4 fa fn
def obsH (s : PySem.W.SharedT) : He.AlD := He.obsDG 4 fa fn (HandSHeadRun.getT s)
theorem obsH_eq (s : PySem.W.SharedT) : obsH s = hookH.obs s.abs := He.obsDG_eq (HandSHeadRun.getT_eq s)
set_option maxHeartbeats 0 in
theorem run_head (w : World) : HandSHeadRun.RunEq R (PySem.W.view R.prog [39]) hookH obsH 7000 looseN w := by
  intro os; kernel_rfl
set_option maxHeartbeats 0 in
theorem facts {w : World} {P : Program} {K : PySem.W.Frag} {h : Heap} {mg : Str → Option Value} {f : Addr} (X : K.In h) (G : h.Ns mainGlobals mg) (hfa : mg ("law" : Str) = some (.ref f)) (c : He.SaysD fa fn K) :
    ∃ fd : FuncData, (∀ (s : Shared) (v : Value), BindsTo s fd ⟨[v], []⟩ [("_law_script", v)]) ∧ ∀ base : Heap, K.In base → base.Ns mainGlobals mg → FnG P w K mg base 18 f fd ["_law_script"] (spLaw39 K) := by
  obtain ⟨fd_pis_integer, D_pis_integer⟩ := c.def_ 0 (d := dPIsInteger) rfl
  obtain ⟨fd_pis_between, D_pis_between⟩ := c.def_ 1 (d := dPIsBetween) rfl
  obtain ⟨fd_pblocks_of, D_pblocks_of⟩ := c.def_ 2 (d := dPBlocksOf) rfl
  obtain ⟨fd_peach_statement, D_peach_statement⟩ := c.def_ 3 (d := dPEachStatement) rfl
  obtain ⟨fd_pplaces_in, D_pplaces_in⟩ := c.def_ 4 (d := dPPlacesIn) rfl
  obtain ⟨fd_prun, D_prun⟩ := c.def_ 5 (d := dPRun) rfl
  obtain ⟨fd_psign, D_psign⟩ := c.def_ 6 (d := dPSign) rfl
  obtain ⟨fd_pnumbered, D_pnumbered⟩ := c.def_ 7 (d := dPNumbered) rfl
  obtain ⟨fd_pentered, D_pentered⟩ := c.def_ 8 (d := dPEntered) rfl
  obtain ⟨fd_pvalue_of, D_pvalue_of⟩ := c.def_ 9 (d := dPValueOf) rfl
  obtain ⟨fd_pis_true, D_pis_true⟩ := c.def_ 10 (d := dPIsTrue) rfl
  obtain ⟨fd_pheard_error, D_pheard_error⟩ := c.def_ 11 (d := dPHeardError) rfl
  obtain ⟨fd_pis_pair, D_pis_pair⟩ := c.def_ 12 (d := dPIsPair) rfl
  obtain ⟨fd_pleft, D_pleft⟩ := c.def_ 13 (d := dPLeft) rfl
  obtain ⟨fd_pwrong_in, D_pwrong_in⟩ := c.def_ 14 (d := dPWrongIn) rfl
  obtain ⟨fd_deck, D_deck⟩ := c.def_ 15 (d := dDeck) rfl
  obtain ⟨fd_draw, D_draw⟩ := c.def_ 16 (d := dDraw) rfl
  obtain ⟨fd_one, D_one⟩ := c.def_ 17 (d := dOne) rfl
  obtain ⟨fd_number, D_number⟩ := c.def_ 18 (d := dNumber) rfl
  obtain ⟨fd_names, D_names⟩ := c.def_ 19 (d := dNames) rfl
  obtain ⟨fd_expression, D_expression⟩ := c.def_ 20 (d := dExpression) rfl
  obtain ⟨fd_test, D_test⟩ := c.def_ 21 (d := dTest) rfl
  obtain ⟨fd_row, D_row⟩ := c.def_ 22 (d := dRow) rfl
  obtain ⟨fd_block, D_block⟩ := c.def_ 23 (d := dBlock) rfl
  obtain ⟨fd_program, D_program⟩ := c.def_ 24 (d := dProgram) rfl
  obtain ⟨fd_little, D_little⟩ := c.def_ 25 (d := dLittle) rfl
  obtain ⟨fd_family, D_family⟩ := c.def_ 26 (d := dFamily) rfl
  obtain ⟨fd_value, D_value⟩ := c.def_ 27 (d := dValue) rfl
  obtain ⟨fd_is_true, D_is_true⟩ := c.def_ 28 (d := dIsTrue) rfl
  obtain ⟨fd_sign, D_sign⟩ := c.def_ 29 (d := dSign) rfl
  obtain ⟨fd_signs, D_signs⟩ := c.def_ 30 (d := dSigns) rfl
  obtain ⟨fd_heard, D_heard⟩ := c.def_ 31 (d := dHeard) rfl
  obtain ⟨fd_due, D_due⟩ := c.def_ 32 (d := dDue) rfl
  obtain ⟨fd_law, D_law⟩ := c.def_ 33 (d := dPLaw) rfl
  have e := hfa.symm.trans (He.glo_ok X G (c.fact 33 (f := .glo "law") rfl))
  cases e
  have bl := FunD.bindsA (ps := ["_law_script"]) D_law fun _ _ _ _ _ _ us hl => match us, hl with | [_], _ => rfl
  refine ⟨fd_law, fun s v => bl s [v] rfl, fun base _ _ => ?_⟩
  have F_pis_integer : Fun K "is_integer" "is_integer" sPIsInteger (He.ga K "is_integer") fd_pis_integer := Fun.of D_pis_integer
  have b_pis_integer : Binds K fd_pis_integer ["value"] [] := F_pis_integer.binds (ps := ["value"]) fun _ _ _ _ _ _ us hl => match us, hl with | [_], _ => rfl
  have F_pis_between : Fun K "is_between" "is_between" sPIsBetween (He.ga K "is_between") fd_pis_between := Fun.of D_pis_between
  have b_pis_between : Binds K fd_pis_between ["value", "low", "high"] [] := F_pis_between.binds (ps := ["value", "low", "high"]) fun _ _ _ _ _ _ us hl => match us, hl with | [_, _, _], _ => rfl
  have F_pblocks_of : Fun K "blocks_of" "blocks_of" sPBlocksOf (He.ga K "blocks_of") fd_pblocks_of := Fun.of D_pblocks_of
  have b_pblocks_of : Binds K fd_pblocks_of ["statement"] [] := F_pblocks_of.binds (ps := ["statement"]) fun _ _ _ _ _ _ us hl => match us, hl with | [_], _ => rfl
  have F_peach_statement : Fun K "each_statement" "each_statement" sPEachStatement (He.ga K "each_statement") fd_peach_statement := Fun.of D_peach_statement
  have b_peach_statement : Binds K fd_peach_statement ["program"] [] := F_peach_statement.binds (ps := ["program"]) fun _ _ _ _ _ _ us hl => match us, hl with | [_], _ => rfl
  have F_pplaces_in : Fun K "places_in" "places_in" sPPlacesIn (He.ga K "places_in") fd_pplaces_in := Fun.of D_pplaces_in
  have b_pplaces_in : Binds K fd_pplaces_in ["block"] [] := F_pplaces_in.binds (ps := ["block"]) fun _ _ _ _ _ _ us hl => match us, hl with | [_], _ => rfl
  have F_prun : Fun K "run" "run" sPRun (He.ga K "run") fd_prun := Fun.of D_prun
  have b_prun : Binds K fd_prun ["program", "number"] [] := F_prun.binds (ps := ["program", "number"]) fun _ _ _ _ _ _ us hl => match us, hl with | [_, _], _ => rfl
  have F_psign : Fun K "sign" "sign" sPSign (He.ga K "sign") fd_psign := Fun.of D_psign
  have b_psign : Binds K fd_psign ["program", "number"] [] := F_psign.binds (ps := ["program", "number"]) fun _ _ _ _ _ _ us hl => match us, hl with | [_, _], _ => rfl
  have F_pnumbered : Fun K "numbered" "numbered" sPNumbered (He.ga K "numbered") fd_pnumbered := Fun.of D_pnumbered
  have b_pnumbered : Binds K fd_pnumbered ["block", "place"] [] := F_pnumbered.binds (ps := ["block", "place"]) fun _ _ _ _ _ _ us hl => match us, hl with | [_, _], _ => rfl
  have F_pentered : Fun K "entered" "entered" sPEntered (He.ga K "entered") fd_pentered := Fun.of D_pentered
  have b_pentered : Binds K fd_pentered ["statement", "place", "names"] [] := F_pentered.binds (ps := ["statement", "place", "names"]) fun _ _ _ _ _ _ us hl => match us, hl with | [_, _, _], _ => rfl
  have F_pvalue_of : Fun K "value_of" "value_of" sPValueOf (He.ga K "value_of") fd_pvalue_of := Fun.of D_pvalue_of
  have b_pvalue_of : Binds K fd_pvalue_of ["expression", "names"] [] := F_pvalue_of.binds (ps := ["expression", "names"]) fun _ _ _ _ _ _ us hl => match us, hl with | [_, _], _ => rfl
  have F_pis_true : Fun K "is_true" "is_true" sPIsTrue (He.ga K "is_true") fd_pis_true := Fun.of D_pis_true
  have b_pis_true : Binds K fd_pis_true ["test", "names"] [] := F_pis_true.binds (ps := ["test", "names"]) fun _ _ _ _ _ _ us hl => match us, hl with | [_, _], _ => rfl
  have F_pheard_error : Fun K "heard_error" "heard_error" sPHeardError (He.ga K "heard_error") fd_pheard_error := Fun.of D_pheard_error
  have b_pheard_error : Binds K fd_pheard_error ["value"] [] := F_pheard_error.binds (ps := ["value"]) fun _ _ _ _ _ _ us hl => match us, hl with | [_], _ => rfl
  have F_pis_pair : Fun K "is_pair" "is_pair" sPIsPair (He.ga K "is_pair") fd_pis_pair := Fun.of D_pis_pair
  have b_pis_pair : Binds K fd_pis_pair ["value"] [] := F_pis_pair.binds (ps := ["value"]) fun _ _ _ _ _ _ us hl => match us, hl with | [_], _ => rfl
  have F_pleft : Fun K "left" "left" sPLeft (He.ga K "left") fd_pleft := Fun.of D_pleft
  have b_pleft : Binds K fd_pleft ["family", "heard", "lies"] [] := F_pleft.binds (ps := ["family", "heard", "lies"]) fun _ _ _ _ _ _ us hl => match us, hl with | [_, _, _], _ => rfl
  have F_pwrong_in : Fun K "wrong_in" "wrong_in" sPWrongIn (He.ga K "wrong_in") fd_pwrong_in := Fun.of D_pwrong_in
  have b_pwrong_in : Binds K fd_pwrong_in ["program", "heard"] [] := F_pwrong_in.binds (ps := ["program", "heard"]) fun _ _ _ _ _ _ us hl => match us, hl with | [_, _], _ => rfl
  have F_deck : Fun K "_law_deck" "_law_deck" sDeck (He.ga K "_law_deck") fd_deck := Fun.of D_deck
  have b_deck : Binds K fd_deck ["_law_script"] [] := F_deck.binds (ps := ["_law_script"]) fun _ _ _ _ _ _ us hl => match us, hl with | [_], _ => rfl
  have F_draw : Fun K "_law_draw" "_law_draw" sDraw (He.ga K "_law_draw") fd_draw := Fun.of D_draw
  have b_draw : Binds K fd_draw ["_law_deck_here", "_law_many"] [] := F_draw.binds (ps := ["_law_deck_here", "_law_many"]) fun _ _ _ _ _ _ us hl => match us, hl with | [_, _], _ => rfl
  have F_one : Fun K "_law_one" "_law_one" sOne (He.ga K "_law_one") fd_one := Fun.of D_one
  have b_one : Binds K fd_one ["_law_deck_here", "_law_items"] [] := F_one.binds (ps := ["_law_deck_here", "_law_items"]) fun _ _ _ _ _ _ us hl => match us, hl with | [_, _], _ => rfl
  have F_number : Fun K "_law_number" "_law_number" sNumber (He.ga K "_law_number") fd_number := Fun.of D_number
  have b_number : Binds K fd_number ["_law_deck_here"] [] := F_number.binds (ps := ["_law_deck_here"]) fun _ _ _ _ _ _ us hl => match us, hl with | [_], _ => rfl
  have F_names : Fun K "_law_names" "_law_names" sNames (He.ga K "_law_names") fd_names := Fun.of D_names
  have b_names : Binds K fd_names ["_law_deck_here"] [] := F_names.binds (ps := ["_law_deck_here"]) fun _ _ _ _ _ _ us hl => match us, hl with | [_], _ => rfl
  have F_expression : Fun K "_law_expression" "_law_expression" sExpression (He.ga K "_law_expression") fd_expression := Fun.of D_expression
  have b_expression : Binds K fd_expression ["_law_deck_here", "_law_names_here", "_law_deep"] [] := F_expression.binds (ps := ["_law_deck_here", "_law_names_here", "_law_deep"]) fun _ _ _ _ _ _ us hl => match us, hl with | [_, _, _], _ => rfl
  have F_test : Fun K "_law_test" "_law_test" sTest (He.ga K "_law_test") fd_test := Fun.of D_test
  have b_test : Binds K fd_test ["_law_deck_here", "_law_names_here", "_law_room", "_law_times"] [] := F_test.binds (ps := ["_law_deck_here", "_law_names_here", "_law_room", "_law_times"]) fun _ _ _ _ _ _ us hl => match us, hl with | [_, _, _, _], _ => rfl
  have F_row : Fun K "_law_row" "_law_row" sRow (He.ga K "_law_row") fd_row := Fun.of D_row
  have b_row : Binds K fd_row ["_law_deck_here", "_law_names_here", "_law_room", "_law_times", "_law_depth"] [] := F_row.binds (ps := ["_law_deck_here", "_law_names_here", "_law_room", "_law_times", "_law_depth"]) fun _ _ _ _ _ _ us hl => match us, hl with | [_, _, _, _, _], _ => rfl
  have F_block : Fun K "_law_block" "_law_block" sBlock (He.ga K "_law_block") fd_block := Fun.of D_block
  have b_block : Binds K fd_block ["_law_deck_here", "_law_names_here", "_law_room", "_law_times", "_law_depth"] [] := F_block.binds (ps := ["_law_deck_here", "_law_names_here", "_law_room", "_law_times", "_law_depth"]) fun _ _ _ _ _ _ us hl => match us, hl with | [_, _, _, _, _], _ => rfl
  have F_program : Fun K "_law_program" "_law_program" sProgram (He.ga K "_law_program") fd_program := Fun.of D_program
  have b_program : Binds K fd_program ["_law_deck_here", "_law_names_here"] [] := F_program.binds (ps := ["_law_deck_here", "_law_names_here"]) fun _ _ _ _ _ _ us hl => match us, hl with | [_, _], _ => rfl
  have F_little : Fun K "_law_little" "_law_little" sLittle (He.ga K "_law_little") fd_little := Fun.of D_little
  have b_little : Binds K fd_little ["_law_deck_here", "_law_names_here"] [] := F_little.binds (ps := ["_law_deck_here", "_law_names_here"]) fun _ _ _ _ _ _ us hl => match us, hl with | [_, _], _ => rfl
  have F_family : Fun K "_law_family" "_law_family" sFamily (He.ga K "_law_family") fd_family := Fun.of D_family
  have b_family : Binds K fd_family ["_law_deck_here", "_law_names_here", "_law_most"] [] := F_family.binds (ps := ["_law_deck_here", "_law_names_here", "_law_most"]) fun _ _ _ _ _ _ us hl => match us, hl with | [_, _, _], _ => rfl
  have F_value : Fun K "_law_value" "_law_value" sValue (He.ga K "_law_value") fd_value := Fun.of D_value
  have b_value : Binds K fd_value ["_law_names_here", "_law_expression_here"] [] := F_value.binds (ps := ["_law_names_here", "_law_expression_here"]) fun _ _ _ _ _ _ us hl => match us, hl with | [_, _], _ => rfl
  have F_is_true : Fun K "_law_is_true" "_law_is_true" sIsTrue (He.ga K "_law_is_true") fd_is_true := Fun.of D_is_true
  have b_is_true : Binds K fd_is_true ["_law_names_here", "_law_test_here"] [] := F_is_true.binds (ps := ["_law_names_here", "_law_test_here"]) fun _ _ _ _ _ _ us hl => match us, hl with | [_, _], _ => rfl
  have F_sign : Fun K "_law_sign" "_law_sign" sSign (He.ga K "_law_sign") fd_sign := Fun.of D_sign
  have b_sign : Binds K fd_sign ["_law_program_here", "_law_number_here"] [] := F_sign.binds (ps := ["_law_program_here", "_law_number_here"]) fun _ _ _ _ _ _ us hl => match us, hl with | [_, _], _ => rfl
  have F_signs : Fun K "_law_signs" "_law_signs" sSigns (He.ga K "_law_signs") fd_signs := Fun.of D_signs
  have b_signs : Binds K fd_signs ["_law_family_here", "_law_number_here"] [] := F_signs.binds (ps := ["_law_family_here", "_law_number_here"]) fun _ _ _ _ _ _ us hl => match us, hl with | [_, _], _ => rfl
  have F_heard : Fun K "_law_heard" "_law_heard" sHeard (He.ga K "_law_heard") fd_heard := Fun.of D_heard
  have b_heard : Binds K fd_heard ["_law_deck_here", "_law_family_here", "_law_many"] [] := F_heard.binds (ps := ["_law_deck_here", "_law_family_here", "_law_many"]) fun _ _ _ _ _ _ us hl => match us, hl with | [_, _, _], _ => rfl
  have F_due : Fun K "_law_due" "_law_due" sDue (He.ga K "_law_due") fd_due := Fun.of D_due
  have b_due : Binds K fd_due ["_law_value_here"] [] := F_due.binds (ps := ["_law_value_here"]) fun _ _ _ _ _ _ us hl => match us, hl with | [_], _ => rfl
  have F_law : Fun K "law" "law" sPLaw (He.ga K "law") fd_law := Fun.of D_law
  have m_pis_integer : mg "is_integer" = some (.ref (He.ga K "is_integer")) := He.glo_ok X G (c.fact 0 (f := .glo "is_integer") rfl)
  have m_pis_between : mg "is_between" = some (.ref (He.ga K "is_between")) := He.glo_ok X G (c.fact 1 (f := .glo "is_between") rfl)
  have m_pblocks_of : mg "blocks_of" = some (.ref (He.ga K "blocks_of")) := He.glo_ok X G (c.fact 2 (f := .glo "blocks_of") rfl)
  have m_peach_statement : mg "each_statement" = some (.ref (He.ga K "each_statement")) := He.glo_ok X G (c.fact 3 (f := .glo "each_statement") rfl)
  have m_pplaces_in : mg "places_in" = some (.ref (He.ga K "places_in")) := He.glo_ok X G (c.fact 4 (f := .glo "places_in") rfl)
  have m_prun : mg "run" = some (.ref (He.ga K "run")) := He.glo_ok X G (c.fact 5 (f := .glo "run") rfl)
  have m_psign : mg "sign" = some (.ref (He.ga K "sign")) := He.glo_ok X G (c.fact 6 (f := .glo "sign") rfl)
  have m_pnumbered : mg "numbered" = some (.ref (He.ga K "numbered")) := He.glo_ok X G (c.fact 7 (f := .glo "numbered") rfl)
  have m_pentered : mg "entered" = some (.ref (He.ga K "entered")) := He.glo_ok X G (c.fact 8 (f := .glo "entered") rfl)
  have m_pvalue_of : mg "value_of" = some (.ref (He.ga K "value_of")) := He.glo_ok X G (c.fact 9 (f := .glo "value_of") rfl)
  have m_pis_true : mg "is_true" = some (.ref (He.ga K "is_true")) := He.glo_ok X G (c.fact 10 (f := .glo "is_true") rfl)
  have m_pheard_error : mg "heard_error" = some (.ref (He.ga K "heard_error")) := He.glo_ok X G (c.fact 11 (f := .glo "heard_error") rfl)
  have m_pis_pair : mg "is_pair" = some (.ref (He.ga K "is_pair")) := He.glo_ok X G (c.fact 12 (f := .glo "is_pair") rfl)
  have m_pleft : mg "left" = some (.ref (He.ga K "left")) := He.glo_ok X G (c.fact 13 (f := .glo "left") rfl)
  have m_pwrong_in : mg "wrong_in" = some (.ref (He.ga K "wrong_in")) := He.glo_ok X G (c.fact 14 (f := .glo "wrong_in") rfl)
  have m_deck : mg "_law_deck" = some (.ref (He.ga K "_law_deck")) := He.glo_ok X G (c.fact 15 (f := .glo "_law_deck") rfl)
  have m_draw : mg "_law_draw" = some (.ref (He.ga K "_law_draw")) := He.glo_ok X G (c.fact 16 (f := .glo "_law_draw") rfl)
  have m_one : mg "_law_one" = some (.ref (He.ga K "_law_one")) := He.glo_ok X G (c.fact 17 (f := .glo "_law_one") rfl)
  have m_number : mg "_law_number" = some (.ref (He.ga K "_law_number")) := He.glo_ok X G (c.fact 18 (f := .glo "_law_number") rfl)
  have m_names : mg "_law_names" = some (.ref (He.ga K "_law_names")) := He.glo_ok X G (c.fact 19 (f := .glo "_law_names") rfl)
  have m_expression : mg "_law_expression" = some (.ref (He.ga K "_law_expression")) := He.glo_ok X G (c.fact 20 (f := .glo "_law_expression") rfl)
  have m_test : mg "_law_test" = some (.ref (He.ga K "_law_test")) := He.glo_ok X G (c.fact 21 (f := .glo "_law_test") rfl)
  have m_row : mg "_law_row" = some (.ref (He.ga K "_law_row")) := He.glo_ok X G (c.fact 22 (f := .glo "_law_row") rfl)
  have m_block : mg "_law_block" = some (.ref (He.ga K "_law_block")) := He.glo_ok X G (c.fact 23 (f := .glo "_law_block") rfl)
  have m_program : mg "_law_program" = some (.ref (He.ga K "_law_program")) := He.glo_ok X G (c.fact 24 (f := .glo "_law_program") rfl)
  have m_little : mg "_law_little" = some (.ref (He.ga K "_law_little")) := He.glo_ok X G (c.fact 25 (f := .glo "_law_little") rfl)
  have m_family : mg "_law_family" = some (.ref (He.ga K "_law_family")) := He.glo_ok X G (c.fact 26 (f := .glo "_law_family") rfl)
  have m_value : mg "_law_value" = some (.ref (He.ga K "_law_value")) := He.glo_ok X G (c.fact 27 (f := .glo "_law_value") rfl)
  have m_is_true : mg "_law_is_true" = some (.ref (He.ga K "_law_is_true")) := He.glo_ok X G (c.fact 28 (f := .glo "_law_is_true") rfl)
  have m_sign : mg "_law_sign" = some (.ref (He.ga K "_law_sign")) := He.glo_ok X G (c.fact 29 (f := .glo "_law_sign") rfl)
  have m_signs : mg "_law_signs" = some (.ref (He.ga K "_law_signs")) := He.glo_ok X G (c.fact 30 (f := .glo "_law_signs") rfl)
  have m_heard : mg "_law_heard" = some (.ref (He.ga K "_law_heard")) := He.glo_ok X G (c.fact 31 (f := .glo "_law_heard") rfl)
  have m_due : mg "_law_due" = some (.ref (He.ga K "_law_due")) := He.glo_ok X G (c.fact 32 (f := .glo "_law_due") rfl)
  have z_abs : mg "abs" = none := He.free_ok X G (c.fact 34 (f := .free "abs") rfl)
  have z_bool : mg "bool" = none := He.free_ok X G (c.fact 35 (f := .free "bool") rfl)
  have z_enumerate : mg "enumerate" = none := He.free_ok X G (c.fact 36 (f := .free "enumerate") rfl)
  have z_int : mg "int" = none := He.free_ok X G (c.fact 37 (f := .free "int") rfl)
  have z_isinstance : mg "isinstance" = none := He.free_ok X G (c.fact 38 (f := .free "isinstance") rfl)
  have z_len : mg "len" = none := He.free_ok X G (c.fact 39 (f := .free "len") rfl)
  have z_list : mg "list" = none := He.free_ok X G (c.fact 40 (f := .free "list") rfl)
  have z_range : mg "range" = none := He.free_ok X G (c.fact 41 (f := .free "range") rfl)
  have z_repr : mg "repr" = none := He.free_ok X G (c.fact 42 (f := .free "repr") rfl)
  have z_str : mg "str" = none := He.free_ok X G (c.fact 43 (f := .free "str") rfl)
  have z_tuple : mg "tuple" = none := He.free_ok X G (c.fact 44 (f := .free "tuple") rfl)
  obtain ⟨t_MAX_HEARD, m_MAX_HEARD⟩ := He.int_ok X G (c.fact 45 (f := .int "MAX_HEARD" 40) rfl)
  have G_deck : FnOk P w K mg base CX0 1 (He.ga K "_law_deck") fd_deck ["_law_script"] (spDeck K) := by apply ok_deck (k := 0) <;> assumption
  have G_draw : FnOk P w K mg base CX0 1 (He.ga K "_law_draw") fd_draw ["_law_deck_here", "_law_many"] spDraw := by apply ok_draw (k := 0) <;> assumption
  have G_one : FnOk P w K mg base CX0 2 (He.ga K "_law_one") fd_one ["_law_deck_here", "_law_items"] (spOne K) := by apply ok_one (k := 0) <;> assumption
  have G_expr : ∀ d : Nat, FnOk P w K mg base CX0 (d + 2) (He.ga K "_law_expression") fd_expression ["_law_deck_here", "_law_names_here", "_law_deep"] (spExpr K d) := by apply ok_expr <;> assumption
  have G_expr3 : FnOk P w K mg base CX0 5 (He.ga K "_law_expression") fd_expression ["_law_deck_here", "_law_names_here", "_law_deep"] (spExpr K 3) := G_expr 3
  have G_expr2 : FnOk P w K mg base CX0 4 (He.ga K "_law_expression") fd_expression ["_law_deck_here", "_law_names_here", "_law_deep"] (spExpr K 2) := G_expr 2
  have G_test : FnOk P w K mg base CX0 6 (He.ga K "_law_test") fd_test ["_law_deck_here", "_law_names_here", "_law_room", "_law_times"] (spTest K) := by apply ok_test <;> assumption
  have G_block : ∀ d : Nat, d ≤ 4 → FnOk P w K mg base CX0 (6 + 2 * d) (He.ga K "_law_block") fd_block ["_law_deck_here", "_law_names_here", "_law_room", "_law_times", "_law_depth"] (spBlock K d) := by
    intro d
    induction d with
    | zero => exact fun _ => ok_block0 (k := 5) F_block
    | succ d ih =>
      intro hd
      have G_block := ih (by omega)
      have G_row : FnOk P w K mg base CX0 (6 + 2 * d + 1) (He.ga K "_law_row") fd_row ["_law_deck_here", "_law_names_here", "_law_room", "_law_times", "_law_depth"] (spRow K d) := by apply ok_row <;> assumption
      have hd3 : d ≤ 3 := by omega
      exact (show FnOk P w K mg base CX0 (6 + 2 * d + 1 + 1) (He.ga K "_law_block") fd_block _ (spBlock K (d + 1)) by apply ok_block hd3 <;> assumption)
  have G_block4 : FnOk P w K mg base CX0 14 (He.ga K "_law_block") fd_block ["_law_deck_here", "_law_names_here", "_law_room", "_law_times", "_law_depth"] (spBlock K 4) := G_block 4 (by omega)
  have G_program : FnOk P w K mg base CX0 15 (He.ga K "_law_program") fd_program ["_law_deck_here", "_law_names_here"] (spProg9 K) := by apply ok_program <;> assumption
  have G_names : FnOk P w K mg base CX0 3 (He.ga K "_law_names") fd_names ["_law_deck_here"] (spNames K) := by apply ok_names (k := 0) <;> assumption
  have G_number : FnOk P w K mg base CX0 3 (He.ga K "_law_number") fd_number ["_law_deck_here"] spNumber := by apply ok_number <;> assumption
  have G_little : FnOk P w K mg base CX0 16 (He.ga K "_law_little") fd_little ["_law_deck_here", "_law_names_here"] (spLittle K) := by apply ok_little <;> assumption
  have G_family : FnOk P w K mg base CX0 17 (He.ga K "_law_family") fd_family ["_law_deck_here", "_law_names_here", "_law_most"] (spFamily K) := by apply ok_family <;> assumption
  have G_value : ∀ ns, FnOk P w K mg base CX0 5 (He.ga K "_law_value") fd_value ["_law_names_here", "_law_expression_here"] (spVal9 ns 3) := fun ns => FnOk.up (ok_val9 F_value b_value m_value z_isinstance z_int z_str 3) (by omega)
  have G_is_true : ∀ ns, FnOk P w K mg base CX0 8 (He.ga K "_law_is_true") fd_is_true ["_law_names_here", "_law_test_here"] (spTru9 ns 3) := fun ns => ok_tru9 F_is_true F_value b_is_true b_value m_is_true m_value z_int (G_value ns) 3
  have G_sign : FnOk P w K mg base CX0 9 (He.ga K "_law_sign") fd_sign ["_law_program_here", "_law_number_here"] spSig9A := FnOk.ex fun ns => ok_sig9 F_sign F_value F_is_true (G_value ns) (G_is_true ns) b_value b_is_true m_value m_is_true z_range z_list z_int
  have G_oneT : FnOk P w K mg base CX0 2 (He.ga K "_law_one") fd_one ["_law_deck_here", "_law_items"] spOneT := by apply ok_oneT (k := 0) <;> assumption
  have G_heard : FnOk P w K mg base CX0 10 (He.ga K "_law_heard") fd_heard ["_law_deck_here", "_law_family_here", "_law_many"] spHeardG := by apply ok_heardG <;> assumption
  have G_due : FnOk P w K mg base CX0 1 (He.ga K "_law_due") fd_due ["_law_value_here"] spHeardE := ok_due (k := 0) F_due z_isinstance z_tuple z_int z_bool z_len z_range
  have G_pis_integer : FnOk P w K mg base CX0 1 (He.ga K "is_integer") fd_pis_integer ["value"] spIsInt := ok_pis_integer (k := 0) F_pis_integer z_isinstance z_int z_bool
  have G_pblocks_of : FnOk P w K mg base CX0 1 (He.ga K "blocks_of") fd_pblocks_of ["statement"] spBlocks := ok_pblocks_of (k := 0) F_pblocks_of
  have G_peach : GFn P w K mg base 2 (He.ga K "each_statement") fd_peach_statement ["program"] spEach := ok_peach F_peach_statement F_pblocks_of G_pblocks_of b_pblocks_of m_pblocks_of
  have G_pplaces : FnOk P w K mg base CX0 6 (He.ga K "places_in") fd_pplaces_in ["block"] spPlaces := ok_pplaces F_pplaces_in F_peach_statement G_peach b_peach_statement m_peach_statement z_len z_list
  have G_pvalue : ∀ ns, FnOk P w K mg base CX0 5 (He.ga K "value_of") fd_pvalue_of ["expression", "names"] (spValue ns 3) := fun ns => ok_pvalue F_pvalue_of F_pis_integer G_pis_integer b_pvalue_of b_pis_integer m_pvalue_of m_pis_integer z_isinstance z_str 3
  have G_ptrue : ∀ ns, FnOk P w K mg base CX0 8 (He.ga K "is_true") fd_pis_true ["test", "names"] (spTrue ns 3) := fun ns => ok_ptrue F_pis_true F_pvalue_of b_pis_true b_pvalue_of m_pis_true m_pvalue_of (G_pvalue ns) 3
  have G_pnumbered : FnOk P w K mg base CX0 7 (He.ga K "numbered") fd_pnumbered ["block", "place"] spNumbered := ok_pnumbered F_pnumbered F_pplaces_in G_pplaces b_pplaces_in m_pplaces_in
  have G_pentered : ∀ ns, FnOk P w K mg base CX0 9 (He.ga K "entered") fd_pentered ["statement", "place", "names"] (spEntered ns) := fun ns => ok_pentered F_pentered F_pnumbered F_pplaces_in F_pis_true G_pnumbered G_pplaces (G_ptrue ns) b_pnumbered b_pplaces_in b_pis_true m_pnumbered m_pplaces_in m_pis_true
  have G_prun : FnOk P w K mg base CX0 10 (He.ga K "run") fd_prun ["program", "number"] spRunA := FnOk.ex fun ns => ok_prun F_prun F_pnumbered F_pvalue_of F_pentered G_pnumbered (G_pvalue ns) (G_pentered ns) b_pnumbered b_pvalue_of b_pentered m_pnumbered m_pvalue_of m_pentered z_tuple
  have G_psign : FnOk P w K mg base CX0 11 (He.ga K "sign") fd_psign ["program", "number"] spSignA := ok_psign F_psign F_prun G_prun b_prun m_prun z_int
  have G_intA : FnOk P w K mg base CX0 1 (He.ga K "is_integer") fd_pis_integer ["value"] spIsIntA := ok_intA (k := 0) F_pis_integer z_isinstance z_int z_bool
  have G_betA : FnOk P w K mg base CX0 2 (He.ga K "is_between") fd_pis_between ["value", "low", "high"] spBetweenA := ok_betA (k := 0) F_pis_between F_pis_integer G_intA b_pis_integer m_pis_integer
  have G_pis_pair : FnOk P w K mg base CX0 3 (He.ga K "is_pair") fd_pis_pair ["value"] spPairA := ok_pair F_pis_pair F_pis_integer F_pis_between G_intA G_betA b_pis_integer b_pis_between m_pis_integer m_pis_between z_isinstance z_tuple z_len
  have G_pheard_error : FnOk P w K mg base CX0 4 (He.ga K "heard_error") fd_pheard_error ["value"] spHeardE := ok_heardE F_pheard_error F_pis_pair G_pis_pair b_pis_pair m_pis_pair m_MAX_HEARD z_isinstance z_tuple z_len z_enumerate
  have G_pwrong_in : FnOk P w K mg base CX0 12 (He.ga K "wrong_in") fd_pwrong_in ["program", "heard"] spWrong := ok_wrong F_pwrong_in F_psign G_psign b_psign m_psign z_len
  have G_pleft : FnOk P w K mg base CX0 13 (He.ga K "left") fd_pleft ["family", "heard", "lies"] spLeft := ok_pleft F_pleft F_pwrong_in G_pwrong_in b_pwrong_in m_pwrong_in z_tuple z_enumerate
  exact ok_law39 F_law F_deck F_draw F_one F_names F_family F_heard F_sign F_due F_pleft F_pheard_error G_deck G_draw G_one G_names G_family G_heard G_sign G_due G_pleft G_pheard_error b_deck b_draw b_one b_names b_family b_heard b_sign b_due b_pleft b_pheard_error m_deck m_draw m_one m_names m_family m_heard m_sign m_due m_pleft m_pheard_error z_repr z_range z_len z_tuple z_list
end GA
open PyProof.Rows PySem PySem.W PySem.Calls
set_option maxHeartbeats 0 in
set_option maxRecDepth 200000 in
theorem PySem.Challenge.cw_whichheld_k39_what_was_heard_holds : PySem.Challenge.rw_whichheld_k39_what_was_heard.Holds := by
  w_on; o_law
  refine HandSHeadRun.head_any (r := GA.R) (q := view GA.R.prog [39]) (H := GA.hookH) (ob := GA.obsH) (M := 7000) (loose := GA.looseN) (d := HandSHeadRun.topDef GA.R.prog 39) (kwd := []) GA.obsH_eq
    (by kernel_rfl) (fun s => by kernel_rfl) GA.run_head (by kernel_rfl) (by kernel_rfl) (by kernel_rfl) (by rfl) (by first | assumption | decide +kernel) (by decide +kernel) ⟨rfl, rfl, rfl, rfl, rfl, by decide +kernel⟩ ?hw ?hc
  case hw => w_witness2
  case hc =>
    refine GA.walk_ofEG (l := PySem.Challenge.rw_whichheld_k39_what_was_heard) (n := 63) (k := 18) (x := "_law_script") rfl (by decide) ⟨rfl, by decide, by decide⟩ (by kernel_rfl) ?F
    intro w mg fa h Y G hmg0; obtain ⟨K, KX, c⟩ := Y
    have hmg : mg ("law" : PySem.Str) = some (.ref fa) := (show (HandSHeadRun.topDef GA.R.prog 39).name = ("law" : PySem.Str) by kernel_rfl) ▸ hmg0
    obtain ⟨fd, hb, hF⟩ := GA.facts (P := (PySem.Challenge.rw_whichheld_k39_what_was_heard).prog) (w := w) KX G hmg c
    exact ⟨K, fd, GA.spLaw39 K, KX, hb, fun H a ns hl _ hS => ⟨a, ns, rfl, hS, hl, fun _ => rfl⟩, hF⟩
