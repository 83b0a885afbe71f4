import PyProof.Rows.All
import Wide.All
import OpenK.AllK
import Wide.FinOn
import KE.KStateDown
import HandS.ForMost
import HandS.Wide
import HandS.TupAny
import HandS.Codes
import HandS.IsInst
import HandS.Style
import HandS.GenList
import HandS.GenYield
import HandS.Nested
import HandS.Lambda
import HandS.Defaults
import HandS.Walk
import HandS.Steps
import HandS.Star
import HandS.Text
import HandS.TupMul
import HandS.ExcInit
import HandS.ExcIs
import HandS.ExcField
import HandS.ExcOwn
import HandS.WordsExc
import KE.KExcInit
import KE.KExcIs
import KE.KDictZip
import KE.GoesMore
import KE.GoesComp
import HandS.EndTab
import HandS.HeadWalk
import HandS.HeadEnd
import HandS.Head0
import HandS.Head1
import HandS.Head2
import HandS.HeadHook1
import HandS.HeadHook2
import HandS.HeadHook3
import HandS.HeadHook4
import PySem.Challenge.RW_whichheld_k24_places_told
set_option Elab.async false
set_option linter.all false
set_option maxRecDepth 100000
namespace GA
open L2 PySem PySem.Spec PyProof.Rows
def topS (i : Nat) : Stmt := PySem.Challenge.pw_whichheld_k24_places_told.main.body.getD i (.Pass ⟨0, 0, 0, 0⟩)
abbrev sDeck : Stmt := topS 11
abbrev nDeck : List Str := ["_law_script", "_law_cell"]
theorem scDeck : FnScope nDeck ["_law_script"] (defScope sDeck) := ⟨rfl, rfl, rfl, by decide +kernel, rfl, by decide +kernel, by decide +kernel⟩
abbrev sDraw : Stmt := topS 12
abbrev nDraw : List Str := ["_law_deck_here", "_law_many", "_law_cell", "_law_at", "_law_mixed"]
theorem scDraw : FnScope nDraw ["_law_deck_here", "_law_many"] (defScope sDraw) := ⟨rfl, rfl, rfl, by decide +kernel, rfl, by decide +kernel, by decide +kernel⟩
abbrev sOne : Stmt := topS 13
abbrev nOne : List Str := ["_law_deck_here", "_law_items"]
theorem scOne : FnScope nOne ["_law_deck_here", "_law_items"] (defScope sOne) := ⟨rfl, rfl, rfl, by decide +kernel, rfl, by decide +kernel, by decide +kernel⟩
abbrev sNames : Stmt := topS 14
abbrev nNames : List Str := ["_law_deck_here", "_law_letters", "_law_signs", "_law_words", "_law_at", "_law_size", "_law_before", "_law_behind", "_law_k"]
theorem scNames : FnScope nNames ["_law_deck_here"] (defScope sNames) := ⟨rfl, rfl, rfl, by decide +kernel, rfl, by decide +kernel, by decide +kernel⟩
abbrev sExpression : Stmt := topS 15
abbrev nExpression : List Str := ["_law_deck_here", "_law_names_here", "_law_deep", "_law_way", "_law_factor", "_law_first"]
theorem scExpression : FnScope nExpression ["_law_deck_here", "_law_names_here", "_law_deep"] (defScope sExpression) := ⟨rfl, rfl, rfl, by decide +kernel, rfl, by decide +kernel, by decide +kernel⟩
abbrev sTest : Stmt := topS 16
abbrev nTest : List Str := ["_law_deck_here", "_law_names_here", "_law_room", "_law_times", "_law_nots", "_law_test_here", "_law_by", "_law_first", "_law_k"]
theorem scTest : FnScope nTest ["_law_deck_here", "_law_names_here", "_law_room", "_law_times"] (defScope sTest) := ⟨rfl, rfl, rfl, by decide +kernel, rfl, by decide +kernel, by decide +kernel⟩
abbrev sPlain : Stmt := topS 17
abbrev nPlain : List Str := ["_law_deck_here", "_law_names_here", "_law_way", "_law_name"]
theorem scPlain : FnScope nPlain ["_law_deck_here", "_law_names_here"] (defScope sPlain) := ⟨rfl, rfl, rfl, by decide +kernel, rfl, by decide +kernel, by decide +kernel⟩
abbrev sRow : Stmt := topS 18
abbrev nRow : List Str := ["_law_deck_here", "_law_names_here", "_law_room", "_law_times", "_law_depth", "_law_way", "_law_test_here", "_law_yes", "_law_again"]
theorem scRow : FnScope nRow ["_law_deck_here", "_law_names_here", "_law_room", "_law_times", "_law_depth"] (defScope sRow) := ⟨rfl, rfl, rfl, by decide +kernel, rfl, by decide +kernel, by decide +kernel⟩
abbrev sBlock : Stmt := topS 19
abbrev nBlock : List Str := ["_law_deck_here", "_law_names_here", "_law_room", "_law_times", "_law_depth", "_law_many", "_law_rows_here", "_law_k", "_law_row_here"]
theorem scBlock : FnScope nBlock ["_law_deck_here", "_law_names_here", "_law_room", "_law_times", "_law_depth"] (defScope sBlock) := ⟨rfl, rfl, rfl, by decide +kernel, rfl, by decide +kernel, by decide +kernel⟩
abbrev sProgram : Stmt := topS 20
abbrev nProgram : List Str := ["_law_deck_here", "_law_names_here", "_law_room", "_law_program_here", "_law_k"]
theorem scProgram : FnScope nProgram ["_law_deck_here", "_law_names_here"] (defScope sProgram) := ⟨rfl, rfl, rfl, by decide +kernel, rfl, by decide +kernel, by decide +kernel⟩
/-! ### heaps: all but some stand as they stood -/
def Sx (ex : List Addr) (H H' : Hp) : Prop := ∀ b o, b ∉ ex → H b = some o → H' b = some o
theorem Sx.refl {ex : List Addr} (H : Hp) : Sx ex H H := fun _ _ _ h => h
theorem Sx.trans {ex : List Addr} {H H1 H2 : Hp} (a : Sx ex H H1) (b : Sx ex H1 H2) : Sx ex H H2 := fun x o n h => b x o n (a x o n h)
theorem Sx.mono {ex fx : List Addr} {H H' : Hp} (a : Sx ex H H') (h : ∀ b ∈ ex, b ∈ fx) : Sx fx H H' := fun x o n e => a x o (fun z => n (h x z)) e
theorem Sx.nil {ex : List Addr} {H H' : Hp} (a : Sx [] H H') : Sx ex H H' := a.mono (fun _ z => by cases z)
theorem Sx.put {ex : List Addr} {H H' : Hp} {p : Addr} {o : HO} (a : Sx ex H H') (h : p ∈ ex) : Sx ex H (upd H' p o) := fun x u n e => by
  rw [upd_ne (fun z => n (by rw [z]; exact h))]
  exact a x u n e
/-- what was not there ahead may change -/
theorem Sx.own {ex : List Addr} {H H' : Hp} {p : Addr} {o : HO} (a : Sx ex H H') (h : H p = none) : Sx ex H (upd H' p o) := fun x u n e => by
  rw [upd_ne (ne_of_none e h)]
  exact a x u n e
theorem Sx.new {ex : List Addr} {H H' : Hp} {p : Addr} {o : HO} (a : Sx ex H H') (h : H' p = none) : Sx ex H (upd H' p o) := fun x u n e => by
  rw [upd_ne (ne_of_none (a x u n e) h)]
  exact a x u n e
theorem Sx.same {H H' : Hp} (a : Sx [] H H') : Same H H' := fun b o e => a b o (fun z => by cases z) e
theorem Sx.of {ex : List Addr} {H H' : Hp} (a : Same H H') : Sx ex H H' := fun b o _ e => a b o e
/-- free behind is free ahead, but for what may go -/
theorem Sx.free {ex : List Addr} {H H' : Hp} {p : Addr} (a : Sx ex H H') (hx : p ∉ ex) (h : H' p = none) : H p = none := by
  cases e : H p with
  | none => rfl
  | some o => rw [a p o hx e] at h; cases h
/-! ### the deck -/
/-- the deck at a: its cells at c, k numbers drawn -/
structure Dk (H : Hp) (a c : Addr) (cs : List Int) (k : Int) : Prop where
  ha : H a = some (.lst [.ref c, .int k])
  hc : H c = some (.lst (cs.map V.int))
  pos : ∀ x ∈ cs, 0 ≤ x
  len : cs.length ≤ 63
  k0 : 0 ≤ k
theorem Dk.ne {H : Hp} {a c : Addr} {cs : List Int} {k : Int} (D : Dk H a c cs k) : a ≠ c := fun e => by
  have h1 := D.ha
  rw [e, D.hc] at h1
  match cs, h1 with
  | [x, y], h1 => simp at h1
theorem Dk.sx {H H' : Hp} {a c : Addr} {cs : List Int} {k : Int} {ex : List Addr} (D : Dk H a c cs k) (s : Sx ex H H') (h1 : a ∉ ex) (h2 : c ∉ ex) : Dk H' a c cs k := ⟨s _ _ h1 D.ha, s _ _ h2 D.hc, D.pos, D.len, D.k0⟩
theorem Dk.same {H H' : Hp} {a c : Addr} {cs : List Int} {k : Int} (D : Dk H a c cs k) (s : Sx [] H H') : Dk H' a c cs k := D.sx s (by simp) (by simp)
/-- so many numbers may be drawn in all -/
abbrev KB : Int := 1099511627776
/-- go on from any heap of which as much is known -/
theorem gh {R F : Hp → Prop} {H1 : Hp} (f : F H1) (h : ∀ H2, F H2 → R H2) : R H1 := h H1 f
theorem lt_line {n : Nat} (h : n < 16777216) : n < sizeLine := h
theorem le_line {n : Nat} (h : n ≤ 16777216) : n ≤ sizeLine := h
theorem ixN_of {n j : Nat} {i : Int} (e : i = (j : Int)) (hj : j < n) : ixN n i = some j := by
  subst e
  unfold ixN
  rw [if_pos (by omega)]; rw [if_pos (by omega)]; simp
theorem Sx.rd {ex : List Addr} {H H' : Hp} {p : Addr} {u : HO} (a : Sx ex H H') (h : p ∉ ex) (r : Rd H p u) : Rd H' p u := by
  rcases r with r | ⟨o, r⟩
  · exact .inl (a _ _ h r)
  · exact .inr ⟨o, a _ _ h r⟩
theorem Sx.seqL {ex : List Addr} {H H' : Hp} {K : PySem.W.Frag} {p : Addr} {xs : List V} (a : Sx ex H H') (h : p ∉ ex) (r : SqL K H p xs) : SqL K H' p xs := r.imp (a.rd h) id
theorem Sx.seqT {ex : List Addr} {H H' : Hp} {K : PySem.W.Frag} {p : Addr} {xs : List V} (a : Sx ex H H') (h : p ∉ ex) (r : SqT K H p xs) : SqT K H' p xs := r.imp (a.rd h) id
theorem ix_or {X : Cx} {r r' : R2} (h : IxR X r) (h' : IxR X r') : IxR X (fun x y H Q => r x y H Q ∨ r' x y H Q) := by
  intro e1 e2 pins s σ H x y v u Q I rx ry q hs
  rcases q with q | q
  · exact h e1 e2 pins s σ H x y v u Q I rx ry q hs
  · exact h' e1 e2 pins s σ H x y v u Q I rx ry q hs
theorem cr_or {X : Cx} {f : Value} {r r' : List V → Hp → VK → Prop} (h : CallR X f r) (h' : CallR X f r') : CallR X f (fun x H Q => r x H Q ∨ r' x H Q) := by
  intro pins s σ H xs us Q I rx q
  rcases q with q | q
  · exact h pins s σ H xs us Q I rx q
  · exact h' pins s σ H xs us Q I rx q
/-! ### data of tuples -/
mutual
/-- v is the data d, tuples of ints and texts within one another -/
inductive Tp (H : Hp) : V → PyData → Prop where
  | non : Tp H .non .none
  | bl (b : Bool) : Tp H (.bl b) (.bool b)
  | int (i : Int) : Tp H (.int i) (.int i)
  | str (x : Str) : Tp H (.str x) (.str x)
  | tup {a : Addr} {xs : List V} {ds : List PyData} : H a = some (.tup xs) → TpAll H xs ds → Tp H (.ref a) (.tuple ds)
inductive TpAll (H : Hp) : List V → List PyData → Prop where
  | nil : TpAll H [] []
  | cons {v : V} {vs : List V} {d : PyData} {ds : List PyData} : Tp H v d → TpAll H vs ds → TpAll H (v :: vs) (d :: ds)
end
/-- the tuples stand as they stood -/
def Tk (H H' : Hp) : Prop := ∀ b xs, H b = some (.tup xs) → H' b = some (.tup xs)
theorem Tk.refl (H : Hp) : Tk H H := fun _ _ h => h
theorem Tk.trans {H H1 H2 : Hp} (a : Tk H H1) (b : Tk H1 H2) : Tk H H2 := fun x o h => b x o (a x o h)
theorem Sx.tk {ex : List Addr} {H H' : Hp} (s : Sx ex H H') (h : ∀ b ∈ ex, ∃ ys, H b = some (.lst ys)) : Tk H H' := fun b xs e => s b _ (fun hb => by
  obtain ⟨ys, e'⟩ := h b hb
  rw [e] at e'
  cases e') e
theorem Sx.tk0 {H H' : Hp} (s : Sx [] H H') : Tk H H' := s.tk (fun _ z => by cases z)
mutual
theorem Tp.keep {H H' : Hp} (s : Tk H H') : ∀ {v : V} {d : PyData}, Tp H v d → Tp H' v d
  | _, _, .non => .non
  | _, _, .bl b => .bl b
  | _, _, .int i => .int i
  | _, _, .str x => .str x
  | _, _, .tup h a => .tup (s _ _ h) (TpAll.keep s a)
theorem TpAll.keep {H H' : Hp} (s : Tk H H') : ∀ {vs : List V} {ds : List PyData}, TpAll H vs ds → TpAll H' vs ds
  | _, _, .nil => .nil
  | _, _, .cons a b => .cons (Tp.keep s a) (TpAll.keep s b)
end
mutual
theorem Tp.dp {K : PySem.W.Frag} {H : Hp} : ∀ {v : V} {d : PyData}, Tp H v d → Dp K H v d
  | _, _, .non => .non
  | _, _, .bl b => .bl b
  | _, _, .int i => .int i
  | _, _, .str x => .str x
  | _, _, .tup h a => .tup (SqT.of h) (TpAll.dp a)
theorem TpAll.dp {K : PySem.W.Frag} {H : Hp} : ∀ {vs : List V} {ds : List PyData}, TpAll H vs ds → DpAll K H vs ds
  | _, _, .nil => .nil
  | _, _, .cons a b => .cons (Tp.dp a) (TpAll.dp b)
end
theorem TpAll.len {H : Hp} : ∀ {vs : List V} {ds : List PyData}, TpAll H vs ds → vs.length = ds.length
  | _, _, .nil => rfl
  | _, _, .cons _ b => by rw [List.length_cons, List.length_cons, TpAll.len b]
theorem TpAll.get {H : Hp} : ∀ {vs : List V} {ds : List PyData} {i : Nat} {v : V}, TpAll H vs ds → vs[i]? = some v → ∃ d, ds[i]? = some d ∧ Tp H v d
  | _, _, 0, _, .cons a _, e => ⟨_, rfl, by cases e; exact a⟩
  | _, _, i + 1, _, .cons _ b, e => TpAll.get (i := i) b e
theorem TpAll.append {H : Hp} : ∀ {vs ws : List V} {ds es : List PyData}, TpAll H vs ds → TpAll H ws es → TpAll H (vs ++ ws) (ds ++ es)
  | _, _, _, _, .nil, h => h
  | _, _, _, _, .cons a b, h => .cons a (TpAll.append b h)
theorem Tp.tuple {H : Hp} {v : V} {ds : List PyData} (h : Tp H v (.tuple ds)) : ∃ a xs, v = .ref a ∧ H a = some (.tup xs) ∧ TpAll H xs ds := by
  cases h with
  | tup h a => exact ⟨_, _, rfl, h, a⟩
theorem Tp.new {H : Hp} {v : V} {d : PyData} {p : Addr} {o : HO} (h : Tp H v d) (n : H p = none) : Tp (upd H p o) v d := h.keep ((Sx.refl _).new n).tk0
theorem TpAll.new {H : Hp} {vs : List V} {ds : List PyData} {p : Addr} {o : HO} (h : TpAll H vs ds) (n : H p = none) : TpAll (upd H p o) vs ds := h.keep ((Sx.refl _).new n).tk0
theorem Dk.new {H : Hp} {a c p : Addr} {cs : List Int} {k : Int} {o : HO} (D : Dk H a c cs k) (n : H p = none) : Dk (upd H p o) a c cs k := D.same ((Sx.refl _).new n)
/-- what is shown once and used on several ways -/
theorem share {B G : Prop} (hB : B) (h : B → G) : G := h hB
theorem Sx.step {ex fx : List Addr} {H H1 H2 : Hp} (a : Sx ex H H1) (b : Sx fx H1 H2) (h : ∀ x ∈ fx, x ∈ ex ∨ H x = none) : Sx ex H H2 := fun x o n e =>
  b x o (fun z => (h x z).elim n (fun y => by rw [e] at y; cases y)) (a x o n e)
theorem gnm {i : Nat} {v : V} {σ : L2.St} {H : Hp} {Qf : L2.St → Hp → Prop} (h : Qf (σ.set i (some v)) H) : gName i v σ H Qf := h
/-! ### what the generator makes -/
/-- expressions over the names, at most so many in one another -/
inductive ExD (ns : List Str) : Nat → PyData → Prop where
  | int {d : Nat} (i : Int) : -99 ≤ i → i ≤ 99 → ExD ns (d + 1) (.int i)
  | name {d : Nat} (z : Str) : z ∈ ns → ExD ns (d + 1) (.str z)
  | plus {d : Nat} {x y : PyData} : ExD ns d x → ExD ns d y → ExD ns (d + 1) (.tuple [.str "plus", x, y])
  | minus {d : Nat} {x y : PyData} : ExD ns d x → ExD ns d y → ExD ns (d + 1) (.tuple [.str "minus", x, y])
  | times {d : Nat} {x : PyData} (f : Int) : -9 ≤ f → f ≤ 9 → ExD ns d x → ExD ns (d + 1) (.tuple [.str "times", .int f, x])
/-- so many draws at most -/
def cE : Nat → Int
  | 0 => 0
  | d + 1 => 2 * cE d + 3
theorem cE_pos : ∀ d, 0 ≤ cE d
  | 0 => Int.le_refl _
  | d + 1 => by have := cE_pos d; show 0 ≤ 2 * cE d + 3; omega
theorem cE_one (d : Nat) : cE (d + 1) = 2 * cE d + 3 := rfl
/-- a name: one to eight small letters and digits, none of the words -/
def WordsK : List Str := ["box", "set", "pay", "stop", "if", "else", "repeat", "pass", "rest", "of", "not", "program"]
structure NmOk (z : Str) : Prop where
  lo : 1 ≤ z.length
  hi : z.length ≤ 8
  sgn : ∀ x ∈ z.cps.toList, (97 ≤ x ∧ x ≤ 122) ∨ (48 ≤ x ∧ x ≤ 57)
  hd : ∀ x, z.cps.toList[0]? = some x → 97 ≤ x
  kw : z ∉ WordsK
theorem NmOk.ok {z : Str} (h : NmOk z) : PyData.strOk z = true := by
  unfold PyData.strOk
  rw [Array.all_eq_true']
  intro x hx
  have := h.sgn x (Array.mem_toList_iff.mpr hx)
  refine decide_eq_true ?_; omega
/-- names at nm -/
structure Nms (K : PySem.W.Frag) (H : Hp) (nm : Addr) (ns : List Str) : Prop where
  tr : H nm = some (.lst (ns.map V.str))
  ne : ns ≠ []
  len : ns.length ≤ 1000
  ok : ∀ z ∈ ns, NmOk z
theorem Nms.keep {K : PySem.W.Frag} {H H' : Hp} {nm : Addr} {ns : List Str} {ex : List Addr} (N : Nms K H nm ns) (s : Sx ex H H') (h : nm ∉ ex) : Nms K H' nm ns := ⟨s _ _ h N.tr, N.ne, N.len, N.ok⟩
theorem Nms.at_ {K : PySem.W.Frag} {H : Hp} {nm : Addr} {ns : List Str} (N : Nms K H nm ns) : SqL K H nm (ns.map V.str) := .inl (.inl N.tr)
theorem Nms.nw {K : PySem.W.Frag} {H : Hp} {nm p : Addr} {ns : List Str} (N : Nms K H nm ns) (h : H p = none) : nm ≠ p := fun z => (by rw [← z, N.tr] at h; cases h)
theorem Dk.lst {H : Hp} {a c : Addr} {cs : List Int} {k : Int} (D : Dk H a c cs k) : ∀ b ∈ [a, c], ∃ ys, H b = some (.lst ys) := fun b hb => by
  rcases List.mem_cons.1 hb with rfl | hb
  · exact ⟨_, D.ha⟩
  · rw [List.mem_singleton.mp hb]; exact ⟨_, D.hc⟩
theorem Dk.tk {H H' : Hp} {a c : Addr} {cs : List Int} {k : Int} (D : Dk H a c cs k) (s : Sx [a, c] H H') : Tk H H' := s.tk D.lst
/-- a new object is none of the deck's -/
theorem Dk.nw {H : Hp} {a c p : Addr} {cs : List Int} {k : Int} (D : Dk H a c cs k) (h : H p = none) : p ≠ a ∧ p ≠ c :=
  ⟨fun e => (by rw [e, D.ha] at h; cases h), fun e => (by rw [e, D.hc] at h; cases h)⟩
/-- tests with at most so many "not"; true: of a rest -/
inductive TsD (ns : List Str) : Nat → Bool → PyData → Prop where
  | rest {n : Nat} {x : PyData} (b r : Int) : ExD ns 3 x → 2 ≤ b → b ≤ 6 → 0 ≤ r → r < b → TsD ns n true (.tuple [.str "rest", x, .int b, .int r])
  | less {n : Nat} {x y : PyData} : ExD ns 3 x → ExD ns 3 y → TsD ns n false (.tuple [.str "less", x, y])
  | not {n : Nat} {b : Bool} {t : PyData} : TsD ns n b t → TsD ns (n + 1) b (.tuple [.str "not", t])
def bI (b : Bool) : Int := if b then 1 else 0
mutual
/-- statements whose blocks lie at most so deep: with its places, weight, rests, comparings -/
inductive StD (ns : List Str) : Nat → Int → Int → Int → Int → PyData → Prop where
  | set {d : Nat} {e : PyData} (z : Str) : z ∈ ns → ExD ns 3 e → StD ns d 1 1 0 0 (.tuple [.str "set", .str z, e])
  | pay {d : Nat} {e : PyData} : ExD ns 3 e → StD ns d 1 1 0 0 (.tuple [.str "pay", e])
  | stop {d : Nat} : StD ns d 1 1 0 0 (.tuple [.str "stop"])
  | ite {d : Nat} {t : PyData} {b : Bool} {n1 w1 r1 c1 n2 w2 r2 c2 : Int} {ys zs : List PyData} : TsD ns 2 b t → BkD ns d n1 w1 r1 c1 ys → BkD ns d n2 w2 r2 c2 zs →
      StD ns d (1 + n1 + n2) (1 + w1 + w2) (bI b + r1 + r2) (bI (!b) + c1 + c2) (.tuple [.str "if", t, .tuple ys, .tuple zs])
  | rep {d : Nat} {n1 w1 r1 c1 : Int} {ys : List PyData} (k : Int) : 1 ≤ k → k ≤ 8 → BkD ns d n1 w1 r1 c1 ys → StD ns d (1 + n1) (1 + k * w1) (k * r1) (k * c1) (.tuple [.str "repeat", .int k, .tuple ys])
inductive BkD (ns : List Str) : Nat → Int → Int → Int → Int → List PyData → Prop where
  | nil {d : Nat} : BkD ns d 0 0 0 0 []
  | cons {d : Nat} {n1 w1 r1 c1 n2 w2 r2 c2 : Int} {s : PyData} {ss : List PyData} : StD ns d n1 w1 r1 c1 s → BkD ns (d + 1) n2 w2 r2 c2 ss → BkD ns (d + 1) (n1 + n2) (w1 + w2) (r1 + r2) (c1 + c2) (s :: ss)
end
/-! ### such data may be compared -/
def Sh (n : Nat) (e : PyData) : Prop := e.canLay0 = true ∧ e.depth ≤ n
def ShA (n : Nat) (es : List PyData) : Prop := PyData.canLayAll0 es = true ∧ PyData.depthAll es ≤ n
theorem ShA.nil {n : Nat} : ShA n [] := ⟨by simp only [PyData.canLayAll0], by simp only [PyData.depthAll]; omega⟩
theorem ShA.cons {n : Nat} {e : PyData} {es : List PyData} (h : Sh n e) (hs : ShA n es) : ShA n (e :: es) :=
  ⟨by simp only [PyData.canLayAll0, h.1, hs.1, Bool.and_self], by simp only [PyData.depthAll]; have := h.2; have := hs.2; omega⟩
theorem Sh.tup {n : Nat} {es : List PyData} (h : ShA n es) : Sh (n + 1) (.tuple es) := ⟨by simp only [PyData.canLay0, h.1], by simp only [PyData.depth]; have := h.2; omega⟩
theorem Sh.int {n : Nat} (i : Int) : Sh n (.int i) := ⟨by simp only [PyData.canLay0], by simp only [PyData.depth]; omega⟩
theorem Sh.str {n : Nat} {z : Str} (h : PyData.strOk z = true) : Sh n (.str z) := ⟨by simp only [PyData.canLay0, h], by simp only [PyData.depth]; omega⟩
theorem Sh.mono {n m : Nat} {e : PyData} (h : Sh n e) (l : n ≤ m) : Sh m e := ⟨h.1, Nat.le_trans h.2 l⟩
theorem ShA.mono {n m : Nat} {e : List PyData} (h : ShA n e) (l : n ≤ m) : ShA m e := ⟨h.1, Nat.le_trans h.2 l⟩
theorem Sh.shaped {n : Nat} {e : PyData} (h : Sh n e) (l : n ≤ 64) : SeqAt.shaped e = true := by
  unfold SeqAt.shaped
  rw [h.1, decide_eq_true (Nat.le_trans h.2 l)]
  rfl
theorem ExD.sh {ns : List Str} (hn : ∀ z ∈ ns, NmOk z) {d : Nat} {e : PyData} (h : ExD ns d e) : Sh d e := by
  induction h with
  | int i _ _ => exact .int i
  | name z hz => exact .str (hn z hz).ok
  | plus _ _ h1 h2 => exact .tup (.cons (.str (by decide +kernel)) (.cons h1 (.cons h2 .nil)))
  | minus _ _ h1 h2 => exact .tup (.cons (.str (by decide +kernel)) (.cons h1 (.cons h2 .nil)))
  | times f _ _ _ h1 => exact .tup (.cons (.str (by decide +kernel)) (.cons (.int f) (.cons h1 .nil)))
theorem TsD.sh {ns : List Str} (hn : ∀ z ∈ ns, NmOk z) {n : Nat} {b : Bool} {e : PyData} (h : TsD ns n b e) : Sh (n + 4) e := by
  induction h with
  | rest b r hx _ _ _ _ => exact (Sh.tup (.cons (.str (by decide +kernel)) (.cons (hx.sh hn) (.cons (.int b) (.cons (.int r) .nil))))).mono (by omega)
  | less hx hy => exact (Sh.tup (.cons (.str (by decide +kernel)) (.cons (hx.sh hn) (.cons (hy.sh hn) .nil)))).mono (by omega)
  | not _ ih => exact .tup (.cons (.str (by decide +kernel)) (.cons ih .nil))
theorem TsD.up {ns : List Str} {n m : Nat} {b : Bool} {e : PyData} (h : TsD ns n b e) (l : n ≤ m) : TsD ns m b e := by
  induction h generalizing m with
  | rest b r h1 h2 h3 h4 h5 => exact .rest b r h1 h2 h3 h4 h5
  | less h1 h2 => exact .less h1 h2
  | not _ ih =>
    obtain ⟨j, rfl⟩ : ∃ j, m = j + 1 := ⟨m - 1, by omega⟩
    exact .not (ih (by omega))
mutual
theorem StD.sh {ns : List Str} (hn : ∀ z ∈ ns, NmOk z) : ∀ {d : Nat} {n w r c : Int} {e : PyData}, StD ns d n w r c e → Sh (2 * d + 9) e
  | _, _, _, _, _, _, .set z hz hx => (Sh.tup (.cons (.str (by decide +kernel)) (.cons (.str (hn z hz).ok) (.cons (hx.sh hn) .nil)))).mono (by omega)
  | _, _, _, _, _, _, .pay hx => (Sh.tup (.cons (.str (by decide +kernel)) (.cons (hx.sh hn) .nil))).mono (by omega)
  | _, _, _, _, _, _, .stop => (Sh.tup (n := 0) (.cons (.str (by decide +kernel)) .nil)).mono (by omega)
  | d, _, _, _, _, _, .ite ht hy hz => (Sh.tup (n := 2 * d + 8) (.cons (.str (by decide +kernel)) (.cons ((ht.sh hn).mono (by omega)) (.cons ((Sh.tup (BkD.sh hn hy)).mono (by omega)) (.cons ((Sh.tup (BkD.sh hn hz)).mono (by omega)) .nil))))).mono (by omega)
  | d, _, _, _, _, _, .rep k _ _ hy => (Sh.tup (n := 2 * d + 8) (.cons (.str (by decide +kernel)) (.cons (.int k) (.cons ((Sh.tup (BkD.sh hn hy)).mono (by omega)) .nil)))).mono (by omega)
theorem BkD.sh {ns : List Str} (hn : ∀ z ∈ ns, NmOk z) : ∀ {d : Nat} {n w r c : Int} {es : List PyData}, BkD ns d n w r c es → ShA (2 * d + 7) es
  | _, _, _, _, _, _, .nil => .nil
  | _, _, _, _, _, _, .cons h hs => .cons ((StD.sh hn h).mono (by omega)) (BkD.sh hn hs)
end
/-- the room at rm -/
structure Rm (H : Hp) (rm : Addr) (r0 r1 r2 r3 : Int) : Prop where
  at_ : H rm = some (.lst [.int r0, .int r1, .int r2, .int r3])
  p0 : 0 ≤ r0
  p1 : 0 ≤ r1
  p2 : 0 ≤ r2
  p3 : 0 ≤ r3
theorem Rm.sx {H H' : Hp} {rm : Addr} {r0 r1 r2 r3 : Int} {ex : List Addr} (R : Rm H rm r0 r1 r2 r3) (s : Sx ex H H') (h : rm ∉ ex) : Rm H' rm r0 r1 r2 r3 := ⟨s _ _ h R.at_, R.p0, R.p1, R.p2, R.p3⟩
theorem Rm.new {H : Hp} {rm p : Addr} {r0 r1 r2 r3 : Int} {o : HO} (R : Rm H rm r0 r1 r2 r3) (n : H p = none) : Rm (upd H p o) rm r0 r1 r2 r3 := R.sx ((Sx.refl (ex := []) _).new n) (by simp)
theorem Rm.nw {H : Hp} {rm p : Addr} {r0 r1 r2 r3 : Int} (R : Rm H rm r0 r1 r2 r3) (n : H p = none) : p ≠ rm := fun e => (by rw [e, R.at_] at n; cases n)
theorem lst3 {H : Hp} {a c rm : Addr} {cs : List Int} {k r0 r1 r2 r3 : Int} (D : Dk H a c cs k) (R : Rm H rm r0 r1 r2 r3) : ∀ b ∈ [a, c, rm], ∃ ys, H b = some (.lst ys) := fun b hb => by
  simp only [List.not_mem_nil, List.mem_cons, or_false] at hb
  obtain rfl | rfl | rfl := hb
  · exact ⟨_, D.ha⟩
  · exact ⟨_, D.hc⟩
  · exact ⟨_, R.at_⟩
theorem Rm.cast {H : Hp} {rm : Addr} {r0 r1 r2 r3 q0 q1 q2 q3 : Int} (R : Rm H rm r0 r1 r2 r3) (e0 : r0 = q0) (e1 : r1 = q1) (e2 : r2 = q2) (e3 : r3 = q3) : Rm H rm q0 q1 q2 q3 := by
  subst e0 e1 e2 e3
  exact R
theorem BkD.snoc {ns : List Str} {d : Nat} {n2 w2 r2 c2 : Int} {s : PyData} (hs : StD ns d n2 w2 r2 c2 s) : ∀ (xs : List PyData) {n w r c : Int}, BkD ns (d + 1) n w r c xs → BkD ns (d + 1) (n + n2) (w + w2) (r + r2) (c + c2) (xs ++ [s])
  | [], _, _, _, _, .nil => by
    have h : BkD ns (d + 1) (n2 + 0) (w2 + 0) (r2 + 0) (c2 + 0) [s] := .cons hs .nil
    have e : ∀ x : Int, x + 0 = 0 + x := fun x => Int.add_comm _ _
    rw [e, e, e, e] at h
    exact h
  | x :: xs, _, _, _, _, .cons (n1 := n1) (w1 := w1) (r1 := r1) (c1 := c1) (n2 := n3) (w2 := w3) (r2 := r3) (c2 := c3) hx hxs => by
    have h := BkD.cons hx (BkD.snoc hs xs hxs)
    rw [← Int.add_assoc, ← Int.add_assoc, ← Int.add_assoc, ← Int.add_assoc] at h
    exact h
/-- not () -/
def ne0 (e : PyData) : Bool := !PyData.eqv e (.tuple [])
theorem StD.ne0 {ns : List Str} {d : Nat} {n w r c : Int} {e : PyData} (h : StD ns d n w r c e) : GA.ne0 e = true := by
  cases h <;> rfl
theorem ne0_nil : ne0 (.tuple []) = false := rfl
theorem ExD.up {ns : List Str} {n m : Nat} {e : PyData} (h : ExD ns n e) (l : n ≤ m) : ExD ns m e := by
  induction h generalizing m with
  | int i h1 h2 => obtain ⟨j, rfl⟩ : ∃ j, m = j + 1 := ⟨m - 1, by omega⟩; exact .int i h1 h2
  | name z h1 => obtain ⟨j, rfl⟩ : ∃ j, m = j + 1 := ⟨m - 1, by omega⟩; exact .name z h1
  | plus _ _ h1 h2 => obtain ⟨j, rfl⟩ : ∃ j, m = j + 1 := ⟨m - 1, by omega⟩; exact .plus (h1 (by omega)) (h2 (by omega))
  | minus _ _ h1 h2 => obtain ⟨j, rfl⟩ : ∃ j, m = j + 1 := ⟨m - 1, by omega⟩; exact .minus (h1 (by omega)) (h2 (by omega))
  | times f a b _ h1 => obtain ⟨j, rfl⟩ : ∃ j, m = j + 1 := ⟨m - 1, by omega⟩; exact .times f a b (h1 (by omega))
theorem bI_nn (b : Bool) : 0 ≤ bI b := by cases b <;> decide
mutual
theorem StD.pos {ns : List Str} : ∀ {d : Nat} {n w r c : Int} {e : PyData}, StD ns d n w r c e → 1 ≤ n ∧ 1 ≤ w ∧ 0 ≤ r ∧ 0 ≤ c
  | _, _, _, _, _, _, .set z hz hx => by omega
  | _, _, _, _, _, _, .pay hx => by omega
  | _, _, _, _, _, _, .stop => by omega
  | _, _, _, _, _, _, .ite (b := b) ht hy hz => by
    have h1 := BkD.pos hy
    have h2 := BkD.pos hz
    have h3 := bI_nn b
    have h4 := bI_nn (!b)
    omega
  | _, _, _, _, _, _, .rep (w1 := w1) (r1 := r1) (c1 := c1) k hk _ hy => by
    have h1 := BkD.pos hy
    have h2 : 0 ≤ k * w1 := Int.mul_nonneg (by omega) (by omega)
    have h3 : 0 ≤ k * r1 := Int.mul_nonneg (by omega) (by omega)
    have h4 : 0 ≤ k * c1 := Int.mul_nonneg (by omega) (by omega)
    omega
theorem BkD.pos {ns : List Str} : ∀ {d : Nat} {n w r c : Int} {es : List PyData}, BkD ns d n w r c es → (es.length : Int) ≤ n ∧ (es.length : Int) ≤ w ∧ 0 ≤ r ∧ 0 ≤ c
  | _, _, _, _, _, _, .nil => by simp
  | _, _, _, _, _, _, .cons h hs => by
    have h1 := StD.pos h
    have h2 := BkD.pos hs
    rw [List.length_cons]
    omega
end
theorem BkD.append {ns : List Str} {d : Nat} {n2 w2 r2 c2 : Int} {ys : List PyData} (hy : BkD ns (d + 1) n2 w2 r2 c2 ys) : ∀ (xs : List PyData) {n w r c : Int}, BkD ns (d + 1) n w r c xs → BkD ns (d + 1) (n + n2) (w + w2) (r + r2) (c + c2) (xs ++ ys)
  | [], _, _, _, _, .nil => by
    rw [Int.zero_add, Int.zero_add, Int.zero_add, Int.zero_add]
    exact hy
  | x :: xs, _, _, _, _, .cons hx hxs => by
    have h := BkD.cons hx (BkD.append hy xs hxs)
    rw [← Int.add_assoc, ← Int.add_assoc, ← Int.add_assoc, ← Int.add_assoc] at h
    exact h
/-- a tuple and a tuple -/
theorem cat_tp {K : PySem.W.Frag} {H : Hp} {v u : V} {ds es : List PyData} {Q : VK} (h1 : Tp H v (.tuple ds)) (h2 : Tp H u (.tuple es)) (hl : ds.length + es.length ≤ 16777216)
    (q : ∀ H' z, Sx [] H H' → (∀ b, H' b = none → H b = none) → Tp H' z (.tuple (ds ++ es)) → Q z H') : rCatA K v u H Q := by
  obtain ⟨a, xs, rfl, ha, hx⟩ := h1.tuple
  obtain ⟨b, ys, rfl, hb, hy⟩ := h2.tuple
  refine ⟨a, b, xs, ys, rfl, rfl, .inl (.inl ha), .inl (.inl hb), by rw [hx.len, hy.len]; exact hl, fun e => ?_, fun _ e => ?_, fun _ _ p hp => ?_⟩
  · subst e
    cases hx
    exact q H _ (Sx.refl _) (fun _ h => h) (.tup hb hy)
  · subst e
    cases hy
    rw [List.append_nil] at q
    exact q H _ (Sx.refl _) (fun _ h => h) (.tup ha hx)
  · refine q _ _ ((Sx.refl _).new hp) (fun z hz => ?_) (.tup upd_same ((hx.append hy).new hp))
    by_cases e : z = p
    · rw [e]; exact hp
    · rw [upd_ne e] at hz; exact hz
def cP : Int := 700000
def spProgram (K : PySem.W.Frag) : Sp := fun vs H Q _ => ∃ (a c : Addr) (cs : List Int) (k : Int) (nm : Addr) (ns : List Str), vs = [.ref a, .ref nm] ∧ Dk H a c cs k ∧ Nms K H nm ns ∧ nm ≠ a ∧ nm ≠ c ∧ k + cP ≤ KB ∧
  ∀ H' cs' k' v es n w r cc, Sx [a, c] H H' → Dk H' a c cs' k' → k ≤ k' → k' ≤ k + cP → Tp H' v (.tuple es) → BkD ns 4 n w r cc es → n ≤ 24 → w ≤ 30 → r ≤ 2 → cc ≤ 2 → Q v H'
def cB : Nat → Int
  | 0 => 0
  | d + 1 => 1 + 4 * (71 + 2 * cB d)
theorem cB_pos : ∀ d, 0 ≤ cB d
  | 0 => Int.le_refl _
  | d + 1 => by have := cB_pos d; show 0 ≤ 1 + 4 * (71 + 2 * cB d); omega
theorem cB_one (d : Nat) : cB (d + 1) = 1 + 4 * (71 + 2 * cB d) := rfl
def spBlock (K : PySem.W.Frag) (d : Nat) : Sp := fun vs H Q _ => ∃ (a c : Addr) (cs : List Int) (k : Int) (nm : Addr) (ns : List Str) (rm : Addr) (r0 r1 r2 r3 t : Int), vs = [.ref a, .ref nm, .ref rm, .int t, .int (4 - (d : Int))] ∧ Dk H a c cs k ∧ Nms K H nm ns ∧ Rm H rm r0 r1 r2 r3 ∧
  nm ≠ a ∧ nm ≠ c ∧ nm ≠ rm ∧ rm ≠ a ∧ rm ≠ c ∧ 1 ≤ t ∧ r1 ≤ 30 ∧ k + cB d ≤ KB ∧
  ∀ H' cs' k' v es n w r cc, Sx [a, c, rm] H H' → Dk H' a c cs' k' → k ≤ k' → k' ≤ k + cB d → Tp H' v (.tuple es) → BkD ns d n w r cc es → Rm H' rm (r0 - n) (r1 - t * w) (r2 - t * r) (r3 - t * cc) → 0 ≤ w → r1 - t * w ≤ r1 → Q v H'
def spRow (K : PySem.W.Frag) (d : Nat) : Sp := fun vs H Q _ => ∃ (a c : Addr) (cs : List Int) (k : Int) (nm : Addr) (ns : List Str) (rm : Addr) (r0 r1 r2 r3 t : Int), vs = [.ref a, .ref nm, .ref rm, .int t, .int (3 - (d : Int))] ∧ Dk H a c cs k ∧ Nms K H nm ns ∧ Rm H rm r0 r1 r2 r3 ∧
  nm ≠ a ∧ nm ≠ c ∧ nm ≠ rm ∧ rm ≠ a ∧ rm ≠ c ∧ 1 ≤ t ∧ r1 ≤ 30 ∧ k + (71 + 2 * cB d) ≤ KB ∧
  ∀ H' cs' k' v e, Sx [a, c, rm] H H' → Dk H' a c cs' k' → k ≤ k' → k' ≤ k + (71 + 2 * cB d) → Tp H' v e →
    ((e = .tuple [] ∧ Rm H' rm r0 r1 r2 r3) ∨ ∃ n w r cc, StD ns d n w r cc e ∧ Rm H' rm (r0 - n) (r1 - t * w) (r2 - t * r) (r3 - t * cc) ∧ 0 ≤ w ∧ r1 - t * w ≤ r1) → Q v H'
def spNames (K : PySem.W.Frag) : Sp := fun vs H Q _ => ∃ (a c : Addr) (cs : List Int) (k : Int), vs = [.ref a] ∧ Dk H a c cs k ∧ k + 20 ≤ KB ∧
  ∀ H' cs' k' p ns, Sx [a, c] H H' → Dk H' a c cs' k' → k ≤ k' → k' ≤ k + 20 → H p = none → p ≠ a → p ≠ c → Nms K H' p ns → Q (.ref p) H'
/-- a text of one sign -/
abbrev s1 (x : Nat) : Str := ⟨#[x]⟩
theorem join_s1 : ∀ ls : List Nat, Txt.join (Str.ofString "") (ls.map s1) = ⟨ls.toArray⟩ := fun ls => by
  have e0 : (Str.ofString "" : Str) = SX.S [] := by decide +kernel
  have e1 : ls.map s1 = (ls.map fun x => [x]).map SX.S := by rw [List.map_map]; rfl
  have e2 : ∀ l : List Nat, TL.joinL [] (l.map fun x => [x]) = l := by
    intro l
    induction l with
    | nil => rfl
    | cons x r ih =>
      cases r with
      | nil => rfl
      | cons y r => show [x] ++ ([] ++ TL.joinL [] ((y :: r).map fun x => [x])) = _; rw [ih]; rfl
  rw [e0, e1, SX.join_S, e2]
theorem sum_s1 (ls : List Nat) : ((ls.map s1).map (·.length)).sum = ls.length := by
  induction ls with
  | nil => rfl
  | cons x r ih => rw [List.map_cons, List.map_cons, List.sum_cons, ih, List.length_cons, Nat.add_comm]; rfl
/-- so many signs of z stand in the list at Z -/
def Pz (H0 : Hp) (a c : Addr) (k : Int) (Z : Addr) (z : Str) (i : Nat) (H' : Hp) : Prop := Sx [a, c] H0 H' ∧ (∃ cs', Dk H' a c cs' (k + i)) ∧ ∃ ls : List Nat, H' Z = some (.lst ((ls.map s1).map V.str)) ∧ ls.length = i ∧ ∀ x ∈ ls, x ∈ z.cps.toList
theorem Pz.zero {H0 : Hp} {a c : Addr} {cs : List Int} {k : Int} {Z : Addr} {z : Str} (D : Dk H0 a c cs k) (h : H0 Z = none) : Pz H0 a c k Z z 0 (upd H0 Z (.lst [])) :=
  ⟨(Sx.refl _).new h, ⟨cs, by have := D.new (o := .lst []) h; rw [show k + ((0 : Nat) : Int) = k by omega]; exact this⟩, [], upd_same, rfl, fun _ z => by simp at z⟩
theorem Pz.step {H0 H' H2 : Hp} {a c : Addr} {cs : List Int} {k : Int} {Z : Addr} {z : Str} {i : Nat} {x : Nat} (h0 : H0 Z = none) (D0 : Dk H0 a c cs k) (p : Pz H0 a c k Z z i H') (s : Sx [a, c] H' H2) {cs2 : List Int} (D : Dk H2 a c cs2 (k + i + 1)) (hx : x ∈ z.cps.toList) (hi : i < 1000) :
    ∃ acc, H2 Z = some (.lst acc) ∧ acc.length < sizeLine ∧ Pz H0 a c k Z z (i + 1) (upd H2 Z (.lst (acc ++ [.str (s1 x)]))) := by
  obtain ⟨p1, _, ls, p3, p4, p5⟩ := p
  obtain ⟨Za, Zc⟩ := D0.nw h0
  refine ⟨_, s _ _ (by simp [Za, Zc]) p3, lt_line (by rw [List.length_map, List.length_map]; omega), (p1.trans s).own h0, ⟨cs2, ?_⟩, ls ++ [x], ?_, by rw [List.length_append, p4]; rfl, fun y hy => ?_⟩
  · rw [show k + ((i + 1 : Nat) : Int) = k + i + 1 by omega]
    exact D.sx ((Sx.refl (ex := [Z]) _).put (by simp)) (by simp [Za.symm]) (by simp [Zc.symm])
  · rw [upd_same, List.map_append, List.map_append]
    rfl
  · rcases List.mem_append.1 hy with w | w
    · exact p5 y w
    · rw [List.mem_singleton.mp w]; exact hx
/-- whether a text is a name -/
def nmOkB (z : Str) : Bool := decide (1 ≤ z.length) && decide (z.length ≤ 8) && z.cps.toList.all (fun x => (decide (97 ≤ x) && decide (x ≤ 122)) || (decide (48 ≤ x) && decide (x ≤ 57))) && (match z.cps.toList with | [] => true | x :: _ => decide (97 ≤ x)) && !WordsK.contains z
theorem nmOk_of {z : Str} (h : nmOkB z = true) : NmOk z := by
  unfold nmOkB at h
  simp only [Bool.and_eq_true, decide_eq_true_eq, Bool.not_eq_true', List.all_eq_true, Bool.or_eq_true] at h
  obtain ⟨⟨⟨⟨h1, h2⟩, h3⟩, h4⟩, h5⟩ := h
  refine ⟨h1, h2, fun x hx => h3 x hx, fun x hx => ?_, fun hm => ?_⟩
  · cases e : z.cps.toList with
    | nil => rw [e] at hx; simp at hx
    | cons y r =>
      rw [e] at hx h4
      have : y = x := Option.some.inj hx
      rw [← this]
      exact of_decide_eq_true h4
  · rw [List.contains_eq_mem, decide_eq_true hm] at h5
    cases h5
theorem words_no : ∀ z ∈ WordsK, ∀ x ∈ z.cps.toList, x ≠ 113 ∧ x ≠ 118 ∧ x ≠ 122 := by decide +kernel
theorem ab_az : ∀ x ∈ (Str.ofString "abcdefghijklmnopqrstuvwxyz").cps.toList, 97 ≤ x ∧ x ≤ 122 := by decide +kernel
theorem ab_09 : ∀ x ∈ (Str.ofString "abcdefghijklmnopqrstuvwxyz" ++ Str.ofString "0123456789").cps.toList, (97 ≤ x ∧ x ≤ 122) ∨ (48 ≤ x ∧ x ≤ 57) := by decide +kernel
theorem nm_made {ls gs : List Nat} {x : Nat} (hl : ∀ y ∈ ls, 97 ≤ y ∧ y ≤ 122) (hg : ∀ y ∈ gs, (97 ≤ y ∧ y ≤ 122) ∨ (48 ≤ y ∧ y ≤ 57)) (hx : x = 113 ∨ x = 118 ∨ x = 122) (hn : ls.length + gs.length ≤ 7) :
    NmOk ((⟨ls.toArray⟩ : Str) ++ s1 x ++ (⟨gs.toArray⟩ : Str)) := by
  have e : ((⟨ls.toArray⟩ : Str) ++ s1 x ++ (⟨gs.toArray⟩ : Str)) = ⟨(ls ++ [x] ++ gs).toArray⟩ := by
    show (⟨ls.toArray ++ #[x] ++ gs.toArray⟩ : Str) = _
    simp
  rw [e]
  have el : (⟨(ls ++ [x] ++ gs).toArray⟩ : Str).length = ls.length + 1 + gs.length := by
    show (ls ++ [x] ++ gs).toArray.size = _
    simp
    omega
  refine ⟨by omega, by omega, fun y hy => ?_, fun y hy => ?_, fun hm => ?_⟩
  · have hy' : y ∈ ls ++ [x] ++ gs := by simpa using hy
    simp only [List.mem_append, List.mem_singleton] at hy'
    rcases hy' with (h | h) | h
    · exact .inl (hl y h)
    · omega
    · exact hg y h
  · have hy' : (ls ++ [x] ++ gs)[0]? = some y := by simpa using hy
    cases ls with
    | nil => have : x = y := Option.some.inj (by simpa using hy'); omega
    | cons u r => have : u = y := Option.some.inj (by simpa using hy'); have := hl u (by simp); omega
  · have := words_no _ hm x (by simp)
    omega
section
variable {w : World} {P : Program} {K : PySem.W.Frag} {mg : Str → Option Value} {base : Heap}
def spDeck (K : PySem.W.Frag) : Sp := fun vs H Q _ => ∃ (a : Addr) (ns : List Int), vs = [.ref a] ∧ SqL K H a (ns.map V.int) ∧ ns.length ≤ 63 ∧
  ∀ H' p c cs, Sx [] H H' → H p = none → H c = none → Dk H' p c cs 0 → Q (.ref p) H'
theorem ok_deck {f : Addr} {fd : FuncData} {k : Nat} (F : Fun K "_law_deck" "_law_deck" sDeck f fd) (ma : mg "abs" = none) : FnOk P w K mg base CX0 (k + 1) f fd ["_law_script"] (spDeck K) := by
  refine F.ok scDeck (fun vs H Q E h => ?_) (fun cdv A outer s H vs Q E hr h => ?_)
  · obtain ⟨a, ns, rfl, _⟩ := h
    rfl
  · rcases h with ⟨a, ns, rfl, hS, hlen, q⟩
    refine ⟨_, pss_one (ps_ret (pe_lst (pa_cons
      (pe_lc (own := [("_law_cell", 1)]) (g := gName 1) (tt := tYes) rfl scDeck.nd (pi_list (pe_slice sl_list (pv 0) po_none (po_some pe_int))) (blkOk_by (N := nDeck) (sc := defScope sDeck) (by decide +kernel))
        (fun _ _ _ _ _ => pg_name (i := 1) scDeck.nd rfl (Or.inl rfl)) (fun _ _ _ _ _ => pts_nil) (fun _ _ _ _ _ => pe_callB call_abs (by rfl) ma (by decide +kernel) (pa_cons (pv 1) pa_nil)))
      (pa_cons pe_int pa_nil)))), ?_⟩
    refine ⟨_, rfl, 63, rfl, a, ns.map V.int, rfl, hS, fun l hl => ?_⟩
    have cut : cutV (ns.map V.int) none (some 63) = ns.map V.int := by
      unfold cutV
      rw [HT.sIx_none, show HT.sIx (ns.map V.int).length (ns.map V.int).length (some 63) = min 63 (ns.map V.int).length from HT.sIx_nat _ _ 63, List.drop_zero, Nat.sub_zero, List.length_map, Nat.min_eq_right hlen]
      exact List.take_of_length_le (by rw [List.length_map]; exact Nat.le_refl _)
    rw [cut]
    have s1 : Sx [] H (upd H l (.lst (ns.map V.int))) := Sx.new (Sx.refl _) hl
    refine ⟨l, rfl, ⟨_, .inl (.inl upd_same)⟩, fun D hD => lc_list (xs := ns.map V.int)
      (fun i H' => Sx [] H H' ∧ H' l = some (.lst (ns.map V.int)) ∧ H' D = some (.lst ((ns.map fun x => V.int (if x < 0 then -x else x)).take i))) ⟨s1.new hD, ?_, upd_same⟩ (fun i H' _ p => .inl (.inl p.2.1)) (fun i x H' hx p => ?_) (fun H' p => ?_)⟩
    · have hlD : l ≠ D := fun e => by
        rw [← e, upd_same] at hD
        cases hD
      rw [upd_ne hlD, upd_same]
    · obtain ⟨p1, p2, p3⟩ := p
      rw [List.getElem?_map] at hx
      obtain ⟨y, hy, rfl⟩ := Option.map_eq_some_iff.mp hx
      refine ⟨rfl, ?_⟩
      refine ⟨.int y, rfl, y, rfl, _, p3, ?_, ?_, ?_, ?_⟩
      · rw [List.length_take, List.length_map]
        have : (63 : Nat) < sizeLine := by decide
        omega
      · exact p1.own (s1.free (by simp) hD)
      · have hlD : l ≠ D := fun e => by
          rw [← e, upd_same] at hD
          cases hD
        rw [upd_ne hlD]
        exact p2
      · rw [upd_same, List.take_add_one, List.getElem?_map, hy]
        rfl
    · obtain ⟨p1, p2, p3⟩ := p
      refine ⟨by (show 2 ≤ sizeLine); decide, fun p hp => ?_⟩
      have hDp : D ≠ p := ne_of_none p3 hp
      rw [List.length_map, List.take_of_length_le (by rw [List.length_map]; exact Nat.le_refl _)] at p3
      refine q _ p D (ns.map fun x => if x < 0 then -x else x) (p1.new hp) (p1.free (by simp) hp) (s1.free (by simp) hD) ⟨upd_same, ?_, ?_, by rw [List.length_map]; exact hlen, Int.le_refl _⟩
      · rw [upd_ne hDp, p3, List.map_map]
        rfl
      · intro x hx
        obtain ⟨y, _, rfl⟩ := List.mem_map.mp hx
        split <;> omega
def spDraw : Sp := fun vs H Q _ => ∃ (a c : Addr) (cs : List Int) (k m : Int), vs = [.ref a, .int m] ∧ Dk H a c cs k ∧ 0 < m ∧ m < 1073741824 ∧ k < KB ∧
  ∀ H' cs' r, Sx [a, c] H H' → Dk H' a c cs' (k + 1) → 0 ≤ r → r < m → Q (.int r) H'
theorem ok_draw {f : Addr} {fd : FuncData} {k : Nat} (F : Fun K "_law_draw" "_law_draw" sDraw f fd) (z_len : mg "len" = none) (z_int : mg "int" = none) : FnOk P w K mg base CX0 (k + 1) f fd ["_law_deck_here", "_law_many"] spDraw := by
  refine F.ok scDraw (fun vs H Q E h => ?_) (fun cdv A outer s H vs Q E hr h => ?_)
  · obtain ⟨a, c, cs, k, m, rfl, _⟩ := h
    rfl
  · obtain ⟨a, c, cs, k, m, rfl, D, hm0, hm1, hk, q⟩ := h
    refine ⟨_, (pss_cons (ps_asg (pe_op op_add (pe_ix ix_list (pv 0) pe_int (fun _ _ => rfl)) pe_int) (pg_sub (pv 0) pe_int set_list))
      (pss_cons (ps_asg (pe_tup (pa_cons pe_int (pa_cons (pe_un un_neg pe_int) pa_nil))) (pg_tup rfl (pgs_cons (pg_name (i := 2) scDraw.nd rfl (by first | exact Or.inl rfl | exact Or.inr rfl)) (pgs_cons (pg_name (i := 3) scDraw.nd rfl (by first | exact Or.inl rfl | exact Or.inr rfl)) pgs_nil))))
      (C8.pss_cut (ps_if (pt_cmpR op_gt (pe_callB call_len_seq (by rfl) z_len boot_len (pa_cons (pe_ix ix_list (pv 0) pe_int (fun _ _ => rfl)) pa_nil)) pe_int (nomark _)) (pss_cons (ps_set (i := 3) scDraw.nd rfl (by first | exact Or.inl rfl | exact Or.inr rfl) (pe_op op_mod (pe_callTy call_int1 (by rfl) z_int boot_int (pa_cons (pe_ix ix_list (pv 0) pe_int (fun _ _ => rfl)) pa_nil)) (pe_callB call_len_seq (by rfl) z_len boot_len (pa_cons (pe_ix ix_list (pv 0) pe_int (fun _ _ => rfl)) pa_nil))))
      (pss_one (ps_set (i := 2) scDraw.nd rfl (by first | exact Or.inl rfl | exact Or.inr rfl) (pe_ix ix_list (pe_ix ix_list (pv 0) pe_int (fun _ _ => rfl)) (pv 3) (fun _ _ => rfl))))) pss_nil)
      (pss_cons (ps_if (pt_cmpR op_ge (pv 2) (pe_op op_pow pe_int pe_int) (nomark _)) (pss_cons (ps_asg (pe_op op_fdiv (pe_callTy call_int1 (by rfl) z_int boot_int (pa_cons (pv 2) pa_nil)) (pv 1)) (pg_sub (pe_ix ix_list (pv 0) pe_int (fun _ _ => rfl)) (pv 3) set_list))
      (pss_one (ps_ret (pe_op op_mod (pe_callTy call_int1 (by rfl) z_int boot_int (pa_cons (pv 2) pa_nil)) (pv 1))))) pss_nil)
      (pss_cons (ps_set (i := 4) scDraw.nd rfl (by first | exact Or.inl rfl | exact Or.inr rfl) (pe_op op_add (pe_op op_add (pe_op op_mod (pe_callTy call_int1 (by rfl) z_int boot_int (pa_cons (pv 2) pa_nil)) pe_int) (pe_op op_mul pe_int (pe_ix ix_list (pv 0) pe_int (fun _ _ => rfl)))) pe_int))
      (pss_one (ps_ret (pe_op op_mod (pe_callTy call_int1 (by rfl) z_int boot_int (pa_cons (pe_op op_mod (pe_callTy call_int1 (by rfl) z_int boot_int (pa_cons (pe_op op_pow (pv 4) pe_int) pa_nil)) pe_int) pa_nil)) (pv 1))))))))), ?_⟩
    refine ⟨.ref a, rfl, a, _, 1, .int k, rfl, rfl, .inl (.inl D.ha), rfl, _, _, rfl, rfl, .ref a, rfl, a, _, 1, 1, rfl, rfl, D.ha, rfl, ?_⟩
    have na := D.ne
    have k0 := D.k0
    refine gh (H1 := upd _ a _) (F := fun H1 => Sx [a, c] H H1 ∧ Dk H1 a c cs (k + 1)) ⟨(Sx.refl H).put (by simp), upd_same, by rw [upd_ne na.symm]; exact D.hc, D.pos, D.len, by omega⟩ (fun H1 ⟨s1, D1⟩ => ?_)
    -- _law_cell, _law_at = 0, -1
    refine ⟨1, rfl, by show 2 ≤ sizeLine; decide, fun t ht => ⟨t, _, rfl, .inl (.inl upd_same), rfl, _, _, rfl, _, _, rfl, rfl, ?_⟩⟩
    refine gh (H1 := upd _ t _) (F := fun H2 => Sx [a, c] H H2 ∧ Dk H2 a c cs (k + 1)) ⟨s1.new ht, D1.same ((Sx.refl _).new ht)⟩ (fun H2 ⟨s2, D2⟩ => ?_)
    -- if len(..) > 0
    refine ⟨fun σ' H' => ∃ x at' : Int, σ' = [some (.ref a), some (.int m), some (.int x), some (.int at'), none] ∧ H' = H2 ∧ 0 ≤ x ∧ (1000000000000000000 ≤ x → ∃ j : Nat, at' = (j : Int) ∧ j < cs.length), ?_, ?_⟩
    · refine ⟨.ref a, rfl, a, _, 0, .ref c, rfl, rfl, .inl (.inl D2.ha), rfl, c, _, rfl, .inl (.inl (.inl D2.hc)), _, _, rfl, rfl, _, rfl, ite2 (fun e => ?_) (fun e => ?_)⟩
      · have e' : (0 : Int) < ((cs.map V.int).length : Int) := of_decide_eq_true e
        rw [List.length_map] at e'
        refine ⟨.ref a, rfl, a, _, 1, .int (k + 1), rfl, rfl, .inl (.inl D2.ha), rfl, .inl ⟨_, rfl, .ref a, rfl, a, _, 0, .ref c, rfl, rfl, .inl (.inl D2.ha), rfl, c, _, rfl, .inl (.inl (.inl D2.hc)), _, _, rfl, rfl, by rw [List.length_map]; exact e', ?_⟩⟩
        have b0 := Int.emod_nonneg (k + 1) (show ((cs.length : Nat) : Int) ≠ 0 by omega)
        have b1 := Int.emod_lt_of_pos (k + 1) e'
        obtain ⟨j, hj⟩ := Int.eq_ofNat_of_zero_le b0
        have hjl : j < cs.length := by omega
        have hj' : (k + 1) % (((cs.map V.int).length : Nat) : Int) = (j : Int) := by rw [List.length_map]; exact hj
        refine ⟨.ref a, rfl, a, _, 0, .ref c, rfl, rfl, .inl (.inl D2.ha), rfl, _, rfl, c, _, _, .int (cs[j]), rfl, rfl, .inl (.inl D2.hc), at_of hj' (by rw [List.getElem?_map, List.getElem?_eq_getElem hjl]; rfl), ?_⟩
        exact ⟨_, _, rfl, rfl, D2.pos _ (List.getElem_mem hjl), fun _ => ⟨j, hj', hjl⟩⟩
      · exact ⟨0, -1, rfl, rfl, Int.le_refl _, fun z => absurd z (by decide)⟩
    -- what follows
    · rintro _ _ ⟨x, at', rfl, rfl, hx, hat⟩
      refine ⟨_, rfl, 10, 18, rfl, rfl, ⟨by decide, by decide, by decide⟩, x, _, rfl, rfl, _, rfl, ite2 (fun e => ?_) (fun e => ?_)⟩
      · have e' : (1000000000000000000 : Int) ≤ x := of_decide_eq_true e
        obtain ⟨j, rfl, hj⟩ := hat e'
        refine ⟨_, rfl, .inl ⟨x, rfl, _, rfl, x, m, rfl, rfl, ⟨hm0, hm1⟩, .ref a, rfl, a, _, 0, .ref c, rfl, rfl, .inl (.inl D2.ha), rfl, _, rfl, c, _, _, j, rfl, rfl, D2.hc, ixN_of rfl (by rw [List.length_map]; exact hj), ?_⟩⟩
        refine ⟨_, rfl, .inl ⟨x, rfl, _, rfl, x, m, rfl, rfl, hm0, ?_⟩⟩
        refine q _ (cs.set j (x / m)) _ (s2.put (by simp)) ⟨by rw [upd_ne na]; exact D2.ha, by rw [upd_same, ← List.map_set], fun y hy => ?_, by rw [List.length_set]; exact D2.len, by omega⟩ (Int.emod_nonneg _ (by omega)) (Int.emod_lt_of_pos _ hm0)
        rcases List.mem_or_eq_of_mem_set hy with z | rfl
        · exact D2.pos y z
        · exact Int.ediv_nonneg hx (by omega)
      · refine ⟨_, rfl, .inl ⟨x, rfl, x, 2147483563, rfl, rfl, (by decide : (0 : Int) < 2147483563), .ref a, rfl, a, _, 1, .int (k + 1), rfl, rfl, .inl (.inl D2.ha), rfl, 8117, k + 1, rfl, rfl, .inl ⟨by decide, by decide⟩, _, _, rfl, rfl, _, 3, rfl, rfl, ?_⟩⟩
        have b0 := Int.emod_nonneg x (by decide : (2147483563 : Int) ≠ 0)
        have b1 := Int.emod_lt_of_pos x (by decide : (0 : Int) < 2147483563)
        refine ⟨_, rfl, _, 5, rfl, rfl, ⟨by decide, by decide, ?_⟩, .inl ⟨_, rfl, _, 2147483629, rfl, rfl, (by decide : (0 : Int) < 2147483629), .inl ⟨_, rfl, _, rfl, _, m, rfl, rfl, hm0, ?_⟩⟩⟩
        · have hk' : k < 1099511627776 := hk
          omega
        · exact q _ cs _ s2 D2 (Int.emod_nonneg _ (by omega)) (Int.emod_lt_of_pos _ hm0)
/-- one of a list's items, or one of a text's signs -/
def spOne (K : PySem.W.Frag) : Sp := fun vs H Q _ => ∃ (a c : Addr) (cs : List Int) (k : Int) (it : V), vs = [.ref a, it] ∧ Dk H a c cs k ∧ k < KB ∧
  ((∃ p xs, it = .ref p ∧ SqL K H p xs ∧ xs ≠ [] ∧ xs.length ≤ 100000 ∧ p ≠ a ∧ p ≠ c ∧ ∀ H' cs' x, Sx [a, c] H H' → Dk H' a c cs' (k + 1) → x ∈ xs → Q x H') ∨
    ∃ z : Str, it = .str z ∧ 0 < z.length ∧ z.length ≤ 100000 ∧ ∀ H' cs' x, Sx [a, c] H H' → Dk H' a c cs' (k + 1) → x ∈ z.cps.toList → Q (.str ⟨#[x]⟩) H')
theorem ok_one {f fD : Addr} {fd fdD : FuncData} {k : Nat} (F : Fun K "_law_one" "_law_one" sOne f fd) (F_draw : Fun K "_law_draw" "_law_draw" sDraw fD fdD) (G_draw : FnOk P w K mg base CX0 (k + 1) fD fdD ["_law_deck_here", "_law_many"] spDraw)
    (b_draw : Binds K fdD ["_law_deck_here", "_law_many"] []) (m_draw : mg "_law_draw" = some (.ref fD)) (z_len : mg "len" = none) : FnOk P w K mg base CX0 (k + 2) f fd ["_law_deck_here", "_law_items"] (spOne K) := by
  refine F.ok scOne (fun vs H Q E h => ?_) (fun cdv A outer s H vs Q E hr h => ?_)
  · obtain ⟨a, c, cs, k, it, rfl, _⟩ := h
    rfl
  · obtain ⟨a, c, cs, k, it, rfl, D, hk, q⟩ := h
    refine ⟨_, (pss_one (ps_ret (pe_ix (ix_or ix_list ix_str) (pv 1) (pe_call G_draw (hr.mono (by omega)) (by rfl) m_draw F_draw.kp b_draw .nil pass0 (pa_cons (pv 0) (pa_cons (pe_callB (cr_or call_len_seq call_len_str) (by rfl) z_len boot_len (pa_cons (pv 1) pa_nil)) pa_nil))) (fun _ _ => rfl)))), ?_⟩
    rcases q with ⟨p, xs, rfl, hp, hne, hlen, pa, pc, q⟩ | ⟨z, rfl, hz0, hz1, q⟩
    · refine ⟨_, rfl, _, rfl, _, rfl, .inl ⟨p, xs, rfl, .inl hp, a, c, cs, k, _, rfl, D, by have : 0 < xs.length := List.length_pos_iff.mpr hne; omega, by omega, hk, fun H' cs' r s1 D1 r0 r1 => ?_⟩⟩
      obtain ⟨j, rfl⟩ := Int.eq_ofNat_of_zero_le r0
      have hj : j < xs.length := by omega
      exact .inl ⟨p, xs, _, xs[j], rfl, rfl, s1.seqL (by simp [pa, pc]) hp, atI_nat (List.getElem?_eq_getElem hj), q H' cs' _ s1 D1 (List.getElem_mem hj)⟩
    · refine ⟨_, rfl, _, rfl, _, rfl, .inr ⟨z, rfl, le_line (by omega), a, c, cs, k, _, rfl, D, by omega, by omega, hk, fun H' cs' r s1 D1 r0 r1 => ?_⟩⟩
      obtain ⟨j, rfl⟩ := Int.eq_ofNat_of_zero_le r0
      have hj : j < z.cps.toList.length := by rw [Array.length_toList]; have : z.length = z.cps.size := rfl; omega
      exact .inr ⟨z, _, z.cps.toList[j], rfl, rfl, le_line (by omega), atI_nat (List.getElem?_eq_getElem hj), q H' cs' _ s1 D1 (List.getElem_mem hj)⟩
def spExpr (K : PySem.W.Frag) (d : Nat) : Sp := fun vs H Q _ => ∃ (a c : Addr) (cs : List Int) (k : Int) (nm : Addr) (ns : List Str), vs = [.ref a, .ref nm, .int (d : Int)] ∧ Dk H a c cs k ∧ Nms K H nm ns ∧ nm ≠ a ∧ nm ≠ c ∧ 1 ≤ d ∧ k + cE d ≤ KB ∧
  ∀ H' cs' k' v e, Sx [a, c] H H' → Dk H' a c cs' k' → k ≤ k' → k' ≤ k + cE d → Tp H' v e → ExD ns d e → Q v H'
theorem ok_expr {f fD fO : Addr} {fd fdD fdO : FuncData} (F_expression : Fun K "_law_expression" "_law_expression" sExpression f fd) (F_draw : Fun K "_law_draw" "_law_draw" sDraw fD fdD) (F_one : Fun K "_law_one" "_law_one" sOne fO fdO)
    (G_draw : FnOk P w K mg base CX0 1 fD fdD ["_law_deck_here", "_law_many"] spDraw) (G_one : FnOk P w K mg base CX0 2 fO fdO ["_law_deck_here", "_law_items"] (spOne K))
    (b_draw : Binds K fdD ["_law_deck_here", "_law_many"] []) (b_one : Binds K fdO ["_law_deck_here", "_law_items"] []) (b_expression : Binds K fd ["_law_deck_here", "_law_names_here", "_law_deep"] [])
    (m_draw : mg "_law_draw" = some (.ref fD)) (m_one : mg "_law_one" = some (.ref fO)) (m_expression : mg "_law_expression" = some (.ref f)) (z_int : mg "int" = none) :
    ∀ d : Nat, FnOk P w K mg base CX0 (d + 2) f fd ["_law_deck_here", "_law_names_here", "_law_deep"] (spExpr K d) := by
  intro d
  induction d with
  | zero => exact ⟨fun vs H Q E h => by obtain ⟨_, _, _, _, _, _, rfl, _⟩ := h; rfl, fun _ _ _ _ _ _ _ _ _ _ _ _ _ h => by obtain ⟨_, _, _, _, _, _, _, _, _, _, _, h, _⟩ := h; omega⟩
  | succ d G_expression =>
    refine F_expression.ok scExpression (fun vs H Q E h => ?_) (fun cdv A outer s H vs Q E hr h => ?_)
    · obtain ⟨a, c, cs, k, nm, ns, rfl, _⟩ := h
      rfl
    · obtain ⟨a, c, cs, k, nm, ns, rfl, D, N, na, nc, hd, hk, q⟩ := h
      refine ⟨_, (C8.pss_cut (ps_set (i := 3) scExpression.nd rfl (by first | exact Or.inl rfl | exact Or.inr rfl) (pe_ifExp (pt_cmpR op_gt (pv 2) pe_int (nomark _)) (pe_call G_draw (hr.mono (by omega)) (by rfl) m_draw F_draw.kp b_draw .nil pass0 (pa_cons (pv 0) (pa_cons pe_int pa_nil))) (pe_call G_draw (hr.mono (by omega)) (by rfl) m_draw F_draw.kp b_draw .nil pass0 (pa_cons (pv 0) (pa_cons pe_int pa_nil)))))
      (pss_cons (ps_if (pt_cmpR op_eq (pv 3) pe_int (nomark _)) (pss_one (ps_ret (pe_call G_one (hr.mono (by omega)) (by rfl) m_one F_one.kp b_one .nil pass0 (pa_cons (pv 0) (pa_cons (pe_lst (pa_cons pe_int (pa_cons pe_int (pa_cons pe_int (pa_cons (pe_un un_neg pe_int) (pa_cons pe_int (pa_cons (pe_un un_neg pe_int) (pa_cons pe_int (pa_cons (pe_un un_neg pe_int) (pa_cons (pe_op op_sub (pe_call G_draw (hr.mono (by omega)) (by rfl) m_draw F_draw.kp b_draw .nil pass0 (pa_cons (pv 0) (pa_cons pe_int pa_nil))) pe_int) pa_nil)))))))))) pa_nil))))) pss_nil)
      (pss_cons (ps_if (pt_cmpR op_lt (pv 3) pe_int (nomark _)) (pss_one (ps_ret (pe_call G_one (hr.mono (by omega)) (by rfl) m_one F_one.kp b_one .nil pass0 (pa_cons (pv 0) (pa_cons (pv 1) pa_nil))))) pss_nil)
      (pss_cons (ps_if (pt_cmpR op_eq (pv 3) pe_int (nomark _)) (pss_cons (ps_set (i := 4) scExpression.nd rfl (by first | exact Or.inl rfl | exact Or.inr rfl) (pe_call G_one (hr.mono (by omega)) (by rfl) m_one F_one.kp b_one .nil pass0 (pa_cons (pv 0) (pa_cons (pe_lst (pa_cons (pe_un un_neg pe_int) (pa_cons (pe_un un_neg pe_int) (pa_cons (pe_un un_neg pe_int) (pa_cons (pe_un un_neg pe_int) (pa_cons (pe_un un_neg pe_int) (pa_cons pe_int (pa_cons pe_int (pa_cons pe_int (pa_cons pe_int pa_nil)))))))))) pa_nil))))
      (pss_one (ps_ret (pe_tup (pa_cons pe_str (pa_cons (pv 4) (pa_cons (pe_call G_expression (hr.mono (by omega)) (by rfl) m_expression F_expression.kp b_expression .nil pass0 (pa_cons (pv 0) (pa_cons (pv 1) (pa_cons (pe_op op_sub (pv 2) pe_int) pa_nil)))) pa_nil))))))) pss_nil)
      (pss_cons (ps_set (i := 5) scExpression.nd rfl (by first | exact Or.inl rfl | exact Or.inr rfl) (pe_call G_expression (hr.mono (by omega)) (by rfl) m_expression F_expression.kp b_expression .nil pass0 (pa_cons (pv 0) (pa_cons (pv 1) (pa_cons (pe_op op_sub (pv 2) pe_int) pa_nil)))))
      (pss_one (ps_ret (pe_tup (pa_cons (pe_ix ix_list (pe_lst (pa_cons pe_str (pa_cons pe_str pa_nil))) (pe_op op_mod (pe_callTy call_int1 (by rfl) z_int boot_int (pa_cons (pv 3) pa_nil)) pe_int) (fun _ _ => rfl)) (pa_cons (pv 5) (pa_cons (pe_call G_expression (hr.mono (by omega)) (by rfl) m_expression F_expression.kp b_expression .nil pass0 (pa_cons (pv 0) (pa_cons (pv 1) (pa_cons (pe_op op_sub (pv 2) pe_int) pa_nil)))) pa_nil))))))))))), ?_⟩
      have e1 := cE_one d
      have e2 := cE_pos d
      have hs : V.int (((d + 1 : Nat) : Int) - 1) = V.int (d : Int) := by rw [show ((d + 1 : Nat) : Int) - 1 = (d : Int) by omega]
      refine ⟨fun σ' H' => ∃ cs1 r, σ' = [some (.ref a), some (.ref nm), some (.int ((d + 1 : Nat) : Int)), some (.int r), none, none] ∧ Sx [a, c] H H' ∧ Dk H' a c cs1 (k + 1) ∧ 0 ≤ r ∧ r < 7 ∧ (d = 0 → r < 4), ?_, ?_⟩
      · refine ⟨_, rfl, _, 1, rfl, rfl, _, rfl, ite2 (fun e => ?_) (fun e => ?_)⟩
        · have e' : (1 : Int) < ((d + 1 : Nat) : Int) := of_decide_eq_true e
          refine ⟨_, rfl, a, c, cs, k, 7, rfl, D, by decide, by decide, by omega, fun H1 cs1 r s1 D1 r0 r1 => ⟨cs1, r, rfl, s1, D1, r0, r1, fun z => by omega⟩⟩
        · refine ⟨_, rfl, a, c, cs, k, 4, rfl, D, by decide, by decide, by omega, fun H1 cs1 r s1 D1 r0 r1 => ⟨cs1, r, rfl, s1, D1, r0, by omega, fun _ => r1⟩⟩
      · rintro _ H1 ⟨cs1, r, rfl, s1, D1, r0, r7, rd⟩
        have N1 := N.keep s1 (by simp [na, nc])
        refine ⟨_, rfl, rfl, _, rfl, ite2 (fun e => ?_) (fun e => ?_)⟩
        -- 0: an integer
        · refine ⟨_, rfl, 1, rfl, 5, rfl, 99, rfl, _, rfl, a, c, cs1, k + 1, 199, rfl, D1, by decide, by decide, by omega, fun H2 cs2 z s2 D2 z0 z1 => ?_⟩
          refine ⟨z, 99, rfl, rfl, by show 9 ≤ sizeLine; decide, fun p hp => ?_⟩
          obtain ⟨pa, pc⟩ := D2.nw hp
          refine ⟨a, c, cs2, _, _, rfl, D2.same ((Sx.refl _).new hp), by omega, .inl ⟨p, _, rfl, .inl (.inl upd_same), by simp, by show 9 ≤ 100000; decide, pa, pc, fun H3 cs3 x s4 D3 hx => ?_⟩⟩
          obtain ⟨i, rfl, i0, i1⟩ : ∃ i : Int, x = .int i ∧ -99 ≤ i ∧ i ≤ 99 := by
            simp only [List.not_mem_nil, List.mem_cons, or_false] at hx
            rcases hx with rfl | rfl | rfl | rfl | rfl | rfl | rfl | rfl | rfl
            all_goals first
              | exact ⟨_, rfl, by decide, by decide⟩
              | exact ⟨_, rfl, by show -99 ≤ z - 99; omega, by show z - 99 ≤ 99; omega⟩
          exact q H3 cs3 _ _ _ (((s1.trans s2).new hp).trans s4) D3 (by omega) (by omega) (.int i) (.int i i0 i1)
        · refine ⟨_, rfl, _, 4, rfl, rfl, _, rfl, ite2 (fun e4 => ?_) (fun e4 => ?_)⟩
          -- below 4: a name
          · refine ⟨_, rfl, _, rfl, a, c, cs1, k + 1, _, rfl, D1, by omega, .inl ⟨nm, _, rfl, N1.at_, by simp [N.ne], by rw [List.length_map]; have := N.len; omega, na, nc, fun H3 cs3 x s4 D3 hx => ?_⟩⟩
            obtain ⟨z, hz, rfl⟩ := List.mem_map.mp hx
            exact q H3 cs3 _ _ _ (s1.trans s4) D3 (by omega) (by omega) (.str z) (.name z hz)
          · have e4' : ¬ r < 4 := fun z => e4 (decide_eq_true z)
            have hd0 : 1 ≤ d := by
              rcases Nat.eq_zero_or_pos d with z | z
              · exact absurd (rd z) e4'
              · exact z
            refine ⟨_, rfl, rfl, _, rfl, ite2 (fun e6 => ?_) (fun e6 => ?_)⟩
            -- 6: times
            · refine ⟨_, rfl, 9, rfl, 4, rfl, 3, rfl, 2, rfl, 1, rfl, by show 9 ≤ sizeLine; decide, fun p hp => ?_⟩
              obtain ⟨pa, pc⟩ := D1.nw hp
              refine ⟨a, c, cs1, _, _, rfl, D1.same ((Sx.refl _).new hp), by omega, .inl ⟨p, _, rfl, .inl (.inl upd_same), by simp, by show 9 ≤ 100000; decide, pa, pc, fun H2 cs2 x s2 D2 hx => ?_⟩⟩
              obtain ⟨i, rfl, i0, i1⟩ : ∃ i : Int, x = .int i ∧ -9 ≤ i ∧ i ≤ 9 := by
                simp only [List.not_mem_nil, List.mem_cons, or_false] at hx
                rcases hx with rfl | rfl | rfl | rfl | rfl | rfl | rfl | rfl | rfl
                all_goals exact ⟨_, rfl, by decide, by decide⟩
              have s12 : Sx [a, c] H1 H2 := ((Sx.refl _).new hp).trans s2
              have N2 := N1.keep s12 (by simp [na, nc])
              refine ⟨_, rfl, _, rfl, _, rfl, _, rfl, _, 1, rfl, rfl, a, c, cs2, k + 1 + 1, nm, ns, congrArg (fun z => [V.ref a, V.ref nm, z]) hs, D2, N2, na, nc, hd0, by omega, fun H3 cs3 k3 v ev s3 D3 k3a k3b t3 x3 => ?_⟩
              refine ⟨by show 3 ≤ sizeLine; decide, fun t ht => ?_⟩
              exact q _ cs3 k3 _ _ (((s1.trans s12).trans s3).new ht) (D3.new ht) (by omega) (by omega) (.tup upd_same (.cons (.str _) (.cons (.int i) (.cons (t3.new ht) .nil)))) (.times i i0 i1 x3)
            -- plus, minus
            · refine ⟨_, rfl, _, rfl, _, rfl, _, 1, rfl, rfl, a, c, cs1, k + 1, nm, ns, congrArg (fun z => [V.ref a, V.ref nm, z]) hs, D1, N1, na, nc, hd0, by omega, fun H2 cs2 k2 v ev s2 D2 k2a k2b t2 x2 => ?_⟩
              refine ⟨by show 2 ≤ sizeLine; decide, fun l hl => ?_⟩
              obtain ⟨la, lc⟩ := D2.nw hl
              have n2 : Sx [] H2 (upd H2 l _) := (Sx.refl _).new (o := .lst [.str "plus", .str "minus"]) hl
              have D2' := D2.same n2
              have N2 := (N1.keep s2 (by simp [na, nc])).keep n2 (by simp)
              have t2' := t2.keep n2.tk0
              obtain ⟨b, hb, hr2⟩ : ∃ b : Str, (b = "plus" ∨ b = "minus") ∧ atI [V.str "plus", V.str "minus"] (r % 2) = some (.str b) := by
                rcases (show r % 2 = 0 ∨ r % 2 = 1 by omega) with z | z
                · exact ⟨_, .inl rfl, by rw [z]; rfl⟩
                · exact ⟨_, .inr rfl, by rw [z]; rfl⟩
              refine ⟨_, rfl, .inl ⟨r, rfl, r, 2, rfl, rfl, (by decide : (0 : Int) < 2), l, _, _, .str b, rfl, rfl, .inl (.inl upd_same), hr2, ?_⟩⟩
              refine ⟨_, rfl, _, rfl, _, rfl, _, rfl, _, 1, rfl, rfl, a, c, cs2, k2, nm, ns, congrArg (fun z => [V.ref a, V.ref nm, z]) hs, D2', N2, na, nc, hd0, by omega, fun H3 cs3 k3 v' ev' s3 D3 k3a k3b t3 x3 => ?_⟩
              refine ⟨by show 3 ≤ sizeLine; decide, fun t ht => ?_⟩
              refine q _ cs3 k3 _ (.tuple [.str b, ev, ev']) ((((s1.trans s2).trans n2.nil).trans s3).new ht) (D3.new ht) (by omega) (by omega) (.tup upd_same (.cons (.str _) (.cons ((t2'.keep (D2'.tk s3)).new ht) (.cons (t3.new ht) .nil)))) ?_
              rcases hb with rfl | rfl
              · exact .plus x2 x3
              · exact .minus x2 x3
def spTest (K : PySem.W.Frag) : Sp := fun vs H Q _ => ∃ (a c : Addr) (cs : List Int) (k : Int) (nm : Addr) (ns : List Str) (rm : Addr) (r0 r1 r2 r3 t : Int), vs = [.ref a, .ref nm, .ref rm, .int t] ∧ Dk H a c cs k ∧ Nms K H nm ns ∧ Rm H rm r0 r1 r2 r3 ∧
  nm ≠ a ∧ nm ≠ c ∧ nm ≠ rm ∧ rm ≠ a ∧ rm ≠ c ∧ 1 ≤ t ∧ k + 46 ≤ KB ∧
  ∀ H' cs' k' v e, Sx [a, c, rm] H H' → Dk H' a c cs' k' → k ≤ k' → k' ≤ k + 46 → Tp H' v e →
    ((e = .tuple [] ∧ Rm H' rm r0 r1 r2 r3) ∨ ∃ b, TsD ns 2 b e ∧ Rm H' rm r0 r1 (r2 - t * bI b) (r3 - t * bI (!b))) → Q v H'
theorem ok_test {f fD fO fE : Addr} {fd fdD fdO fdE : FuncData} (F : Fun K "_law_test" "_law_test" sTest f fd) (F_draw : Fun K "_law_draw" "_law_draw" sDraw fD fdD) (F_one : Fun K "_law_one" "_law_one" sOne fO fdO) (F_expression : Fun K "_law_expression" "_law_expression" sExpression fE fdE)
    (G_draw : FnOk P w K mg base CX0 1 fD fdD ["_law_deck_here", "_law_many"] spDraw) (G_one : FnOk P w K mg base CX0 2 fO fdO ["_law_deck_here", "_law_items"] (spOne K)) (G_expression : FnOk P w K mg base CX0 5 fE fdE ["_law_deck_here", "_law_names_here", "_law_deep"] (spExpr K 3))
    (b_draw : Binds K fdD ["_law_deck_here", "_law_many"] []) (b_one : Binds K fdO ["_law_deck_here", "_law_items"] []) (b_expression : Binds K fdE ["_law_deck_here", "_law_names_here", "_law_deep"] [])
    (m_draw : mg "_law_draw" = some (.ref fD)) (m_one : mg "_law_one" = some (.ref fO)) (m_expression : mg "_law_expression" = some (.ref fE)) (z_max : mg "max" = none) (z_range : mg "range" = none) :
    FnOk P w K mg base CX0 6 f fd ["_law_deck_here", "_law_names_here", "_law_room", "_law_times"] (spTest K) := by
  refine F.ok scTest (fun vs H Q E h => ?_) (fun cdv A outer s H vs Q E hr h => ?_)
  · obtain ⟨a, c, cs, k, nm, ns, rm, r0, r1, r2, r3, t, rfl, _⟩ := h
    rfl
  · obtain ⟨a, c, cs, k, nm, ns, rm, r0, r1, r2, r3, t, rfl, D, N, R, na, nc, nr, ra, rc, ht, hk, q⟩ := h
    have e3 : cE 3 = 21 := by decide
    refine ⟨_, (pss_cons (ps_par (i := 4) (j := 5) (by rfl) scTest.nd rfl rfl (by decide) rfl rfl (pa_cons (pe_op op_sub (pe_call G_draw (hr.mono (by omega)) (by rfl) m_draw F_draw.kp b_draw .nil pass0 (pa_cons (pv 0) (pa_cons pe_int pa_nil))) pe_int) (pa_cons (pe_tup pa_nil) pa_nil)) (by rfl))
      (C8.pss_cut (ps_if (PW.pt (pw_and (pt_cmpR op_eq (pe_call G_draw (hr.mono (by omega)) (by rfl) m_draw F_draw.kp b_draw .nil pass0 (pa_cons (pv 0) (pa_cons pe_int pa_nil))) pe_int (nomark _)) (pw_and1 (pt_cmpR op_ge (pe_ix ix_list (pv 2) pe_int (fun _ _ => rfl)) (pv 3) (nomark _))))) (pss_cons (ps_asg (pe_op op_sub (pe_ix ix_list (pv 2) pe_int (fun _ _ => rfl)) (pv 3)) (pg_sub (pv 2) pe_int set_list))
      (pss_cons (ps_set (i := 6) scTest.nd rfl (by first | exact Or.inl rfl | exact Or.inr rfl) (pe_op op_add pe_int (pe_call G_draw (hr.mono (by omega)) (by rfl) m_draw F_draw.kp b_draw .nil pass0 (pa_cons (pv 0) (pa_cons pe_int pa_nil)))))
      (pss_one (ps_set (i := 5) scTest.nd rfl (by first | exact Or.inl rfl | exact Or.inr rfl) (pe_tup (pa_cons pe_str (pa_cons (pe_call G_expression (hr.mono (by omega)) (by rfl) m_expression F_expression.kp b_expression .nil pass0 (pa_cons (pv 0) (pa_cons (pv 1) (pa_cons pe_int pa_nil)))) (pa_cons (pv 6) (pa_cons (pe_call G_draw (hr.mono (by omega)) (by rfl) m_draw F_draw.kp b_draw .nil pass0 (pa_cons (pv 0) (pa_cons (pv 6) pa_nil))) pa_nil))))))))) (pss_one (ps_if (pt_cmpR op_ge (pe_ix ix_list (pv 2) pe_int (fun _ _ => rfl)) (pv 3) (nomark _)) (pss_cons (ps_asg (pe_op op_sub (pe_ix ix_list (pv 2) pe_int (fun _ _ => rfl)) (pv 3)) (pg_sub (pv 2) pe_int set_list))
      (pss_cons (ps_set (i := 7) scTest.nd rfl (by first | exact Or.inl rfl | exact Or.inr rfl) (pe_call G_expression (hr.mono (by omega)) (by rfl) m_expression F_expression.kp b_expression .nil pass0 (pa_cons (pv 0) (pa_cons (pv 1) (pa_cons pe_int pa_nil)))))
      (pss_one (ps_set (i := 5) scTest.nd rfl (by first | exact Or.inl rfl | exact Or.inr rfl) (pe_tup (pa_cons pe_str (pa_cons (pv 7) (pa_cons (pe_call G_one (hr.mono (by omega)) (by rfl) m_one F_one.kp b_one .nil pass0 (pa_cons (pv 0) (pa_cons (pe_lst (pa_cons (pe_op op_sub (pe_call G_draw (hr.mono (by omega)) (by rfl) m_draw F_draw.kp b_draw .nil pass0 (pa_cons (pv 0) (pa_cons pe_int pa_nil))) pe_int) (pa_cons (pe_call G_expression (hr.mono (by omega)) (by rfl) m_expression F_expression.kp b_expression .nil pass0 (pa_cons (pv 0) (pa_cons (pv 1) (pa_cons pe_int pa_nil)))) pa_nil))) pa_nil))) pa_nil)))))))) pss_nil)))
      (C8.pss_cut (ps_for PassesOwn.never rfl (pi_range1 (by rfl) z_range (pa_cons (pe_ifExp (pt_cmpR (op_neD hr.units) (pv 5) (pe_tup pa_nil) (nomark _)) (pe_callB (call_max2 rfl) (by rfl) z_max boot_max (pa_cons pe_int (pa_cons (pv 4) pa_nil))) pe_int) pa_nil)) (pg_name (i := 8) scTest.nd rfl (by first | exact Or.inl rfl | exact Or.inr rfl)) (pss_one (ps_set (i := 5) scTest.nd rfl (by first | exact Or.inl rfl | exact Or.inr rfl) (pe_tup (pa_cons pe_str (pa_cons (pv 5) pa_nil))))))
      (pss_one (ps_ret (pv 5)))))), ?_⟩
    -- _law_nots, _law_test_here = .. - 2, ()
    refine ⟨_, rfl, a, c, cs, k, 5, rfl, D, by decide, by decide, by omega, fun H1 cs1 z s1 D1 z0 z1 => ⟨z, 2, rfl, rfl, Nat.zero_le _, fun p hp => ⟨_, _, rfl, ?_⟩⟩⟩
    refine gh (H1 := upd _ p _) (F := fun H2 => Sx [a, c, rm] H H2 ∧ Dk H2 a c cs1 (k + 1) ∧ Nms K H2 nm ns ∧ Rm H2 rm r0 r1 r2 r3 ∧ Tp H2 (.ref p) (.tuple []))
      ⟨(s1.mono (by simp)).new hp, D1.new hp, (N.keep s1 (by simp [na, nc])).keep ((Sx.refl (ex := []) _).new hp) (by simp), (R.sx s1 (by simp [ra, rc])).new hp, .tup upd_same .nil⟩ (fun H2 ⟨s2, D2, N2, R2, T2⟩ => ?_)
    -- the test made
    refine ⟨fun σ' H' => ∃ (cs' : List Int) (k' : Int) (v : V) (e : PyData) (y6 y7 : Option V), σ' = [some (.ref a), some (.ref nm), some (.ref rm), some (.int t), some (.int (z - 2)), some v, y6, y7, none] ∧ Sx [a, c, rm] H H' ∧ Dk H' a c cs' k' ∧ k ≤ k' ∧ k' ≤ k + 46 ∧ Tp H' v e ∧
      ((e = .tuple [] ∧ Rm H' rm r0 r1 r2 r3) ∨ ∃ b, TsD ns 0 b e ∧ Rm H' rm r0 r1 (r2 - t * bI b) (r3 - t * bI (!b))), ?_, ?_⟩
    · refine ⟨_, rfl, a, c, cs1, k + 1, 2, rfl, D2, by decide, by decide, by omega, fun H3 cs3 y s3 D3 y0 y1 => ?_⟩
      have N3 := N2.keep s3 (by simp [na, nc])
      have R3 := R2.sx s3 (by simp [ra, rc])
      have s03 : Sx [a, c, rm] H H3 := s2.trans (s3.mono (by simp))
      have T3 := T2.keep (D2.tk s3)
      refine ⟨rfl, _, rfl, ite2 (fun e => ⟨.ref rm, rfl, rm, _, 2, .int r2, rfl, rfl, .inl (.inl R3.at_), rfl, _, rfl, r2, t, rfl, rfl, _, rfl, ite2 (fun e2 => ?main) (fun e2 => ?els)⟩) (fun e => ?els2)⟩
      case main =>
        have e2' : t ≤ r2 := of_decide_eq_true e2
        -- _law_room[2] = ..
        refine ⟨.ref rm, rfl, rm, _, 2, .int r2, rfl, rfl, .inl (.inl R3.at_), rfl, _, rfl, r2, t, rfl, rfl, _, rfl, rm, _, 2, 2, rfl, rfl, R3.at_, rfl, ?_⟩
        refine gh (H1 := upd _ rm _) (F := fun H4 => Sx [a, c, rm] H H4 ∧ Dk H4 a c cs3 (k + 1 + 1) ∧ Nms K H4 nm ns ∧ Rm H4 rm r0 r1 (r2 - t) r3)
          ⟨s03.put (by simp), D3.sx ((Sx.refl (ex := [rm]) _).put (by simp)) (by simp [ra.symm]) (by simp [rc.symm]), N3.keep ((Sx.refl (ex := [rm]) _).put (by simp)) (by simp [nr]), upd_same, R3.p0, R3.p1, by omega, R3.p3⟩ (fun H4 ⟨s4, D4, N4, R4⟩ => ?_)
        -- _law_by
        refine ⟨_, rfl, a, c, cs3, _, 5, rfl, D4, by decide, by decide, by omega, fun H5 cs5 b s5 D5 b0 b1 => ⟨2, b, rfl, rfl, ?_⟩⟩
        have N5 := N4.keep s5 (by simp [na, nc])
        have R5 := R4.sx s5 (by simp [ra, rc])
        -- the tuple
        refine ⟨_, rfl, _, rfl, a, c, cs5, _, nm, ns, rfl, D5, N5, na, nc, by decide, by omega, fun H6 cs6 k6 v6 x6 s6 D6 k6a k6b T6 X6 => ?_⟩
        refine ⟨_, rfl, _, rfl, _, rfl, a, c, cs6, k6, _, rfl, D6, by show (0 : Int) < 2 + b; omega, by show 2 + b < 1073741824; omega, by omega, fun H7 cs7 y7 s7 D7 y70 y71 => ?_⟩
        refine ⟨by show 4 ≤ sizeLine; decide, fun u hu => ?_⟩
        have R7 := (R5.sx s6 (by simp [ra, rc])).sx s7 (by simp [ra, rc])
        refine ⟨cs7, k6 + 1, .ref u, .tuple [.str "rest", x6, .int (2 + b), .int y7], _, _, rfl, (((s4.trans (s5.mono (by simp))).trans (s6.mono (by simp))).trans (s7.mono (by simp))).new hu, D7.new hu, by omega, by omega,
          .tup upd_same (.cons (.str _) (.cons ((T6.keep (D6.tk s7)).new hu) (.cons (.int _) (.cons (.int _) .nil)))), .inr ⟨true, .rest _ _ X6 (by omega) (by omega) y70 y71, ?_⟩⟩
        have R8 := R7.new (o := .tup [.str "rest", v6, .int (2 + b), .int y7]) hu
        simpa [bI] using R8
      all_goals
        refine ⟨.ref rm, rfl, rm, _, 3, .int r3, rfl, rfl, .inl (.inl R3.at_), rfl, _, rfl, r3, t, rfl, rfl, _, rfl, ite2 (fun e2 => ?_) (fun e2 => ?_)⟩
        · have e2' : t ≤ r3 := of_decide_eq_true e2
          refine ⟨.ref rm, rfl, rm, _, 3, .int r3, rfl, rfl, .inl (.inl R3.at_), rfl, _, rfl, r3, t, rfl, rfl, _, rfl, rm, _, 3, 3, rfl, rfl, R3.at_, rfl, ?_⟩
          refine gh (H1 := upd _ rm _) (F := fun H4 => Sx [a, c, rm] H H4 ∧ Dk H4 a c cs3 (k + 1 + 1) ∧ Nms K H4 nm ns ∧ Rm H4 rm r0 r1 r2 (r3 - t))
            ⟨s03.put (by simp), D3.sx ((Sx.refl (ex := [rm]) _).put (by simp)) (by simp [ra.symm]) (by simp [rc.symm]), N3.keep ((Sx.refl (ex := [rm]) _).put (by simp)) (by simp [nr]), upd_same, R3.p0, R3.p1, R3.p2, by omega⟩ (fun H4 ⟨s4, D4, N4, R4⟩ => ?_)
          -- _law_first
          refine ⟨_, rfl, _, rfl, a, c, cs3, _, nm, ns, rfl, D4, N4, na, nc, by decide, by omega, fun H6 cs6 k6 v6 x6 s6 D6 k6a k6b T6 X6 => ?_⟩
          have N6 := N4.keep s6 (by simp [na, nc])
          -- the second side
          refine ⟨_, rfl, _, rfl, _, rfl, a, c, cs6, k6, 41, rfl, D6, by decide, by decide, by omega, fun H7 cs7 y7 s7 D7 y70 y71 => ⟨y7, 20, rfl, rfl, ?_⟩⟩
          have N7 := N6.keep s7 (by simp [na, nc])
          refine ⟨_, rfl, _, rfl, a, c, cs7, _, nm, ns, rfl, D7, N7, na, nc, by decide, by omega, fun H8 cs8 k8 v8 x8 s8 D8 k8a k8b T8 X8 => ?_⟩
          refine ⟨by show 2 ≤ sizeLine; decide, fun l hl => ?_⟩
          obtain ⟨la, lc⟩ := D8.nw hl
          refine ⟨a, c, cs8, k8, _, rfl, D8.new hl, by omega, .inl ⟨l, _, rfl, .inl (.inl upd_same), by simp, by show 2 ≤ 100000; decide, la, lc, fun H9 cs9 v9 s9 D9 hv => ?_⟩⟩
          have k9 : Tk H8 H9 := ((Sx.refl (ex := []) _).new hl).tk0.trans ((D8.new hl).tk s9)
          obtain ⟨x9, T9, X9⟩ : ∃ x9, Tp H9 v9 x9 ∧ ExD ns 3 x9 := by
            simp only [List.not_mem_nil, List.mem_cons, or_false] at hv
            rcases hv with rfl | rfl
            · exact ⟨_, .int _, .int _ (by show -99 ≤ y7 - 20; omega) (by show y7 - 20 ≤ 99; omega)⟩
            · exact ⟨x8, T8.keep k9, X8⟩
          refine ⟨by show 3 ≤ sizeLine; decide, fun u hu => ?_⟩
          have s89 : Sx [a, c] H8 H9 := ((Sx.refl _).new hl).trans s9
          have R9 := (((R4.sx s6 (by simp [ra, rc])).sx s7 (by simp [ra, rc])).sx s8 (by simp [ra, rc])).sx s89 (by simp [ra, rc])
          refine ⟨cs9, k8 + 1, .ref u, .tuple [.str "less", x6, x9], _, _, rfl, ((((s4.trans (s6.mono (by simp))).trans (s7.mono (by simp))).trans (s8.mono (by simp))).trans (s89.mono (by simp))).new hu, D9.new hu, by omega, by omega,
            .tup upd_same (.cons (.str _) (.cons ((((T6.keep (D6.tk s7)).keep (D7.tk s8)).keep k9).new hu) (.cons (T9.new hu) .nil))), .inr ⟨false, .less X6 X9, ?_⟩⟩
          have R10 := R9.new (o := .tup [.str "less", v6, v9]) hu
          simpa [bI] using R10
        · exact ⟨cs3, _, .ref p, .tuple [], _, _, rfl, s03, D3, by omega, by omega, T3, .inl ⟨rfl, R3⟩⟩
    -- the nots
    · rintro _ H3 ⟨cs3, k3, v, e, y6, y7, rfl, s3, D3, k3a, k3b, T3, h3⟩
      have sh : SeqAt.shaped e = true := by
        rcases h3 with ⟨rfl, _⟩ | ⟨b, hb, _⟩
        · exact (Sh.tup (n := 0) .nil).shaped (by decide)
        · exact (hb.sh N.ok).shaped (by decide)
      refine ⟨fun σ' H' => ∃ v', σ'[5]? = some (some v') ∧ Q v' H', ?_, fun _ _ h => h⟩
      refine ⟨_, rfl, Nat.zero_le _, fun u hu => ⟨e, .tuple [], (T3.new hu).dp, .tup (SqT.of upd_same) .nil, sh, (Sh.tup (n := 0) .nil).shaped (by decide), _, rfl, ?_⟩⟩
      rcases h3 with ⟨rfl, R3⟩ | ⟨b, hb, R3⟩
      · -- no test
        refine iteF ⟨0, rfl, by decide, by decide, ?_⟩
        refine for_range (lo := 0) (n := 0) (fun i σ' H' => σ'[5]? = some (some v) ∧ Sx [a, c, rm] H H' ∧ Dk H' a c cs3 k3 ∧ Tp H' v (.tuple []) ∧ Rm H' rm r0 r1 r2 r3) ⟨rfl, s3.new hu, D3.new hu, T3.new hu, R3.new hu⟩ (fun i σ' H' hi _ => absurd hi (Nat.not_lt_zero _)) (fun σ' H' ⟨p1, p2, p3, p4, p5⟩ => ?_)
        exact ⟨v, p1, q _ cs3 k3 v _ p2 p3 k3a k3b p4 (.inl ⟨rfl, p5⟩)⟩
      · have hne : (!PyData.eqv e (.tuple [])) = true := by
          cases hb <;> rfl
        refine (show ∀ {c : Bool} {A B : Prop}, c = true → A → (if c = true then A else B) from fun h1 h2 => by rw [if_pos h1]; exact h2) hne ?_
        refine ⟨_, rfl, 0, z - 2, rfl, ?_⟩
        have hm : (if z - 2 > 0 then z - 2 else 0) = (((z - 2).toNat : Nat) : Int) := by
          split <;> omega
        refine ⟨_, congrArg (fun y => [V.int y]) hm, by omega, by omega, ?_⟩
        refine for_range (lo := 0) (fun i σ' H' => ∃ v' e' y8, σ' = [some (.ref a), some (.ref nm), some (.ref rm), some (.int t), some (.int (z - 2)), some v', y6, y7, y8] ∧ Sx [a, c, rm] H H' ∧ Dk H' a c cs3 k3 ∧ Tp H' v' e' ∧ TsD ns i b e' ∧ Rm H' rm r0 r1 (r2 - t * bI b) (r3 - t * bI (!b)))
          ⟨v, e, _, rfl, s3.new hu, D3.new hu, T3.new hu, hb, R3.new hu⟩ (fun i σ' H' hi hp => ?_) (fun σ' H' hp => ?_)
        · obtain ⟨v', e', y8, rfl, p1, p2, p3, p4, p5⟩ := hp
          refine ⟨_, rfl, by show 2 ≤ sizeLine; decide, fun x hx => ?_⟩
          exact ⟨.ref x, .tuple [.str "not", e'], _, rfl, p1.new hx, p2.new hx, .tup upd_same (.cons (.str _) (.cons (p3.new hx) .nil)), .not p4, p5.new hx⟩
        · obtain ⟨v', e', y8, rfl, p1, p2, p3, p4, p5⟩ := hp
          exact ⟨v', rfl, q _ cs3 k3 v' e' p1 p2 k3a k3b p3 (.inr ⟨b, p4.up (by omega), p5⟩)⟩
def spPlain (K : PySem.W.Frag) : Sp := fun vs H Q _ => ∃ (a c : Addr) (cs : List Int) (k : Int) (nm : Addr) (ns : List Str), vs = [.ref a, .ref nm] ∧ Dk H a c cs k ∧ Nms K H nm ns ∧ nm ≠ a ∧ nm ≠ c ∧ k + 24 ≤ KB ∧
  ∀ H' cs' k' v e, Sx [a, c] H H' → Dk H' a c cs' k' → k ≤ k' → k' ≤ k + 24 → Tp H' v e → (∀ d, StD ns d 1 1 0 0 e) → Q v H'
theorem ok_plain {f fD fO fE : Addr} {fd fdD fdO fdE : FuncData} (F : Fun K "_law_plain" "_law_plain" sPlain f fd) (F_draw : Fun K "_law_draw" "_law_draw" sDraw fD fdD) (F_one : Fun K "_law_one" "_law_one" sOne fO fdO) (F_expression : Fun K "_law_expression" "_law_expression" sExpression fE fdE)
    (G_draw : FnOk P w K mg base CX0 1 fD fdD ["_law_deck_here", "_law_many"] spDraw) (G_one : FnOk P w K mg base CX0 2 fO fdO ["_law_deck_here", "_law_items"] (spOne K)) (G_expression : FnOk P w K mg base CX0 5 fE fdE ["_law_deck_here", "_law_names_here", "_law_deep"] (spExpr K 3))
    (b_draw : Binds K fdD ["_law_deck_here", "_law_many"] []) (b_one : Binds K fdO ["_law_deck_here", "_law_items"] []) (b_expression : Binds K fdE ["_law_deck_here", "_law_names_here", "_law_deep"] [])
    (m_draw : mg "_law_draw" = some (.ref fD)) (m_one : mg "_law_one" = some (.ref fO)) (m_expression : mg "_law_expression" = some (.ref fE)) :
    FnOk P w K mg base CX0 6 f fd ["_law_deck_here", "_law_names_here"] (spPlain K) := by
  refine F.ok scPlain (fun vs H Q E h => ?_) (fun cdv A outer s H vs Q E hr h => ?_)
  · obtain ⟨a, c, cs, k, nm, ns, rfl, _⟩ := h
    rfl
  · obtain ⟨a, c, cs, k, nm, ns, rfl, D, N, na, nc, hk, q⟩ := h
    have e3 : cE 3 = 21 := by decide
    refine ⟨_, (pss_cons (ps_par (i := 2) (j := 3) (by rfl) scPlain.nd rfl rfl (by decide) rfl rfl (pa_cons (pe_call G_draw (hr.mono (by omega)) (by rfl) m_draw F_draw.kp b_draw .nil pass0 (pa_cons (pv 0) (pa_cons pe_int pa_nil))) (pa_cons (pe_call G_one (hr.mono (by omega)) (by rfl) m_one F_one.kp b_one .nil pass0 (pa_cons (pv 0) (pa_cons (pv 1) pa_nil))) pa_nil)) (by rfl))
      (pss_cons (ps_if (pt_cmpR op_lt (pv 2) pe_int (nomark _)) (pss_one (ps_ret (pe_tup (pa_cons pe_str (pa_cons (pv 3) (pa_cons (pe_call G_expression (hr.mono (by omega)) (by rfl) m_expression F_expression.kp b_expression .nil pass0 (pa_cons (pv 0) (pa_cons (pv 1) (pa_cons pe_int pa_nil)))) pa_nil)))))) pss_nil)
      (pss_cons (ps_if (pt_cmpR op_eq (pv 2) pe_int (nomark _)) (pss_one (ps_ret (pe_tup (pa_cons pe_str (pa_cons (pv 3) (pa_cons (pv 3) pa_nil)))))) pss_nil)
      (pss_cons (ps_if (PW.pt (pw_and (pt_cmpR op_eq (pv 2) pe_int (nomark _)) (pw_and1 (pt_cmpR op_eq (pe_call G_draw (hr.mono (by omega)) (by rfl) m_draw F_draw.kp b_draw .nil pass0 (pa_cons (pv 0) (pa_cons pe_int pa_nil))) pe_int (nomark _))))) (pss_one (ps_ret (pe_tup (pa_cons pe_str pa_nil)))) pss_nil)
      (pss_one (ps_ret (pe_tup (pa_cons pe_str (pa_cons (pe_call G_expression (hr.mono (by omega)) (by rfl) m_expression F_expression.kp b_expression .nil pass0 (pa_cons (pv 0) (pa_cons (pv 1) (pa_cons pe_int pa_nil)))) pa_nil))))))))), ?_⟩
    refine ⟨_, rfl, a, c, cs, k, 12, rfl, D, by decide, by decide, by omega, fun H1 cs1 r s1 D1 r0 r1 => ?_⟩
    have N1 := N.keep s1 (by simp [na, nc])
    refine ⟨_, rfl, _, rfl, a, c, cs1, k + 1, _, rfl, D1, by omega, .inl ⟨nm, _, rfl, N1.at_, by simp [N.ne], by rw [List.length_map]; have := N.len; omega, na, nc, fun H2 cs2 x s2 D2 hx => ?_⟩⟩
    obtain ⟨z, hz, rfl⟩ := List.mem_map.mp hx
    have N2 := N1.keep s2 (by simp [na, nc])
    have s02 := s1.trans s2
    refine ⟨_, _, rfl, ?_⟩
    refine ⟨_, rfl, _, 4, rfl, rfl, _, rfl, ite2 (fun e => ?_) (fun e => ?_)⟩
    · refine ⟨_, rfl, _, rfl, _, rfl, a, c, cs2, _, nm, ns, rfl, D2, N2, na, nc, by decide, by omega, fun H3 cs3 k3 v x s3 D3 k3a k3b T3 X3 => ?_⟩
      refine ⟨by show 3 ≤ sizeLine; decide, fun t ht => ?_⟩
      exact q _ cs3 k3 _ _ ((s02.trans s3).new ht) (D3.new ht) (by omega) (by omega) (.tup upd_same (.cons (.str _) (.cons (.str z) (.cons (T3.new ht) .nil)))) (fun d => .set z hz X3)
    · refine ⟨_, rfl, rfl, _, rfl, ite2 (fun e4 => ?_) (fun e4 => ?_)⟩
      · refine ⟨_, rfl, _, rfl, by show 3 ≤ sizeLine; decide, fun t ht => ?_⟩
        exact q _ cs2 _ _ _ (s02.new ht) (D2.new ht) (by omega) (by omega) (.tup upd_same (.cons (.str _) (.cons (.str z) (.cons (.str z) .nil)))) (fun d => .set z hz (.name z hz))
      · refine ⟨_, rfl, rfl, _, rfl, ite2 (fun e5 => ⟨_, rfl, a, c, cs2, _, 2, rfl, D2, by decide, by decide, by omega, fun H3 cs3 y s3 D3 y0 y1 => ⟨rfl, _, rfl, ite2 (fun e6 => ?stop) (fun e6 => ?pay)⟩⟩) (fun e5 => ?pay2)⟩
        case stop =>
          refine ⟨by show 1 ≤ sizeLine; decide, fun t ht => ?_⟩
          exact q _ cs3 _ _ _ ((s02.trans s3).new ht) (D3.new ht) (by omega) (by omega) (.tup upd_same (.cons (.str _) .nil)) (fun d => .stop)
        case pay =>
          refine ⟨_, rfl, _, rfl, a, c, cs3, _, nm, ns, rfl, D3, N2.keep s3 (by simp [na, nc]), na, nc, by decide, by omega, fun H4 cs4 k4 v x s4 D4 k4a k4b T4 X4 => ?_⟩
          refine ⟨by show 2 ≤ sizeLine; decide, fun t ht => ?_⟩
          exact q _ cs4 k4 _ _ (((s02.trans s3).trans s4).new ht) (D4.new ht) (by omega) (by omega) (.tup upd_same (.cons (.str _) (.cons (T4.new ht) .nil))) (fun d => .pay X4)
        case pay2 =>
          refine ⟨_, rfl, _, rfl, a, c, cs2, _, nm, ns, rfl, D2, N2, na, nc, by decide, by omega, fun H4 cs4 k4 v x s4 D4 k4a k4b T4 X4 => ?_⟩
          refine ⟨by show 2 ≤ sizeLine; decide, fun t ht => ?_⟩
          exact q _ cs4 k4 _ _ ((s02.trans s4).new ht) (D4.new ht) (by omega) (by omega) (.tup upd_same (.cons (.str _) (.cons (T4.new ht) .nil))) (fun d => .pay X4)
theorem ok_row {f fD fO fT fP fB : Addr} {fd fdD fdO fdT fdP fdB : FuncData} {d : Nat} (F : Fun K "_law_row" "_law_row" sRow f fd) (F_draw : Fun K "_law_draw" "_law_draw" sDraw fD fdD) (F_one : Fun K "_law_one" "_law_one" sOne fO fdO) (F_test : Fun K "_law_test" "_law_test" sTest fT fdT) (F_plain : Fun K "_law_plain" "_law_plain" sPlain fP fdP) (F_block : Fun K "_law_block" "_law_block" sBlock fB fdB)
    (G_draw : FnOk P w K mg base CX0 1 fD fdD ["_law_deck_here", "_law_many"] spDraw) (G_one : FnOk P w K mg base CX0 2 fO fdO ["_law_deck_here", "_law_items"] (spOne K)) (G_test : FnOk P w K mg base CX0 6 fT fdT ["_law_deck_here", "_law_names_here", "_law_room", "_law_times"] (spTest K))
    (G_plain : FnOk P w K mg base CX0 6 fP fdP ["_law_deck_here", "_law_names_here"] (spPlain K)) (G_block : FnOk P w K mg base CX0 (6 + 2 * d) fB fdB ["_law_deck_here", "_law_names_here", "_law_room", "_law_times", "_law_depth"] (spBlock K d))
    (b_draw : Binds K fdD ["_law_deck_here", "_law_many"] []) (b_one : Binds K fdO ["_law_deck_here", "_law_items"] []) (b_test : Binds K fdT ["_law_deck_here", "_law_names_here", "_law_room", "_law_times"] []) (b_plain : Binds K fdP ["_law_deck_here", "_law_names_here"] []) (b_block : Binds K fdB ["_law_deck_here", "_law_names_here", "_law_room", "_law_times", "_law_depth"] [])
    (m_draw : mg "_law_draw" = some (.ref fD)) (m_one : mg "_law_one" = some (.ref fO)) (m_test : mg "_law_test" = some (.ref fT)) (m_plain : mg "_law_plain" = some (.ref fP)) (m_block : mg "_law_block" = some (.ref fB)) :
    FnOk P w K mg base CX0 (6 + 2 * d + 1) f fd ["_law_deck_here", "_law_names_here", "_law_room", "_law_times", "_law_depth"] (spRow K d) := by
  refine F.ok scRow (fun vs H Q E h => ?_) (fun cdv A outer s H vs Q E hr h => ?_)
  · obtain ⟨a, c, cs, k, nm, ns, rm, r0, r1, r2, r3, t, rfl, _⟩ := h
    rfl
  · obtain ⟨a, c, cs, k, nm, ns, rm, r0, r1, r2, r3, t, rfl, D, N, R, na, nc, nr, ra, rc, ht, h30, hk, q⟩ := h
    have eB := cB_pos d
    refine ⟨_, (pss_cons (ps_if (PW.pt (pw_or (pt_cmpR op_lt (pe_ix ix_list (pv 2) pe_int (fun _ _ => rfl)) pe_int (nomark _)) (pw_or1 (pt_cmpR op_lt (pe_ix ix_list (pv 2) pe_int (fun _ _ => rfl)) (pv 3) (nomark _))))) (pss_one (ps_ret (pe_tup pa_nil))) pss_nil)
      (pss_cons (ps_asg (pe_tup (pa_cons (pe_op op_sub (pe_ix ix_list (pv 2) pe_int (fun _ _ => rfl)) pe_int) (pa_cons (pe_op op_sub (pe_ix ix_list (pv 2) pe_int (fun _ _ => rfl)) (pv 3)) pa_nil))) (pg_tup rfl (pgs_cons (pg_sub (pv 2) pe_int set_list) (pgs_cons (pg_sub (pv 2) pe_int set_list) pgs_nil))))
      (pss_cons (ps_set (i := 5) scRow.nd rfl (by first | exact Or.inl rfl | exact Or.inr rfl) (pe_call G_draw (hr.mono (by omega)) (by rfl) m_draw F_draw.kp b_draw .nil pass0 (pa_cons (pv 0) (pa_cons pe_int pa_nil))))
      (C8.pss_cut (ps_set (i := 6) scRow.nd rfl (by first | exact Or.inl rfl | exact Or.inr rfl) (pe_ifExp (pt_cmpR op_lt (pv 5) pe_int (nomark _)) (pe_call G_test (hr.mono (by omega)) (by rfl) m_test F_test.kp b_test .nil pass0 (pa_cons (pv 0) (pa_cons (pv 1) (pa_cons (pv 2) (pa_cons (pv 3) pa_nil))))) (pe_tup pa_nil)))
      (pss_cons (ps_if (pt_cmpR (op_neD hr.units) (pv 6) (pe_tup pa_nil) (nomark _)) (pss_cons (ps_set (i := 7) scRow.nd rfl (by first | exact Or.inl rfl | exact Or.inr rfl) (pe_call G_block (hr.mono (by omega)) (by rfl) m_block F_block.kp b_block .nil pass0 (pa_cons (pv 0) (pa_cons (pv 1) (pa_cons (pv 2) (pa_cons (pv 3) (pa_cons (pe_op op_add (pv 4) pe_int) pa_nil)))))))
      (pss_one (ps_ret (pe_tup (pa_cons pe_str (pa_cons (pv 6) (pa_cons (pv 7) (pa_cons (pe_call G_block (hr.mono (by omega)) (by rfl) m_block F_block.kp b_block .nil pass0 (pa_cons (pv 0) (pa_cons (pv 1) (pa_cons (pv 2) (pa_cons (pv 3) (pa_cons (pe_op op_add (pv 4) pe_int) pa_nil)))))) pa_nil)))))))) pss_nil)
      (pss_cons (ps_if (PW.pt (pw_or (pt_cmpR op_eq (pv 5) pe_int (nomark _)) (pw_or1 (pt_cmpR op_eq (pv 5) pe_int (nomark _))))) (pss_cons (ps_set (i := 8) scRow.nd rfl (by first | exact Or.inl rfl | exact Or.inr rfl) (pe_call G_one (hr.mono (by omega)) (by rfl) m_one F_one.kp b_one .nil pass0 (pa_cons (pv 0) (pa_cons (pe_lst (pa_cons pe_int (pa_cons pe_int (pa_cons pe_int (pa_cons pe_int (pa_cons pe_int (pa_cons pe_int (pa_cons pe_int pa_nil)))))))) pa_nil))))
      (pss_one (ps_ret (pe_tup (pa_cons pe_str (pa_cons (pv 8) (pa_cons (pe_call G_block (hr.mono (by omega)) (by rfl) m_block F_block.kp b_block .nil pass0 (pa_cons (pv 0) (pa_cons (pv 1) (pa_cons (pv 2) (pa_cons (pe_op op_mul (pv 3) (pv 8)) (pa_cons (pe_op op_add (pv 4) pe_int) pa_nil)))))) pa_nil))))))) pss_nil)
      (pss_one (ps_ret (pe_call G_plain (hr.mono (by omega)) (by rfl) m_plain F_plain.kp b_plain .nil pass0 (pa_cons (pv 0) (pa_cons (pv 1) pa_nil))))))))))), ?_⟩
    refine ⟨.ref rm, rfl, rm, _, 0, .int r0, rfl, rfl, .inl (.inl R.at_), rfl, _, 1, rfl, rfl, _, rfl, ite2 (fun e => ⟨Nat.zero_le _, fun p hp => ?_⟩)
      (fun e => ⟨.ref rm, rfl, rm, _, 1, .int r1, rfl, rfl, .inl (.inl R.at_), rfl, _, rfl, _, _, rfl, rfl, _, rfl, ite2 (fun e1 => ⟨Nat.zero_le _, fun p hp => ?_⟩) (fun e1 => ?_)⟩)⟩
    · exact q _ cs k _ (.tuple []) ((Sx.refl _).new hp) (D.new hp) (Int.le_refl _) (by omega) (.tup upd_same .nil) (.inl ⟨rfl, R.new hp⟩)
    · exact q _ cs k _ (.tuple []) ((Sx.refl _).new hp) (D.new hp) (Int.le_refl _) (by omega) (.tup upd_same .nil) (.inl ⟨rfl, R.new hp⟩)
    have g0 : 1 ≤ r0 := by
      have : ¬ r0 < 1 := fun z => e (decide_eq_true z)
      omega
    have g1 : t ≤ r1 := by
      have : ¬ r1 < t := fun z => e1 (decide_eq_true z)
      omega
    -- the room shrinks
    refine ⟨.ref rm, rfl, rm, _, 0, .int r0, rfl, rfl, .inl (.inl R.at_), rfl, _, 1, rfl, rfl, .ref rm, rfl, rm, _, 1, .int r1, rfl, rfl, .inl (.inl R.at_), rfl, _, rfl, _, _, rfl, rfl, by show 2 ≤ sizeLine; decide, fun p hp => ?_⟩
    refine ⟨p, _, rfl, .inl (.inl upd_same), rfl, _, _, rfl, .ref rm, rfl, rm, _, 0, 0, rfl, rfl, (R.new hp).at_, rfl, _, _, rfl, .ref rm, rfl, rm, _, 1, 1, rfl, rfl, upd_same, rfl, rfl, ?_⟩
    refine gh (H1 := upd (upd (upd H p _) rm _) rm _) (F := fun H2 => Sx [a, c, rm] H H2 ∧ Dk H2 a c cs k ∧ Nms K H2 nm ns ∧ Rm H2 rm (r0 - 1) (r1 - t) r2 r3)
      ⟨(((Sx.refl _).new hp).put (by simp)).put (by simp), (D.new hp).sx (((Sx.refl (ex := [rm]) _).put (by simp)).put (by simp)) (by simp [ra.symm]) (by simp [rc.symm]), N.keep ((((Sx.refl (ex := [rm]) _).new hp).put (by simp)).put (by simp)) (by simp [nr]),
        ⟨by rw [upd_upd]; exact upd_same, by omega, by omega, R.p2, R.p3⟩⟩ (fun H2 ⟨s2, D2, N2, R2⟩ => ?_)
    refine ⟨_, rfl, a, c, cs, k, 9, rfl, D2, by decide, by decide, by omega, fun H3 cs3 y s3 D3 y0 y1 => ?_⟩
    have N3 := N2.keep s3 (by simp [na, nc])
    have R3 := R2.sx s3 (by simp [ra, rc])
    have s03 : Sx [a, c, rm] H H3 := s2.trans (s3.mono (by simp))
    -- the test
    refine ⟨fun σ' H' => ∃ (cs' : List Int) (k' : Int) (v : V) (e : PyData), σ' = [some (.ref a), some (.ref nm), some (.ref rm), some (.int t), some (.int (3 - (d : Int))), some (.int y), some v, none, none] ∧ Sx [a, c, rm] H H' ∧ Dk H' a c cs' k' ∧ k ≤ k' ∧ k' ≤ k + 47 ∧ Nms K H' nm ns ∧ Tp H' v e ∧
      ((e = .tuple [] ∧ Rm H' rm (r0 - 1) (r1 - t) r2 r3) ∨ ∃ b, TsD ns 2 b e ∧ Rm H' rm (r0 - 1) (r1 - t) (r2 - t * bI b) (r3 - t * bI (!b))), ?_, ?_⟩
    · refine ⟨_, rfl, _, 3, rfl, rfl, _, rfl, ite2 (fun e3 => ?_) (fun e3 => ?_)⟩
      · refine ⟨_, rfl, _, rfl, _, rfl, _, rfl, a, c, cs3, k + 1, nm, ns, rm, _, _, _, _, t, rfl, D3, N3, R3, na, nc, nr, ra, rc, ht, by omega, fun H4 cs4 k4 v x s4 D4 k4a k4b T4 h4 => ?_⟩
        exact ⟨cs4, k4, v, x, rfl, s03.trans s4, D4, by omega, by omega, N3.keep s4 (by simp [na, nc, nr]), T4, h4⟩
      · refine ⟨Nat.zero_le _, fun u hu => ?_⟩
        exact ⟨cs3, k + 1, .ref u, .tuple [], rfl, s03.new hu, D3.new hu, by omega, by omega, N3.keep ((Sx.refl (ex := []) _).new hu) (by simp), .tup upd_same .nil, .inl ⟨rfl, R3.new hu⟩⟩
    rintro _ H4 ⟨cs4, k4, v, e, rfl, s4, D4, k4a, k4b, N4, T4, h4⟩
    have sh : SeqAt.shaped e = true := by
      rcases h4 with ⟨rfl, _⟩ | ⟨b, hb, _⟩
      · exact (Sh.tup (n := 0) .nil).shaped (by decide)
      · exact (hb.sh N.ok).shaped (by decide)
    refine ⟨_, rfl, Nat.zero_le _, fun u hu => ⟨e, .tuple [], (T4.new hu).dp, .tup (SqT.of upd_same) .nil, sh, (Sh.tup (n := 0) .nil).shaped (by decide), _, rfl, ?_⟩⟩
    have eb := cB_pos d
    rcases h4 with ⟨rfl, R4⟩ | ⟨b, hb, R4⟩
    · refine iteF ?_
      refine gh (H1 := upd H4 u _) (F := fun H5 => Sx [a, c, rm] H H5 ∧ Dk H5 a c cs4 k4 ∧ Nms K H5 nm ns ∧ Rm H5 rm (r0 - 1) (r1 - t) r2 r3) ⟨s4.new hu, D4.new hu, N4.keep ((Sx.refl (ex := []) _).new hu) (by simp), R4.new hu⟩ (fun H5 ⟨s5, D5, N5, R5⟩ => ?_)
      have elsP : ∀ (H6 : Hp), H6 = H5 → True := fun _ _ => trivial
      refine ⟨_, rfl, rfl, _, rfl, ite2 (fun e3 => ?rep) (fun e3 => ⟨_, rfl, rfl, _, rfl, ite2 (fun e4 => ?rep2) (fun e4 => ?plain)⟩)⟩
      case plain =>
        refine ⟨_, rfl, _, rfl, a, c, cs4, k4, nm, ns, rfl, D5, N5, na, nc, by omega, fun H6 cs6 k6 v6 x6 s6 D6 k6a k6b T6 X6 => ?_⟩
        have R6 := R5.sx s6 (by simp [ra, rc])
        refine q _ cs6 k6 _ x6 (s5.trans (s6.mono (by simp))) D6 (by omega) (by omega) T6 (.inr ⟨1, 1, 0, 0, X6 d, R6.cast ?_ ?_ ?_ ?_, by omega, ?_⟩)
        all_goals omega
      all_goals
        refine ⟨_, rfl, by show 7 ≤ sizeLine; decide, fun l hl => ?_⟩
        obtain ⟨la, lc⟩ := D5.nw hl
        have lr := R5.nw hl
        refine ⟨a, c, cs4, k4, _, rfl, D5.new hl, by omega, .inl ⟨l, _, rfl, .inl (.inl upd_same), by simp, by show 7 ≤ 100000; decide, la, lc, fun H6 cs6 v6 s6 D6 hv => ?_⟩⟩
        have s56 : Sx [a, c] H5 H6 := ((Sx.refl _).new hl).trans s6
        have R6 := R5.sx s56 (by simp [ra, rc])
        have N6 := N5.keep s56 (by simp [na, nc])
        obtain ⟨g, rfl, ga, gb⟩ : ∃ g : Int, v6 = .int g ∧ 1 ≤ g ∧ g ≤ 8 := by
          simp only [List.not_mem_nil, List.mem_cons, or_false] at hv
          rcases hv with rfl | rfl | rfl | rfl | rfl | rfl | rfl
          all_goals exact ⟨_, rfl, by decide, by decide⟩
        have hs : (3 - (d : Int)) + 1 = 4 - (d : Int) := by omega
        have tg : 1 ≤ t * g := by
          have := Int.mul_le_mul ht ga (by decide) (by omega)
          omega
        refine ⟨_, rfl, _, rfl, _, rfl, _, rfl, _, rfl, _, rfl, t, g, rfl, rfl, .inl ⟨by omega, by omega⟩, _, rfl, _, 1, rfl, rfl, a, c, cs6, k4 + 1, nm, ns, rm, _, _, _, _, t * g, congrArg (fun z => [V.ref a, V.ref nm, V.ref rm, V.int (t * g), V.int z]) hs, D6, N6, R6, na, nc, nr, ra, rc, tg, by omega, by omega, fun H7 cs7 k7 v7 es7 n7 w7 q7 c7 s7 D7 k7a k7b T7 B7 R7 w70 w7l => ?_⟩
        refine ⟨by show 3 ≤ sizeLine; decide, fun u hu => ?_⟩
        have m1 : ∀ x y : Int, t * (x + g * y) = t * x + t * g * y := fun x y => by rw [Int.mul_add, Int.mul_assoc]
        have m2 : ∀ y : Int, t * (g * y) = t * g * y := fun y => by rw [Int.mul_assoc]
        have gw : 0 ≤ g * w7 := Int.mul_nonneg (by omega) w70
        refine q _ cs7 k7 _ (.tuple [.str "repeat", .int g, .tuple es7]) (((s5.trans (s56.mono (by simp))).trans s7).new hu) (D7.new hu) (by omega) (by omega)
          (.tup upd_same (.cons (.str _) (.cons (.int g) (.cons (T7.new hu) .nil)))) (.inr ⟨_, _, _, _, .rep g ga gb B7, (R7.new hu).cast ?_ ?_ ?_ ?_, by omega, ?_⟩)
        all_goals (first | rw [m1] | rw [m2] | skip)
        all_goals omega
    · have hne : (!PyData.eqv e (.tuple [])) = true := by
        cases hb <;> rfl
      refine (show ∀ {c : Bool} {A B : Prop}, c = true → A → (if c = true then A else B) from fun h1 h2 => by rw [if_pos h1]; exact h2) hne ?_
      refine gh (H1 := upd H4 u _) (F := fun H5 => Sx [a, c, rm] H H5 ∧ Dk H5 a c cs4 k4 ∧ Nms K H5 nm ns ∧ Tp H5 v e ∧ Rm H5 rm (r0 - 1) (r1 - t) (r2 - t * bI b) (r3 - t * bI (!b))) ⟨s4.new hu, D4.new hu, N4.keep ((Sx.refl (ex := []) _).new hu) (by simp), T4.new hu, R4.new hu⟩ (fun H5 ⟨s5, D5, N5, T5, R5⟩ => ?_)
      have hs : (3 - (d : Int)) + 1 = 4 - (d : Int) := by omega
      refine ⟨_, rfl, _, rfl, _, rfl, _, rfl, _, rfl, _, 1, rfl, rfl, a, c, cs4, k4, nm, ns, rm, _, _, _, _, t, congrArg (fun z => [V.ref a, V.ref nm, V.ref rm, V.int t, V.int z]) hs, D5, N5, R5, na, nc, nr, ra, rc, ht, by omega, by omega, fun H6 cs6 k6 v6 es6 n6 w6 q6 c6 s6 D6 k6a k6b T6 B6 R6 w60 w6l => ?_⟩
      have N6 := N5.keep s6 (by simp [na, nc, nr])
      refine ⟨_, rfl, _, rfl, _, rfl, _, rfl, _, rfl, _, rfl, _, rfl, _, 1, rfl, rfl, a, c, cs6, k6, nm, ns, rm, _, _, _, _, t, congrArg (fun z => [V.ref a, V.ref nm, V.ref rm, V.int t, V.int z]) hs, D6, N6, R6, na, nc, nr, ra, rc, ht, by omega, by omega, fun H7 cs7 k7 v7 es7 n7 w7 q7 c7 s7 D7 k7a k7b T7 B7 R7 w70 w7l => ?_⟩
      refine ⟨by show 4 ≤ sizeLine; decide, fun u hu => ?_⟩
      have t6 : Tk H5 H6 := s6.tk (lst3 D5 R5)
      have t7 : Tk H6 H7 := s7.tk (lst3 D6 R6)
      have m1 : ∀ x y z : Int, t * (x + y + z) = t * x + t * y + t * z := fun x y z => by rw [Int.mul_add, Int.mul_add]
      refine q _ cs7 k7 _ (.tuple [.str "if", e, .tuple es6, .tuple es7]) (((s5.trans s6).trans s7).new hu) (D7.new hu) (by omega) (by omega)
        (.tup upd_same (.cons (.str _) (.cons (((T5.keep t6).keep t7).new hu) (.cons ((T6.keep t7).new hu) (.cons (T7.new hu) .nil))))) (.inr ⟨_, _, _, _, .ite hb B6 B7, (R7.new hu).cast ?_ ?_ ?_ ?_, by omega, ?_⟩)
      all_goals (first | rw [m1] | skip)
      all_goals omega
theorem ok_block0 {f : Addr} {fd : FuncData} {k : Nat} (F : Fun K "_law_block" "_law_block" sBlock f fd) : FnOk P w K mg base CX0 (k + 1) f fd ["_law_deck_here", "_law_names_here", "_law_room", "_law_times", "_law_depth"] (spBlock K 0) := by
  refine F.ok scBlock (fun vs H Q E h => ?_) (fun cdv A outer s H vs Q E hr h => ?_)
  · obtain ⟨a, c, cs, k, nm, ns, rm, r0, r1, r2, r3, t, rfl, _⟩ := h
    rfl
  · obtain ⟨a, c, cs, k, nm, ns, rm, r0, r1, r2, r3, t, rfl, D, N, R, na, nc, nr, ra, rc, ht, h30, hk, q⟩ := h
    refine ⟨_, pss_cons (ps_if (pt_cmpR op_gt (pv 4) pe_int (nomark _)) (pss_one (ps_ret (pe_tup pa_nil))) pss_nil) pss_never, ?_⟩
    refine ⟨_, rfl, _, 3, rfl, rfl, _, rfl, ite2 (fun e => ⟨Nat.zero_le _, fun p hp => ?_⟩) (fun e => ?_)⟩
    · have e0 : ∀ x y : Int, x - y * 0 = x := fun x y => by omega
      have e1 : ∀ x : Int, x - 0 = x := fun x => by omega
      refine q _ cs k _ [] 0 0 0 0 ((Sx.refl _).new hp) (D.new hp) (Int.le_refl _) (by have := cB_pos 0; omega) (.tup upd_same .nil) .nil ((R.new hp).cast ?_ ?_ ?_ ?_) (Int.le_refl _) ?_
      all_goals omega
    · exact absurd (decide_eq_true (by decide : (3 : Int) < 4 - ((0 : Nat) : Int))) e
theorem ok_block {f fD fR : Addr} {fd fdD fdR : FuncData} {d : Nat} (hd3 : d ≤ 3) (F : Fun K "_law_block" "_law_block" sBlock f fd) (F_draw : Fun K "_law_draw" "_law_draw" sDraw fD fdD) (F_row : Fun K "_law_row" "_law_row" sRow fR fdR)
    (G_draw : FnOk P w K mg base CX0 1 fD fdD ["_law_deck_here", "_law_many"] spDraw) (G_row : FnOk P w K mg base CX0 (6 + 2 * d + 1) fR fdR ["_law_deck_here", "_law_names_here", "_law_room", "_law_times", "_law_depth"] (spRow K d))
    (b_draw : Binds K fdD ["_law_deck_here", "_law_many"] []) (b_row : Binds K fdR ["_law_deck_here", "_law_names_here", "_law_room", "_law_times", "_law_depth"] [])
    (m_draw : mg "_law_draw" = some (.ref fD)) (m_row : mg "_law_row" = some (.ref fR)) (z_int : mg "int" = none) (z_range : mg "range" = none) (z_tuple : mg "tuple" = none) :
    FnOk P w K mg base CX0 (6 + 2 * d + 1 + 1) f fd ["_law_deck_here", "_law_names_here", "_law_room", "_law_times", "_law_depth"] (spBlock K (d + 1)) := by
  refine F.ok scBlock (fun vs H Q E h => ?_) (fun cdv A outer s H vs Q E hr h => ?_)
  · obtain ⟨a, c, cs, k, nm, ns, rm, r0, r1, r2, r3, t, rfl, _⟩ := h
    rfl
  · obtain ⟨a, c, cs, k, nm, ns, rm, r0, r1, r2, r3, t, rfl, D, N, R, na, nc, nr, ra, rc, ht, h30, hk, q⟩ := h
    have eB := cB_pos d
    have eB1 := cB_one d
    have hdep : (4 - ((d + 1 : Nat) : Int)) = 3 - (d : Int) := by omega
    refine ⟨_, (pss_cons (ps_if (pt_cmpR op_gt (pv 4) pe_int (nomark _)) (pss_one (ps_ret (pe_tup pa_nil))) pss_nil)
      (pss_cons (ps_par (i := 5) (j := 6) (by rfl) scBlock.nd rfl rfl (by decide) rfl rfl (pa_cons (pe_op op_add (pe_call G_draw (hr.mono (by omega)) (by rfl) m_draw F_draw.kp b_draw .nil pass0 (pa_cons (pv 0) (pa_cons pe_int pa_nil))) (pe_callTy call_int1 (by rfl) z_int boot_int (pa_cons (pe_cmpR op_eq (pv 4) pe_int (nomark _)) pa_nil))) (pa_cons (pe_lst pa_nil) pa_nil)) (by rfl))
      (C8.pss_cut (ps_for PassesOwn.never rfl (pi_range1 (by rfl) z_range (pa_cons (pv 5) pa_nil)) (pg_name (i := 7) scBlock.nd rfl (by first | exact Or.inl rfl | exact Or.inr rfl)) (pss_one (ps_expr (pe_bm PySem.F.plainAttrs_list PySem.F.slot_list_append PySem.F.type_list_append mt_append (pv 6) (pa_cons (pe_call G_row (hr.mono (by omega)) (by rfl) m_row F_row.kp b_row .nil pass0 (pa_cons (pv 0) (pa_cons (pv 1) (pa_cons (pv 2) (pa_cons (pv 3) (pa_cons (pv 4) pa_nil)))))) pa_nil)))))
      (pss_one (ps_ret (pe_callTy call_tuple_of (by rfl) z_tuple boot_tuple (pa_cons (pe_lc (own := [("_law_row_here", 8)]) (g := gName 8) (tt := _) rfl scBlock.nd (pi_list (pv 6)) (blkOk_by (N := nBlock) (sc := defScope sBlock) (by decide +kernel)) (fun _ _ _ _ _ => (pg_name (i := 8) scBlock.nd rfl (by first | exact Or.inl rfl | exact Or.inr rfl))) (fun _ _ _ _ _ => pts_one (pt_cmpR (show OpR _ _ (rNeD K) from op_neD hr.units) (pv 8) (pe_tup pa_nil) (nomark _))) (fun _ _ _ _ _ => (pv 8))) pa_nil))))))), ?_⟩
    refine ⟨_, rfl, _, 3, rfl, rfl, _, rfl, ite2 (fun e => ?_) (fun e => ?_)⟩
    · have : (3 : Int) < 4 - ((d + 1 : Nat) : Int) := of_decide_eq_true e
      omega
    refine ⟨_, rfl, a, c, cs, k, 4, rfl, D, by decide, by decide, by omega, fun H1 cs1 y s1 D1 y0 y1 => ?_⟩
    refine ⟨_, rfl, rfl, .inr ⟨_, rfl, _, _, rfl, rfl, Nat.zero_le _, fun L hL => ⟨_, _, rfl, ?_⟩⟩⟩
    obtain ⟨La, Lc⟩ := D1.nw hL
    have R1 := R.sx s1 (by simp [ra, rc])
    have Lr := R1.nw hL
    have HL : H L = none := s1.free (by simp [La, Lc]) hL
    have N1 := N.keep s1 (by simp [na, nc])
    have nL : nm ≠ L := N1.nw hL
    generalize hm : (y + if decide (V.int (4 - ((d + 1 : Nat) : Int)) = V.int 0) = true then (1 : Int) else 0) = m
    have m0 : 0 ≤ m ∧ m ≤ 4 := by
      rw [← hm]
      split <;> omega
    refine ⟨fun σ' H' => ∃ (cs' : List Int) (k' : Int) (es : List PyData) (vs : List V) (n w' rr cc : Int) (y7 : Option V), σ' = [some (.ref a), some (.ref nm), some (.ref rm), some (.int t), some (.int (4 - ((d + 1 : Nat) : Int))), some (.int m), some (.ref L), y7, none] ∧ Sx [a, c, rm] H H' ∧ Dk H' a c cs' k' ∧ k ≤ k' ∧ k' ≤ k + cB (d + 1) ∧
      H' L = some (.lst vs) ∧ TpAll H' vs es ∧ (∀ e ∈ es, SeqAt.shaped e = true) ∧ es.length ≤ 4 ∧ BkD ns (d + 1) n w' rr cc (es.filter ne0) ∧ Rm H' rm (r0 - n) (r1 - t * w') (r2 - t * rr) (r3 - t * cc) ∧ 0 ≤ w' ∧ r1 - t * w' ≤ r1, ?_, ?_⟩
    · refine ⟨_, rfl, m, congrArg (fun z => [V.int z]) hm, by omega, by omega, ?_⟩
      have hmul : ∀ i : Nat, (i : Int) ≤ 4 → (i : Int) * (71 + 2 * cB d) ≤ 4 * (71 + 2 * cB d) := fun i hi => Int.mul_le_mul_of_nonneg_right hi (by omega)
      refine for_range (lo := 0) (n := m.toNat) (fun i σ' H' => ∃ (cs' : List Int) (k' : Int) (es : List PyData) (vs : List V) (n w' rr cc : Int) (y7 : Option V), σ' = [some (.ref a), some (.ref nm), some (.ref rm), some (.int t), some (.int (4 - ((d + 1 : Nat) : Int))), some (.int m), some (.ref L), y7, none] ∧ Sx [a, c, rm] H H' ∧ Dk H' a c cs' k' ∧ k ≤ k' ∧ k' ≤ k + 1 + (i : Int) * (71 + 2 * cB d) ∧
        H' L = some (.lst vs) ∧ TpAll H' vs es ∧ (∀ e ∈ es, SeqAt.shaped e = true) ∧ es.length = i ∧ BkD ns (d + 1) n w' rr cc (es.filter ne0) ∧ Rm H' rm (r0 - n) (r1 - t * w') (r2 - t * rr) (r3 - t * cc) ∧ 0 ≤ w' ∧ r1 - t * w' ≤ r1) ?_ (fun i σ' H' hi hp => ?_) (fun σ' H' hp => ?_)
      · refine ⟨cs1, k + 1, [], [], 0, 0, 0, 0, none, by rw [← hm]; rfl, (s1.mono (by simp)).new hL, D1.new hL, by omega, by omega, upd_same, .nil, fun _ z => by simp at z, rfl, .nil, (R1.new hL).cast ?_ ?_ ?_ ?_, Int.le_refl _, ?_⟩
        all_goals omega
      · obtain ⟨cs2, k2, es, vs, n, w', rr, cc, y7, rfl, s2, D2, k2a, k2b, hLv, TA, hsh, hlen, B2, R2, w0, wl⟩ := hp
        have hi4 : i < 4 := by omega
        have hm1 := hmul (i + 1) (by omega)
        have hm2 : ((i + 1 : Nat) : Int) * (71 + 2 * cB d) = (i : Int) * (71 + 2 * cB d) + (71 + 2 * cB d) := by
          rw [show ((i + 1 : Nat) : Int) = (i : Int) + 1 from by omega, Int.add_mul, Int.one_mul]
        have N2 := N.keep s2 (by simp [na, nc, nr])
        refine ⟨_, rfl, .inl ⟨rfl, _, .inl (.inl hLv)⟩, _, rfl, _, rfl, _, rfl, _, rfl, _, rfl, a, c, cs2, k2, nm, ns, rm, _, _, _, _, t, congrArg (fun z => [V.ref a, V.ref nm, V.ref rm, V.int t, V.int z]) hdep, D2, N2, R2, na, nc, nr, ra, rc, ht, by omega, by omega, fun H3 cs3 k3 v e s3 D3 k3a k3b T3 h3 => ?_⟩
        have hL3 : H3 L = some (.lst vs) := s3 _ _ (by simp [La, Lc, Lr]) hLv
        have t3 : Tk _ H3 := s3.tk (lst3 D2 R2)
        have vl : vs.length = i := by rw [TA.len, hlen]
        refine ⟨L, vs, v, rfl, rfl, hL3, lt_line (by omega), ?_⟩
        have tL : Tk H3 (upd H3 L (.lst (vs ++ [v]))) := ((Sx.refl (ex := [L]) _).put (by simp)).tk (fun b hb => by rw [List.mem_singleton.mp hb]; exact ⟨_, hL3⟩)
        have sL : Sx [L] H3 (upd H3 L (.lst (vs ++ [v]))) := (Sx.refl (ex := [L]) _).put (by simp)
        have common : Sx [a, c, rm] H (upd H3 L (.lst (vs ++ [v]))) ∧ Dk (upd H3 L (.lst (vs ++ [v]))) a c cs3 k3 ∧ TpAll (upd H3 L (.lst (vs ++ [v]))) (vs ++ [v]) (es ++ [e]) :=
          ⟨(s2.trans s3).own HL, D3.sx sL (by simp [La.symm]) (by simp [Lc.symm]), ((TA.keep t3).keep tL).append (.cons (T3.keep tL) .nil)⟩
        obtain ⟨q1, q2, q3⟩ := common
        rcases h3 with ⟨rfl, R3⟩ | ⟨n3, w3, rr3, cc3, S3, R3, w30, w3l⟩
        · refine ⟨cs3, k3, es ++ [.tuple []], vs ++ [v], n, w', rr, cc, _, rfl, q1, q2, by omega, by omega, upd_same, q3, fun x hx => ?_, by rw [List.length_append, hlen]; rfl, ?_, R3.sx sL (by simp [Lr.symm]), w0, wl⟩
          · rcases List.mem_append.1 hx with z | z
            · exact hsh x z
            · rw [List.mem_singleton.mp z]; exact (Sh.tup (n := 0) .nil).shaped (by decide)
          · rw [List.filter_append, show List.filter ne0 [PyData.tuple []] = [] from rfl, List.append_nil]
            exact B2
        · have ma : ∀ x z : Int, t * (x + z) = t * x + t * z := fun x z => Int.mul_add _ _ _
          refine ⟨cs3, k3, es ++ [e], vs ++ [v], n + n3, w' + w3, rr + rr3, cc + cc3, _, rfl, q1, q2, by omega, by omega, upd_same, q3, fun x hx => ?_, by rw [List.length_append, hlen]; rfl, ?_, (R3.sx sL (by simp [Lr.symm])).cast ?_ ?_ ?_ ?_, by omega, ?_⟩
          · rcases List.mem_append.1 hx with z | z
            · exact hsh x z
            · rw [List.mem_singleton.mp z]; exact (S3.sh N.ok).shaped (by omega)
          · rw [List.filter_append, show List.filter ne0 [e] = [e] by rw [List.filter_cons, if_pos S3.ne0]; rfl]
            exact BkD.snoc S3 _ B2
          all_goals (first | rw [ma] | skip)
          all_goals omega
      · obtain ⟨cs2, k2, es, vs, n, w', rr, cc, y7, rfl, s2, D2, k2a, k2b, hLv, TA, hsh, hlen, B2, R2, w0, wl⟩ := hp
        have := hmul m.toNat (by omega)
        exact ⟨cs2, k2, es, vs, n, w', rr, cc, y7, rfl, s2, D2, k2a, by omega, hLv, TA, hsh, by omega, B2, R2, w0, wl⟩
    · rintro _ H2 ⟨cs2, k2, es, vs, n, w', rr, cc, y7, rfl, s2, D2, k2a, k2b, hLv, TA, hsh, hlen, B2, R2, w0, wl⟩
      have vl : vs.length = es.length := TA.len
      refine ⟨_, rfl, L, rfl, ⟨_, .inl (.inl hLv)⟩, fun Z hZ => ?_⟩
      obtain ⟨Za, Zc⟩ := D2.nw hZ
      have Zr := R2.nw hZ
      have ZL : L ≠ Z := ne_of_none hLv hZ
      have HZ : H Z = none := s2.free (by simp [Za, Zc, Zr]) hZ
      refine lc_list (xs := vs) (fun i H' => Sx [a, c, rm] H H' ∧ Dk H' a c cs2 k2 ∧ Rm H' rm (r0 - n) (r1 - t * w') (r2 - t * rr) (r3 - t * cc) ∧ H' L = some (.lst vs) ∧ TpAll H' vs es ∧ ∃ acc, H' Z = some (.lst acc) ∧ TpAll H' acc ((es.take i).filter ne0) ∧ acc.length ≤ i)
        ⟨s2.own HZ, D2.new hZ, R2.new hZ, by rw [upd_ne ZL]; exact hLv, TA.new hZ, [], upd_same, .nil, Nat.le_refl _⟩ (fun i H' _ p => .inl (.inl p.2.2.2.1)) (fun i x H' hx p => ?_) (fun H' p => ?_)
      · obtain ⟨p1, p2, p3, p4, p5, acc, p6, p7, p8⟩ := p
        obtain ⟨e, he, T⟩ := p5.get hx
        have hi : i < es.length := (List.getElem?_eq_some_iff.mp he).1
        have hse := hsh e (List.mem_of_getElem? he)
        refine ⟨rfl, _, rfl, Nat.zero_le _, fun u hu => ⟨e, .tuple [], (T.new hu).dp, .tup (SqT.of upd_same) .nil, hse, (Sh.tup (n := 0) .nil).shaped (by decide), _, rfl, ?_⟩⟩
        have pu1 := p1.new (o := .tup []) hu
        have pu2 := p2.new (o := .tup []) hu
        have pu3 := p3.new (o := .tup []) hu
        have pu4 : (upd H' u (.tup [])) L = some (.lst vs) := (Sx.refl (ex := []) _).new hu _ _ (by simp) p4
        have pu5 := p5.new (o := .tup []) hu
        have pu6 : (upd H' u (.tup [])) Z = some (.lst acc) := (Sx.refl (ex := []) _).new hu _ _ (by simp) p6
        have pu7 := p7.new (o := .tup []) hu
        have T' := T.new (o := .tup []) hu
        have tk : (es.take (i + 1)).filter ne0 = (es.take i).filter ne0 ++ (if ne0 e = true then [e] else []) := by
          rw [List.take_add_one, he, Option.toList_some, List.filter_append, List.filter_cons, List.filter_nil]
        cases hne : ne0 e with
        | false =>
          have hne' : (!PyData.eqv e (.tuple [])) = false := hne
          rw [hne, if_neg Bool.false_ne_true, List.append_nil] at tk
          refine (show ∀ {c : Bool} {A B : Prop}, c = false → B → (if c = true then A else B) from fun h1 h2 => by rw [h1, if_neg Bool.false_ne_true]; exact h2) hne' ?_
          exact ⟨pu1, pu2, pu3, pu4, pu5, acc, pu6, by rw [tk]; exact pu7, by omega⟩
        | true =>
          have hne' : (!PyData.eqv e (.tuple [])) = true := hne
          rw [hne, if_pos rfl] at tk
          refine (show ∀ {c : Bool} {A B : Prop}, c = true → A → (if c = true then A else B) from fun h1 h2 => by rw [h1, if_pos rfl]; exact h2) hne' ?_
          refine ⟨x, rfl, acc, pu6, lt_line (by omega), ?_⟩
          have sZ : Sx [Z] (upd H' u (.tup [])) (upd (upd H' u (.tup [])) Z (.lst (acc ++ [x]))) := (Sx.refl (ex := [Z]) _).put (by simp)
          have tZ : Tk (upd H' u (.tup [])) (upd (upd H' u (.tup [])) Z (.lst (acc ++ [x]))) := sZ.tk (fun b hb => by rw [List.mem_singleton.mp hb]; exact ⟨_, pu6⟩)
          exact ⟨pu1.own HZ, pu2.sx sZ (by simp [Za.symm]) (by simp [Zc.symm]), pu3.sx sZ (by simp [Zr.symm]), by rw [upd_ne ZL]; exact pu4, pu5.keep tZ, acc ++ [x], upd_same, by rw [tk]; exact (pu7.keep tZ).append (.cons (T'.keep tZ) .nil), by rw [List.length_append]; show acc.length + 1 ≤ i + 1; omega⟩
      · obtain ⟨p1, p2, p3, p4, p5, acc, p6, p7, p8⟩ := p
        rw [vl, List.take_length] at p7
        refine ⟨Z, acc, rfl, .inl ⟨.inl (.inl p6), fun l hl => ?_⟩⟩
        exact q _ cs2 k2 _ (es.filter ne0) n w' rr cc (p1.new hl) (p2.new hl) k2a k2b (.tup upd_same (p7.new hl)) B2 (p3.new hl) w0 wl
theorem ok_program {f fD fE fB : Addr} {fd fdD fdE fdB : FuncData} (F : Fun K "_law_program" "_law_program" sProgram f fd) (F_draw : Fun K "_law_draw" "_law_draw" sDraw fD fdD) (F_expression : Fun K "_law_expression" "_law_expression" sExpression fE fdE) (F_block : Fun K "_law_block" "_law_block" sBlock fB fdB)
    (G_draw : FnOk P w K mg base CX0 1 fD fdD ["_law_deck_here", "_law_many"] spDraw) (G_expression : FnOk P w K mg base CX0 4 fE fdE ["_law_deck_here", "_law_names_here", "_law_deep"] (spExpr K 2)) (G_block : FnOk P w K mg base CX0 14 fB fdB ["_law_deck_here", "_law_names_here", "_law_room", "_law_times", "_law_depth"] (spBlock K 4))
    (b_draw : Binds K fdD ["_law_deck_here", "_law_many"] []) (b_expression : Binds K fdE ["_law_deck_here", "_law_names_here", "_law_deep"] []) (b_block : Binds K fdB ["_law_deck_here", "_law_names_here", "_law_room", "_law_times", "_law_depth"] [])
    (m_draw : mg "_law_draw" = some (.ref fD)) (m_expression : mg "_law_expression" = some (.ref fE)) (m_block : mg "_law_block" = some (.ref fB)) (z_range : mg "range" = none) :
    FnOk P w K mg base CX0 15 f fd ["_law_deck_here", "_law_names_here"] (spProgram K) := by
  refine F.ok scProgram (fun vs H Q E h => ?_) (fun cdv A outer s H vs Q E hr h => ?_)
  · obtain ⟨a, c, cs, k, nm, ns, rfl, _⟩ := h
    rfl
  · obtain ⟨a, c, cs, k, nm, ns, rfl, D, N, na, nc, hk, q⟩ := h
    have e4 : cB 4 = 166725 := by decide
    have e2 : cE 2 = 9 := by decide
    have eP : cP = 700000 := rfl
    refine ⟨_, (pss_cons (ps_par (i := 2) (j := 3) (by rfl) scProgram.nd rfl rfl (by decide) rfl rfl (pa_cons (pe_lst (pa_cons pe_int (pa_cons pe_int (pa_cons pe_int (pa_cons pe_int pa_nil))))) (pa_cons (pe_tup pa_nil) pa_nil)) (by rfl))
      (C8.pss_cut (ps_for PassesOwn.never rfl (pi_range1 (by rfl) z_range (pa_cons (pe_op op_add pe_int (pe_call G_draw (hr.mono (by omega)) (by rfl) m_draw F_draw.kp b_draw .nil pass0 (pa_cons (pv 0) (pa_cons pe_int pa_nil)))) pa_nil)) (pg_name (i := 4) scProgram.nd rfl (by first | exact Or.inl rfl | exact Or.inr rfl)) (pss_one (ps_set (i := 3) scProgram.nd rfl (by first | exact Or.inl rfl | exact Or.inr rfl) (pe_op op_catA (pv 3) (pe_call G_block (hr.mono (by omega)) (by rfl) m_block F_block.kp b_block .nil pass0 (pa_cons (pv 0) (pa_cons (pv 1) (pa_cons (pv 2) (pa_cons pe_int (pa_cons pe_int pa_nil))))))))))
      (pss_cons (ps_if (PW.pt (pw_or (pt_cmpR op_lt (pe_ix ix_list (pv 2) pe_int (fun _ _ => rfl)) pe_int (nomark _)) (pw_or (pt_cmpR op_lt (pe_ix ix_list (pv 2) pe_int (fun _ _ => rfl)) pe_int (nomark _)) (pw_or1 (pt_cmpR op_eq (pe_call G_draw (hr.mono (by omega)) (by rfl) m_draw F_draw.kp b_draw .nil pass0 (pa_cons (pv 0) (pa_cons pe_int pa_nil))) pe_int (nomark _)))))) (pss_one (ps_ret (pv 3))) pss_nil)
      (pss_one (ps_ret (pe_op op_catA (pv 3) (pe_tup (pa_cons (pe_tup (pa_cons pe_str (pa_cons (pe_call G_expression (hr.mono (by omega)) (by rfl) m_expression F_expression.kp b_expression .nil pass0 (pa_cons (pv 0) (pa_cons (pv 1) (pa_cons pe_int pa_nil)))) pa_nil))) pa_nil)))))))), ?_⟩
    refine ⟨by show 4 ≤ sizeLine; decide, fun rm hrm => ⟨Nat.zero_le _, fun p hp => ⟨_, _, rfl, ?_⟩⟩⟩
    obtain ⟨ra, rc⟩ := D.nw hrm
    have nr := N.nw hrm
    have n0 : Sx [a, c] H (upd (upd H rm (.lst [.int 24, .int 30, .int 2, .int 2])) p (.tup [])) := ((Sx.refl _).new hrm).new hp
    refine gh (H1 := upd (upd H rm _) p _) (F := fun H2 => Sx [a, c] H H2 ∧ Dk H2 a c cs k ∧ Nms K H2 nm ns ∧ Rm H2 rm 24 30 2 2 ∧ Tp H2 (.ref p) (.tuple []))
      ⟨n0, (D.new hrm).new hp, N.keep n0 (by simp [na, nc]), Rm.new ⟨upd_same, by decide, by decide, by decide, by decide⟩ hp, .tup upd_same .nil⟩ (fun H2 ⟨s2, D2, N2, R2, T2⟩ => ?_)
    refine ⟨fun σ' H' => ∃ (cs' : List Int) (k' : Int) (v : V) (es : List PyData) (n w' rr cc : Int) (y4 : Option V), σ' = [some (.ref a), some (.ref nm), some (.ref rm), some v, y4] ∧ Sx [a, c] H H' ∧ Dk H' a c cs' k' ∧ k ≤ k' ∧ k' ≤ k + 666901 ∧ Nms K H' nm ns ∧ Tp H' v (.tuple es) ∧ BkD ns 4 n w' rr cc es ∧ Rm H' rm (24 - n) (30 - w') (2 - rr) (2 - cc), ?_, ?_⟩
    · refine ⟨_, rfl, a, c, cs, k, 4, rfl, D2, by decide, by decide, by omega, fun H3 cs3 y s3 D3 y0 y1 => ⟨1, y, rfl, rfl, _, rfl, by omega, by omega, ?_⟩⟩
      refine for_range (lo := 0) (n := (1 + y).toNat) (fun i σ' H' => ∃ (cs' : List Int) (k' : Int) (v : V) (es : List PyData) (n w' rr cc : Int) (y4 : Option V), σ' = [some (.ref a), some (.ref nm), some (.ref rm), some v, y4] ∧ Sx [a, c] H H' ∧ Dk H' a c cs' k' ∧ k ≤ k' ∧ k' ≤ k + 1 + (i : Int) * 166725 ∧ Nms K H' nm ns ∧ Tp H' v (.tuple es) ∧ BkD ns 4 n w' rr cc es ∧ Rm H' rm (24 - n) (30 - w') (2 - rr) (2 - cc)) ?_ (fun i σ' H' hi hp => ?_) (fun σ' H' hp => ?_)
      · exact ⟨cs3, k + 1, .ref p, [], 0, 0, 0, 0, none, rfl, s2.trans s3, D3, by omega, by omega, N2.keep s3 (by simp [na, nc]), T2.keep (D2.tk s3), .nil, R2.sx s3 (by simp [ra, rc])⟩
      · obtain ⟨cs4, k4, v, es, n, w', rr, cc, y4, rfl, s4, D4, k4a, k4b, N4, T4, B4, R4⟩ := hp
        have hp4 := B4.pos
        refine ⟨_, rfl, _, rfl, _, rfl, _, rfl, a, c, cs4, k4, nm, ns, rm, _, _, _, _, 1, rfl, D4, N4, R4, na, nc, nr, ra, rc, by decide, by omega, by omega, fun H5 cs5 k5 v5 es5 n5 w5 q5 c5 s5 D5 k5a k5b T5 B5 R5 w50 w5l => ?_⟩
        have t5 : Tk H' H5 := s5.tk (lst3 D4 R4)
        have hp5 := B5.pos
        have g4 := R4.p0
        have g5 := R5.p0
        have s45 : Sx [a, c] H H5 := s4.step s5 (fun x hx => by
          simp only [List.not_mem_nil, List.mem_cons, or_false] at hx
          rcases hx with rfl | rfl | rfl
          · exact .inl (by simp)
          · exact .inl (by simp)
          · exact .inr hrm)
        refine cat_tp (T4.keep t5) T5 (by omega) (fun H6 z s6 _ T6 => ?_)
        refine ⟨cs5, k5, z, es ++ es5, n + n5, w' + w5, rr + q5, cc + c5, _, rfl, s45.trans s6.nil, D5.same s6, by omega, by omega, (N4.keep s5 (by simp [na, nc, nr])).keep s6 (by simp), T6, BkD.append B5 _ B4, (R5.sx s6 (by simp)).cast ?_ ?_ ?_ ?_⟩
        all_goals omega
      · obtain ⟨cs4, k4, v, es, n, w', rr, cc, y4, rfl, s4, D4, k4a, k4b, N4, T4, B4, R4⟩ := hp
        exact ⟨cs4, k4, v, es, n, w', rr, cc, y4, rfl, s4, D4, k4a, by omega, N4, T4, B4, R4⟩
    · rintro _ H4 ⟨cs4, k4, v, es, n, w', rr, cc, y4, rfl, s4, D4, k4a, k4b, N4, T4, B4, R4⟩
      have p0 := R4.p0
      have p1 := R4.p1
      have p2 := R4.p2
      have p3 := R4.p3
      have hpos := B4.pos
      refine ⟨.ref rm, rfl, rm, _, 0, _, rfl, rfl, .inl (.inl R4.at_), rfl, _, 1, rfl, rfl, _, rfl, ite2 (fun e => ?_) (fun e => ⟨.ref rm, rfl, rm, _, 1, _, rfl, rfl, .inl (.inl R4.at_), rfl, _, 1, rfl, rfl, _, rfl, ite2 (fun e1 => ?_) (fun e1 => ?_)⟩)⟩
      · exact ⟨v, rfl, q H4 cs4 k4 v es n w' rr cc s4 D4 k4a (by omega) T4 B4 (by omega) (by omega) (by omega) (by omega)⟩
      · exact ⟨v, rfl, q H4 cs4 k4 v es n w' rr cc s4 D4 k4a (by omega) T4 B4 (by omega) (by omega) (by omega) (by omega)⟩
      have g0 : 1 ≤ 24 - n := by
        have : ¬ 24 - n < 1 := fun z => e (decide_eq_true z)
        omega
      have g1 : 1 ≤ 30 - w' := by
        have : ¬ 30 - w' < 1 := fun z => e1 (decide_eq_true z)
        omega
      refine ⟨_, rfl, a, c, cs4, k4, 4, rfl, D4, by decide, by decide, by omega, fun H5 cs5 y s5 D5 y0 y1 => ⟨rfl, _, rfl, ite2 (fun e2 => ?_) (fun e2 => ?_)⟩⟩
      · exact ⟨v, rfl, q H5 cs5 _ v es n w' rr cc (s4.trans s5) D5 (by omega) (by omega) (T4.keep (D4.tk s5)) B4 (by omega) (by omega) (by omega) (by omega)⟩
      · refine ⟨_, rfl, _, rfl, _, rfl, a, c, cs5, _, nm, ns, rfl, D5, N4.keep s5 (by simp [na, nc]), na, nc, by decide, by omega, fun H6 cs6 k6 v6 x6 s6 D6 k6a k6b T6 X6 => ?_⟩
        refine ⟨by show 2 ≤ sizeLine; decide, fun t ht => ⟨by show 1 ≤ sizeLine; decide, fun u hu => ?_⟩⟩
        have t46 : Tk H4 (upd (upd H6 t (.tup [.str "pay", v6])) u (.tup [.ref t])) := ((D4.tk s5).trans (D5.tk s6)).trans ((((Sx.refl (ex := []) _).new ht).new hu).tk0)
        have Tu : Tp (upd (upd H6 t (.tup [.str "pay", v6])) u (.tup [.ref t])) (.ref u) (.tuple [.tuple [.str "pay", x6]]) :=
          .tup upd_same (.cons (Tp.new (.tup upd_same (.cons (.str _) (.cons (T6.new ht) .nil))) hu) .nil)
        refine cat_tp (T4.keep t46) Tu (by show es.length + 1 ≤ 16777216; omega) (fun H7 z s7 _ T7 => ?_)
        have BB : BkD ns 4 (1 + 0) (1 + 0) (0 + 0) (0 + 0) [.tuple [.str "pay", x6]] := .cons (.pay (X6.up (by decide))) .nil
        refine q H7 cs6 k6 z _ _ _ _ _ (((((s4.trans s5).trans s6).new ht).new hu).trans s7.nil) (((D6.new ht).new hu).same s7) (by omega) (by omega) T7 (BkD.append BB _ B4) ?_ ?_ ?_ ?_
        all_goals omega
theorem ok_names {f fD fO : Addr} {fd fdD fdO : FuncData} {k : Nat} (F : Fun K "_law_names" "_law_names" sNames f fd) (F_draw : Fun K "_law_draw" "_law_draw" sDraw fD fdD) (F_one : Fun K "_law_one" "_law_one" sOne fO fdO)
    (G_draw : FnOk P w K mg base CX0 1 fD fdD ["_law_deck_here", "_law_many"] spDraw) (G_one : FnOk P w K mg base CX0 2 fO fdO ["_law_deck_here", "_law_items"] (spOne K))
    (b_draw : Binds K fdD ["_law_deck_here", "_law_many"] []) (b_one : Binds K fdO ["_law_deck_here", "_law_items"] [])
    (m_draw : mg "_law_draw" = some (.ref fD)) (m_one : mg "_law_one" = some (.ref fO)) (z_range : mg "range" = none) :
    FnOk P w K mg base CX0 3 f fd ["_law_deck_here"] (spNames K) := by
  refine F.ok scNames (fun vs H Q E h => ?_) (fun cdv A outer s H vs Q E hr h => ?_)
  · obtain ⟨a, c, cs, k, rfl, _⟩ := h
    rfl
  · obtain ⟨a, c, cs, k, rfl, D, hk, q⟩ := h
    refine ⟨_, (pss_cons (ps_set (i := 1) scNames.nd rfl (by first | exact Or.inl rfl | exact Or.inr rfl) pe_str)
      (pss_cons (ps_set (i := 2) scNames.nd rfl (by first | exact Or.inl rfl | exact Or.inr rfl) (pe_op op_add_str (pv 1) pe_str))
      (pss_cons (ps_set (i := 3) scNames.nd rfl (by first | exact Or.inl rfl | exact Or.inr rfl) (pe_lst (pa_cons pe_str (pa_cons pe_str (pa_cons pe_str (pa_cons pe_str (pa_cons pe_str (pa_cons pe_str (pa_cons pe_str (pa_cons pe_str (pa_cons pe_str (pa_cons pe_str (pa_cons pe_str (pa_cons pe_str pa_nil))))))))))))))
      (pss_cons (ps_par (i := 4) (j := 5) (by rfl) scNames.nd rfl rfl (by decide) rfl rfl (pa_cons (pe_call G_draw (hr.mono (by omega)) (by rfl) m_draw F_draw.kp b_draw .nil pass0 (pa_cons (pv 0) (pa_cons pe_int pa_nil))) (pa_cons (pe_call G_one (hr.mono (by omega)) (by rfl) m_one F_one.kp b_one .nil pass0 (pa_cons (pv 0) (pa_cons (pe_lst (pa_cons pe_int (pa_cons pe_int (pa_cons pe_int (pa_cons pe_int (pa_cons pe_int (pa_cons pe_int (pa_cons pe_int pa_nil)))))))) pa_nil))) pa_nil)) (by rfl))
      (pss_cons (ps_if (pt_cmpR op_lt (pv 4) pe_int (nomark _)) (pss_one (ps_ret (pe_op op_cat (pe_lst (pa_cons pe_str pa_nil)) (pe_slice sl_list (pv 3) (po_some (pv 4)) (po_some (pe_op op_add (pv 4) pe_int)))))) pss_nil)
      (pss_cons (ps_set (i := 6) scNames.nd rfl (by first | exact Or.inl rfl | exact Or.inr rfl) (pe_join pe_str (pe_lc (own := [("_law_k", 8)]) (g := gName 8) (tt := tYes) rfl scNames.nd (pi_range1 (by rfl) z_range (pa_cons (pv 5) pa_nil)) (blkOk_by (N := nNames) (sc := defScope sNames) (by decide +kernel)) (fun _ _ _ _ _ => (pg_name (i := 8) scNames.nd rfl (by first | exact Or.inl rfl | exact Or.inr rfl))) (fun _ _ _ _ _ => pts_nil) (fun _ _ _ _ _ => (pe_call G_one (hr.mono (by omega)) (by rfl) m_one F_one.kp b_one .nil pass0 (pa_cons (pv 0) (pa_cons (pv 1) pa_nil)))))))
      (pss_cons (ps_set (i := 7) scNames.nd rfl (by first | exact Or.inl rfl | exact Or.inr rfl) (pe_join pe_str (pe_lc (own := [("_law_k", 8)]) (g := gName 8) (tt := tYes) rfl scNames.nd (pi_range1 (by rfl) z_range (pa_cons (pe_call G_draw (hr.mono (by omega)) (by rfl) m_draw F_draw.kp b_draw .nil pass0 (pa_cons (pv 0) (pa_cons (pe_op op_sub pe_int (pv 5)) pa_nil))) pa_nil)) (blkOk_by (N := nNames) (sc := defScope sNames) (by decide +kernel)) (fun _ _ _ _ _ => (pg_name (i := 8) scNames.nd rfl (by first | exact Or.inl rfl | exact Or.inr rfl))) (fun _ _ _ _ _ => pts_nil) (fun _ _ _ _ _ => (pe_call G_one (hr.mono (by omega)) (by rfl) m_one F_one.kp b_one .nil pass0 (pa_cons (pv 0) (pa_cons (pv 2) pa_nil)))))))
      (pss_one (ps_ret (pe_op op_cat (pe_lst (pa_cons pe_str pa_nil)) (pe_lc (own := [("_law_k", 8)]) (g := gName 8) (tt := tYes) rfl scNames.nd (pi_range1 (by rfl) z_range (pa_cons pe_int pa_nil)) (blkOk_by (N := nNames) (sc := defScope sNames) (by decide +kernel)) (fun _ _ _ _ _ => (pg_name (i := 8) scNames.nd rfl (by first | exact Or.inl rfl | exact Or.inr rfl))) (fun _ _ _ _ _ => pts_nil) (fun _ _ _ _ _ => (pe_op op_add_str (pe_op op_add_str (pv 6) (pe_ix ix_str pe_str (pv 8) (fun _ _ => rfl))) (pv 7)))))))))))))), ?_⟩
    refine ⟨_, rfl, _, _, rfl, rfl, by decide +kernel, by show 12 ≤ sizeLine; decide, fun wd hwd => ?_⟩
    obtain ⟨wa, wc⟩ := D.nw hwd
    have Dw := D.new (o := .lst [.str "turns", .str "items", .str "total", .str "plus", .str "less", .str "times", .str "minus", .str "worth", .str "signs", .str "rows", .str "none", .str "place"]) hwd
    have hw1 : (upd H wd (.lst [.str "turns", .str "items", .str "total", .str "plus", .str "less", .str "times", .str "minus", .str "worth", .str "signs", .str "rows", .str "none", .str "place"])) wd = some (.lst (List.map V.str ["turns", "items", "total", "plus", "less", "times", "minus", "worth", "signs", "rows", "none", "place"])) := upd_same
    refine gnm ?_
    refine gh (H1 := upd H wd _) (F := fun H2 => Sx [a, c] H H2 ∧ Dk H2 a c cs k ∧ H2 wd = some (.lst (List.map V.str ["turns", "items", "total", "plus", "less", "times", "minus", "worth", "signs", "rows", "none", "place"]))) ⟨(Sx.refl _).new hwd, Dw, hw1⟩ (fun H2 ⟨s2, D2, w2⟩ => ?_)
    clear Dw hw1
    refine ⟨_, rfl, a, c, cs, k, 60, rfl, D2, by decide, by decide, by omega, fun H3 cs3 r s3 D3 r0 r1 => ?_⟩
    refine ⟨_, rfl, by show 7 ≤ sizeLine; decide, fun l hl => ?_⟩
    obtain ⟨la, lc⟩ := D3.nw hl
    refine ⟨a, c, cs3, _, _, rfl, D3.new hl, by omega, .inl ⟨l, _, rfl, .inl (.inl upd_same), by simp, by show 7 ≤ 100000; decide, la, lc, fun H4 cs4 x s4 D4 hx => ?_⟩⟩
    obtain ⟨n, rfl, hn⟩ : ∃ n : Nat, x = .int (n : Int) ∧ n ≤ 7 := by
      simp only [List.not_mem_nil, List.mem_cons, or_false] at hx
      rcases hx with rfl | rfl | rfl | rfl | rfl | rfl | rfl
      · exact ⟨0, rfl, by decide⟩
      · exact ⟨1, rfl, by decide⟩
      · exact ⟨2, rfl, by decide⟩
      · exact ⟨3, rfl, by decide⟩
      · exact ⟨5, rfl, by decide⟩
      · exact ⟨6, rfl, by decide⟩
      · exact ⟨7, rfl, by decide⟩
    have s04 : Sx [a, c] H H4 := (s2.trans (s3.new hl)).trans s4
    have w4 : H4 wd = some (.lst (List.map V.str ["turns", "items", "total", "plus", "less", "times", "minus", "worth", "signs", "rows", "none", "place"])) := s4 _ _ (by simp [wa, wc]) ((Sx.refl (ex := []) _).new hl _ _ (by simp) (s3 _ _ (by simp [wa, wc]) w2))
    clear w2 s3 s4
    refine ⟨_, _, rfl, ?_⟩
    refine ⟨_, rfl, _, 10, rfl, rfl, _, rfl, ite2 (fun e => ?_) (fun e => ?_)⟩
    -- the usual words
    · refine ⟨by show 1 ≤ sizeLine; decide, fun g hg => ?_⟩
      obtain ⟨ga, gc⟩ := D4.nw hg
      refine ⟨_, rfl, _, rfl, r, rfl, _, rfl, _, 3, rfl, rfl, r + 3, rfl, wd, _, rfl, .inl (.inl ((Sx.refl (ex := []) _).new hg _ _ (by simp) w4)), fun u hu => ?_⟩
      have gu : g ≠ u := fun z => by rw [← z, upd_same] at hu; cases hu
      have hsub : ∃ ws : List Str, cutV (List.map V.str ["turns", "items", "total", "plus", "less", "times", "minus", "worth", "signs", "rows", "none", "place"]) (some r) (some (r + 3)) = ws.map V.str ∧ ws.length ≤ 12 ∧ ∀ z ∈ ws, NmOk z := by
        unfold cutV
        rw [← List.map_drop, ← List.map_take]
        refine ⟨_, rfl, ?_, fun z hz => ?_⟩
        · refine Nat.le_trans (List.length_take_le' _ _) ?_
          rw [List.length_drop]
          exact Nat.sub_le _ _
        · have hz' := List.mem_of_mem_drop (List.mem_of_mem_take hz)
          exact nmOk_of ((by decide +kernel : ∀ z ∈ (["turns", "items", "total", "plus", "less", "times", "minus", "worth", "signs", "rows", "none", "place"] : List Str), nmOkB z = true) z hz')
      obtain ⟨ws, ews, lws, hws⟩ := hsub
      refine ⟨g, u, _, _, rfl, rfl, by rw [upd_ne gu]; exact upd_same, by rw [upd_same, ews], by show 1 + (List.map V.str ws).length ≤ sizeLine; rw [List.length_map]; exact le_line (by omega), fun v hv => ?_⟩
      have hv1 : (upd H4 g (.lst [.str "n"])) v = none := by
        by_cases z : v = u
        · rw [z]; exact hu
        · rw [upd_ne z] at hv; exact hv
      have Dv := ((D4.new (o := .lst [.str "n"]) hg).new (o := .lst (ws.map V.str)) hu)
      rw [← ews] at Dv
      obtain ⟨va, vc⟩ := Dv.nw hv
      refine q _ cs4 _ v ("n" :: ws) (((s04.new hg).new hu).new hv) (Dv.new hv) (by omega) (by omega) ((((s04.new (o := .lst [.str "n"]) hg).new (o := .lst _) hu)).free (by simp [va, vc]) hv) va vc ⟨upd_same, by simp, by rw [List.length_cons]; omega, fun z hz => ?_⟩
      rcases List.mem_cons.1 hz with rfl | hz
      · exact nmOk_of (by decide +kernel)
      · exact hws z hz
    -- names of drawn signs
    · have hr0 : 0 ≤ r := r0
      -- ahead
      refine ⟨⟨_, rfl⟩, _, rfl, (n : Int), rfl, by omega, by omega, fun Z hZ => lc_range (lo := 0) (n := ((n : Nat) : Int).toNat) (fun i H' => Pz H4 a c (k + 1 + 1) Z "abcdefghijklmnopqrstuvwxyz" i H') (Pz.zero D4 hZ) (fun i H' hi p => ?_) (fun H' p => ?_)⟩
      · obtain ⟨p1, ⟨cs', D'⟩, _⟩ := id p
        refine ⟨rfl, _, rfl, _, rfl, a, c, cs', _, _, rfl, D', by omega, .inr ⟨_, rfl, by decide +kernel, by decide +kernel, fun H5 cs5 x s5 D5 hx => ?_⟩⟩
        exact p.step hZ D4 s5 D5 hx (by omega)
      · obtain ⟨p1, ⟨cs', D'⟩, ls, p3, p4, p5⟩ := p
        have p4' : ls.length = n := by omega
        refine ⟨_, Z, ls.map s1, rfl, rfl, .inl (.inl (.inl p3)), by rw [sum_s1, List.length_map]; show ls.length + ls.length * 0 ≤ 16777216; omega, ?_⟩
        have es := join_s1 ls
        have s5 := s04.trans p1
        have D5 : Dk H' a c cs' (k + 2 + n) := by
          have e : k + 1 + 1 + ((((n : Nat) : Int).toNat : Nat) : Int) = k + 2 + n := by omega
          rw [e] at D'
          exact D'
        clear p1 p3 D'
        -- behind
        refine ⟨⟨_, rfl⟩, _, rfl, _, rfl, 8, (n : Int), rfl, rfl, a, c, cs', _, _, rfl, D5, by omega, by omega, by omega, fun H6 cs6 y s6 D6 y0 y1 => ⟨y, rfl, by omega, by omega, fun Y hY => ?_⟩⟩
        refine lc_range (lo := 0) (n := y.toNat) (fun i H' => Pz H6 a c (k + 2 + n + 1) Y ("abcdefghijklmnopqrstuvwxyz" ++ "0123456789") i H') (Pz.zero D6 hY) (fun i H7 hi p => ?_) (fun H7 p => ?_)
        · obtain ⟨p1, ⟨cs', D'⟩, _⟩ := id p
          refine ⟨rfl, _, rfl, _, rfl, a, c, cs', _, _, rfl, D', by omega, .inr ⟨_, rfl, by decide +kernel, by decide +kernel, fun H8 cs8 x s8 D8 hx => ?_⟩⟩
          exact p.step hY D6 s8 D8 hx (by omega)
        · obtain ⟨q1, ⟨cs7, D7⟩, gs, q3, q4, q5⟩ := p
          refine ⟨_, Y, gs.map s1, rfl, rfl, .inl (.inl (.inl q3)), by rw [sum_s1, List.length_map]; show gs.length + gs.length * 0 ≤ 16777216; omega, ?_⟩
          have eg := join_s1 gs
          have s7 := (s5.trans s6).trans q1
          -- the list of names
          refine ⟨by show 1 ≤ sizeLine; decide, fun g hg => ⟨3, rfl, by decide, by decide, fun X hX => ?_⟩⟩
          have gX : g ≠ X := fun z => by rw [← z, upd_same] at hX; cases hX
          have D8 := (D7.new (o := .lst [.str "n"]) hg)
          obtain ⟨Xa, Xc⟩ := D8.nw hX
          have HX7 : H7 X = none := by rw [upd_ne gX.symm] at hX; exact hX
          have HX : H X = none := s7.free (by simp [Xa, Xc]) HX7
          refine lc_range (lo := 0) (n := (3 : Int).toNat) (fun i H' => Sx [a, c] H H' ∧ Dk H' a c cs7 (k + 2 + n + 1 + y.toNat) ∧ H' g = some (.lst [.str "n"]) ∧ ∃ ns : List Str, H' X = some (.lst (ns.map V.str)) ∧ ns.length = i ∧ ∀ z ∈ ns, NmOk z)
            ⟨(s7.new hg).new hX, D8.new hX, by rw [upd_ne gX]; exact upd_same, [], upd_same, rfl, fun _ z => by simp at z⟩ (fun i H' hi p => ?_) (fun H' p => ?_)
          · obtain ⟨u1, u2, u3, ns, u4, u5, u6⟩ := p
            have hi3 : i < 3 := hi
            obtain ⟨x, hx, hc⟩ : ∃ x : Nat, atI (Str.ofString "qvz").cps.toList ((0 : Int) + (i : Int)) = some x ∧ (x = 113 ∨ x = 118 ∨ x = 122) := by
              rcases (show i = 0 ∨ i = 1 ∨ i = 2 by omega) with rfl | rfl | rfl
              · exact ⟨113, by decide +kernel, .inl rfl⟩
              · exact ⟨118, by decide +kernel, .inr (.inl rfl)⟩
              · exact ⟨122, by decide +kernel, .inr (.inr rfl)⟩
            have hnm : NmOk (Txt.join (Str.ofString "") (ls.map s1) ++ s1 x ++ Txt.join (Str.ofString "") (gs.map s1)) := by
              rw [es, eg]
              exact nm_made (fun z hz => ab_az z (p5 z hz)) (fun z hz => ab_09 z (q5 z hz)) hc (by omega)
            have hle := hnm.hi
            have hle2 : (Txt.join (Str.ofString "") (ls.map s1) ++ s1 x).length ≤ 8 := by
              have : (Txt.join (Str.ofString "") (ls.map s1) ++ s1 x ++ Txt.join (Str.ofString "") (gs.map s1)).length = (Txt.join (Str.ofString "") (ls.map s1) ++ s1 x).length + (Txt.join (Str.ofString "") (gs.map s1)).length := Str.length_append _ _
              omega
            have e1 := Str.length_append (Txt.join (Str.ofString "") (ls.map s1)) (s1 x)
            have e2 := Str.length_append (Txt.join (Str.ofString "") (ls.map s1) ++ s1 x) (Txt.join (Str.ofString "") (gs.map s1))
            refine ⟨rfl, _, rfl, _, rfl, _, _, x, rfl, rfl, by decide +kernel, hx, _, _, rfl, rfl, le_line (by rw [← e1]; omega), _, rfl, _, _, rfl, rfl, le_line (by rw [← e2]; omega), _, u4, lt_line (by rw [List.length_map]; omega), ?_⟩
            have sX : Sx [X] H' (upd H' X (.lst (ns.map V.str ++ [.str (Txt.join (Str.ofString "") (ls.map s1) ++ s1 x ++ Txt.join (Str.ofString "") (gs.map s1))]))) := (Sx.refl (ex := [X]) _).put (by simp)
            refine ⟨u1.own HX, u2.sx sX (by simp [Xa.symm]) (by simp [Xc.symm]), by rw [upd_ne gX]; exact u3, ns ++ [Txt.join (Str.ofString "") (ls.map s1) ++ s1 x ++ Txt.join (Str.ofString "") (gs.map s1)], by rw [upd_same, List.map_append]; rfl, by rw [List.length_append, u5]; rfl, fun z hz => ?_⟩
            rcases List.mem_append.1 hz with h | h
            · exact u6 z h
            · rw [List.mem_singleton.mp h]; exact hnm
          · obtain ⟨u1, u2, u3, ns, u4, u5, u6⟩ := p
            have u5' : ns.length = 3 := u5
            refine ⟨g, X, _, _, rfl, rfl, u3, u4, by show 1 + (ns.map V.str).length ≤ sizeLine; rw [List.length_map]; exact le_line (by omega), fun v hv => ?_⟩
            obtain ⟨va, vc⟩ := u2.nw hv
            refine q _ cs7 _ v ("n" :: ns) (u1.new hv) (u2.new hv) (by omega) (by omega) (u1.free (by simp [va, vc]) hv) va vc ⟨upd_same, by simp, by rw [List.length_cons]; omega, fun z hz => ?_⟩
            rcases List.mem_cons.1 hz with rfl | hz
            · exact nmOk_of (by decide +kernel)
            · exact u6 z hz
end
/-! ### defs called where no repr is under way -/
/-- a def's promise where nothing guards the stack -/
structure FnG (P : Program) (w : World) (K : PySem.W.Frag) (mg : Str → Option Value) (base : Heap) (k : Nat) (f : Addr) (fd : FuncData) (ps : List Str) (sp : Sp) : Prop where
  len : ∀ (as : List V) (H : Hp) (Q : VK) (E : XK), sp as H Q E → as.length = ps.length
  go : ∀ (A : Around) (callers : List Env) (s : Shared) (H : Hp) (ar : Args) (us : List Value) (vs : List V) (Q : VK), Room k A → A.guards = some [] → Env0 P w K mg base A callers s H → BindsTo s fd ar (ps.zip us) → Vals vs us → sp vs H Q E0 →
    codeAny (model P w) A (.call (.ref f) ar) (CR CX0 callers P w H s Q E0) s
theorem FnG.of {P : Program} {w : World} {K : PySem.W.Frag} {mg : Str → Option Value} {base : Heap} {k : Nat} {f : Addr} {fd : FuncData} {ps : List Str} {sp : Sp} (F : FnOk P w K mg base CX0 k f fd ps sp) : FnG P w K mg base k f fd ps sp :=
  ⟨F.len, fun A o s H ar us vs Q hr _ e b r h => F.run A o s H ar us vs Q E0 hr e b r h⟩
theorem FnG.up {P : Program} {w : World} {K : PySem.W.Frag} {mg : Str → Option Value} {base : Heap} {j k : Nat} {f : Addr} {fd : FuncData} {ps : List Str} {sp : Sp} (F : FnG P w K mg base j f fd ps sp) (h : j ≤ k) : FnG P w K mg base k f fd ps sp :=
  ⟨F.len, fun A o s H ar us vs Q hr => F.go A o s H ar us vs Q (hr.mono h)⟩
theorem Fun.okG {P : Program} {w : World} {K : PySem.W.Frag} {mg : Str → Option Value} {base : Heap} {x qual : Str} {st : Stmt} {f : Addr} {fd : FuncData} {N ps : List Str} {k : Nat} {sp : Sp} (F : Fun K x qual st f fd) (S : FnScope N ps (defScope st))
    (len : ∀ (as : List V) (H : Hp) (Q : VK) (E : XK), sp as H Q E → as.length = ps.length)
    (hbody : ∀ (cdv : Value) (A : Around) (outer : List Env) (s : Shared) (H : Hp) (vs : List V) (Q : VK) (E : XK), Room k (A.deeper (envOfC qual (defScope st) s.heap.objs.size f cdv)) → A.guards = some [] → sp vs H Q E →
      ∃ t, PSs (cxOf CX0 P w K mg base N qual (defScope st) f cdv A outer s H E).nox (defBody st) t ∧ t { nx := fun _ H' => Q .non H', rt := Q } (start N vs) H) : FnG P w K mg base (k + 1) f fd ps sp := by
  rcases F.ex with ⟨oc, od, kV, doc, pm, an, cdv, ct, osl, rfl, lk, hcd⟩
  refine ⟨len, fun A callers s H ar us vs Q hr hg e0 hb rv hsp => ?_⟩
  have inK : K.In s.heap := e0.mod.kin.keeps fun b o e => (e0.bs b o e).1
  have knd : ∀ y ∈ ps.zip us, (defScope st).names.lookup y.1 = some .local ∨ ((defScope st).names.lookup y.1 = some .cell ∧ ((cellsFrom (s.heap.objs.size + 1) (defScope st).names []).lookup y.1).isSome = true) := by
    rintro ⟨n, v⟩ hy
    exact (S.par n (List.of_mem_zip hy).1).imp id fun q => ⟨q, PySem.W.cellsFrom_some _ _ _ (.inl q)⟩
  refine codeAny_call_function hr.depth (inK _ _ lk) rfl S.co S.gen rfl (PySem.W.codeRec_of inK hcd) (hb _ _ _ _ (wpAny_newFunctionEnv_cells S.kind knd fun env he s1 x => ?_))
  subst he
  refine ⟨(e0.mod.nolimit.keeps fun b o e => (e0.bs b o e).1).keeps x.toInCall.keep, codeAny_func ?_⟩
  obtain ⟨t, ht, hq⟩ := hbody cdv A callers s H vs Q E0 (hr.deeper _) hg hsp
  have I0 := inv_start (CX := CX0) (E := E0) S hr.hd e0 (len _ _ _ _ hsp) rv x
  refine wpAny_mono (ht.nox.run [] s1 (start N vs) H _ I0 hq) (fun fl s' hs => ?_) fun e s' hs => hs
  cases fl with
  | ret u =>
    obtain ⟨v, σ', H', J, r1, q1⟩ := hs
    exact ⟨v, H', J.os, J.bare, J.base, J.hok, r1, q1⟩
  | next =>
    obtain ⟨σ', H', J, q1⟩ := hs
    exact ⟨.non, H', J.os, J.bare, J.base, J.hok, rfl, q1⟩
  | brk => exact absurd hs (by rintro ⟨_, _, _, q1⟩; exact q1)
  | cont => exact absurd hs (by rintro ⟨_, _, _, q1⟩; exact q1)
theorem pe_callG {X : Cx} {x : Str} {p pos : Pos} {e : Expr} {es : List Expr} {t : TA} {k : Nat} {f : Addr} {fd : FuncData} {ps : List Str} {sp : Sp} {ds : List Value} {dvs : List V} (F : FnG X.prog X.w X.K X.mg X.base k f fd ps sp) (hr : Room k X.A) (hgd : X.A.guards = some []) (hg : Gl X x) (hm : X.mg x = some (.ref f)) (hk : PySem.W.keepIn X.K (.ref f) = true)
    (hb : Binds X.K fd ps ds) (hd : Vals dvs ds) (ha : PA X (e :: es) t) (hdb : (x == ("__debug__" : Str)) = false := by decide) (he : starEach (e :: es) X.env = (false, eval e X.env) :: starEach es X.env := by rfl) (hpl : (backTo pos (starEach es X.env)).any (·.1) = false := by rfl) :
    PE X (Expr.Call (.Name x p) (e :: es) [] pos) (tCall sp dvs E0 t) := by
  refine ⟨fun pins s σ H Q I h => wpAny_Call_Name_kw (ld_glob I hg hm ?_ hdb)⟩
  refine PySem.W.callWith_K (h₀ := X.base) I.ok.mod.kin hk (thn (ha.run pos pins s σ H _ I h) fun us s1 ⟨vs, H1, I1, r, q⟩ => And.intro I1.kIn ?_) he hpl
  have rr : Vals (vs ++ dvs) (us ++ ds) := r.append hd
  have ll : (us ++ ds).length = ps.length := rr.length.symm.trans (F.len _ _ _ _ q)
  refine wpAny_call (codeAny_mono (F.go X.A X.stack s1 H1 ⟨us, []⟩ (us ++ ds) (vs ++ dvs) Q hr hgd I1.env0 (hb s1 us I1.kIn ll) rr q) fun rs s' hq => ?_)
  match rs, hq with
  | .ok (.ret u), hq => exact I1.after hq
/-! ### repr of data -/
/-- repr(x), x a list or a tuple of data -/
def rRepr (K : PySem.W.Frag) : List V → Hp → VK → Prop := fun xs H Q => ∃ x d, xs = [x] ∧ Dp K H x d ∧ d.showable = true ∧ d.hasDict = false ∧ d.depth ≤ 60 ∧ d.shown.length ≤ 16777216 ∧ (∀ z, d ≠ .str z) ∧ (∀ b, d ≠ .bool b) ∧ d ≠ .none ∧ Q (.str d.shown) H
theorem call_reprD {X : Cx} (hgd : X.A.guards = some []) (hu : X.A.units + 64 < cLine) : CallR X (.builtin "repr") (rRepr X.K) := by
  intro pins s σ H xs us Q I r h0; have h := h0
  obtain ⟨x, d, rfl, hd, hs, hnd, hdp, hz, n1, n2, n3, q⟩ := h
  rcases vals1 r with ⟨u, rfl, rx⟩
  have fin : ∀ {as : List Addr} {a : Addr}, Reads s.heap (.ref a) d as → wpAny (model X.prog X.w) X.A (call (.builtin "repr") [.ref a]) (EP X pins σ Q) X.xe s := fun {as a} rd =>
    repr_of_reads' rd hs (fun h => by rw [hnd] at h; cases h) hgd (by omega) (fun _ _ e => e) (fun h' u' tk hk => ⟨.str d.shown, H, I.kept hk, ⟨u', rfl⟩, q⟩) hz
  obtain ⟨as, rd⟩ := Dp.reads I d x u hd rx
  cases hd with
  | non => exact absurd rfl n3
  | bl b => exact absurd rfl (n2 b)
  | int i =>
    obtain ⟨t, rfl⟩ := rx
    have hi : i.natAbs.log2 < 1920 := by
      have : (PyData.int i).showable = true := hs
      simpa only [PyData.showable, decide_eq_true_eq] using this
    have e : (PyData.int i).shown = (toString i : String) := by simp only [PyData.shown]
    rw [e] at q
    exact PySem.P.repr_of_int hi ⟨.str _, H, I.tok _, ⟨_, rfl⟩, q⟩
  | str z => exact absurd rfl (n1 z)
  | lst hq ha => cases rx; exact fin rd
  | tup hq ha => cases rx; exact fin rd
/-! ### the law's end -/
/-- the script, as the heap tells it -/
theorem script_hp {P : Program} {w : World} {K : PySem.W.Frag} {s : Shared} {a : Addr} {vs : List Value} {ns : List Int} (KX : K.In s.heap) (ha : s.heap.get? a = some { cls := .type "list", data := .seq vs.toArray }) (hi : IntsAre vs ns) (hl : ns.length ≤ sizeLine) :
    ∃ H : Hp, Only H ∧ SqL K H a (ns.map V.int) ∧ HOk P w H s.heap ∧ (∀ b, H b ≠ none → b = a) ∧ (H a ≠ none → K.lookup a = none) := by
  have rv := vals_ints hi
  cases e : K.lookup a with
  | some o =>
    have h := KX a o e
    rw [ha] at h
    cases h
    refine ⟨fun _ => none, fun _ => .inl rfl, .inr ⟨_, vs.toArray, _, e, rfl, rfl, rfl, by rw [List.size_toArray, hi.length]; exact hl, by simpa using rv⟩, fun b u z => (by cases z), fun b z => absurd rfl z, fun z => absurd rfl z⟩
  | none =>
    have at_a : (fun b : Addr => if b = a then some (HO.frz { cls := .type "list", data := .seq vs.toArray } (.lst (ns.map V.int))) else none) a = some (HO.frz { cls := .type "list", data := .seq vs.toArray } (.lst (ns.map V.int))) := if_pos rfl
    refine ⟨fun b => if b = a then some (.frz { cls := .type "list", data := .seq vs.toArray } (.lst (ns.map V.int))) else none, fun b => ?_, .inl (.inr ⟨_, at_a⟩), fun b u z => ?_, fun b z => ?_, fun _ => rfl⟩
    · by_cases h : b = a
      · exact .inr ⟨_, _, if_pos h⟩
      · exact .inl (if_neg h)
    · by_cases h : b = a
      · have z2 := (if_pos h).symm.trans z
        cases z2
        subst h
        exact ⟨ha, by simpa using hl, vs, _, rv, ha⟩
      · have z2 := (if_neg h).symm.trans z
        cases z2
    · by_cases h : b = a
      · exact h
      · exact absurd (if_neg h) z
theorem law_callG {P : Program} {w : World} {K : PySem.W.Frag} {mg mb : Str → Option Value} {k : Nat} {fa a : Addr} {fd : FuncData} {x : Str} {sp : Sp} {s : Shared} {vs : List Value} {ns : List Int}
    (KX : K.In s.heap) (h1 : s.heap.Ns mainGlobals mg) (h2 : s.heap.Ns builtinsNs mb) (h3 : ∀ x : Str, x ≠ "__name__" → mb x = bootBuiltins x) (h4 : s.heap.NoLimit) (h5 : s.gens = #[])
    (ha : s.heap.get? a = some { cls := .type "list", data := .seq vs.toArray }) (hi : IntsAre vs ns) (hl : ns.length ≤ sizeLine) (hr : Room k callerA)
    (F : ∀ base : Heap, K.In base → base.Ns mainGlobals mg → FnG P w K mg base k fa fd [x] sp) (hb : ∀ (s : Shared) (u : Value), BindsTo s fd ⟨[u], []⟩ [(x, u)])
    (hsp : ∀ H : Hp, Only H → SqL K H a (ns.map V.int) → sp [.ref a] H (fun v _ => v = .bl true) E0) :
    codeAny (model P w) callerA (.call (.ref fa) ⟨[.ref a], []⟩) (fun r s' => r = .ok (.ret (.bool true)) ∧ OldK s.heap s'.heap ∧ s'.os = s.os ∧ AllBare s'.gens) s := by
  obtain ⟨H, hO, hS, hok, hA, hK⟩ := script_hp (P := P) (w := w) KX ha hi hl
  have only_a : ∀ {b : Addr} {u : HO}, H b = some u → b = a := fun e => hA _ (by rw [e]; simp)
  have unseen : ∀ {b : Addr} {o : Obj} {es : Array DictEntry} {ep : Nat}, s.heap.get? b = some o → o.data = .dict es ep → H b = none := fun {b o es ep} e d => by
    cases q : H b with
    | none => rfl
    | some u =>
      have z := only_a q
      subst z
      rw [ha] at e
      cases e
      cases d
  have ns_of : ∀ {b : Addr} {m : Str → Option Value}, s.heap.Ns b m → (hidT s.heap H).Ns b m := fun {b m} ⟨o, es, ep, e, d, r⟩ => ⟨o, es, ep, hidT_get e (unseen e d), d, r⟩
  have inB : K.In (hidT s.heap H) := fun b o e => hidT_get (KX b o e) (by
    cases q : H b with
    | none => rfl
    | some u =>
      have z := only_a q
      subst z
      rw [hK (by simp [q])] at e
      cases e)
  have md : Mod K mg (hidT s.heap H) := ⟨inB, ns_of h1, ⟨mb, ns_of h2, h3⟩, let ⟨mc, y1, y2⟩ := h4; ⟨mc, ns_of y1, y2⟩⟩
  have e0 : Env0 P w K mg (hidT s.heap H) callerA [] s H := ⟨rfl, md, fun b o e => of_hidT e, Nat.le_of_eq (hidT_size _ _), trivial, fun b hb => absurd (show b ∈ ([] : List Addr) from hb) (by simp), hok, .of_eq h5⟩
  refine codeAny_mono ((F _ inB (ns_of h1)).go callerA [] s H ⟨[.ref a], []⟩ [.ref a] [.ref a] _ hr rfl e0 (hb s (.ref a)) (.cons rfl .nil) (hsp H hO hS)) fun r s' h => ?_
  match r, h with
  | .ok (.ret u), h =>
    rcases h with ⟨v, H', os, bare, un, hok', r', q⟩
    have q' : v = .bl true := q
    subst q'
    have eu : u = Value.bool true := r'; subst eu
    refine ⟨rfl, .of_keep fun b o e => ?_, os, bare⟩
    cases q2 : H b with
    | none => exact un.keep b o e q2 (fun z => absurd (show b ∈ ([] : List Addr) from z) (by simp)) (by simp)
    | some u =>
      obtain z | ⟨ob, xs, z⟩ := hO b
      · rw [q2] at z; cases z
      · obtain ⟨e1, _⟩ := hok b _ z
        obtain ⟨e2, _⟩ := hok' b _ (un.frzs b ob _ z)
        rw [e] at e1
        cases e1
        exact e2
/-! ### programs, typed -/
inductive Ex where
  | int (i : Int)
  | name (z : Str)
  | plus (x y : Ex)
  | minus (x y : Ex)
  | times (f : Int) (x : Ex)
namespace Ex
def d : Ex → PyData
  | .int i => .int i
  | .name z => .str z
  | .plus x y => .tuple [.str "plus", x.d, y.d]
  | .minus x y => .tuple [.str "minus", x.d, y.d]
  | .times f x => .tuple [.str "times", .int f, x.d]
def ok (ns : List Str) : Ex → Nat → Prop
  | .int i, n => 1 ≤ n ∧ -99 ≤ i ∧ i ≤ 99
  | .name z, n => 1 ≤ n ∧ z ∈ ns
  | .plus x y, n => 1 ≤ n ∧ ok ns x (n - 1) ∧ ok ns y (n - 1)
  | .minus x y, n => 1 ≤ n ∧ ok ns x (n - 1) ∧ ok ns y (n - 1)
  | .times f x, n => 1 ≤ n ∧ -9 ≤ f ∧ f ≤ 9 ∧ ok ns x (n - 1)
def ev (ρ : Str → Int) : Ex → Int
  | .int i => i
  | .name z => ρ z
  | .plus x y => x.ev ρ + y.ev ρ
  | .minus x y => x.ev ρ - y.ev ρ
  | .times f x => f * x.ev ρ
theorem of {ns : List Str} {n : Nat} {e : PyData} (h : ExD ns n e) : ∃ x : Ex, x.d = e ∧ x.ok ns n := by
  induction h with
  | int i a b => exact ⟨.int i, rfl, by omega, a, b⟩
  | name z a => exact ⟨.name z, rfl, by omega, a⟩
  | plus _ _ a b => obtain ⟨x, rfl, hx⟩ := a; obtain ⟨y, rfl, hy⟩ := b; exact ⟨.plus x y, rfl, by omega, hx, hy⟩
  | minus _ _ a b => obtain ⟨x, rfl, hx⟩ := a; obtain ⟨y, rfl, hy⟩ := b; exact ⟨.minus x y, rfl, by omega, hx, hy⟩
  | times f a b _ c => obtain ⟨x, rfl, hx⟩ := c; exact ⟨.times f x, rfl, by omega, a, b, hx⟩
/-- no name has a value above B, so no expression has one above 9 ^ n times that -/
theorem ev_le {ns : List Str} {ρ : Str → Int} {B : Int} (hB : 99 ≤ B) (h : ∀ z, -B ≤ ρ z ∧ ρ z ≤ B) : ∀ (x : Ex) (n : Nat), x.ok ns n → -((9 : Int) ^ n * B) ≤ x.ev ρ * 9 ∧ x.ev ρ * 9 ≤ (9 : Int) ^ n * B
  | .int i, n, ⟨h1, h2, h3⟩ => by
    obtain ⟨m, rfl⟩ : ∃ m : Nat, n = m + 1 := ⟨n - 1, by omega⟩
    have p : (1 : Int) ≤ 9 ^ m := Int.pow_pos (by decide)
    have q : B ≤ 9 ^ m * B := by have := Int.mul_le_mul_of_nonneg_right p (show 0 ≤ B by omega); omega
    have e : (9 : Int) ^ (m + 1) * B = 9 * (9 ^ m * B) := by rw [Int.pow_succ, Int.mul_comm (9 ^ m) 9, Int.mul_assoc]
    rw [e]
    show -_ ≤ i * 9 ∧ i * 9 ≤ _
    omega
  | .name z, n, ⟨h1, h2⟩ => by
    obtain ⟨m, rfl⟩ : ∃ m : Nat, n = m + 1 := ⟨n - 1, by omega⟩
    have p : (1 : Int) ≤ 9 ^ m := Int.pow_pos (by decide)
    have q : B ≤ 9 ^ m * B := by have := Int.mul_le_mul_of_nonneg_right p (show 0 ≤ B by omega); omega
    have e : (9 : Int) ^ (m + 1) * B = 9 * (9 ^ m * B) := by rw [Int.pow_succ, Int.mul_comm (9 ^ m) 9, Int.mul_assoc]
    rw [e]
    have := h z
    show -_ ≤ ρ z * 9 ∧ ρ z * 9 ≤ _
    omega
  | .plus x y, n, ⟨h1, h2, h3⟩ => by
    obtain ⟨m, rfl⟩ : ∃ m : Nat, n = m + 1 := ⟨n - 1, by omega⟩
    have a := ev_le hB h x m h2
    have b := ev_le hB h y m h3
    have e : (9 : Int) ^ (m + 1) * B = 9 * (9 ^ m * B) := by rw [Int.pow_succ, Int.mul_comm (9 ^ m) 9, Int.mul_assoc]
    rw [e]
    show -_ ≤ (x.ev ρ + y.ev ρ) * 9 ∧ (x.ev ρ + y.ev ρ) * 9 ≤ _
    omega
  | .minus x y, n, ⟨h1, h2, h3⟩ => by
    obtain ⟨m, rfl⟩ : ∃ m : Nat, n = m + 1 := ⟨n - 1, by omega⟩
    have a := ev_le hB h x m h2
    have b := ev_le hB h y m h3
    have e : (9 : Int) ^ (m + 1) * B = 9 * (9 ^ m * B) := by rw [Int.pow_succ, Int.mul_comm (9 ^ m) 9, Int.mul_assoc]
    rw [e]
    show -_ ≤ (x.ev ρ - y.ev ρ) * 9 ∧ (x.ev ρ - y.ev ρ) * 9 ≤ _
    omega
  | .times f x, n, ⟨h1, h2, h3, h4⟩ => by
    obtain ⟨m, rfl⟩ : ∃ m : Nat, n = m + 1 := ⟨n - 1, by omega⟩
    have a := ev_le hB h x m h4
    have e : (9 : Int) ^ (m + 1) * B = 9 * (9 ^ m * B) := by rw [Int.pow_succ, Int.mul_comm (9 ^ m) 9, Int.mul_assoc]
    rw [e]
    show -_ ≤ f * x.ev ρ * 9 ∧ f * x.ev ρ * 9 ≤ _
    have c : ∀ v C : Int, -C ≤ v * 9 → v * 9 ≤ C → -(9 * C) ≤ f * v * 9 ∧ f * v * 9 ≤ 9 * C := fun v C u1 u2 => by
      rcases (show f = -9 ∨ f = -8 ∨ f = -7 ∨ f = -6 ∨ f = -5 ∨ f = -4 ∨ f = -3 ∨ f = -2 ∨ f = -1 ∨ f = 0 ∨ f = 1 ∨ f = 2 ∨ f = 3 ∨ f = 4 ∨ f = 5 ∨ f = 6 ∨ f = 7 ∨ f = 8 ∨ f = 9 by omega) with
        rfl | rfl | rfl | rfl | rfl | rfl | rfl | rfl | rfl | rfl | rfl | rfl | rfl | rfl | rfl | rfl | rfl | rfl | rfl <;> omega
    exact c _ _ a.1 a.2
end Ex
inductive Ts where
  | rest (x : Ex) (b r : Int)
  | less (x y : Ex)
  | not (t : Ts)
namespace Ts
def d : Ts → PyData
  | .rest x b r => .tuple [.str "rest", x.d, .int b, .int r]
  | .less x y => .tuple [.str "less", x.d, y.d]
  | .not t => .tuple [.str "not", t.d]
def ok (ns : List Str) : Ts → Nat → Prop
  | .rest x b r, _ => x.ok ns 3 ∧ 2 ≤ b ∧ b ≤ 6 ∧ 0 ≤ r ∧ r < b
  | .less x y, _ => x.ok ns 3 ∧ y.ok ns 3
  | .not t, n => 1 ≤ n ∧ ok ns t (n - 1)
def ev (ρ : Str → Int) : Ts → Bool
  | .rest x b r => decide ((x.ev ρ - r) % b = 0)
  | .less x y => decide (x.ev ρ < y.ev ρ)
  | .not t => !t.ev ρ
/-- of a rest -/
def isR : Ts → Bool
  | .rest _ _ _ => true
  | .less _ _ => false
  | .not t => t.isR
theorem of {ns : List Str} {n : Nat} {b : Bool} {e : PyData} (h : TsD ns n b e) : ∃ x : Ts, x.d = e ∧ x.ok ns n ∧ x.isR = b := by
  induction h with
  | rest b r a h1 h2 h3 h4 => obtain ⟨x, rfl, hx⟩ := Ex.of a; exact ⟨.rest x b r, rfl, ⟨hx, h1, h2, h3, h4⟩, rfl⟩
  | less a b => obtain ⟨x, rfl, hx⟩ := Ex.of a; obtain ⟨y, rfl, hy⟩ := Ex.of b; exact ⟨.less x y, rfl, ⟨hx, hy⟩, rfl⟩
  | not _ ih => obtain ⟨x, rfl, hx, hr⟩ := ih; exact ⟨.not x, rfl, ⟨by omega, hx⟩, hr⟩
end Ts
mutual
inductive St where
  | set (z : Str) (e : Ex)
  | pay (e : Ex)
  | stop
  | ite (t : Ts) (y n : Bk)
  | rep (k : Int) (y : Bk)
inductive Bk where
  | nil
  | cons (s : St) (b : Bk)
end
mutual
def St.d : St → PyData
  | .set z e => .tuple [.str "set", .str z, e.d]
  | .pay e => .tuple [.str "pay", e.d]
  | .stop => .tuple [.str "stop"]
  | .ite t y n => .tuple [.str "if", t.d, .tuple y.ds, .tuple n.ds]
  | .rep k y => .tuple [.str "repeat", .int k, .tuple y.ds]
def Bk.ds : Bk → List PyData
  | .nil => []
  | .cons s b => s.d :: b.ds
end
mutual
def St.ok (ns : List Str) : St → Nat → Prop
  | .set z e, _ => z ∈ ns ∧ e.ok ns 3
  | .pay e, _ => e.ok ns 3
  | .stop, _ => True
  | .ite t y n, d => t.ok ns 2 ∧ Bk.ok ns y d ∧ Bk.ok ns n d
  | .rep k y, d => 1 ≤ k ∧ k ≤ 8 ∧ Bk.ok ns y d
def Bk.ok (ns : List Str) : Bk → Nat → Prop
  | .nil, _ => True
  | .cons s b, d => 1 ≤ d ∧ St.ok ns s (d - 1) ∧ Bk.ok ns b d
end
mutual
/-- places -/
def St.sz : St → Nat
  | .set _ _ => 1
  | .pay _ => 1
  | .stop => 1
  | .ite _ y n => 1 + y.sz + n.sz
  | .rep _ y => 1 + y.sz
def Bk.sz : Bk → Nat
  | .nil => 0
  | .cons s b => s.sz + b.sz
end
mutual
def St.wt : St → Nat
  | .set _ _ => 1
  | .pay _ => 1
  | .stop => 1
  | .ite _ y n => 1 + y.wt + n.wt
  | .rep k y => 1 + k.toNat * y.wt
def Bk.wt : Bk → Nat
  | .nil => 0
  | .cons s b => s.wt + b.wt
end
mutual
/-- rests (true), comparings (false) -/
def St.tn (q : Bool) : St → Nat
  | .set _ _ => 0
  | .pay _ => 0
  | .stop => 0
  | .ite t y n => (if t.isR = q then 1 else 0) + y.tn q + n.tn q
  | .rep k y => k.toNat * y.tn q
def Bk.tn (q : Bool) : Bk → Nat
  | .nil => 0
  | .cons s b => s.tn q + b.tn q
end
mutual
theorem St.of {ns : List Str} : ∀ {d : Nat} {n w r c : Int} {e : PyData}, StD ns d n w r c e → ∃ s : St, s.d = e ∧ s.ok ns d ∧ (s.sz : Int) = n ∧ (s.wt : Int) = w ∧ (s.tn true : Int) = r ∧ (s.tn false : Int) = c
  | _, _, _, _, _, _, .set z hz hx => by
    obtain ⟨x, rfl, h⟩ := Ex.of hx
    exact ⟨.set z x, rfl, ⟨hz, h⟩, rfl, rfl, rfl, rfl⟩
  | _, _, _, _, _, _, .pay hx => by
    obtain ⟨x, rfl, h⟩ := Ex.of hx
    exact ⟨.pay x, rfl, h, rfl, rfl, rfl, rfl⟩
  | _, _, _, _, _, _, .stop => ⟨.stop, rfl, trivial, rfl, rfl, rfl, rfl⟩
  | _, _, _, _, _, _, .ite (b := b) ht hy hz => by
    obtain ⟨t, rfl, h, hb⟩ := Ts.of ht
    obtain ⟨y, hyd, y1, y2, y3, y4, y5⟩ := Bk.of hy
    obtain ⟨z, hzd, z1, z2, z3, z4, z5⟩ := Bk.of hz
    refine ⟨.ite t y z, by rw [St.d, hyd, hzd], ⟨h, y1, z1⟩, ?_, ?_, ?_, ?_⟩
    · simp only [St.sz]; omega
    · simp only [St.wt]; omega
    · simp only [St.tn, hb]; cases b <;> simp [bI] <;> omega
    · simp only [St.tn, hb]; cases b <;> simp [bI] <;> omega
  | _, _, _, _, _, _, .rep k h1 h2 hy => by
    obtain ⟨y, hyd, y1, y2, y3, y4, y5⟩ := Bk.of hy
    refine ⟨.rep k y, by rw [St.d, hyd], ⟨h1, h2, y1⟩, ?_, ?_, ?_, ?_⟩
    · simp only [St.sz]; omega
    · simp only [St.wt]; rw [← y3, Int.natCast_add, Int.natCast_mul, Int.toNat_of_nonneg (by omega)]; rfl
    · simp only [St.tn]; rw [← y4, Int.natCast_mul, Int.toNat_of_nonneg (by omega)]
    · simp only [St.tn]; rw [← y5, Int.natCast_mul, Int.toNat_of_nonneg (by omega)]
theorem Bk.of {ns : List Str} : ∀ {d : Nat} {n w r c : Int} {es : List PyData}, BkD ns d n w r c es → ∃ b : Bk, b.ds = es ∧ b.ok ns d ∧ (b.sz : Int) = n ∧ (b.wt : Int) = w ∧ (b.tn true : Int) = r ∧ (b.tn false : Int) = c
  | _, _, _, _, _, _, .nil => ⟨.nil, rfl, trivial, rfl, rfl, rfl, rfl⟩
  | _, _, _, _, _, _, .cons h hs => by
    obtain ⟨s, hsd, s1, s2, s3, s4, s5⟩ := St.of h
    obtain ⟨b, hbd, b1, b2, b3, b4, b5⟩ := Bk.of hs
    refine ⟨.cons s b, by rw [Bk.ds, hsd, hbd], ⟨by omega, s1, b1⟩, ?_, ?_, ?_, ?_⟩
    · simp only [Bk.sz]; omega
    · simp only [Bk.wt]; omega
    · simp only [Bk.tn]; omega
    · simp only [Bk.tn]; omega
end
/-! ### runs -/
structure Wd where
  en : Str → Int
  tot : Int
  pl : List Int
/-- so often, until it stops -/
def itr (f : Wd → Wd × Bool) : Nat → Wd → Wd × Bool
  | 0, w => (w, false)
  | n + 1, w => if (f w).2 = true then f w else itr f n (f w).1
mutual
def St.run : St → Int → Wd → Wd × Bool
  | .set z e, p, w => (⟨fun y => if y = z then e.ev w.en else w.en y, w.tot, w.pl ++ [p]⟩, false)
  | .pay e, p, w => (⟨w.en, w.tot + e.ev w.en, w.pl ++ [p]⟩, false)
  | .stop, p, w => (⟨w.en, w.tot, w.pl ++ [p]⟩, true)
  | .ite t y n, p, w => if t.ev w.en = true then y.run (p + 1) ⟨w.en, w.tot, w.pl ++ [p]⟩ else n.run (p + 1 + y.sz) ⟨w.en, w.tot, w.pl ++ [p]⟩
  | .rep k y, p, w => itr (y.run (p + 1)) k.toNat ⟨w.en, w.tot, w.pl ++ [p]⟩
def Bk.run : Bk → Int → Wd → Wd × Bool
  | .nil, _, w => (w, false)
  | .cons s b, p, w => if (s.run p w).2 = true then s.run p w else b.run (p + s.sz) (s.run p w).1
end

/-- the names' values, in a dict -/
def En (H : Hp) (N : Addr) (ρ : Str → Int) : Prop := ∃ kvs : List (Key × V), H N = some (.dK kvs) ∧ ∀ z, (valV kvs (.inr z)).getD (.int 0) = .int (ρ z)
def spValue (ns : List Str) (d : Nat) : Sp := fun vs H Q _ => ∃ (v : V) (N : Addr) (e : Ex) (ρ : Str → Int), vs = [v, .ref N] ∧ Tp H v e.d ∧ e.ok ns d ∧ En H N ρ ∧ Q (.int (e.ev ρ)) H
theorem tp3 {H : Hp} {v : V} {x y z : PyData} (h : Tp H v (.tuple [x, y, z])) : ∃ a p q r, v = .ref a ∧ H a = some (.tup [p, q, r]) ∧ Tp H p x ∧ Tp H q y ∧ Tp H r z := by
  obtain ⟨a, xs, rfl, ha, hx⟩ := h.tuple
  cases hx with | cons h1 hx => cases hx with | cons h2 hx => cases hx with | cons h3 hx => cases hx with | nil => exact ⟨a, _, _, _, rfl, ha, h1, h2, h3⟩
theorem tp2 {H : Hp} {v : V} {x y : PyData} (h : Tp H v (.tuple [x, y])) : ∃ a p q, v = .ref a ∧ H a = some (.tup [p, q]) ∧ Tp H p x ∧ Tp H q y := by
  obtain ⟨a, xs, rfl, ha, hx⟩ := h.tuple
  cases hx with | cons h1 hx => cases hx with | cons h2 hx => cases hx with | nil => exact ⟨a, _, _, rfl, ha, h1, h2⟩
theorem tp1 {H : Hp} {v : V} {x : PyData} (h : Tp H v (.tuple [x])) : ∃ a p, v = .ref a ∧ H a = some (.tup [p]) ∧ Tp H p x := by
  obtain ⟨a, xs, rfl, ha, hx⟩ := h.tuple
  cases hx with | cons h1 hx => cases hx with | nil => exact ⟨a, _, rfl, ha, h1⟩
theorem tp4 {H : Hp} {v : V} {x y z u : PyData} (h : Tp H v (.tuple [x, y, z, u])) : ∃ a p q r s, v = .ref a ∧ H a = some (.tup [p, q, r, s]) ∧ Tp H p x ∧ Tp H q y ∧ Tp H r z ∧ Tp H s u := by
  obtain ⟨a, xs, rfl, ha, hx⟩ := h.tuple
  cases hx with | cons h1 hx => cases hx with | cons h2 hx => cases hx with | cons h3 hx => cases hx with | cons h4 hx => cases hx with | nil => exact ⟨a, _, _, _, _, rfl, ha, h1, h2, h3, h4⟩
theorem tpI {H : Hp} {v : V} {i : Int} (h : Tp H v (.int i)) : v = .int i := by cases h; rfl
theorem tpS {H : Hp} {v : V} {z : Str} (h : Tp H v (.str z)) : v = .str z := by cases h; rfl
theorem iteP {c A B : Prop} [Decidable c] (hc : c) (h : A) : if c then A else B := by rw [if_pos hc]; exact h
theorem iteN {c A B : Prop} [Decidable c] (hc : ¬ c) (h : B) : if c then A else B := by rw [if_neg hc]; exact h
section
variable {w : World} {P : Program} {K : PySem.W.Frag} {mg : Str → Option Value} {base : Heap}
end
def spTrue (ns : List Str) (n : Nat) : Sp := fun vs H Q _ => ∃ (v : V) (N : Addr) (t : Ts) (ρ : Str → Int), vs = [v, .ref N] ∧ Tp H v t.d ∧ 1 ≤ n ∧ t.ok ns (n - 1) ∧ En H N ρ ∧ Q (.bl (t.ev ρ)) H
section
variable {w : World} {P : Program} {K : PySem.W.Frag} {mg : Str → Option Value} {base : Heap}
end
abbrev sParts : Stmt := topS 21
abbrev nParts : List Str := ["_law_row_here"]
theorem scParts : FnScope nParts ["_law_row_here"] (defScope sParts) := ⟨rfl, rfl, rfl, by decide +kernel, rfl, by decide +kernel, by decide +kernel⟩
/-- the scope of the comprehension that a def returns within a call -/
def cScopeOf (st : Stmt) : Scope := match defBody st with
  | [.Return (some (.Call _ [.ListComp _ _ sc _] _ _)) _] => sc
  | _ => defScope st
def St.parts : St → List PyData
  | .ite _ y n => [.tuple y.ds, .tuple n.ds]
  | .rep _ y => [.tuple y.ds]
  | _ => []
def St.blks : St → List Bk
  | .ite _ y n => [y, n]
  | .rep _ y => [y]
  | _ => []
theorem St.parts_blks (s : St) : s.parts = s.blks.map fun b => .tuple b.ds := by cases s <;> rfl
def spParts : Sp := fun vs H Q _ => ∃ (v : V) (s : St), vs = [v] ∧ Tp H v s.d ∧ ∀ H' v', Sx [] H H' → Tp H' v' (.tuple s.parts) → Q v' H'
def Bk.lst : Bk → List St
  | .nil => []
  | .cons s b => s :: b.lst
theorem Bk.ds_lst : ∀ b : Bk, b.ds = b.lst.map St.d
  | .nil => rfl
  | .cons s b => by rw [Bk.ds, Bk.lst, List.map_cons, Bk.ds_lst b]
theorem Bk.sz_lst : ∀ b : Bk, b.sz = (b.lst.map St.sz).sum
  | .nil => rfl
  | .cons s b => by rw [Bk.sz, Bk.lst, List.map_cons, List.sum_cons, Bk.sz_lst b]
theorem St.sz_blks (s : St) : s.sz = 1 + (s.blks.map Bk.sz).sum := by
  cases s <;> simp [St.sz, St.blks] <;> omega
/-- blocks lie at most so deep -/
theorem Bk.ok_mem {ns : List Str} {d : Nat} : ∀ {b : Bk} {s : St}, b.ok ns d → s ∈ b.lst → 1 ≤ d ∧ s.ok ns (d - 1)
  | .cons s b, t, h, hm => by
    rcases List.mem_cons.1 hm with rfl | hm
    · exact ⟨h.1, h.2.1⟩
    · exact Bk.ok_mem (b := b) h.2.2 hm
theorem St.ok_mem {ns : List Str} {d : Nat} {s : St} {b : Bk} (h : s.ok ns d) (hm : b ∈ s.blks) : b.ok ns d := by
  cases s with
  | ite t y n =>
    simp only [St.blks, List.mem_cons, List.not_mem_nil, or_false] at hm
    rcases hm with rfl | rfl
    · exact h.2.1
    · exact h.2.2
  | rep k y =>
    simp only [St.blks, List.mem_cons, List.not_mem_nil, or_false] at hm
    subst hm
    exact h.2.2
  | _ => simp [St.blks] at hm
theorem pi_tupK {X : Cx} {K : PySem.W.Frag} {l tg : Expr} {tl : TE} (h : X.K = K) (hl : PE X l tl) : PI X tg l (iTup K tl) := h ▸ pi_tup hl
theorem cr_sumK {X : Cx} {K : PySem.W.Frag} (h : X.K = K) (hc : X.calm = true) : CallR X (.builtin "sum") (rSum K) := h ▸ cr_sum hc
theorem sum_mem {l : List Nat} {x : Nat} (h : x ∈ l) : x ≤ l.sum := by
  induction l with
  | nil => cases h
  | cons y l ih =>
    rw [List.sum_cons]
    rcases List.mem_cons.1 h with rfl | h
    · omega
    · have := ih h; omega
theorem cast_sum (l : List Nat) : ((l.sum : Nat) : Int) = (l.map fun x : Nat => (x : Int)).sum := by
  induction l with
  | nil => rfl
  | cons y l ih => rw [List.sum_cons, List.map_cons, List.sum_cons, Int.natCast_add, ih]
section
variable {w : World} {P : Program} {K : PySem.W.Frag} {mg : Str → Option Value} {base : Heap}
theorem ok_parts {f : Addr} {fd : FuncData} {k : Nat} (F_parts : Fun K "_law_parts" "_law_parts" sParts f fd) : FnOk P w K mg base CX0 (k + 1) f fd ["_law_row_here"] spParts := by
  refine F_parts.ok scParts (fun vs H Q E h => ?_) (fun cdv A outer s H vs Q E hr h => ?_)
  · obtain ⟨_, _, rfl, _⟩ := h
    rfl
  · obtain ⟨v, s, rfl, t, q⟩ := h
    refine ⟨_, (pss_one (ps_ret (pe_ifExp (pt_cmpR op_in_seq (pe_ix ix_tup (pv 0) pe_int (fun _ _ => rfl)) (pe_tup (pa_cons pe_str (pa_cons pe_str pa_nil))) (by with_unfolding_all rfl)) (pe_slice sl_tup (pv 0) (po_some pe_int) po_none) (pe_tup pa_nil)))), ?_⟩
    have tup : Sx [] H H := Sx.refl _
    cases s with
    | set z e =>
      obtain ⟨a, p, u, y, rfl, ha, t1, _, _⟩ := tp3 t
      obtain rfl := tpS t1
      refine ⟨_, rfl, a, _, _, _, rfl, rfl, SqT.of ha, rfl, by show 2 ≤ sizeLine; decide, fun p hp => ⟨p, _, rfl, .inr (SqT.of upd_same), rfl, rfl, _, rfl, iteN (by decide +kernel) ⟨by show 0 ≤ sizeLine; decide, fun p' hp' => ?_⟩⟩⟩
      exact q _ _ ((tup.new hp).new hp') (.tup upd_same .nil)
    | pay e =>
      obtain ⟨a, p, u, rfl, ha, t1, _⟩ := tp2 t
      obtain rfl := tpS t1
      refine ⟨_, rfl, a, _, _, _, rfl, rfl, SqT.of ha, rfl, by show 2 ≤ sizeLine; decide, fun p hp => ⟨p, _, rfl, .inr (SqT.of upd_same), rfl, rfl, _, rfl, iteN (by decide +kernel) ⟨by show 0 ≤ sizeLine; decide, fun p' hp' => ?_⟩⟩⟩
      exact q _ _ ((tup.new hp).new hp') (.tup upd_same .nil)
    | stop =>
      obtain ⟨a, p, rfl, ha, t1⟩ := tp1 t
      obtain rfl := tpS t1
      refine ⟨_, rfl, a, _, _, _, rfl, rfl, SqT.of ha, rfl, by show 2 ≤ sizeLine; decide, fun p hp => ⟨p, _, rfl, .inr (SqT.of upd_same), rfl, rfl, _, rfl, iteN (by decide +kernel) ⟨by show 0 ≤ sizeLine; decide, fun p' hp' => ?_⟩⟩⟩
      exact q _ _ ((tup.new hp).new hp') (.tup upd_same .nil)
    | ite ts y n =>
      obtain ⟨a, p, u, y', n', rfl, ha, t1, _, t3, t4⟩ := tp4 t
      obtain rfl := tpS t1
      refine ⟨_, rfl, a, _, _, _, rfl, rfl, SqT.of ha, rfl, by show 2 ≤ sizeLine; decide, fun p hp => ⟨p, _, rfl, .inr (SqT.of upd_same), rfl, rfl, _, rfl, iteP (by decide +kernel) ?_⟩⟩
      have ha' := (tup.new (o := .tup [.str "if", .str "repeat"]) hp) a _ (by simp) ha
      refine ⟨_, rfl, 2, rfl, a, _, rfl, SqT.of ha', fun z => absurd z.1 (by show ¬ (2 : Nat) = 0; decide), fun p' hp' => ?_⟩
      exact q _ _ ((tup.new hp).new hp') (.tup (xs := [y', n']) upd_same (.cons ((t3.new hp).new hp') (.cons ((t4.new hp).new hp') .nil)))
    | rep k y =>
      obtain ⟨a, p, u, y', rfl, ha, t1, _, t3⟩ := tp3 t
      obtain rfl := tpS t1
      refine ⟨_, rfl, a, _, _, _, rfl, rfl, SqT.of ha, rfl, by show 2 ≤ sizeLine; decide, fun p hp => ⟨p, _, rfl, .inr (SqT.of upd_same), rfl, rfl, _, rfl, iteP (by decide +kernel) ?_⟩⟩
      have ha' := (tup.new (o := .tup [.str "if", .str "repeat"]) hp) a _ (by simp) ha
      refine ⟨_, rfl, 2, rfl, a, _, rfl, SqT.of ha', fun z => absurd z.1 (by show ¬ (2 : Nat) = 0; decide), fun p' hp' => ?_⟩
      exact q _ _ ((tup.new hp).new hp') (.tup (xs := [y']) upd_same (.cons ((t3.new hp).new hp') .nil))
/-- so deep lie the blocks of a block -/
def spSize (d : Nat) : Sp := fun vs H Q _ => ∃ (v : V) (b : Bk) (ns : List Str), vs = [v] ∧ Tp H v (.tuple b.ds) ∧ b.ok ns (d - 1) ∧ 1 ≤ d ∧ b.sz < 16777216 ∧ ∀ H', Sx [] H H' → Q (.int b.sz) H'
theorem TpAll.lst {H : Hp} {α : Type} (g : α → PyData) : ∀ {xs : List V} {as : List α}, TpAll H xs (as.map g) → xs.length = as.length ∧ ∀ (i : Nat) (x : V), xs[i]? = some x → ∃ a, as[i]? = some a ∧ Tp H x (g a)
  | [], [], .nil => ⟨rfl, fun _ _ h => by simp at h⟩
  | x :: xs, a :: as, .cons h hs => by
    have r := TpAll.lst g (as := as) hs
    refine ⟨by rw [List.length_cons, List.length_cons, r.1], fun i y hy => ?_⟩
    cases i with
    | zero => exact ⟨a, rfl, by cases hy; exact h⟩
    | succ i => exact r.2 i y hy
end

/-- the world's dict -/
def wk (N : Addr) (t : Int) (L : Addr) : List (Key × V) := [(.inr "names", .ref N), (.inr "total", .int t), (.inr "places", .ref L)]
theorem k_nt : ¬ ((.inr "names" : Key) = .inr "total") := by decide +kernel
theorem k_np : ¬ ((.inr "names" : Key) = .inr "places") := by decide +kernel
theorem k_tp : ¬ ((.inr "total" : Key) = .inr "places") := by decide +kernel
theorem k_pt : ¬ ((.inr "places" : Key) = .inr "total") := by decide +kernel
theorem wk_n (N : Addr) (t : Int) (L : Addr) : valV (wk N t L) (.inr "names") = some (.ref N) := by
  simp [valV, wk]
theorem wk_t (N : Addr) (t : Int) (L : Addr) : valV (wk N t L) (.inr "total") = some (.int t) := by
  unfold valV wk
  rw [List.find?_cons_of_neg (by simpa using k_nt), List.find?_cons_of_pos (by simp)]
  rfl
theorem wk_p (N : Addr) (t : Int) (L : Addr) : valV (wk N t L) (.inr "places") = some (.ref L) := by
  unfold valV wk
  rw [List.find?_cons_of_neg (by simpa using k_np), List.find?_cons_of_neg (by simpa using k_tp), List.find?_cons_of_pos (by simp)]
  rfl
theorem wk_put (N : Addr) (t t' : Int) (L : Addr) : putK (wk N t L) (.inr "total") (.int t') = wk N t' L := by
  have h : ((wk N t L).any fun kv => decide (kv.1 = .inr "total")) = true := by simp [wk]
  rw [putK, if_pos h]
  simp only [wk, List.map_cons, List.map_nil]
  rw [if_neg k_nt, if_pos trivial, if_neg k_pt]
/-- the world at W: the names' dict at N, the places at L; c more names fit in -/
structure Wr (H : Hp) (W N L : Addr) (w : Wd) (c : Nat) : Prop where
  hw : H W = some (.dK (wk N w.tot L))
  hn : ∃ kvs : List (Key × V), H N = some (.dK kvs) ∧ kvs.length + c ≤ w.pl.length + 1 ∧ ∀ z, (valV kvs (.inr z)).getD (.int 0) = .int (w.en z)
  hl : H L = some (.lst (w.pl.map V.int))
  ne : W ≠ N
namespace Wr
variable {H H' : Hp} {W N L p : Addr} {w : Wd} {c : Nat} {o : HO}
theorem wl (R : Wr H W N L w c) : W ≠ L := fun e => by
  have h := R.hw
  rw [e, R.hl] at h
  cases h
theorem nl (R : Wr H W N L w c) : N ≠ L := fun e => by
  obtain ⟨kvs, h, _⟩ := R.hn
  rw [e, R.hl] at h
  cases h
theorem en (R : Wr H W N L w c) : En H N w.en := by
  obtain ⟨kvs, h1, _, h2⟩ := R.hn
  exact ⟨kvs, h1, h2⟩
theorem sx (R : Wr H W N L w c) (s : Sx [] H H') : Wr H' W N L w c := by
  obtain ⟨kvs, h1, h2, h3⟩ := R.hn
  exact ⟨s _ _ (by simp) R.hw, ⟨kvs, s _ _ (by simp) h1, h2, h3⟩, s _ _ (by simp) R.hl, R.ne⟩
theorem less (R : Wr H W N L w (c + 1)) : Wr H W N L w c := by
  obtain ⟨kvs, h1, h2, h3⟩ := R.hn
  exact ⟨R.hw, ⟨kvs, h1, by omega, h3⟩, R.hl, R.ne⟩
theorem nw (R : Wr H W N L w c) (h : H p = none) : p ∉ [W, N, L] := by
  obtain ⟨kvs, h1, _, _⟩ := R.hn
  intro hm
  simp only [List.not_mem_nil, List.mem_cons, or_false] at hm
  rcases hm with rfl | rfl | rfl
  · rw [R.hw] at h; cases h
  · rw [h1] at h; cases h
  · rw [R.hl] at h; cases h
theorem nt {xs : List V} (R : Wr H W N L w c) (h : H p = some (.tup xs)) : p ∉ [W, N, L] := by
  obtain ⟨kvs, h1, _, _⟩ := R.hn
  intro hm
  simp only [List.not_mem_nil, List.mem_cons, or_false] at hm
  rcases hm with rfl | rfl | rfl
  · rw [R.hw] at h; cases h
  · rw [h1] at h; cases h
  · rw [R.hl] at h; cases h
theorem place (R : Wr H W N L w 0) (i : Int) : Wr (upd H L (.lst (w.pl.map V.int ++ [.int i]))) W N L ⟨w.en, w.tot, w.pl ++ [i]⟩ 1 := by
  obtain ⟨kvs, h1, h2, h3⟩ := R.hn
  refine ⟨by rw [upd_ne R.wl]; exact R.hw, ⟨kvs, by rw [upd_ne R.nl]; exact h1, ?_, h3⟩, by rw [upd_same, List.map_append]; rfl, R.ne⟩
  show kvs.length + 1 ≤ (w.pl ++ [i]).length + 1
  rw [List.length_append]
  have : [i].length = 1 := rfl
  omega
theorem pay (R : Wr H W N L w c) (t : Int) : Wr (upd H W (.dK (wk N t L))) W N L ⟨w.en, t, w.pl⟩ c := by
  obtain ⟨kvs, h1, h2, h3⟩ := R.hn
  exact ⟨upd_same, ⟨kvs, by rw [upd_ne R.ne.symm]; exact h1, h2, h3⟩, by rw [upd_ne R.wl.symm]; exact R.hl, R.ne⟩
theorem set {kvs : List (Key × V)} (R : Wr H W N L w 1) (h : H N = some (.dK kvs)) (z : Str) (v : Int) : kvs.length < w.pl.length + 1 ∧ Wr (upd H N (.dK (putK kvs (.inr z) (.int v)))) W N L ⟨fun y => if y = z then v else w.en y, w.tot, w.pl⟩ 0 := by
  obtain ⟨kvs', h1, h2, h3⟩ := R.hn
  rw [h1] at h
  cases h
  refine ⟨by omega, by rw [upd_ne R.ne]; exact R.hw, ⟨_, upd_same, ?_, fun y => ?_⟩, by rw [upd_ne R.nl.symm]; exact R.hl, R.ne⟩
  · have : (putK kvs (.inr z) (.int v)).length ≤ kvs.length + 1 := by
      unfold putK
      split
      · rw [List.length_map]; omega
      · rw [List.length_append]; exact Nat.le_refl _
    show (putK kvs (.inr z) (.int v)).length + 0 ≤ w.pl.length + 1
    omega
  · rw [valV_put]
    by_cases e : y = z
    · rw [if_pos (by rw [e]), e]
      show V.int v = V.int (if z = z then v else w.en z)
      rw [if_pos rfl]
    · rw [if_neg (fun q => e (Sum.inr.inj q)), h3 y]
      show V.int (w.en y) = V.int (if y = z then v else w.en y)
      rw [if_neg e]
theorem gN (R : Wr H W N L w c) : DGet H W (.str "names") (some (.ref N)) := wk_n N w.tot L ▸ DGet.k (k := .inr "names") R.hw
theorem gT (R : Wr H W N L w c) : DGet H W (.str "total") (some (.int w.tot)) := wk_t N w.tot L ▸ DGet.k (k := .inr "total") R.hw
theorem gP (R : Wr H W N L w c) : DGet H W (.str "places") (some (.ref L)) := wk_p N w.tot L ▸ DGet.k (k := .inr "places") R.hw
theorem pT (R : Wr H W N L w c) (t : Int) : DPut H W (.str "total") (.int t) (upd H W (.dK (wk N t L))) := wk_put N w.tot t L ▸ DPut.k (k := .inr "total") R.hw (by show (3 : Nat) < sizeLine; decide)
theorem tk (R : Wr H W N L w c) (s : Sx [W, N, L] H H') : Tk H H' := fun b xs e => s b _ (R.nt e) e
end Wr
theorem itr_len {f : Wd → Wd × Bool} {c : Nat} (hf : ∀ w, (f w).1.pl.length ≤ w.pl.length + c) : ∀ (n : Nat) (w : Wd), (itr f n w).1.pl.length ≤ w.pl.length + n * c
  | 0, w => by show w.pl.length ≤ _; omega
  | n + 1, w => by
    unfold itr
    have h1 := hf w
    have h2 := itr_len hf n (f w).1
    have e : (n + 1) * c = n * c + c := Nat.succ_mul n c
    split
    · omega
    · omega
mutual
theorem St.run_len : ∀ (s : St) (p : Int) (w : Wd), (s.run p w).1.pl.length ≤ w.pl.length + s.wt
  | .set z e, p, w => by simp [St.run, St.wt]
  | .pay e, p, w => by simp [St.run, St.wt]
  | .stop, p, w => by simp [St.run, St.wt]
  | .ite t y n, p, w => by
    have h1 := Bk.run_len y (p + 1) ⟨w.en, w.tot, w.pl ++ [p]⟩
    have h2 := Bk.run_len n (p + 1 + y.sz) ⟨w.en, w.tot, w.pl ++ [p]⟩
    simp only [List.length_append, List.length_cons, List.length_nil] at h1 h2
    simp only [St.run, St.wt]
    split <;> omega
  | .rep k y, p, w => by
    have h1 := itr_len (Bk.run_len y (p + 1)) k.toNat ⟨w.en, w.tot, w.pl ++ [p]⟩
    simp only [List.length_append, List.length_cons, List.length_nil] at h1
    simp only [St.run, St.wt]
    omega
theorem Bk.run_len : ∀ (b : Bk) (p : Int) (w : Wd), (b.run p w).1.pl.length ≤ w.pl.length + b.wt
  | .nil, p, w => by simp [Bk.run, Bk.wt]
  | .cons s b, p, w => by
    have h1 := St.run_len s p w
    have h2 := Bk.run_len b (p + s.sz) (s.run p w).1
    simp only [Bk.run, Bk.wt]
    split <;> omega
end
theorem itr_one (f : Wd → Wd × Bool) (w : Wd) : itr f 1 w = f w := by
  show (if (f w).2 = true then f w else ((f w).1, false)) = f w
  by_cases h : (f w).2 = true
  · rw [if_pos h]
  · rw [if_neg h]
    have : (f w).2 = false := by simpa using h
    rw [← this]
theorem flat_rep (n : Nat) (x : V) : (List.replicate n [x]).flatten = List.replicate n x := by
  induction n with
  | zero => rfl
  | succ n ih => rw [List.replicate_succ, List.flatten_cons, ih, List.replicate_succ]; rfl
/-- a statement's word -/
def St.hd : St → Str
  | .set _ _ => "set"
  | .pay _ => "pay"
  | .stop => "stop"
  | .ite _ _ _ => "if"
  | .rep _ _ => "repeat"
theorem St.at_ {H : Hp} {x : V} {s : St} (t : Tp H x s.d) : ∃ a xs, x = .ref a ∧ H a = some (.tup (.str s.hd :: xs)) := by
  have h : ∃ ds, s.d = .tuple (.str s.hd :: ds) := by cases s <;> exact ⟨_, rfl⟩
  obtain ⟨ds, e⟩ := h
  rw [e] at t
  obtain ⟨a, xs, rfl, ha, hx⟩ := t.tuple
  cases hx with
  | cons h hs =>
    obtain rfl := tpS h
    exact ⟨a, _, rfl, ha⟩
theorem at0 (v : V) (xs : List V) : atI (v :: xs) 0 = some v := atI_nat (j := 0) rfl
theorem Sx.n0 {H : Hp} {p : Addr} {o : HO} (h : H p = none) : Sx [] H (upd H p o) := (Sx.refl _).new h
def spGo (ns : List Str) (d : Nat) : Sp := fun vs H Q _ => ∃ (W N L : Addr) (v : V) (b : Bk) (p : Int) (w : Wd), vs = [.ref W, v, .int p] ∧ Tp H v (.tuple b.ds) ∧ 1 ≤ d ∧ b.ok ns (d - 1) ∧ Wr H W N L w 0 ∧ b.sz < 16777216 ∧ w.pl.length + b.wt ≤ 1000000 ∧
  ∀ H', Sx [W, N, L] H H' → Wr H' W N L (b.run p w).1 0 → Q (.bl (b.run p w).2) H'

def spNumber : Sp := fun vs H Q _ => ∃ (a c : Addr) (cs : List Int) (k : Int), vs = [.ref a] ∧ Dk H a c cs k ∧ k + 4 ≤ KB ∧
  ∀ H' cs' k' i, Sx [a, c] H H' → Dk H' a c cs' k' → k ≤ k' → k' ≤ k + 4 → -1000000000000000000000000000000000000000000000000000000000000 ≤ i → i ≤ 1000000000000000000000000000000000000000000000000000000000000 → Q (.int i) H'
/-- where a run begins -/
def Wd.at (x : Int) : Wd := ⟨fun y => if y = "n" then x else 0, 0, []⟩
/-- what a run tells -/
def Bk.told (b : Bk) (x : Int) : PyData := .tuple [.int (b.run 0 (Wd.at x)).1.tot, .tuple ((b.run 0 (Wd.at x)).1.pl.map .int)]
def spRun (ns : List Str) : Sp := fun vs H Q _ => ∃ (v : V) (b : Bk) (x : Int), vs = [v, .int x] ∧ Tp H v (.tuple b.ds) ∧ b.ok ns 4 ∧ b.sz < 16777216 ∧ b.wt ≤ 1000000 ∧ ∀ H' r, Sx [] H H' → Tp H' r (b.told x) → Q r H'
def sgn (t : Int) : Int := if t < 0 then -1 else if 0 < t then 1 else 0
def spSign : Sp := fun vs H Q _ => ∃ t : Int, vs = [.int t] ∧ Q (.int (sgn t)) H
theorem putK_new {kvs : List (Key × V)} {k : Key} {v : V} (h : ∀ kv ∈ kvs, ¬ kv.1 = k) : putK kvs k v = kvs ++ [(k, v)] := by
  rw [putK, if_neg]
  intro z
  rw [List.any_eq_true] at z
  obtain ⟨kv, hm, hd⟩ := z
  exact h kv hm (of_decide_eq_true hd)
theorem wk_made (N L : Addr) : mergeK [] [((.inr "names" : Key), V.ref N), (.inr "total", .int 0), (.inr "places", .ref L)] = wk N 0 L := by
  show putK (putK (putK [] (.inr "names" : Key) (V.ref N)) (.inr "total" : Key) (.int 0)) (.inr "places" : Key) (.ref L) = _
  rw [putK_new (kvs := []) (fun kv h => by cases h), putK_new (kvs := [] ++ _) (fun kv h => by rw [List.mem_singleton.mp h]; exact k_nt), putK_new (fun kv h => ?_)]
  · rfl
  · simp only [List.nil_append, List.cons_append, List.mem_cons, List.not_mem_nil, or_false] at h
    rcases h with rfl | rfl
    · exact k_np
    · exact k_tp
theorem Dk.none_ne {H : Hp} {a p : Addr} {o : HO} (h : H a = some o) (n : H p = none) : p ≠ a := fun e => by rw [e, h] at n; cases n
theorem TpAll.ints {H : Hp} : ∀ l : List Int, TpAll H (l.map V.int) (l.map PyData.int)
  | [] => .nil
  | i :: l => .cons (.int i) (TpAll.ints l)
section
variable {w : World} {P : Program} {K : PySem.W.Frag} {mg : Str → Option Value} {base : Heap}
end
/-! ### data that repr shows -/
structure Shw (k n : Nat) (d : PyData) : Prop where
  s : d.showable = true
  h : d.hasDict = false
  l : d.leavesShort 1921 = true
  dp : d.depth ≤ k
  w : d.weight ≤ n
structure ShwA (k n : Nat) (ds : List PyData) : Prop where
  s : PyData.showableAll ds = true
  h : PyData.hasDictAll ds = false
  l : PyData.leavesShortAll 1921 ds = true
  dp : PyData.depthAll ds ≤ k
  w : PyData.weightAll ds ≤ n
namespace Shw
theorem mono {k n k' n' : Nat} {d : PyData} (h : Shw k n d) (hk : k ≤ k') (hn : n ≤ n') : Shw k' n' d := ⟨h.s, h.h, h.l, Nat.le_trans h.dp hk, Nat.le_trans h.w hn⟩
theorem int {i : Int} {n : Nat} (h : i.natAbs < 2 ^ n) (h0 : 0 < n) (hn : n ≤ 1920) (k : Nat) : Shw k n (.int i) := by
  have l := PySem.Flt.log2_lt_of h0 h
  have l' : i.natAbs.log2 < 1920 := by omega
  refine ⟨by simp only [PyData.showable, decide_eq_true_eq]; exact l', by simp only [PyData.hasDict], ?_, by simp only [PyData.depth]; omega, ?_⟩
  · simp only [PyData.leavesShort, decide_eq_true_eq, PyData.shown]
    exact decide_eq_true (int_text_len_1921 l')
  · simp only [PyData.weight]
    split <;> omega
theorem str {z : Str} (h : PyData.strOk z = true) (k n : Nat) (hn : z.length ≤ n) : Shw k n (.str z) := by
  refine ⟨by simp only [PyData.showable], by simp only [PyData.hasDict], ?_, by simp only [PyData.depth]; omega, by simp only [PyData.weight]; exact hn⟩
  simp only [PyData.leavesShort]
  rw [List.all_eq_true]
  intro c hc
  unfold PyData.strOk at h
  rw [Array.all_eq_true'] at h
  have := of_decide_eq_true (h c (Array.mem_toList_iff.mp hc))
  have e : (16 : Nat) ^ 8 = 4294967296 := rfl
  refine decide_eq_true ?_; omega
theorem tup {k n : Nat} {ds : List PyData} (h : ShwA k n ds) : Shw (k + 1) n (.tuple ds) :=
  ⟨by simp only [PyData.showable]; exact h.s, by simp only [PyData.hasDict]; exact h.h, by simp only [PyData.leavesShort]; exact h.l, by simp only [PyData.depth]; have := h.dp; omega, by simp only [PyData.weight]; exact h.w⟩
theorem lst {k n : Nat} {ds : List PyData} (h : ShwA k n ds) : Shw (k + 1) n (.list ds) :=
  ⟨by simp only [PyData.showable]; exact h.s, by simp only [PyData.hasDict]; exact h.h, by simp only [PyData.leavesShort]; exact h.l, by simp only [PyData.depth]; have := h.dp; omega, by simp only [PyData.weight]; exact h.w⟩
/-- what repr asks -/
theorem len {k n : Nat} {d : PyData} (h : Shw k n d) (hn : n ≤ 8000) : d.shown.length ≤ 16777216 := by
  have := PyData.shown_le 1921 (by decide) d h.l
  have := h.w
  omega
end Shw
namespace ShwA
theorem nil (k n : Nat) : ShwA k n [] := ⟨by simp only [PyData.showableAll], by simp only [PyData.hasDictAll], by simp only [PyData.leavesShortAll], by simp only [PyData.depthAll]; omega, by simp only [PyData.weightAll]; omega⟩
theorem cons {k n m : Nat} {d : PyData} {ds : List PyData} (h : Shw k n d) (hs : ShwA k m ds) : ShwA k (n + 1 + m) (d :: ds) := by
  refine ⟨?_, ?_, ?_, ?_, ?_⟩
  · simp only [PyData.showableAll, h.s, hs.s, Bool.and_self]
  · simp only [PyData.hasDictAll, h.h, hs.h, Bool.or_self]
  · simp only [PyData.leavesShortAll, h.l, hs.l, Bool.and_self]
  · simp only [PyData.depthAll]; have := h.dp; have := hs.dp; omega
  · simp only [PyData.weightAll]; have := h.w; have := hs.w; omega
theorem mono {k n k' n' : Nat} {d : List PyData} (h : ShwA k n d) (hk : k ≤ k') (hn : n ≤ n') : ShwA k' n' d := ⟨h.s, h.h, h.l, Nat.le_trans h.dp hk, Nat.le_trans h.w hn⟩
theorem allInt {l : List Int} {n : Nat} (h0 : 0 < n) (hn : n ≤ 1920) (h : ∀ i ∈ l, i.natAbs < 2 ^ n) (k : Nat) : ShwA k ((n + 1) * l.length) (l.map PyData.int) := by
  induction l with
  | nil => exact .nil _ _
  | cons i l ih =>
    refine (ShwA.cons (Shw.int (h i (by simp)) h0 hn k) (ih fun j hj => h j (List.mem_cons_of_mem _ hj))).mono (Nat.le_refl _) ?_
    rw [List.length_cons, Nat.mul_succ]
    omega
end ShwA
theorem sm {i : Int} (h1 : -120 ≤ i) (h2 : i ≤ 120) (k : Nat) : Shw k 7 (.int i) := by
  have e : (2 : Nat) ^ 7 = 128 := by decide
  exact Shw.int (by omega) (by decide) (by decide) k
def wE : Nat → Nat
  | 0 => 0
  | n + 1 => 2 * wE n + 16
theorem Ex.shw {ns : List Str} (hn : ∀ z ∈ ns, NmOk z) : ∀ (e : Ex) (n : Nat), e.ok ns n → Shw n (wE n) e.d
  | .int i, n, ⟨h1, h2, h3⟩ => by
    obtain ⟨m, rfl⟩ : ∃ m : Nat, n = m + 1 := ⟨n - 1, by omega⟩
    exact (sm (by omega) (by omega) _).mono (Nat.le_refl _) (by simp only [wE]; omega)
  | .name z, n, ⟨h1, h2⟩ => by
    obtain ⟨m, rfl⟩ : ∃ m : Nat, n = m + 1 := ⟨n - 1, by omega⟩
    exact Shw.str (hn z h2).ok _ _ (by have := (hn z h2).hi; simp only [wE]; omega)
  | .plus x y, n, ⟨h1, h2, h3⟩ => by
    obtain ⟨m, rfl⟩ : ∃ m : Nat, n = m + 1 := ⟨n - 1, by omega⟩
    exact (Shw.tup (.cons (Shw.str (n := 4) (by decide +kernel) m (by decide)) (.cons (Ex.shw hn x m h2) (.cons (Ex.shw hn y m h3) (.nil m 0))))).mono (Nat.le_refl _) (by simp only [wE]; omega)
  | .minus x y, n, ⟨h1, h2, h3⟩ => by
    obtain ⟨m, rfl⟩ : ∃ m : Nat, n = m + 1 := ⟨n - 1, by omega⟩
    exact (Shw.tup (.cons (Shw.str (n := 5) (by decide +kernel) m (by decide)) (.cons (Ex.shw hn x m h2) (.cons (Ex.shw hn y m h3) (.nil m 0))))).mono (Nat.le_refl _) (by simp only [wE]; omega)
  | .times f x, n, ⟨h1, h2, h3, h4⟩ => by
    obtain ⟨m, rfl⟩ : ∃ m : Nat, n = m + 1 := ⟨n - 1, by omega⟩
    exact (Shw.tup (.cons (Shw.str (n := 5) (by decide +kernel) m (by decide)) (.cons (sm (by omega) (by omega) m) (.cons (Ex.shw hn x m h4) (.nil m 0))))).mono (Nat.le_refl _) (by simp only [wE]; omega)
theorem Ts.shw {ns : List Str} (hn : ∀ z ∈ ns, NmOk z) : ∀ (t : Ts) (n : Nat), t.ok ns n → Shw (n + 4) (5 * n + 240) t.d
  | .rest x b r, n, ⟨h1, h2, h3, h4, h5⟩ => (Shw.tup (.cons (Shw.str (n := 4) (by decide +kernel) 3 (by decide)) (.cons (Ex.shw hn x 3 h1) (.cons (sm (by omega) (by omega) 3) (.cons (sm (by omega) (by omega) 3) (.nil 3 0)))))).mono (by omega) (by simp only [wE]; omega)
  | .less x y, n, ⟨h1, h2⟩ => (Shw.tup (.cons (Shw.str (n := 4) (by decide +kernel) 3 (by decide)) (.cons (Ex.shw hn x 3 h1) (.cons (Ex.shw hn y 3 h2) (.nil 3 0))))).mono (by omega) (by simp only [wE]; omega)
  | .not t, n, ⟨h1, h2⟩ => by
    obtain ⟨m, rfl⟩ : ∃ m : Nat, n = m + 1 := ⟨n - 1, by omega⟩
    exact (Shw.tup (.cons (Shw.str (n := 3) (by decide +kernel) _ (by decide)) (.cons (Ts.shw hn t m h2) (.nil _ 0)))).mono (by omega) (by omega)
mutual
theorem St.shw {ns : List Str} (hn : ∀ z ∈ ns, NmOk z) : ∀ (s : St) (d : Nat), s.ok ns d → Shw (2 * d + 9) (300 * s.sz - 1) s.d
  | .set z e, d, ⟨h1, h2⟩ => (Shw.tup (.cons (Shw.str (n := 3) (by decide +kernel) 3 (by decide)) (.cons (Shw.str (n := 8) (hn z h1).ok 3 (hn z h1).hi) (.cons (Ex.shw hn e 3 h2) (.nil 3 0))))).mono (by omega) (by simp only [wE, St.sz]; omega)
  | .pay e, d, h => (Shw.tup (.cons (Shw.str (n := 3) (by decide +kernel) 3 (by decide)) (.cons (Ex.shw hn e 3 h) (.nil 3 0)))).mono (by omega) (by simp only [wE, St.sz]; omega)
  | .stop, d, h => (Shw.tup (.cons (Shw.str (n := 4) (by decide +kernel) 3 (by decide)) (.nil 3 0))).mono (by omega) (by simp only [St.sz]; omega)
  | .ite t y n, d, ⟨h1, h2, h3⟩ => (Shw.tup (.cons (Shw.str (n := 2) (by decide +kernel) (2 * d + 8) (by decide)) (.cons ((Ts.shw hn t 2 h1).mono (by omega) (Nat.le_refl _)) (.cons ((Shw.tup (Bk.shw hn y d h2)).mono (by omega) (Nat.le_refl _)) (.cons ((Shw.tup (Bk.shw hn n d h3)).mono (by omega) (Nat.le_refl _)) (.nil _ 0)))))).mono (by omega) (by simp only [St.sz]; omega)
  | .rep k y, d, ⟨h1, h2, h3⟩ => (Shw.tup (.cons (Shw.str (n := 6) (by decide +kernel) (2 * d + 8) (by decide)) (.cons (sm (by omega) (by omega) _) (.cons ((Shw.tup (Bk.shw hn y d h3)).mono (by omega) (Nat.le_refl _)) (.nil _ 0))))).mono (by omega) (by simp only [St.sz]; omega)
theorem Bk.shw {ns : List Str} (hn : ∀ z ∈ ns, NmOk z) : ∀ (b : Bk) (d : Nat), b.ok ns d → ShwA (2 * d + 7) (300 * b.sz) b.ds
  | .nil, d, _ => .nil _ _
  | .cons s b, d, ⟨h1, h2, h3⟩ => by
    have p : 1 ≤ s.sz := by rw [s.sz_blks]; omega
    exact (ShwA.cons ((St.shw hn s (d - 1) h2).mono (by omega) (Nat.le_refl _)) (Bk.shw hn b d h3)).mono (Nat.le_refl _) (by simp only [Bk.sz]; omega)
end
/-! ### how far a run gets -/
structure Bd (B : Int) (w : Wd) : Prop where
  h : 99 ≤ B
  en : ∀ z, -B ≤ w.en z ∧ w.en z ≤ B
  t1 : -B ≤ w.tot
  t2 : w.tot ≤ B
theorem Bd.mono {B C : Int} {w : Wd} (h : Bd B w) (l : B ≤ C) : Bd C w := ⟨Int.le_trans h.h l, fun z => by have := h.en z; omega, by have := h.t1; omega, by have := h.t2; omega⟩
theorem Bd.pl {B : Int} {e : Str → Int} {t : Int} {l l' : List Int} (h : Bd B ⟨e, t, l⟩) : Bd B ⟨e, t, l'⟩ := ⟨h.h, h.en, h.t1, h.t2⟩
theorem p128 (n : Nat) : (1 : Int) ≤ 128 ^ n := Int.pow_pos (by decide)
theorem p128_le {B : Int} (h : 0 ≤ B) {m n : Nat} (l : m ≤ n) : (128 : Int) ^ m * B ≤ 128 ^ n * B := by
  refine Int.mul_le_mul_of_nonneg_right ?_ h
  obtain ⟨k, rfl⟩ : ∃ k, n = m + k := ⟨n - m, by omega⟩
  rw [Int.pow_add]
  have a := p128 m
  have b := p128 k
  have := Int.mul_le_mul_of_nonneg_left b (show (0 : Int) ≤ 128 ^ m by omega)
  omega
theorem Bd.up {B : Int} {w : Wd} {m n : Nat} (h : Bd (128 ^ m * B) w) (hB : 0 ≤ B) (l : m ≤ n) : Bd (128 ^ n * B) w := h.mono (p128_le hB l)
theorem ev81 {ns : List Str} {ρ : Str → Int} {B : Int} (hB : 99 ≤ B) (h : ∀ z, -B ≤ ρ z ∧ ρ z ≤ B) {e : Ex} (ho : e.ok ns 3) : -(81 * B) ≤ e.ev ρ ∧ e.ev ρ ≤ 81 * B := by
  have := Ex.ev_le hB h e 3 ho
  have e9 : (9 : Int) ^ 3 = 729 := by decide
  rw [e9] at this
  omega
theorem itr_bd {f : Wd → Wd × Bool} {c : Nat} (hf : ∀ w B, Bd B w → Bd (128 ^ c * B) (f w).1) : ∀ (n : Nat) (w : Wd) (B : Int), Bd B w → Bd (128 ^ (n * c) * B) (itr f n w).1
  | 0, w, B, h => by
    rw [Nat.zero_mul, Int.pow_zero, Int.one_mul]
    exact h
  | n + 1, w, B, h => by
    have h1 := hf w B h
    have h2 := itr_bd hf n (f w).1 _ h1
    have hB : 0 ≤ B := by have := h.h; omega
    rw [← Int.mul_assoc, ← Int.pow_add, ← Nat.succ_mul] at h2
    unfold itr
    split
    · exact h1.up hB (by rw [Nat.succ_mul]; omega)
    · exact h2
mutual
theorem St.run_bd {ns : List Str} : ∀ (s : St) (d : Nat) (p : Int) (w : Wd) (B : Int), s.ok ns d → Bd B w → Bd (128 ^ s.wt * B) (s.run p w).1
  | .set z e, d, p, w, B, ⟨h1, h2⟩, h => by
    have v := ev81 h.h h.en h2
    have hB := h.h
    rw [show St.wt (.set z e) = 1 from rfl, Int.pow_one]
    refine ⟨by omega, fun y => ?_, by have := h.t1; show -(128 * B) ≤ w.tot; omega, by have := h.t2; show w.tot ≤ 128 * B; omega⟩
    show -(128 * B) ≤ (if y = z then e.ev w.en else w.en y) ∧ (if y = z then e.ev w.en else w.en y) ≤ 128 * B
    have := h.en y
    split <;> omega
  | .pay e, d, p, w, B, h2, h => by
    have v := ev81 h.h h.en h2
    have hB := h.h
    rw [show St.wt (.pay e) = 1 from rfl, Int.pow_one]
    refine ⟨by omega, fun y => by have := h.en y; show -(128 * B) ≤ w.en y ∧ w.en y ≤ 128 * B; omega, ?_, ?_⟩
    · have := h.t1; show -(128 * B) ≤ w.tot + e.ev w.en; omega
    · have := h.t2; show w.tot + e.ev w.en ≤ 128 * B; omega
  | .stop, d, p, w, B, _, h => by
    have hB := h.h
    rw [show St.wt .stop = 1 from rfl, Int.pow_one]
    exact (Bd.pl h : Bd B ⟨w.en, w.tot, w.pl ++ [p]⟩).mono (by omega)
  | .ite t y n, d, p, w, B, ⟨h1, h2, h3⟩, h => by
    have hB := h.h
    have h' : Bd B ⟨w.en, w.tot, w.pl ++ [p]⟩ := Bd.pl h
    simp only [St.run, St.wt]
    split
    · exact (Bk.run_bd y d _ _ B h2 h').up (by omega) (by omega)
    · exact (Bk.run_bd n d _ _ B h3 h').up (by omega) (by omega)
  | .rep k y, d, p, w, B, ⟨h1, h2, h3⟩, h => by
    have hB := h.h
    have h' : Bd B ⟨w.en, w.tot, w.pl ++ [p]⟩ := Bd.pl h
    simp only [St.run, St.wt]
    exact (itr_bd (fun w B h => Bk.run_bd y d (p + 1) w B h3 h) k.toNat _ B h').up (by omega) (by omega)
theorem Bk.run_bd {ns : List Str} : ∀ (b : Bk) (d : Nat) (p : Int) (w : Wd) (B : Int), b.ok ns d → Bd B w → Bd (128 ^ b.wt * B) (b.run p w).1
  | .nil, d, p, w, B, _, h => by
    rw [show Bk.wt .nil = 0 from rfl, Int.pow_zero, Int.one_mul]
    exact h
  | .cons s b, d, p, w, B, ⟨h1, h2, h3⟩, h => by
    have hB : 0 ≤ B := by have := h.h; omega
    have a := St.run_bd s (d - 1) p w B h2 h
    have c := Bk.run_bd b d (p + s.sz) (s.run p w).1 _ h3 a
    rw [← Int.mul_assoc, ← Int.pow_add, Nat.add_comm] at c
    simp only [Bk.run, Bk.wt]
    split
    · exact a.up hB (by omega)
    · exact c
end
/-- places are places -/
def Pl (lo hi : Int) (l l' : List Int) : Prop := ∀ x ∈ l', x ∈ l ∨ (lo ≤ x ∧ x < hi)
theorem Pl.trans {lo hi : Int} {l l1 l2 : List Int} (a : Pl lo hi l l1) (b : Pl lo hi l1 l2) : Pl lo hi l l2 := fun x hx => (b x hx).elim (a x) .inr
theorem Pl.mono {lo hi lo' hi' : Int} {l l1 : List Int} (a : Pl lo hi l l1) (h1 : lo' ≤ lo) (h2 : hi ≤ hi') : Pl lo' hi' l l1 := fun x hx => (a x hx).imp id (fun z => by omega)
theorem Pl.refl (lo hi : Int) (l : List Int) : Pl lo hi l l := fun _ hx => .inl hx
theorem Pl.one {lo hi p : Int} (l : List Int) (h1 : lo ≤ p) (h2 : p < hi) : Pl lo hi l (l ++ [p]) := fun x hx => by
  rcases List.mem_append.1 hx with z | z
  · exact .inl z
  · rw [List.mem_singleton.mp z]; exact .inr ⟨h1, h2⟩
theorem itr_pl {f : Wd → Wd × Bool} {lo hi : Int} (hf : ∀ w, Pl lo hi w.pl (f w).1.pl) : ∀ (n : Nat) (w : Wd), Pl lo hi w.pl (itr f n w).1.pl
  | 0, w => .refl _ _ _
  | n + 1, w => by
    unfold itr
    split
    · exact hf w
    · exact (hf w).trans (itr_pl hf n _)
mutual
theorem St.run_pl : ∀ (s : St) (p : Int) (w : Wd), Pl p (p + s.sz) w.pl (s.run p w).1.pl
  | .set z e, p, w => .one _ (Int.le_refl _) (by simp [St.sz]; omega)
  | .pay e, p, w => .one _ (Int.le_refl _) (by simp [St.sz]; omega)
  | .stop, p, w => .one _ (Int.le_refl _) (by simp [St.sz]; omega)
  | .ite t y n, p, w => by
    simp only [St.run, St.sz]
    have z : Pl p (p + ((1 + y.sz + n.sz : Nat) : Int)) w.pl (w.pl ++ [p]) := .one _ (Int.le_refl _) (by omega)
    split
    · exact z.trans ((Bk.run_pl y (p + 1) ⟨w.en, w.tot, w.pl ++ [p]⟩).mono (by omega) (by omega))
    · exact z.trans ((Bk.run_pl n (p + 1 + y.sz) ⟨w.en, w.tot, w.pl ++ [p]⟩).mono (by omega) (by omega))
  | .rep k y, p, w => by
    simp only [St.run, St.sz]
    have z : Pl p (p + ((1 + y.sz : Nat) : Int)) w.pl (w.pl ++ [p]) := .one _ (Int.le_refl _) (by omega)
    exact z.trans ((itr_pl (Bk.run_pl y (p + 1)) k.toNat ⟨w.en, w.tot, w.pl ++ [p]⟩).mono (by omega) (by omega))
theorem Bk.run_pl : ∀ (b : Bk) (p : Int) (w : Wd), Pl p (p + b.sz) w.pl (b.run p w).1.pl
  | .nil, p, w => .refl _ _ _
  | .cons s b, p, w => by
    simp only [Bk.run, Bk.sz]
    have a := St.run_pl s p w
    have c := Bk.run_pl b (p + s.sz) (s.run p w).1
    split
    · exact a.mono (Int.le_refl _) (by omega)
    · exact (a.mono (Int.le_refl _) (by omega)).trans (c.mono (by omega) (by omega))
end
set_option exponentiation.threshold 2000 in
/-- what a run tells can be shown -/
theorem Bk.told_shw {ns : List Str} {b : Bk} {d : Nat} {x : Int} (ho : b.ok ns d) (hw : b.wt ≤ 30) (hs : b.sz ≤ 24) (h1 : -1000000000000000000000000000000000000000000000000000000000000 ≤ x) (h2 : x ≤ 1000000000000000000000000000000000000000000000000000000000000) : Shw 2 800 (b.told x) := by
  have h0 : Bd 1000000000000000000000000000000000000000000000000000000000000 (Wd.at x) := ⟨by decide, fun z => by
    show _ ≤ (if z = "n" then x else 0) ∧ (if z = "n" then x else 0) ≤ _
    split <;> omega, by show _ ≤ (0 : Int); decide, by show (0 : Int) ≤ _; decide⟩
  have h := (Bk.run_bd b d 0 _ _ ho h0).up (by decide) hw
  have e : (128 : Int) ^ 30 * 1000000000000000000000000000000000000000000000000000000000000 = 1645504557321206042154969182557350504982735865633579863348609024000000000000000000000000000000000000000000000000000000000000 := by decide
  rw [e] at h
  have p1 := Bk.run_pl b 0 (Wd.at x)
  have p2 := Bk.run_len b 0 (Wd.at x)
  have p3 : (b.run 0 (Wd.at x)).1.pl.length ≤ 30 := by
    have : (Wd.at x).pl.length = 0 := rfl
    omega
  have t1 := h.t1
  have t2 := h.t2
  have e2 : (2 : Nat) ^ 450 > 1645504557321206042154969182557350504982735865633579863348609024000000000000000000000000000000000000000000000000000000000000 := by decide
  have z : ShwA 0 ((7 + 1) * (b.run 0 (Wd.at x)).1.pl.length) ((b.run 0 (Wd.at x)).1.pl.map PyData.int) := .allInt (by decide) (by decide) (fun i hi => by
    have e7 : (2 : Nat) ^ 7 = 128 := by decide
    rcases p1 i hi with z | z
    · cases z
    · omega) 0
  exact (Shw.tup (.cons (Shw.int (n := 450) (by omega) (by decide) (by decide) 1) (.cons (Shw.tup z) (.nil 1 0)))).mono (Nat.le_refl _) (by omega)
/-! ### t[::-1] of a tuple -/
theorem places_back (n : Nat) : Builtin.Slice.slicePlaces ((n : Int) - 1) (-1) (-1) = n := by
  unfold Builtin.Slice.slicePlaces;
  rw [if_neg (by omega)]
  by_cases h : n = 0
  · subst h; rfl
  · rw [if_pos (by omega), show ((n : Int) - 1 - -1 - 1) = (n : Int) - 1 by omega, show (- -1 : Int) = 1 from rfl, Int.ediv_one]
    omega
theorem pick_back (xs : Array Value) : ((List.range xs.size).filterMap fun (m : Nat) => xs[((xs.size : Int) - 1 + (m : Int) * -1).toNat]?).toArray = xs.toList.reverse.toArray := by
  congr 1
  apply List.ext_getElem?
  intro i
  have hlen : ∀ l : List Nat, (∀ m ∈ l, m < xs.size) → (l.filterMap fun (m : Nat) => xs[((xs.size : Int) - 1 + (m : Int) * -1).toNat]?) = l.map fun m => xs.toList.reverse.getD m .none := by
    intro l
    induction l with
    | nil => intro _; rfl
    | cons m l ih =>
      intro h
      have hm := h m (by simp)
      have e : ((xs.size : Int) - 1 + (m : Int) * -1).toNat = xs.size - 1 - m := by omega
      have e2 : xs[xs.size - 1 - m]? = some (xs.toList.reverse.getD m .none) := by
        rw [List.getD_eq_getElem?_getD, List.getElem?_reverse (by simpa using hm), Array.length_toList]
        rw [Array.getElem?_toList]
        rw [Array.getElem?_eq_getElem (by omega)]
        rfl
      rw [List.filterMap_cons, e, e2, List.map_cons, ih fun k hk => h k (List.mem_cons_of_mem _ hk)]
  rw [hlen _ fun m hm => List.mem_range.mp hm, List.getElem?_map]
  by_cases hi : i < xs.size
  · rw [List.getElem?_range hi, Option.map_some, List.getD_eq_getElem?_getD, List.getElem?_eq_getElem (by simpa using hi)]
    rfl
  · rw [List.getElem?_eq_none (by simp; omega), List.getElem?_eq_none (by simp; omega)]
    rfl
theorem getItem_tuple_back {P : Program} {w : World} {A : Around} {E : Value → Shared → Prop} {s : Shared} {t sl : Addr} {items : Array Value} {vl vu vs : Value} {Q : Value → Shared → Prop} (ht : IsTup s.heap t items) (hs : s.heap.IsSliceOf sl vl vu vs) (pl : IsPart vl none) (pu : IsPart vu none) (ps : IsPart vs (some (-1)))
    (h : Q (.ref s.heap.objs.size) { s with heap := s.heap.push { cls := .type "tuple", data := .seq items.toList.reverse.toArray } }) (hz : items.size ≤ sizeLine) : wpAny (model P w) A (getItem (.ref t) (.ref sl)) Q E s := by
  have hfit : sizeOk (.seq items.toList.reverse.toArray) := by
    show items.toList.reverse.toArray.size ≤ sizeLine
    simpa using hz
  rcases id hs with ⟨os, hos, hcs, hds⟩
  have isSl : s.TypeIs (.ref sl) "slice" := ⟨os, hos, hcs⟩
  unfold getItem; try with_reducible refine wpAny_holding ?_
  try (refine wpAny_bind (wpAny_pure ?_))
  refine wpAny_bind (wpAny_sequenceKey ht.typeIs (by decide) (wpAny_bind (wpAny_callSpecial?_slot (name := Str.ofString "__getitem__") ht.typeIs PyProof.Rows.slot_tuple_getitem (wpAny_call_entry PyProof.Rows.slot_tuple_getitem ht.typeIs entry_tuple_getitem ?_ (args_tuple_getitem _ _)))))
  show wpAny _ _ (Builtin.Tuple.tupleItemsOf (.ref t) >>= fun xs => _) _ _ s
  refine wpAny_bind (tupleItemsOf_ ht (wpAny_bind (wpAny_typeOf isSl ?_))); rw [if_pos (by decide)]
  refine wpAny_bind ?_; unfold Builtin.Slice.sliceApplied Builtin.Slice.sliceFields
  refine wpAny_bind (wpAny_bind (wpAny_field hos hds (x := vl) rfl (wpAny_bind (wpAny_field hos hds (x := vu) rfl (wpAny_bind (wpAny_field hos hds (x := vs) rfl (wpAny_pure ?_))))))); refine wpAny_bind (HT.slicePart_ ps ?_)
  show wpAny _ _ (if ((-1 : Int) == 0) = true then _ else _) _ _ s; rw [if_neg (by decide)]
  refine wpAny_bind (HT.slicePart_ pl (wpAny_bind (HT.slicePart_ pu (wpAny_bind (wpAny_pure (wpAny_pure ?_))))))
  show wpAny _ _ (if (((items.size : Int) - 1) == 0 && (-1 : Int) == 1 && (Builtin.Slice.slicePlaces ((items.size : Int) - 1) (-1) (-1)) == items.size) = true then _ else _) _ _ s
  rw [if_neg (by rw [show ((-1 : Int) == 1) = false from rfl, Bool.and_false, Bool.false_and]; exact Bool.false_ne_true)]
  show wpAny _ _ (Builtin.Tuple.tupleExact ((List.range (Builtin.Slice.slicePlaces ((items.size : Int) - 1) (-1) (-1))).filterMap fun (k : Nat) => items[((items.size : Int) - 1 + (k : Int) * -1).toNat]?).toArray >>= _) _ _ s
  rw [places_back, pick_back]
  exact wpAny_bind (m := Builtin.Tuple.tupleExact _) (wpAny_newObj_type (wpAny_pure ⟨_, rfl, wpAny_pure h⟩) hfit)
section
variable {X : Cx}
/-- t[::-1]: a new tuple -/
def tRevT (K : PySem.W.Frag) (te : TE) : TE := fun σ H Q => te σ H fun x H1 => ∃ a xs, x = .ref a ∧ SqT K H1 a xs ∧ ∀ p, H1 p = none → Q (.ref p) (upd H1 p (.tup xs.reverse))
theorem pe_revT {e : Expr} {te : TE} {k : Nat} {p1 p2 p3 pos : Pos} (he : PE X e te) : PE X (.Subscript e (.Slice none none (some (.UnaryOp .USub (.Constant (.int 1) k p1) p2)) p3) pos) (tRevT X.K te) := by
  refine ⟨fun pins s σ H Q I h => Subscript_ (thn (he.run pins s σ H _ I h) fun v s1 ⟨x, H1, I1, r1, a, xs, ex, hx, q⟩ => ?_)⟩
  subst ex; cases r1
  have hst : PO X (some (.UnaryOp .USub (.Constant (.int 1) k p1) p2)) (tPart (tUn (rU fun i => .int (-i)) (tC (.int 1)))) := po_some (pe_un un_neg pe_int); refine wpAny_Slice (thn (po_none.run pins s1 σ H1 (fun o H2 => o = none ∧ H2 = H1) I1 ⟨rfl, rfl⟩) fun vl s2 ⟨l, H2, I2, pl, el, e2⟩ => ?_)
  subst el e2; refine thn (po_none.run pins s2 σ H2 (fun o H3 => o = none ∧ H3 = H2) I2 ⟨rfl, rfl⟩) fun vu s3 ⟨u, H3, I3, pu, eu, e3⟩ => ?_
  subst eu e3; refine thn (hst.run pins s3 σ H3 (fun o H4 => o = some (-1) ∧ H4 = H3) I3 ⟨1, rfl, -1, rfl, rfl, rfl⟩) fun vs s4 ⟨o, H4, I4, ps, eo, e4⟩ => ?_
  subst eo e4
  have I5 : Inv X pins σ H4 { s4 with heap := s4.heap.push { cls := .type "slice", data := .fields #[vl, vu, vs] } } := I4.kept (t' := s4.toks) fun b ob z => Heap.get?_push_of_some _ z
  obtain ⟨its, r, ht, hz⟩ := I5.tuple hx
  have hlen := r.length
  show wpAny (model X.prog X.w) X.A (subscriptTail e (.Slice none none (some (.UnaryOp .USub (.Constant (.int 1) k p1) p2)) p3) (.ref a) (.ref s4.heap.objs.size)) (EP X pins σ Q) X.xe { s4 with heap := s4.heap.push ⟨.type "slice", none, .fields #[vl, vu, vs], #[]⟩ }
  refine tail_any (ops := [.ref a, .ref s4.heap.objs.size]) ht.typeIs PyProof.Rows.slot_tuple_getitem.lookup ?_ (by with_unfolding_all rfl)
  refine getItem_tuple_back ht (Heap.IsSliceOf.new _ vl vu vs) pl pu ps ?_ (by rw [List.size_toArray]; omega)
  refine ⟨.ref _, _, I5.laid (t' := s4.toks) (o := .tup xs.reverse) (fun b ob z => Heap.get?_push_of_some _ z) (Nat.le_refl _) ?_, rfl, q _ (I5.hok.fresh (Nat.le_refl _))⟩
  exact ⟨by rw [List.length_reverse]; exact hz, _, by simpa using r.reverse, IsTup.new _ _⟩
end
abbrev sPIsInteger : Stmt := topS 3
abbrev nPIsInteger : List Str := ["value"]
theorem scPIsInteger : FnScope nPIsInteger ["value"] (defScope sPIsInteger) := ⟨rfl, rfl, rfl, by decide +kernel, rfl, by decide +kernel, by decide +kernel⟩
abbrev sPBlocksOf : Stmt := topS 4
abbrev nPBlocksOf : List Str := ["statement"]
theorem scPBlocksOf : FnScope nPBlocksOf ["statement"] (defScope sPBlocksOf) := ⟨rfl, rfl, rfl, by decide +kernel, rfl, by decide +kernel, by decide +kernel⟩
abbrev sPEachStatement : Stmt := topS 6
abbrev nPEachStatement : List Str := ["program", "waiting", "place", "depth", "statement", "block", "inner"]
theorem scPEachStatement : GScope nPEachStatement ["program"] (defScope sPEachStatement) := ⟨rfl, rfl, rfl, by decide +kernel, rfl, by decide +kernel, by decide +kernel⟩
/-! ### the program's walk over statements -/
/-- a row that is handed out: place, depth, statement -/
abbrev Rw := Int × Int × St
def rwD (r : Rw) : PyData := .tuple [.int r.1, .int r.2.1, r.2.2.d]
def prD (x : Int × St) : PyData := .tuple [.int x.1, x.2.d]
mutual
def St.rws : St → Int → Int → List Rw
  | .set z e, d, p => [(p, d, .set z e)]
  | .pay e, d, p => [(p, d, .pay e)]
  | .stop, d, p => [(p, d, .stop)]
  | .ite t y n, d, p => (p, d, .ite t y n) :: (y.rws (d + 1) (p + 1) ++ n.rws (d + 1) (p + 1 + y.sz))
  | .rep k y, d, p => (p, d, .rep k y) :: y.rws (d + 1) (p + 1)
def Bk.rws : Bk → Int → Int → List Rw
  | .nil, _, _ => []
  | .cons s b, d, p => s.rws d p ++ b.rws d (p + s.sz)
end
mutual
theorem St.rws_len : ∀ (s : St) (d p : Int), (s.rws d p).length = s.sz
  | .set _ _, _, _ => rfl
  | .pay _, _, _ => rfl
  | .stop, _, _ => rfl
  | .ite t y n, d, p => by simp only [St.rws, St.sz, List.length_cons, List.length_append, Bk.rws_len y, Bk.rws_len n]; omega
  | .rep k y, d, p => by simp only [St.rws, St.sz, List.length_cons, Bk.rws_len y]; omega
theorem Bk.rws_len : ∀ (b : Bk) (d p : Int), (b.rws d p).length = b.sz
  | .nil, _, _ => rfl
  | .cons s b, d, p => by simp only [Bk.rws, Bk.sz, List.length_append, St.rws_len s, Bk.rws_len b]
end
def stkRws : List (Int × St) → Int → List Rw
  | [], _ => []
  | (d, s) :: r, p => s.rws d p ++ stkRws r (p + s.sz)
def stkSz (l : List (Int × St)) : Nat := (l.map fun x => x.2.sz).sum
theorem stkSz_cons (x : Int × St) (l : List (Int × St)) : stkSz (x :: l) = x.2.sz + stkSz l := rfl
theorem stkSz_append (l m : List (Int × St)) : stkSz (l ++ m) = stkSz l + stkSz m := by unfold stkSz; rw [List.map_append, List.sum_append]
theorem stk_append : ∀ (l m : List (Int × St)) (p : Int), stkRws (l ++ m) p = stkRws l p ++ stkRws m (p + stkSz l)
  | [], m, p => by show stkRws m p = stkRws m (p + 0); rw [Int.add_zero]
  | (d, s) :: l, m, p => by
    show s.rws d p ++ stkRws (l ++ m) (p + s.sz) = (s.rws d p ++ stkRws l (p + s.sz)) ++ _
    rw [stk_append l m, List.append_assoc, stkSz_cons, Int.natCast_add, Int.add_assoc]
theorem stkRws_len : ∀ (l : List (Int × St)) (p : Int), (stkRws l p).length = stkSz l
  | [], _ => rfl
  | (d, s) :: l, p => by
    show (s.rws d p ++ stkRws l (p + s.sz)).length = _
    rw [List.length_append, St.rws_len, stkRws_len l, stkSz_cons]
theorem St.sz_pos (s : St) : 1 ≤ s.sz := by rw [s.sz_blks]; omega
theorem stk_le : ∀ l : List (Int × St), l.length ≤ stkSz l
  | [] => Nat.le_refl _
  | x :: l => by
    rw [List.length_cons, stkSz_cons]
    have := stk_le l
    have := x.2.sz_pos
    omega
def Bk.stk (b : Bk) (d : Int) : List (Int × St) := b.lst.map fun s => (d, s)
theorem stk_bk : ∀ (b : Bk) (d p : Int), stkRws (b.stk d) p = b.rws d p
  | .nil, _, _ => rfl
  | .cons s b, d, p => by
    show s.rws d p ++ stkRws (b.stk d) (p + s.sz) = s.rws d p ++ b.rws d (p + s.sz)
    rw [stk_bk b]
theorem stkSz_bk : ∀ (b : Bk) (d : Int), stkSz (b.stk d) = b.sz
  | .nil, _ => rfl
  | .cons s b, d => by
    show stkSz ((d, s) :: b.stk d) = s.sz + b.sz
    rw [stkSz_cons, stkSz_bk b]
/-- what lies right in a statement -/
def kidsOf (l : List Bk) (d : Int) : List (Int × St) := (l.map fun b => b.stk d).flatten
theorem St.rws_kids (s : St) (d p : Int) : s.rws d p = (p, d, s) :: stkRws (kidsOf s.blks (d + 1)) (p + 1) := by
  cases s with
  | ite t y n =>
    show (p, d, St.ite t y n) :: (y.rws (d + 1) (p + 1) ++ n.rws (d + 1) (p + 1 + y.sz)) = _ :: stkRws (y.stk (d + 1) ++ (n.stk (d + 1) ++ [])) (p + 1)
    rw [List.append_nil, stk_append, stk_bk, stk_bk, stkSz_bk]
  | rep k y =>
    show (p, d, St.rep k y) :: y.rws (d + 1) (p + 1) = _ :: stkRws (y.stk (d + 1) ++ []) (p + 1)
    rw [List.append_nil, stk_bk]
  | _ => rfl
theorem kidsSz : ∀ (l : List Bk) (d : Int), stkSz (kidsOf l d) = (l.map Bk.sz).sum
  | [], _ => rfl
  | b :: l, d => by
    show stkSz (b.stk d ++ kidsOf l d) = b.sz + (l.map Bk.sz).sum
    rw [stkSz_append, stkSz_bk, kidsSz l]
theorem rev_get {α : Type} {xs : List α} {i : Nat} {x : α} (h : xs.reverse[i]? = some x) : i < xs.length ∧ xs[xs.length - 1 - i]? = some x := by
  have hi : i < xs.length := by
    have := (List.getElem?_eq_some_iff.mp h).1
    simpa using this
  rw [List.getElem?_reverse hi] at h
  exact ⟨hi, h⟩
theorem drop_back {α : Type} {l : List α} {i : Nat} {s : α} (hi : i < l.length) (h : l[l.length - 1 - i]? = some s) : l.drop (l.length - (i + 1)) = s :: l.drop (l.length - i) := by
  obtain ⟨hlt, hge⟩ := List.getElem?_eq_some_iff.mp h
  have e : l.length - (i + 1) = l.length - 1 - i := by omega
  rw [e, List.drop_eq_getElem_cons hlt, hge]
  congr 2
  omega
theorem tpPair {H : Hp} {a : Addr} {i : Int} {x : V} {s : St} (h : H a = some (.tup [.int i, x])) (t : Tp H x s.d) : Tp H (.ref a) (prD (i, s)) := .tup h (.cons (.int i) (.cons t .nil))
theorem passCX0 {X : Cx} : Passes (CX X.prog X.w) X E0 := fun _ _ _ _ _ _ _ c => by
  obtain ⟨_, _, _, _, _, _, _, _, _, _, _, _, z⟩ := c
  exact z.elim
theorem noStop0 {K : PySem.W.Frag} : NoStop K E0 := fun _ _ _ z => z.elim
theorem bk_le (b : Bk) : b.lst.length ≤ b.sz := by
  have h := stk_le (b.stk 0)
  rw [stkSz_bk] at h
  unfold Bk.stk at h
  rwa [List.length_map] at h
theorem Tk.lst {H : Hp} {p : Addr} {ys : List V} {o : HO} (h : H p = some (.lst ys)) : Tk H (upd H p o) := fun b xs e => by
  rw [upd_ne (fun z => by rw [z, h] at e; cases e)]
  exact e
/-- an int that is no bool -/
def isIntV (H : Hp) (v : V) (b : Bool) : Prop := (∃ i, v = .int i ∧ b = true) ∨ (∃ z, v = .str z ∧ b = false) ∨ (∃ a xs, v = .ref a ∧ H a = some (.tup xs) ∧ b = false)
def spIsInt : Sp := fun vs H Q _ => ∃ v b, vs = [v] ∧ isIntV H v b ∧ Q (.bl b) H
def spBlocks : Sp := fun vs H Q _ => ∃ (v : V) (s : St), vs = [v] ∧ Tp H v s.d ∧ ∀ H' v', Sx [] H H' → Tp H' v' (.tuple s.parts) → Q v' H'
def spEach : SpG := fun vs H Q _ => ∃ (v : V) (b : Bk), vs = [v] ∧ Tp H v (.tuple b.ds) ∧ b.sz < 16777216 ∧ ∀ ys H', Sx [] H H' → TpAll H' ys ((b.rws 0 0).map rwD) → Q ys H'
def spPlaces : Sp := fun vs H Q _ => ∃ (v : V) (b : Bk), vs = [v] ∧ Tp H v (.tuple b.ds) ∧ b.sz < 16777216 ∧ ∀ H', Sx [] H H' → Q (.int b.sz) H'
section
variable {w : World} {P : Program} {K : PySem.W.Frag} {mg : Str → Option Value} {base : Heap}
theorem ok_pis_integer {f : Addr} {fd : FuncData} {k : Nat} (F_pis_integer : Fun K "is_integer" "is_integer" sPIsInteger f fd) (z_isinstance : mg "isinstance" = none) (z_int : mg "int" = none) (z_bool : mg "bool" = none) : FnOk P w K mg base CX0 (k + 1) f fd ["value"] spIsInt := by
  refine F_pis_integer.ok scPIsInteger (fun vs H Q E h => ?_) (fun cdv A outer s H vs Q E hr h => ?_)
  · obtain ⟨_, _, rfl, _⟩ := h
    rfl
  · obtain ⟨v, b, rfl, iv, q⟩ := h
    refine ⟨_, (pss_one (ps_ret (pe_and (pe_callB call_isi (by rfl) z_isinstance (by decide +kernel) (pa_cons (pv 0) (pa_cons (pe_bltn (v := .ty "int") (by rfl) z_int (by decide +kernel) rfl) pa_nil))) (pe_one (pe_not (pe_callB call_isi (by rfl) z_isinstance (by decide +kernel) (pa_cons (pv 0) (pa_cons (pe_bltn (v := .ty "bool") (by rfl) z_bool (by decide +kernel) rfl) pa_nil)))))))), ?_⟩
    rcases iv with ⟨i, rfl, rfl⟩ | ⟨z, rfl, rfl⟩ | ⟨a, xs, rfl, ha, rfl⟩
    · exact ⟨_, rfl, _, _, _, _, _, rfl, .ty _, .base (.int i), kit_ty (r := true) (by decide +kernel), _, rfl, iteT ⟨_, rfl, _, _, _, _, _, rfl, .ty _, .base (.int i), kit_ty (r := false) (by decide +kernel), _, rfl, q⟩⟩
    · exact ⟨_, rfl, _, _, _, _, _, rfl, .ty _, .base (.str z), kit_ty (r := false) (by decide +kernel), _, rfl, iteF q⟩
    · exact ⟨_, rfl, _, _, _, _, _, rfl, .ty _, .base (.tup ha), kit_ty (r := false) (by decide +kernel), _, rfl, iteF q⟩
theorem ok_pblocks_of {f : Addr} {fd : FuncData} {k : Nat} (F_pblocks_of : Fun K "blocks_of" "blocks_of" sPBlocksOf f fd) : FnOk P w K mg base CX0 (k + 1) f fd ["statement"] spBlocks := by
  refine F_pblocks_of.ok scPBlocksOf (fun vs H Q E h => ?_) (fun cdv A outer s H vs Q E hr h => ?_)
  · obtain ⟨_, _, rfl, _⟩ := h
    rfl
  · obtain ⟨v, s, rfl, t, q⟩ := h
    refine ⟨_, (pss_cons (ps_if (pt_cmpR op_eq (pe_ix ix_tup (pv 0) pe_int (fun _ _ => rfl)) pe_str (nomark _)) (pss_one (ps_ret (pe_tup (pa_cons (pe_ix ix_tup (pv 0) pe_int (fun _ _ => rfl)) (pa_cons (pe_ix ix_tup (pv 0) pe_int (fun _ _ => rfl)) pa_nil))))) pss_nil)
      (pss_cons (ps_if (pt_cmpR op_eq (pe_ix ix_tup (pv 0) pe_int (fun _ _ => rfl)) pe_str (nomark _)) (pss_one (ps_ret (pe_tup (pa_cons (pe_ix ix_tup (pv 0) pe_int (fun _ _ => rfl)) pa_nil)))) pss_nil)
      (pss_one (ps_ret (pe_tup pa_nil))))), ?_⟩
    cases s with
    | set z e =>
      obtain ⟨a, p, u, y, rfl, ha, t1, _, _⟩ := tp3 t
      obtain rfl := tpS t1
      refine ⟨_, rfl, a, _, _, _, rfl, rfl, SqT.of ha, rfl, rfl, _, rfl, iteN (by decide +kernel) ⟨_, rfl, a, _, _, _, rfl, rfl, SqT.of ha, rfl, rfl, _, rfl, iteN (by decide +kernel) ⟨by show 0 ≤ sizeLine; decide, fun p' hp' => ?_⟩⟩⟩
      exact q _ _ (Sx.n0 hp') (.tup upd_same .nil)
    | pay e =>
      obtain ⟨a, p, u, rfl, ha, t1, _⟩ := tp2 t
      obtain rfl := tpS t1
      refine ⟨_, rfl, a, _, _, _, rfl, rfl, SqT.of ha, rfl, rfl, _, rfl, iteN (by decide +kernel) ⟨_, rfl, a, _, _, _, rfl, rfl, SqT.of ha, rfl, rfl, _, rfl, iteN (by decide +kernel) ⟨by show 0 ≤ sizeLine; decide, fun p' hp' => ?_⟩⟩⟩
      exact q _ _ (Sx.n0 hp') (.tup upd_same .nil)
    | stop =>
      obtain ⟨a, p, rfl, ha, t1⟩ := tp1 t
      obtain rfl := tpS t1
      refine ⟨_, rfl, a, _, _, _, rfl, rfl, SqT.of ha, rfl, rfl, _, rfl, iteN (by decide +kernel) ⟨_, rfl, a, _, _, _, rfl, rfl, SqT.of ha, rfl, rfl, _, rfl, iteN (by decide +kernel) ⟨by show 0 ≤ sizeLine; decide, fun p' hp' => ?_⟩⟩⟩
      exact q _ _ (Sx.n0 hp') (.tup upd_same .nil)
    | ite ts y n =>
      obtain ⟨a, p, u, y', n', rfl, ha, t1, _, t3, t4⟩ := tp4 t
      obtain rfl := tpS t1
      refine ⟨_, rfl, a, _, _, _, rfl, rfl, SqT.of ha, rfl, rfl, _, rfl, iteP (by decide +kernel) ⟨_, rfl, a, _, _, y', rfl, rfl, SqT.of ha, rfl, _, rfl, a, _, _, n', rfl, rfl, SqT.of ha, rfl, by show 2 ≤ sizeLine; decide, fun p' hp' => ?_⟩⟩
      exact q _ _ (Sx.n0 hp') (.tup upd_same (.cons (t3.new hp') (.cons (t4.new hp') .nil)))
    | rep k y =>
      obtain ⟨a, p, u, y', rfl, ha, t1, _, t3⟩ := tp3 t
      obtain rfl := tpS t1
      refine ⟨_, rfl, a, _, _, _, rfl, rfl, SqT.of ha, rfl, rfl, _, rfl, iteN (by decide +kernel) ⟨_, rfl, a, _, _, _, rfl, rfl, SqT.of ha, rfl, rfl, _, rfl, iteP (by decide +kernel) ⟨_, rfl, a, _, _, y', rfl, rfl, SqT.of ha, rfl, by show 1 ≤ sizeLine; decide, fun p' hp' => ?_⟩⟩⟩
      exact q _ _ (Sx.n0 hp') (.tup upd_same (.cons (t3.new hp') .nil))
end
/-- the pieces on a stack, the top first -/
def Stk (H : Hp) (L : Addr) (ws : List (Int × St)) : Prop := ∃ vals : List V, H L = some (.lst vals.reverse) ∧ TpAll H vals (ws.map prD)
theorem Stk.keep {H H' : Hp} {L : Addr} {ws : List (Int × St)} (h : Stk H L ws) (s : Sx [] H H') : Stk H' L ws := by
  obtain ⟨vals, h1, h2⟩ := h
  exact ⟨vals, s _ _ (by simp) h1, h2.keep s.tk0⟩
theorem Stk.push {H : Hp} {L : Addr} {ws : List (Int × St)} {x : V} {y : Int × St} (h : Stk H L ws) (t : Tp H x (prD y)) : ∃ acc, H L = some (.lst acc) ∧ acc.length = ws.length ∧ Stk (upd H L (.lst (acc ++ [x]))) L (y :: ws) := by
  obtain ⟨vals, h1, h2⟩ := h
  have e := h2.len
  rw [List.length_map] at e
  refine ⟨_, h1, by rw [List.length_reverse, e], x :: vals, by rw [upd_same, List.reverse_cons], ?_⟩
  exact .cons (t.keep (Tk.lst h1)) (h2.keep (Tk.lst h1))
theorem Stk.pop {H : Hp} {L : Addr} {ws : List (Int × St)} {y : Int × St} (h : Stk H L (y :: ws)) : ∃ (acc : List V) (a : Addr) (x : V), H L = some (.lst acc) ∧ acc[acc.length - 1]? = some (.ref a) ∧ H a = some (.tup [.int y.1, x]) ∧ Tp H x y.2.d ∧ Stk (upd H L (.lst acc.dropLast)) L ws ∧ acc.length = ws.length + 1 := by
  obtain ⟨vals, h1, h2⟩ := h
  cases h2 with
  | cons h3 h4 =>
    rename_i v vs
    obtain ⟨a, xs, rfl, ha, hx⟩ := h3.tuple
    cases hx with | cons h5 hx => cases hx with | cons h6 hx => cases hx with | nil =>
    obtain rfl := tpI h5
    have e := h4.len
    rw [List.length_map] at e
    refine ⟨_, a, _, h1, ?_, ha, h6, ⟨vs, by rw [upd_same, List.reverse_cons, List.dropLast_concat], h4.keep (Tk.lst h1)⟩, by rw [List.length_reverse, List.length_cons, e]⟩
    rw [List.reverse_cons, List.length_append]
    simp
theorem Stk.nil_ {H : Hp} {L : Addr} (h : Stk H L []) : H L = some (.lst []) := by
  obtain ⟨vals, h1, h2⟩ := h
  cases h2
  exact h1
section
variable {w : World} {P : Program} {K : PySem.W.Frag} {mg : Str → Option Value} {base : Heap}
theorem ok_peach {f fB : Addr} {fd fdB : FuncData} (F_peach_statement : Fun K "each_statement" "each_statement" sPEachStatement f fd) (F_pblocks_of : Fun K "blocks_of" "blocks_of" sPBlocksOf fB fdB) (G_pblocks_of : FnOk P w K mg base CX0 1 fB fdB ["statement"] spBlocks)
    (b_pblocks_of : Binds K fdB ["statement"] []) (m_pblocks_of : mg "blocks_of" = some (.ref fB)) : GFn P w K mg base 2 f fd ["program"] spEach := by
  obtain ⟨oc, od, kV, doc, pm, an, cdv, ct, osl, rfl, lk, hcd⟩ := F_peach_statement.ex
  refine gfn_of lk hcd scPEachStatement (fun vs H Q E h => ?_) (fun A outer s H vs Q E pn hr h => ?_)
  · obtain ⟨_, _, rfl, _⟩ := h
    rfl
  · obtain ⟨v, b, rfl, t, hz, q⟩ := h
    refine ⟨_, (gss_cons (gs_ps (ps_setLc (i := 1) (own := [("statement", 4)]) (g := gName 4) (tt := tYes) rfl scPEachStatement.nd rfl rfl (sw_true rfl rfl rfl (by decide +kernel)) (pi_tup (pe_revT (pv 0))) (blkOk_by (N := nPEachStatement) (sc := defScope sPEachStatement) (by decide +kernel)) (fun _ _ _ _ _ => (pg_name (i := 4) scPEachStatement.nd rfl (by first | exact Or.inl rfl | exact Or.inr rfl))) (fun _ _ _ _ _ => pts_nil) (fun _ _ _ _ _ => (pe_tup (pa_cons pe_int (pa_cons (pv 4) pa_nil))))))
      (gss_cons (gs_ps (ps_set (i := 2) scPEachStatement.nd rfl (by first | exact Or.inl rfl | exact Or.inr rfl) pe_int))
      (gss_cons (gs_while owns_gcx (pt_truth (pv 1) (fun _ => rfl)) (gss_cons (gs_ps (ps_asg (pe_bm0 PySem.F.plainAttrs_list PySem.F.slot_list_pop PySem.F.type_list_pop mt_pop (pv 1)) (pg_tup rfl (pgs_cons (pg_name (i := 3) scPEachStatement.nd rfl (by first | exact Or.inl rfl | exact Or.inr rfl)) (pgs_cons (pg_name (i := 4) scPEachStatement.nd rfl (by first | exact Or.inl rfl | exact Or.inr rfl)) pgs_nil)))))
      (gss_cons (gs_yield (pe_tup (pa_cons (pv 2) (pa_cons (pv 3) (pa_cons (pv 4) pa_nil)))))
      (gss_pss (pss_cons (ps_aug (i := 2) scPEachStatement.nd rfl (.inl rfl) pe_int ip_add)
      (pss_one (ps_for owns_gcx rfl (pi_tup (pe_revT (pe_call G_pblocks_of (hr.mono (by omega)) (by rfl) m_pblocks_of F_pblocks_of.kp b_pblocks_of .nil pass0 (pa_cons (pv 4) pa_nil)))) (pg_name (i := 5) scPEachStatement.nd rfl (by first | exact Or.inl rfl | exact Or.inr rfl)) (pss_one (ps_for owns_gcx rfl (pi_tup (pe_revT (pv 5))) (pg_name (i := 6) scPEachStatement.nd rfl (by first | exact Or.inl rfl | exact Or.inr rfl)) (pss_one (ps_expr (pe_bm PySem.F.plainAttrs_list PySem.F.slot_list_append PySem.F.type_list_append mt_append (pv 1) (pa_cons (pe_tup (pa_cons (pe_op op_add (pv 3) pe_int) (pa_cons (pv 6) pa_nil))) pa_nil)))))))))))))
      gss_nil))), ?_⟩
    obtain ⟨a, xs, rfl, ha, hx⟩ := t.tuple
    rw [b.ds_lst] at hx
    obtain ⟨hl, hg⟩ := hx.lst
    -- the first stack
    refine ⟨_, rfl, a, xs, rfl, SqT.of ha, fun p hp => ⟨p, rfl, ⟨_, SqT.of upd_same⟩, fun D hD => lc_tup (xs := xs.reverse)
      (fun i H1 => Sx [] H H1 ∧ H1 p = some (.tup xs.reverse) ∧ Stk H1 D ((b.lst.drop (b.lst.length - i)).map fun s => (0, s)))
      ⟨(Sx.n0 hp).trans (Sx.n0 hD), by rw [upd_ne (ne_of_none upd_same hD)]; exact upd_same, [], upd_same, by rw [Nat.sub_zero, List.drop_length]; exact .nil⟩ (fun i H1 _ z => SqT.of z.2.1) (fun i x H1 hi z => ?_) (fun H1 z => ?_)⟩⟩
    · obtain ⟨s1, hp1, hv⟩ := z
      obtain ⟨hi1, hi2⟩ := rev_get hi
      rw [hl] at hi1 hi2
      obtain ⟨st, hst, tst⟩ := hg _ x hi2
      refine ⟨rfl, ?_⟩
      refine ⟨_, rfl, by show 2 ≤ sizeLine; decide, fun u hu => ?_⟩
      have hDn : H D = none := by
        cases e : H D with
        | none => rfl
        | some o => have := Sx.n0 (o := .tup xs.reverse) hp D o (by simp) e; rw [hD] at this; cases this
      have bl := bk_le b
      obtain ⟨acc, e1, e2, e3⟩ := (hv.keep (Sx.n0 hu)).push (x := .ref u) (y := (0, st)) (tpPair upd_same ((tst.keep s1.tk0).new hu))
      have npD : p ≠ D := ne_of_none upd_same hD
      refine ⟨acc, e1, lt_line (by rw [e2, List.length_map, List.length_drop]; omega), (s1.new hu).own hDn, ?_, ?_⟩
      · rw [upd_ne npD]; exact Sx.n0 hu _ _ (by simp) hp1
      · rw [drop_back hi1 hst]; exact e3
    · obtain ⟨s1, _, hv⟩ := z
      have hDn : H D = none := by
        cases e : H D with
        | none => rfl
        | some o => have := Sx.n0 (o := .tup xs.reverse) hp D o (by simp) e; rw [hD] at this; cases this
      rw [List.length_reverse, hl, Nat.sub_self, List.drop_zero] at hv
      refine ⟨fun m ys σ H' => ∃ (ws : List (Int × St)) (dn : List Rw) (o3 o4 o5 o6 : Option V), σ = [some (.ref a), some (.ref D), some (.int dn.length), o3, o4, o5, o6] ∧ Sx [] H H' ∧ Stk H' D ws ∧ TpAll H' ys (dn.map rwD) ∧ dn ++ stkRws ws dn.length = b.rws 0 0 ∧ m = stkSz ws,
        ⟨_, b.stk 0, [], _, _, _, _, rfl, s1, hv, .nil, stk_bk b 0 0, rfl⟩, ?_⟩
      rintro m ys σ H' ⟨ws, dn, o3, o4, o5, o6, rfl, s2, hs, hy, hrows, rfl⟩
      have total := congrArg List.length hrows
      rw [List.length_append, stkRws_len, Bk.rws_len] at total
      cases ws with
      | nil =>
        refine ⟨_, rfl, false, .inl ⟨_, SqL.of hs.nil_, rfl⟩, iteF ?_⟩
        rw [show stkRws [] (dn.length : Int) = [] from rfl, List.append_nil] at hrows
        exact q ys H' s2 (by rw [← hrows]; exact hy)
      | cons y ws =>
        obtain ⟨d, st⟩ := y
        obtain ⟨acc, c, x, e1, e2, e3, e4, e5, e6⟩ := hs.pop
        have ylen := hy.len
        rw [List.length_map] at ylen
        rw [stkSz_cons] at total
        have stp := st.sz_pos
        have wle := stk_le ws
        refine ⟨_, rfl, true, .inl ⟨_, SqL.of e1, ?_⟩, iteT ⟨fun ys' σ' H2 => ∃ m', m' < stkSz ((d, st) :: ws) ∧ ∃ (ws' : List (Int × St)) (dn : List Rw) (o3 o4 o5 o6 : Option V), σ' = [some (.ref a), some (.ref D), some (.int dn.length), o3, o4, o5, o6] ∧ Sx [] H H2 ∧ Stk H2 D ws' ∧ TpAll H2 ys' (dn.map rwD) ∧ dn ++ stkRws ws' dn.length = b.rws 0 0 ∧ m' = stkSz ws', fun _ _ _ z => z, ?_⟩⟩
        · cases acc with
          | nil => simp at e6
          | cons _ _ => rfl
        -- the top is taken
        refine ⟨_, rfl, .inl ⟨rfl, _, SqL.of e1⟩, D, _, _, rfl, rfl, e1, e2, ?_⟩
        have Dc : c ≠ D := fun z => by rw [z, e1] at e3; cases e3
        have k1 : Tk H' (upd H' D (.lst acc.dropLast)) := Tk.lst e1
        refine gh (H1 := upd H' D (.lst acc.dropLast)) (F := fun H2 => Sx [] H H2 ∧ Tk H' H2 ∧ Stk H2 D ws) ⟨s2.own hDn, k1, e5⟩ (fun H2 ⟨s3, k1, e5⟩ => ?_)
        refine ⟨c, _, rfl, SqT.of (k1 _ _ e3), rfl, _, _, rfl, gnm ⟨_, _, rfl, gnm ⟨rfl, ?_⟩⟩⟩
        -- it is handed out
        refine ⟨lt_line (by omega), _, rfl, _, rfl, _, rfl, by show 3 ≤ sizeLine; decide, fun u hu => ?_⟩
        have hy2 : TpAll (upd H2 u (.tup [.int dn.length, .int d, x])) (ys ++ [.ref u]) ((dn ++ [((dn.length : Int), d, st)]).map rwD) := by
          rw [List.map_append]
          exact ((hy.keep k1).new hu).append (.cons (.tup upd_same (.cons (.int _) (.cons (.int _) (.cons ((e4.keep k1).new hu) .nil)))) .nil)
        refine gh (H1 := upd H2 u _) (F := fun H3 => Sx [] H H3 ∧ Stk H3 D ws ∧ Tp H3 x st.d ∧ TpAll H3 (ys ++ [.ref u]) ((dn ++ [((dn.length : Int), d, st)]).map rwD)) ⟨s3.new hu, e5.keep (Sx.n0 hu), (e4.keep k1).new hu, hy2⟩ (fun H3 ⟨s4, e7, e8, hy3⟩ => ?_)
        -- what lies in it
        refine Exists.intro _ ⟨rfl, _, _, rfl, rfl, ?_⟩
        refine ⟨_, rfl, x, st, rfl, e8, fun H4 v4 s5 t4 => ?_⟩
        obtain ⟨a4, xs4, rfl, ha4, hx4⟩ := t4.tuple
        rw [st.parts_blks] at hx4
        obtain ⟨hl4, hg4⟩ := hx4.lst
        have okk : dn ++ [((dn.length : Int), d, st)] ++ stkRws (kidsOf st.blks (d + 1) ++ ws) (dn.length + 1) = b.rws 0 0 := by
          rw [← hrows, stk_append, kidsSz, List.append_assoc]
          show dn ++ ((↑dn.length, d, st) :: (stkRws (kidsOf st.blks (d + 1)) (↑dn.length + 1) ++ stkRws ws _)) = dn ++ (st.rws d dn.length ++ stkRws ws (dn.length + st.sz))
          rw [st.rws_kids, st.sz_blks, List.cons_append]
          congr 4
          omega
        have blk2 : st.blks.length ≤ 2 := by cases st <;> simp [St.blks]
        refine ⟨a4, xs4, rfl, SqT.of ha4, fun p4 hp4 => ⟨p4, rfl, ⟨_, SqT.of upd_same⟩, for_tup (xs := xs4.reverse)
          (fun i σ H5 => ∃ o5 o6, σ = [some (.ref a), some (.ref D), some (.int (dn.length + 1)), some (.int d), some x, o5, o6] ∧ Sx [] H H5 ∧ H5 p4 = some (.tup xs4.reverse) ∧ Tk H4 H5 ∧ Stk H5 D (kidsOf (st.blks.drop (st.blks.length - i)) (d + 1) ++ ws) ∧ TpAll H5 (ys ++ [.ref u]) ((dn ++ [((dn.length : Int), d, st)]).map rwD))
          ⟨_, _, rfl, (s4.trans s5).new hp4, upd_same, (Sx.n0 hp4).tk0, by rw [Nat.sub_zero, List.drop_length]; exact (e7.keep s5).keep (Sx.n0 hp4), (hy3.keep s5.tk0).new hp4⟩ (fun i σ H5 _ z => by obtain ⟨_, _, _, _, z, _⟩ := z; exact SqT.of z) (fun i y σ H5 hi z => ?_) (fun σ H5 z => ?_)⟩⟩
        · obtain ⟨o5, o6, rfl, s6, hp5, k5, hs5, hy5⟩ := z
          obtain ⟨hi1, hi2⟩ := rev_get hi
          rw [hl4] at hi1 hi2
          obtain ⟨bk, hbk, tbk⟩ := hg4 _ y hi2
          have hmem : bk ∈ st.blks := List.mem_of_getElem? hbk
          refine gnm ?_
          obtain ⟨a6, xs6, rfl, ha6, hx6⟩ := (tbk.keep k5).tuple
          rw [bk.ds_lst] at hx6
          obtain ⟨hl6, hg6⟩ := hx6.lst
          rw [drop_back hi1 hbk]
          have szb : bk.sz ≤ st.sz := by
            rw [st.sz_blks]
            have := sum_mem (List.mem_map_of_mem (f := Bk.sz) hmem)
            omega
          have bl := bk_le bk
          have kl : (kidsOf (st.blks.drop (st.blks.length - i)) (d + 1)).length + bk.sz ≤ st.sz := by
            have h1 := stk_le (kidsOf (st.blks.drop (st.blks.length - i)) (d + 1))
            have h2 : ∀ (l : List Bk) (n : Nat), ((l.drop n).map Bk.sz).sum ≤ (l.map Bk.sz).sum := fun l n => by
              have e := congrArg (fun l => (l.map Bk.sz).sum) (List.take_append_drop n l)
              simp only [List.map_append, List.sum_append] at e
              omega
            have h3 := h2 st.blks (st.blks.length - (i + 1))
            rw [drop_back hi1 hbk, List.map_cons, List.sum_cons] at h3
            rw [kidsSz] at h1
            rw [st.sz_blks]
            omega
          have total' : dn.length + (st.sz + stkSz ws) = b.sz := total
          refine ⟨_, rfl, a6, xs6, rfl, SqT.of ha6, fun p6 hp6 => ⟨p6, rfl, ⟨_, SqT.of upd_same⟩, for_tup (xs := xs6.reverse)
            (fun j σ H6 => ∃ o6, σ = [some (.ref a), some (.ref D), some (.int (dn.length + 1)), some (.int d), some x, some (.ref a6), o6] ∧ Sx [] H H6 ∧ H6 p4 = some (.tup xs4.reverse) ∧ H6 p6 = some (.tup xs6.reverse) ∧ Tk H5 H6 ∧ Stk H6 D ((bk.lst.drop (bk.lst.length - j)).map (fun s => (d + 1, s)) ++ (kidsOf (st.blks.drop (st.blks.length - i)) (d + 1) ++ ws)) ∧ TpAll H6 (ys ++ [.ref u]) ((dn ++ [((dn.length : Int), d, st)]).map rwD))
            ⟨_, rfl, s6.new hp6, Sx.n0 hp6 _ _ (by simp) hp5, upd_same, (Sx.n0 hp6).tk0, by rw [Nat.sub_zero, List.drop_length]; exact hs5.keep (Sx.n0 hp6), hy5.new hp6⟩ (fun j σ H6 _ z => by obtain ⟨_, _, _, _, z, _⟩ := z; exact SqT.of z) (fun j y2 σ H6 hj z => ?_) (fun σ H6 z => ?_)⟩⟩
          · obtain ⟨o6, rfl, s7, hp6a, hp6b, k6, hs6, hy6⟩ := z
            obtain ⟨hj1, hj2⟩ := rev_get hj
            rw [hl6] at hj1 hj2
            obtain ⟨st2, hst2, tst2⟩ := hg6 _ y2 hj2
            refine gnm ?_
            obtain ⟨L6, hL6, _⟩ := id hs6
            refine ⟨_, rfl, .inl ⟨rfl, _, SqL.of hL6⟩, _, rfl, d, 1, rfl, rfl, _, rfl, by show 2 ≤ sizeLine; decide, fun u2 hu2 => ?_⟩
            obtain ⟨acc2, g1, g2, g3⟩ := (hs6.keep (Sx.n0 hu2)).push (x := .ref u2) (y := (d + 1, st2)) (tpPair upd_same ((tst2.keep k6).new hu2))
            refine ⟨D, _, _, rfl, rfl, g1, lt_line (by rw [g2, List.length_append, List.length_map, List.length_drop, List.length_append]; omega), ?_⟩
            refine ⟨_, rfl, (s7.new hu2).own hDn, ?_, ?_, (k6.trans (Sx.n0 hu2).tk0).trans (Tk.lst g1), ?_, (hy6.new hu2).keep (Tk.lst g1)⟩
            · exact ((Sx.n0 hu2).tk0.trans (Tk.lst g1)) _ _ hp6a
            · exact ((Sx.n0 hu2).tk0.trans (Tk.lst g1)) _ _ hp6b
            · rw [drop_back hj1 hst2]; exact g3
          · obtain ⟨o6, rfl, s7, hp6a, hp6b, k6, hs6, hy6⟩ := z
            rw [List.length_reverse, hl6, Nat.sub_self, List.drop_zero] at hs6
            refine ⟨_, _, rfl, s7, hp6a, k5.trans k6, ?_, hy6⟩
            show Stk H6 D ((bk.stk (d + 1) ++ kidsOf (st.blks.drop (st.blks.length - i)) (d + 1)) ++ ws)
            rw [List.append_assoc]
            exact hs6
        · obtain ⟨o5, o6, rfl, s6, hp5, k5, hs5, hy5⟩ := z
          rw [List.length_reverse, hl4, Nat.sub_self, List.drop_zero] at hs5
          have e9 : ((dn ++ [((dn.length : Int), d, st)]).length : Int) = dn.length + 1 := by simp
          refine ⟨_, ?_, kidsOf st.blks (d + 1) ++ ws, dn ++ [((dn.length : Int), d, st)], _, _, _, _, by rw [e9], s6, hs5, hy5, by rw [e9]; exact okk, rfl⟩
          rw [stkSz_append, kidsSz, stkSz_cons, st.sz_blks]
          omega
end
abbrev sRows : Stmt := topS 22
abbrev nRows : List Str := ["_law_block_here", "_law_place", "_law_depth", "_law_found", "_law_row_here", "_law_part"]
theorem scRows : FnScope nRows ["_law_block_here", "_law_place", "_law_depth"] (defScope sRows) := ⟨rfl, rfl, rfl, by decide +kernel, rfl, by decide +kernel, by decide +kernel⟩
abbrev sWeight : Stmt := topS 23
abbrev nWeight : List Str := ["_law_block_here", "_law_found", "_law_row_here", "_law_inner", "_law_part"]
theorem scWeight : FnScope nWeight ["_law_block_here"] (defScope sWeight) := ⟨rfl, rfl, rfl, by decide +kernel, rfl, by decide +kernel, by decide +kernel⟩
/-! ### the law's own rows -/
def rwsL : List St → Int → Int → List Rw
  | [], _, _ => []
  | s :: ss, d, p => s.rws d p ++ rwsL ss d (p + s.sz)
def rwsB : List Bk → Int → Int → List Rw
  | [], _, _ => []
  | b :: bs, d, p => b.rws d p ++ rwsB bs d (p + b.sz)
theorem Bk.rws_lst : ∀ (b : Bk) (d p : Int), b.rws d p = rwsL b.lst d p
  | .nil, _, _ => by simp only [Bk.rws, Bk.lst, rwsL]
  | .cons s b, d, p => by simp only [Bk.rws, Bk.lst, rwsL, Bk.rws_lst b]
theorem St.rws_blks (s : St) (d p : Int) : s.rws d p = (p, d, s) :: rwsB s.blks (d + 1) (p + 1) := by
  cases s <;> simp [St.rws, St.blks, rwsB]
theorem rwsL_len : ∀ (ss : List St) (d p : Int), (rwsL ss d p).length = (ss.map St.sz).sum
  | [], _, _ => rfl
  | s :: ss, d, p => by
    show (s.rws d p ++ rwsL ss d (p + s.sz)).length = _
    rw [List.length_append, St.rws_len, rwsL_len ss, List.map_cons, List.sum_cons]
theorem rwsB_len : ∀ (bs : List Bk) (d p : Int), (rwsB bs d p).length = (bs.map Bk.sz).sum
  | [], _, _ => rfl
  | b :: bs, d, p => by
    show (b.rws d p ++ rwsB bs d (p + b.sz)).length = _
    rw [List.length_append, Bk.rws_len, rwsB_len bs, List.map_cons, List.sum_cons]
theorem rwsL_snoc : ∀ (ss : List St) (s : St) (d p : Int), rwsL (ss ++ [s]) d p = rwsL ss d p ++ s.rws d (p + ((rwsL ss d p).length : Nat))
  | [], s, d, p => by simp [rwsL]
  | x :: ss, s, d, p => by
    show x.rws d p ++ rwsL (ss ++ [s]) d (p + x.sz) = (x.rws d p ++ rwsL ss d (p + x.sz)) ++ s.rws d (p + ((x.rws d p ++ rwsL ss d (p + x.sz)).length : Nat))
    rw [rwsL_snoc ss s, List.append_assoc, List.length_append, St.rws_len]
    congr 3
    omega
theorem rwsB_snoc : ∀ (bs : List Bk) (b : Bk) (d p : Int), rwsB (bs ++ [b]) d p = rwsB bs d p ++ b.rws d (p + ((rwsB bs d p).length : Nat))
  | [], b, d, p => by simp [rwsB]
  | x :: bs, b, d, p => by
    show x.rws d p ++ rwsB (bs ++ [b]) d (p + x.sz) = (x.rws d p ++ rwsB bs d (p + x.sz)) ++ b.rws d (p + ((x.rws d p ++ rwsB bs d (p + x.sz)).length : Nat))
    rw [rwsB_snoc bs b, List.append_assoc, List.length_append, Bk.rws_len]
    congr 3
    omega
theorem sum_take_le : ∀ (l : List Nat) (i : Nat), (l.take i).sum ≤ l.sum
  | [], i => by simp
  | x :: l, 0 => by simp
  | x :: l, i + 1 => by
    rw [List.take_succ_cons, List.sum_cons, List.sum_cons]
    have := sum_take_le l i
    omega
def spLRows (d : Nat) : Sp := fun vs H Q _ => ∃ (v : V) (b : Bk) (ns : List Str) (p dp : Int), vs = [v, .int p, .int dp] ∧ Tp H v (.tuple b.ds) ∧ b.ok ns (d - 1) ∧ 1 ≤ d ∧ b.sz < 16777216 ∧ ∀ H' l ys, Sx [] H H' → H l = none → H' l = some (.lst ys) → TpAll H' ys ((b.rws dp p).map rwD) → Q (.ref l) H'
section
variable {w : World} {P : Program} {K : PySem.W.Frag} {mg : Str → Option Value} {base : Heap}
theorem ok_lrows {f fP : Addr} {fd fdP : FuncData} (F_rows : Fun K "_law_rows" "_law_rows" sRows f fd) (F_parts : Fun K "_law_parts" "_law_parts" sParts fP fdP) (G_parts : FnOk P w K mg base CX0 1 fP fdP ["_law_row_here"] spParts)
    (b_rows : Binds K fd ["_law_block_here", "_law_place", "_law_depth"] []) (b_parts : Binds K fdP ["_law_row_here"] []) (m_rows : mg "_law_rows" = some (.ref f)) (m_parts : mg "_law_parts" = some (.ref fP)) (z_len : mg "len" = none) :
    ∀ d : Nat, FnOk P w K mg base CX0 (d + 1) f fd ["_law_block_here", "_law_place", "_law_depth"] (spLRows d) := by
  intro d
  induction d with
  | zero => exact ⟨fun vs H Q E h => by obtain ⟨_, _, _, _, _, rfl, _⟩ := h; rfl, fun _ _ _ _ _ _ _ _ _ _ _ _ _ h => by
      obtain ⟨_, _, _, _, _, _, _, _, h, _⟩ := h
      omega⟩
  | succ d G_rows =>
    refine F_rows.ok scRows (fun vs H Q E h => ?_) (fun cdv A outer s H vs Q E hr h => ?_)
    · obtain ⟨_, _, _, _, _, rfl, _⟩ := h
      rfl
    · obtain ⟨v, b, ns, p, dp, rfl, t, ho, _, hz, q⟩ := h
      refine ⟨_, (pss_cons (ps_set (i := 3) scRows.nd rfl (by first | exact Or.inl rfl | exact Or.inr rfl) (pe_lst pa_nil))
      (C8.pss_cut (ps_for PassesOwn.never rfl (pi_tup (pv 0)) (pg_name (i := 4) scRows.nd rfl (by first | exact Or.inl rfl | exact Or.inr rfl)) (pss_cons (ps_expr (pe_bm PySem.F.plainAttrs_list PySem.F.slot_list_append PySem.F.type_list_append mt_append (pv 3) (pa_cons (pe_tup (pa_cons (pe_op op_add (pv 1) (pe_callB call_len_seq (by rfl) z_len boot_len (pa_cons (pv 3) pa_nil))) (pa_cons (pv 2) (pa_cons (pv 4) pa_nil)))) pa_nil)))
      (pss_one (ps_for PassesOwn.never rfl (pi_tup (pe_call G_parts (hr.mono (by omega)) (by rfl) m_parts F_parts.kp b_parts .nil pass0 (pa_cons (pv 4) pa_nil))) (pg_name (i := 5) scRows.nd rfl (by first | exact Or.inl rfl | exact Or.inr rfl)) (pss_one (ps_expr (pe_bm PySem.F.plainAttrs_list PySem.F.slot_list_extend PySem.F.type_list_extend mt_extend (pv 3) (pa_cons (pe_call G_rows (hr.mono (by omega)) (by rfl) m_rows F_rows.kp b_rows .nil pass0 (pa_cons (pv 5) (pa_cons (pe_op op_add (pv 1) (pe_callB call_len_seq (by rfl) z_len boot_len (pa_cons (pv 3) pa_nil))) (pa_cons (pe_op op_add (pv 2) pe_int) pa_nil)))) pa_nil))))))))
      (pss_one (ps_ret (pv 3))))), ?_⟩
      obtain ⟨a, xs, rfl, ha, hx⟩ := t.tuple
      rw [b.ds_lst] at hx
      obtain ⟨hl, hg⟩ := hx.lst
      rw [b.sz_lst] at hz
      refine ⟨by show 0 ≤ sizeLine; decide, fun F hF => ?_⟩
      refine ⟨fun σ H1 => ∃ o4 o5 ys, σ = [some (.ref a), some (.int p), some (.int dp), some (.ref F), o4, o5] ∧ Sx [] H H1 ∧ H1 F = some (.lst ys) ∧ TpAll H1 ys ((rwsL b.lst dp p).map rwD), ?_, ?_⟩
      · refine ⟨_, rfl, a, rfl, ⟨_, SqT.of (by rw [upd_ne (ne_of_none ha hF)]; exact ha)⟩, for_tup (xs := xs) (fun i σ H1 => ∃ o4 o5 ys, σ = [some (.ref a), some (.int p), some (.int dp), some (.ref F), o4, o5] ∧ Sx [] H H1 ∧ H1 F = some (.lst ys) ∧ TpAll H1 ys ((rwsL (b.lst.take i) dp p).map rwD))
          ⟨_, _, [], rfl, Sx.n0 hF, upd_same, .nil⟩ (fun i σ H1 _ z => by obtain ⟨_, _, _, _, z, _⟩ := z; exact SqT.of (z _ _ (by simp) ha)) (fun i x σ H1 hi z => ?_) (fun σ H1 z => ?_)⟩
        · obtain ⟨o4, o5, ys, rfl, s1, eF, ty⟩ := z
          obtain ⟨st, hst, tst⟩ := hg i x hi
          have hm : st ∈ b.lst := List.mem_of_getElem? hst
          obtain ⟨d1, so⟩ := Bk.ok_mem ho hm
          have t1 := tst.keep s1.tk0
          have yl : ys.length = (rwsL (b.lst.take i) dp p).length := by rw [ty.len, List.length_map]
          have yb : ys.length + st.sz ≤ (b.lst.map St.sz).sum := by
            rw [yl, rwsL_len]
            have h1 := sum_take_le (b.lst.map St.sz) (i + 1)
            rw [← List.map_take, List.take_add_one, hst, List.map_append, List.sum_append] at h1
            simp only [Option.toList, List.map_cons, List.map_nil, List.sum_cons, List.sum_nil] at h1
            omega
          have st1 : 1 ≤ st.sz := by rw [st.sz_blks]; omega
          refine gnm ?_
          refine ⟨_, rfl, .inl ⟨rfl, _, SqL.of eF⟩, _, rfl, _, rfl, F, ys, rfl, .inl (SqL.of eF), p, (ys.length : Int), rfl, rfl, _, rfl, _, rfl, by show 3 ≤ sizeLine; decide, fun u hu => ?_⟩
          have eFu := Sx.n0 (o := .tup [.int (p + (ys.length : Int)), .int dp, x]) hu _ _ (by simp) eF
          refine ⟨F, ys, .ref u, rfl, rfl, eFu, lt_line (by omega), ?_⟩
          refine gh (H1 := upd (upd H1 u _) F _) (F := fun H2 => Sx [] H H2 ∧ H2 F = some (.lst (ys ++ [.ref u])) ∧ TpAll H2 (ys ++ [.ref u]) ((rwsL (b.lst.take i) dp p).map rwD ++ [rwD (p + (ys.length : Int), dp, st)]) ∧ Tp H2 x st.d)
            ⟨(s1.new hu).own hF, upd_same, ((ty.new hu).keep (Tk.lst eFu)).append (.cons ((Tp.tup upd_same (.cons (.int _) (.cons (.int _) (.cons (t1.new hu) .nil)))).keep (Tk.lst eFu)) .nil), (t1.new hu).keep (Tk.lst eFu)⟩ (fun H2 ⟨s2, eF2, ty2, t2⟩ => ?_)
          refine ⟨_, rfl, x, st, rfl, t2, fun H3 v' s3 t3 => ?_⟩
          obtain ⟨a2, zs, rfl, ha2, hy⟩ := t3.tuple
          rw [st.parts_blks] at hy
          obtain ⟨hl2, hg2⟩ := hy.lst
          refine ⟨a2, rfl, ⟨_, SqT.of ha2⟩, for_tup (xs := zs) (fun j σ H4 => ∃ o5 ws, σ = [some (.ref a), some (.int p), some (.int dp), some (.ref F), some x, o5] ∧ Sx [] H H4 ∧ Tk H3 H4 ∧ H4 F = some (.lst ws) ∧ TpAll H4 ws ((rwsL (b.lst.take i) dp p).map rwD ++ rwD (p + (ys.length : Int), dp, st) :: (rwsB (st.blks.take j) (dp + 1) (p + (ys.length : Int) + 1)).map rwD))
            ⟨_, _, rfl, s2.trans s3, Tk.refl _, s3 _ _ (by simp) eF2, ty2.keep s3.tk0⟩ (fun j σ H4 _ z => by obtain ⟨_, _, _, _, z, _⟩ := z; exact SqT.of (z _ _ ha2)) (fun j y σ H4 hj z => ?_) (fun σ H4 z => ?_)⟩
          · obtain ⟨o5, ws, rfl, s4, k4, eF4, ty4⟩ := z
            obtain ⟨b2, hb2, tb2⟩ := hg2 j y hj
            have hm2 : b2 ∈ st.blks := List.mem_of_getElem? hb2
            have wl : ws.length = ys.length + 1 + (rwsB (st.blks.take j) (dp + 1) (p + (ys.length : Int) + 1)).length := by
              rw [ty4.len, List.length_append, List.length_cons, List.length_map, List.length_map, ← yl]
              omega
            have wb : ws.length + b2.sz ≤ ys.length + st.sz := by
              rw [wl, rwsB_len, st.sz_blks]
              have h1 := sum_take_le (st.blks.map Bk.sz) (j + 1)
              rw [← List.map_take, List.take_add_one, hb2, List.map_append, List.sum_append] at h1
              simp only [Option.toList, List.map_cons, List.map_nil, List.sum_cons, List.sum_nil] at h1
              omega
            refine gnm ?_
            refine ⟨_, rfl, .inl ⟨rfl, _, SqL.of eF4⟩, _, rfl, _, rfl, _, rfl, F, ws, rfl, .inl (SqL.of eF4), p, (ws.length : Int), rfl, rfl, _, rfl, dp, 1, rfl, rfl, y, b2, ns, p + (ws.length : Int), dp + 1, rfl, tb2.keep k4, St.ok_mem so hm2, by omega, by omega, fun H5 l vs5 s5 hl5 el5 ty5 => ?_⟩
            have eF5 := s5 _ _ (by simp) eF4
            have v5 := ty5.len
            rw [List.length_map, Bk.rws_len] at v5
            refine ⟨F, l, ws, vs5, rfl, rfl, eF5, el5, le_line (by omega), _, _, rfl, (s4.trans s5).own hF, (k4.trans s5.tk0).trans (Tk.lst eF5), upd_same, ?_⟩
            rw [List.take_add_one, hb2]
            show TpAll _ _ (_ ++ _ :: List.map rwD (rwsB (st.blks.take j ++ [b2]) _ _))
            rw [rwsB_snoc, List.map_append, ← List.cons_append, ← List.append_assoc, show p + (ys.length : Int) + 1 + ((rwsB (st.blks.take j) (dp + 1) (p + (ys.length : Int) + 1)).length : Nat) = p + (ws.length : Int) by omega]
            exact ((ty4.keep s5.tk0).append ty5).keep (Tk.lst eF5)
          · obtain ⟨o5, ws, rfl, s4, k4, eF4, ty4⟩ := z
            refine ⟨_, _, _, rfl, s4, eF4, ?_⟩
            rw [List.take_add_one, hst]
            show TpAll _ _ (List.map rwD (rwsL (b.lst.take i ++ [st]) _ _))
            rw [rwsL_snoc, List.map_append, St.rws_blks, List.map_cons, ← yl]
            rw [hl2, List.take_length] at ty4
            exact ty4
        · obtain ⟨o4, o5, ys, rfl, s1, eF, ty⟩ := z
          rw [hl, List.take_length] at ty
          exact ⟨_, _, _, rfl, s1, eF, ty⟩
      · rintro _ H1 ⟨o4, o5, ys, rfl, s1, eF, ty⟩
        rw [← b.rws_lst] at ty
        exact ⟨_, rfl, q _ _ _ s1 hF eF ty⟩
end
def spRunA : Sp := fun vs H Q E => ∃ ns, spRun ns vs H Q E
def spSignA : Sp := fun vs H Q _ => ∃ (ns : List Str) (v : V) (b : Bk) (x : Int), vs = [v, .int x] ∧ Tp H v (.tuple b.ds) ∧ b.ok ns 4 ∧ b.sz < 16777216 ∧ b.wt ≤ 1000000 ∧ ∀ H', Sx [] H H' → Q (.int (sgn (b.run 0 (Wd.at x)).1.tot)) H'
theorem FnOk.ex {P : Program} {w : World} {K : PySem.W.Frag} {mg : Str → Option Value} {base : Heap} {CX : CXT} {k : Nat} {f : Addr} {fd : FuncData} {ps : List Str} {ι : Type} {sp : ι → Sp} (F : ∀ i, FnOk P w K mg base CX k f fd ps (sp i)) :
    FnOk P w K mg base CX k f fd ps (fun vs H Q E => ∃ i, sp i vs H Q E) :=
  ⟨fun vs H Q E ⟨i, h⟩ => (F i).len vs H Q E h, fun A o s H ar us vs Q E hr e b r ⟨i, h⟩ => (F i).run A o s H ar us vs Q E hr e b r h⟩
/-! ### what is known to the object -/
def Fz (a : Addr) (o : Obj) : HO := .frz o (.ext fun h => h.get? a = some o)
def cut1 (H : Hp) (a : Addr) : Hp := fun b => if b = a then none else H b
theorem cut1_ne {H : Hp} {a b : Addr} (h : b ≠ a) : cut1 H a b = H b := if_neg h
theorem cut1_at {H : Hp} {a : Addr} : cut1 H a a = none := if_pos rfl
theorem cut1_some {H : Hp} {a b : Addr} {o : HO} (e : cut1 H a b = some o) : b ≠ a ∧ H b = some o := by
  by_cases h : b = a
  · rw [h, cut1_at] at e; cases e
  · rw [cut1_ne h] at e; exact ⟨h, e⟩
theorem cut_upd {H : Hp} {a : Addr} {o : HO} (n : H a = none) : cut1 (upd H a o) a = H := by
  funext b
  by_cases h : b = a
  · rw [h, cut1_at, n]
  · rw [cut1_ne h, upd_ne h]
theorem upd_cut {H : Hp} {a : Addr} {o : HO} (e : H a = some o) : upd (cut1 H a) a o = H := by
  funext b
  by_cases h : b = a
  · rw [h, upd_same, e]
  · rw [upd_ne h, cut1_ne h]
theorem Sx.cut {ex : List Addr} {H H' : Hp} {a : Addr} {o : HO} (s : Sx ex (upd H a o) H') (n : H a = none) : Sx ex H (cut1 H' a) := fun b u hb e => by
  have h := ne_of_none e n
  rw [cut1_ne h]
  exact s b u hb (by rw [upd_ne h]; exact e)
theorem Sx.add {ex : List Addr} {H H' : Hp} {a : Addr} {o : HO} (s : Sx ex (cut1 H a) H') (e : H a = some o) : Sx ex H (upd H' a o) := fun b u hb q => by
  by_cases h : b = a
  · rw [h, upd_same, ← e, ← h]; exact q
  · rw [upd_ne h]; exact s b u hb (by rw [cut1_ne h]; exact q)
theorem Tk.cut {H : Hp} {a : Addr} {o : Obj} {u : HO} (e : H a = some (.frz o u)) : Tk H (cut1 H a) := fun b xs q => by
  rw [cut1_ne (fun z => by rw [z, e] at q; cases q)]
  exact q
section
variable {w : World} {P : Program} {K : PySem.W.Frag} {mg : Str → Option Value} {base : Heap} {A : Around} {outer : List Env} {s s' : Shared} {H H' : Hp} {a : Addr} {o : Obj} {h : Heap}
theorem fz_ok (e : h.get? a = some o) : ObjOk P w H h a (Fz a o) := ⟨e, e, ⟨o, e⟩, fun _ _ p st => st _ p⟩
theorem fz_at (hok : HOk P w H h) (e : H a = some (Fz a o)) : h.get? a = some o := (hok a _ e).1
theorem HOk.cut {ob : Obj} {u : HO} (hok : HOk P w H h) (e : H a = some (.frz ob u)) : HOk P w (cut1 H a) h := fun b v q => by
  obtain ⟨_, q⟩ := cut1_some q
  refine (hok b v q).stay (fun c x _ y => y) (fun c y => ?_) fun c xs y => ?_
  · rw [cut1_ne (fun z => by rw [z, e] at y; cases y)]; exact y
  · rw [cut1_ne (fun z => by rw [z, e] at y; cases y)]; exact y
theorem HOk.add (hok : HOk P w H h) (n : H a = none) (e : h.get? a = some o) : HOk P w (upd H a (Fz a o)) h := fun b v q => by
  by_cases hb : b = a
  · rw [hb, upd_same] at q
    cases q
    rw [hb]
    exact fz_ok e
  · rw [upd_ne hb] at q
    exact (hok b v q).stay (fun c x _ y => y) (fun c y => by rw [upd_ne (ne_of_none y n)]; exact y) fun c xs y => by rw [upd_ne (ne_of_none y n)]; exact y
theorem Env0.cut (e0 : Env0 P w K mg base A outer s H) (e : H a = some (Fz a o)) : Env0 P w K mg base A outer s (cut1 H a) :=
  ⟨e0.frames, e0.mod, fun b u q => ⟨(e0.bs b u q).1, by rw [cut1]; split; rfl; exact (e0.bs b u q).2⟩, e0.bsz, e0.funs, fun b hb => by rw [cut1]; split; rfl; exact e0.frf b hb, HOk.cut e0.hok e, e0.bare⟩
theorem Env0.add (e0 : Env0 P w K mg base A outer s H) (n : H a = none) (e : s.heap.get? a = some o) (nf : a ∉ frs outer) (nb : base.objs.size ≤ a) : Env0 P w K mg base A outer s (upd H a (Fz a o)) :=
  ⟨e0.frames, e0.mod, fun b u q => ⟨(e0.bs b u q).1, by rw [upd_ne (fun z => Nat.lt_irrefl _ (Nat.lt_of_lt_of_le (Heap.lt_size q) (by rw [z]; exact nb)))]; exact (e0.bs b u q).2⟩, e0.bsz, e0.funs, fun b hb => by rw [upd_ne (fun z => nf (by rw [← z]; exact hb))]; exact e0.frf b hb, HOk.add e0.hok n e, e0.bare⟩
/-- the callee knew the object at a, the caller need not -/
theorem CE.cut {Q : VK} {u : Value} (n : H a = none) (e : s.heap.get? a = some o) (nf : a ∉ frs outer) (c : CE outer P w (upd H a (Fz a o)) s (fun v H2 => Q v (cut1 H2 a)) u s') : CE outer P w H s Q u s' := by
  obtain ⟨v, H2, os, bare, un, hok, r, q⟩ := c
  have f2 : H2 a = some (Fz a o) := un.frzs a o _ upd_same
  refine ⟨v, cut1 H2 a, os, bare, ⟨fun b ob y z hb hx => ?_, fun b ob y z hb hx => ?_, fun b ob y z hx => ?_, un.there, fun b xs y => ?_, fun b ob x y => ?_, fun b ps y => ?_⟩, HOk.cut hok f2, r, q⟩
  · by_cases hz : b = a
    · rw [hz] at y ⊢
      rw [e] at y
      cases y
      exact fz_at hok f2
    · exact un.keep b ob y (by rw [upd_ne hz]; exact z) hb hx
  · exact un.slot b ob y (by rw [upd_ne (fun z => nf (by rw [← z]; exact hb))]; exact z) hb hx
  · by_cases hz : b = a
    · rw [hz, cut1_at]
    · rw [cut1_ne hz]; exact un.free b ob y (by rw [upd_ne hz]; exact z) hx
  · have hz := ne_of_none y n; rw [cut1_ne hz]; exact un.tups b xs (by rw [upd_ne hz]; exact y)
  · have hz := ne_of_none y n; rw [cut1_ne hz]; exact un.frzs b ob x (by rw [upd_ne hz]; exact y)
  · have hz := ne_of_none y n
    obtain ⟨more, m⟩ := un.tbls b ps (by rw [upd_ne hz]; exact y)
    exact ⟨more, by rw [cut1_ne hz]; exact m⟩
/-- the caller knows the object at a, the callee need not -/
theorem CE.add {Q : VK} {u : Value} (e0 : Env0 P w K mg base A outer s H) (e : H a = some (Fz a o)) (c : CE outer P w (cut1 H a) s (fun v H2 => Q v (upd H2 a (Fz a o))) u s') : CE outer P w H s Q u s' := by
  obtain ⟨v, H2, os, bare, un, hok, r, q⟩ := c
  have ea := fz_at e0.hok e
  have nf : a ∉ frs outer := fun z => by have := e0.frf a z; rw [e] at this; cases this
  have ka := un.keep a o ea cut1_at nf (by simp)
  have na := un.free a o ea cut1_at (by simp)
  refine ⟨v, upd H2 a (Fz a o), os, bare, ⟨fun b ob y z hb hx => ?_, fun b ob y z hb hx => ?_, fun b ob y z hx => ?_, un.there, fun b xs y => ?_, fun b ob x y => ?_, fun b ps y => ?_⟩, HOk.add hok na ka, r, q⟩
  · exact un.keep b ob y (by rw [cut1]; split; rfl; exact z) hb hx
  · exact un.slot b ob y (by rw [cut1]; split; rfl; exact z) hb hx
  · have hz : b ≠ a := fun k => by rw [k, e] at z; cases z
    rw [upd_ne hz]
    exact un.free b ob y (by rw [cut1_ne hz]; exact z) hx
  · have hz : b ≠ a := fun k => by rw [k, e] at y; cases y
    rw [upd_ne hz]; exact un.tups b xs (by rw [cut1_ne hz]; exact y)
  · by_cases hz : b = a
    · rw [hz, e] at y
      rw [hz, upd_same]
      exact y
    · rw [upd_ne hz]; exact un.frzs b ob x (by rw [cut1_ne hz]; exact y)
  · have hz : b ≠ a := fun k => by rw [k, e] at y; cases y
    obtain ⟨more, m⟩ := un.tbls b ps (by rw [cut1_ne hz]; exact y)
    exact ⟨more, by rw [upd_ne hz]; exact m⟩
theorem CR.cut {Q : VK} {r : Result} (n : H a = none) (e : s.heap.get? a = some o) (nf : a ∉ frs outer) (c : CR CX0 outer P w (upd H a (Fz a o)) s (fun v H2 => Q v (cut1 H2 a)) E0 r s') : CR CX0 outer P w H s Q E0 r s' := by
  cases r with
  | error x => exact c
  | ok f => cases f with
    | ret u => exact CE.cut n e nf c
    | _ => exact c
theorem CR.add {Q : VK} {r : Result} (e0 : Env0 P w K mg base A outer s H) (e : H a = some (Fz a o)) (c : CR CX0 outer P w (cut1 H a) s (fun v H2 => Q v (upd H2 a (Fz a o))) E0 r s') : CR CX0 outer P w H s Q E0 r s' := by
  cases r with
  | error x => exact c
  | ok f => cases f with
    | ret u => exact CE.add e0 e c
    | _ => exact c
end
/-! ### a function that is handed on and called -/
/-- T: how the abstract heap tells the function at f -/
structure HeldL (P : Program) (w : World) (K : PySem.W.Frag) (mg : Str → Option Value) (base : Heap) (k : Nat) (T : Addr → Hp → Prop) (sp : Sp) : Prop where
  st : ∀ f H H', T f H → Sx [] H H' → T f H'
  fn : ∀ (f : Addr) (H : Hp) (h : Heap), T f H → HOk P w H h → PySem.W.FnAt f h
  run : ∀ (A : Around) (outer : List Env) (s : Shared) (H : Hp) (f : Addr) (us : List Value) (vs : List V) (Q : VK), Room k A → Env0 P w K mg base A outer s H → T f H → Vals vs us → sp vs H Q E0 →
    codeAny (model P w) A (.call (.ref f) ⟨us, []⟩) (CR CX0 outer P w H s Q E0) s
def tCallT (i : Nat) (T : Addr → Hp → Prop) (sp : Sp) (t : TA) : TE := fun σ H Q => ∃ f, σ[i]? = some (some (.ref f)) ∧ T f H ∧ t σ H fun vs H1 => T f H1 ∧ sp vs H1 Q E0
theorem pe_callT {X : Cx} {i k : Nat} {T : Addr → Hp → Prop} {sp : Sp} {t : TA} {x : Str} {e : Expr} {es : List Expr} {p pos : Pos} (hh : HeldL X.prog X.w X.K X.mg X.base k T sp) (hr : Room k X.A) (hN : X.N[i]? = some x) (hv : Vis X.env.scope x) (ha : PA X (e :: es) t)
    (hd : (x == ("__debug__" : Str)) = false := by decide) (hcd : (x == ("__classdict__" : Str)) = false := by decide) (he : starEach (e :: es) X.env = (false, eval e X.env) :: starEach es X.env := by rfl) (hpl : (backTo pos (starEach es X.env)).any (·.1) = false := by rfl) :
    PE X (.Call (.Name x p) (e :: es) [] pos) (tCallT i T sp t) := by
  refine ⟨fun pins s σ H Q I ⟨f, hs, hT, ht⟩ => ?_⟩
  refine wpAny_Call_Name_kw (thn ((pe_var (pos := p) hN hv hd hcd).run pins s σ H (fun v H1 => v = .ref f ∧ H1 = H) I ⟨.ref f, hs, rfl, rfl⟩) fun u s1 ⟨v, H1, I1, r1, ev, eH⟩ => ?_)
  subst ev; rw [eH] at I1
  have eqv : (u = Value.ref f) := r1; subst eqv
  refine PySem.W.callWith_F (first := []) (hh.fn f H s1.heap hT I1.hok) (thn (ha.run pos pins s1 σ H _ I1 ht) fun us s2 ⟨vs, H2, I2, r, h1, q⟩ => ⟨hh.fn f H2 s2.heap h1 I2.hok, ?_⟩) he hpl
  show (wpAny _ _ (call (.ref f) us) _ _ _)
  refine wpAny_call (codeAny_mono (hh.run X.A X.stack s2 H2 f us vs Q hr I2.env0 h1 r q) fun rs s' hq => ?_)
  match rs, hq with
  | .ok (.ret u), hq => exact I2.after hq
/-! ### a lambda's body -/
structure LF where
  qual : Str
  params : Arguments
  body : Expr
  scope : Scope
  cl : List (Str × Addr)
  c : Addr
abbrev LF.obj (F : LF) (pm ctv : Value) : Obj := PySem.W.kla_obj "<lambda>" F.qual F.params F.body F.scope F.cl pm F.c ctv
abbrev LF.nf (F : LF) : NdefX.NF := ⟨"<lambda>", F.qual, F.params, [], F.scope, F.cl, F.c⟩
open NdefX in
theorem lam_run {P : Program} {w : World} {K : PySem.W.Frag} {mg : Str → Option Value} {base : Heap} {N ps fr : List Str} {F : LF} {f : Addr} {A : Around} {outer : List Env} {s : Shared} {H : Hp} {us : List Value} {vs : List V} {ws : List (Option V)} {Q : VK} {tb : TE} {k : Nat} {pm ctv : Value}
    (S : NScope N ps fr F.scope) (hb : ∀ (us : List Value), us.length = ps.length → bindArgs (PySem.W.kla_fn "<lambda>" F.qual F.params F.body F.scope F.cl pm (.ref F.c) ctv) ⟨us, []⟩ = pure (ps.zip us))
    (hbody : Room k (A.deeper (envF F.nf f s.heap.objs.size)) → PE (ncx CX0 P w K mg base N F.nf f A outer s H E0).nox F.body tb) (hr : Room (k + 1) A) (e0 : Env0 P w K mg base A outer s H) (hf : s.heap.get? f = some (F.obj pm ctv)) (hc : s.heap.CodeRec (.ref F.c) F.qual)
    (C : CellsAt F.cl fr ws s.heap H) (r : Vals vs us) (hl : vs.length = ps.length) (q : tb (startF N vs ws) H Q) : codeAny (model P w) A (.call (.ref f) ⟨us, []⟩) (CR CX0 outer P w H s Q E0) s := by
  have lim : (s.heap.NoLimit) := e0.mod.nolimit.keeps fun b o e => (e0.bs b o e).1
  refine PySem.W.kla_callFunE hr.depth hf rfl S.co S.gen rfl hc ?_
  rw [hb us (by rw [← r.length]; exact hl)]
  refine (wpAny_pure (wpAny_newFunctionEnv S.nocell (fun ⟨n, _⟩ hy => S.par n (List.of_mem_zip hy).1) (fun h₁ hns hsb => ⟨lim.fresh _ hsb, ?_⟩) S.kind))
  show codeAny _ _ (.expr F.body (envF F.nf f s.heap.objs.size)) _ _
  have kp : (∀ b o, s.heap.get? b = some o → h₁.get? b = some o) := fun b o e => hsb.extBut b o (Nat.ne_of_lt (Heap.lt_size e)) (Heap.get?_push_of_some _ e)
  have I : Inv (ncx CX0 P w K mg base N F.nf f A outer s H E0) [] (startF N vs ws) H { s with heap := h₁, toks := s.toks + (ps.zip us).length } := inv_startN S hr.hd e0 hl r C hns kp
  refine PySem.W.kla_codeExpr (wpAny_mono ((hbody (hr.deeper _)).nox.run [] _ _ H Q I q) (fun v s' hq => ?_) fun e s' hq => hq)
  rcases hq with ⟨w', H', J', rv, q⟩
  exact (⟨w', H', J'.os, J'.bare, J'.base, J'.hok, rv, q⟩)
/-- no capture -/
def Tf0 (F : LF) (f : Addr) (H : Hp) : Prop := F.cl = [] ∧ (∃ pm ctv, H f = some (Fz f (F.obj pm ctv))) ∧ H F.c = some (LamX.CodeO F.c F.qual)
/-- one captured name y, its cell at cc holds v -/
def Tf1 (F : LF) (y : Str) (cc : Addr) (v : V) (f : Addr) (H : Hp) : Prop := F.cl = [(y, cc)] ∧ (∃ pm ctv, H f = some (Fz f (F.obj pm ctv))) ∧ H F.c = some (LamX.CodeO F.c F.qual) ∧ ∃ o u, H cc = some (Fz cc o) ∧ o.data = .cell (some u) ∧ RelV v u
section
variable {w : World} {P : Program} {K : PySem.W.Frag} {mg : Str → Option Value} {base : Heap}
open NdefX in
theorem held0 {F : LF} {N : List Str} {a : Str} {tb : TE} {k : Nat} {sp : Sp} (S : NScope N [a] [] F.scope) (hb : ∀ (pm ctv : Value) (us : List Value), us.length = 1 → bindArgs (PySem.W.kla_fn "<lambda>" F.qual F.params F.body F.scope [] pm (.ref F.c) ctv) ⟨us, []⟩ = pure ([a].zip us))
    (hbody : ∀ (f : Addr) (A : Around) (outer : List Env) (s : Shared) (H : Hp), F.cl = [] → Room k (A.deeper (envF F.nf f s.heap.objs.size)) → PE (ncx CX0 P w K mg base N F.nf f A outer s H E0).nox F.body tb)
    (len : ∀ vs H Q, sp vs H Q E0 → vs.length = 1) (hq : ∀ vs H Q, sp vs H Q E0 → tb (startF N vs []) H Q) : HeldL P w K mg base (k + 1) (Tf0 F) sp := by
  refine ⟨fun f H H' ⟨h0, ⟨pm, ctv, h1⟩, h2⟩ s => ⟨h0, ⟨pm, ctv, s _ _ (by simp) h1⟩, s _ _ (by simp) h2⟩, fun f H h ⟨h0, ⟨pm, ctv, h1⟩, h2⟩ hok => ⟨_, _, _, _, fz_at hok h1⟩, fun A outer s H f us vs Q hr e0 ⟨h0, ⟨pm, ctv, h1⟩, h2⟩ r q => ?_⟩
  refine lam_run (ws := []) S (fun us hl => ?_) (fun hr2 => hbody f A outer s H h0 hr2) hr e0 (fz_at e0.hok h1) (codeO_at e0.hok h2) ?_ r (len _ _ _ q) (hq _ _ _ q)
  · rw [h0]; exact hb pm ctv us hl
  · rw [h0]
    exact ⟨rfl, fun y c z => (by cases z), fun x y c z => (by cases z), fun i y z => (by simp at z)⟩
open NdefX in
theorem held1 {F : LF} {N : List Str} {a y : Str} {cc : Addr} {v : V} {tb : TE} {k : Nat} {sp : Sp} (S : NScope N [a] [y] F.scope) (hb : ∀ (pm ctv : Value) (us : List Value), us.length = 1 → bindArgs (PySem.W.kla_fn "<lambda>" F.qual F.params F.body F.scope [(y, cc)] pm (.ref F.c) ctv) ⟨us, []⟩ = pure ([a].zip us))
    (hbody : ∀ (f : Addr) (A : Around) (outer : List Env) (s : Shared) (H : Hp), F.cl = [(y, cc)] → Room k (A.deeper (envF F.nf f s.heap.objs.size)) → PE (ncx CX0 P w K mg base N F.nf f A outer s H E0).nox F.body tb)
    (len : ∀ vs H Q, sp vs H Q E0 → vs.length = 1) (hq : ∀ vs H Q (o : Obj), H cc = some (Fz cc o) → sp vs H Q E0 → tb (startF N vs [some v]) (cut1 H cc) (fun r H2 => Q r (upd H2 cc (Fz cc o)))) : HeldL P w K mg base (k + 1) (Tf1 F y cc v) sp := by
  refine ⟨fun f H H' ⟨h0, ⟨pm, ctv, h1⟩, h2, o, u, h3, h4⟩ s => ⟨h0, ⟨pm, ctv, s _ _ (by simp) h1⟩, s _ _ (by simp) h2, o, u, s _ _ (by simp) h3, h4⟩, fun f H h ⟨h0, ⟨pm, ctv, h1⟩, h2⟩ hok => ⟨_, _, _, _, fz_at hok h1⟩, fun A outer s H f us vs Q hr e0 ⟨h0, ⟨pm, ctv, h1⟩, h2, o, u, h3, h4, h5⟩ r q => ?_⟩
  have ef := fz_at e0.hok h1
  have ec := fz_at e0.hok h3
  refine codeAny_mono (lam_run (ws := [some v]) (Q := fun r H2 => Q r (upd H2 cc (Fz cc o))) (H := cut1 H cc) S (fun us hl => ?_) (fun hr2 => hbody f A outer s (cut1 H cc) h0 hr2) hr (Env0.cut e0 h3) ef (codeO_at e0.hok h2) ?_ r (len _ _ _ q) (hq _ _ _ o h3 q)) fun rs s' h => CR.add e0 h3 h
  · rw [h0]; exact hb pm ctv us hl
  · rw [h0]
    have look : ∀ {z : Str} {c : Addr}, ([(y, cc)] : List (Str × Addr)).lookup z = some c → z = y ∧ c = cc := fun {z c} h => by
      by_cases e : z = y
      · subst e
        simp [List.lookup] at h
        exact ⟨rfl, h.symm⟩
      · have e2 : (z == y) = false := beq_eq_false_iff_ne.mpr e
        simp [List.lookup, e2] at h
    refine ⟨rfl, fun z c h => ?_, fun x z c ha hb' => (look ha).1.trans (look hb').1.symm, fun i z hz => ?_⟩
    · obtain ⟨_, rfl⟩ := look h
      exact ⟨cut1_at, _, o, ec, h4⟩
    · cases i with
      | zero =>
        obtain rfl : y = z := Option.some.inj hz
        refine ⟨cc, by simp [List.lookup], fun v' hv => ?_⟩
        obtain rfl : v = v' := Option.some.inj (Option.some.inj hv)
        exact ⟨u, h5, o, ec, h4⟩
      | succ i => simp at hz
end
/-! ### a lambda is made -/
/-- tables: place, name of the code objects that they tell -/
def tLambda (T : List (Addr × Str)) (P : Addr) (F : Addr → LF) : TE := fun σ H Q => LamX.Tabs T H ∧ ∀ (f c' : Addr) (pm ctv : Value) (H2 : Hp), Sx [P] H H2 → LamX.Tabs T H2 → H f = none → H2 f = none → H2 c' = some (LamX.CodeO c' (F c').qual) → (∀ b, b ≠ c' → H b = none → H2 b = none) →
  Q (.ref f) (upd H2 f (Fz f ((F c').obj pm ctv)))
section
variable {X : Cx}
open LamX in
theorem pe_lambda {T : List (Addr × Str)} {c P : Addr} {params : Arguments} {body : Expr} {scope : Scope} {pos : Pos} {cl : List (Str × Addr)} (TB : TabB X.base X.mg c P) (hcode : X.env.code = .ref c)
    (hm : (P, X.env.qual ++ "<lambda>") ∈ T) (hu : ∀ p ∈ T, p.1 = P → p.2 = X.env.qual ++ "<lambda>") (hdef : defaultsOf params X.env = ([], [])) (hfree : X.Ok → ∀ y ∈ scope.names, y.2 = .free → ∃ c, X.env.cells.lookup y.1 = some c)
    (hcl : cloFrom X.env.cells scope.names [] = cl) : PE X (.Lambda params body scope pos) (tLambda T P fun c' => ⟨X.env.qual ++ "<lambda>", params, body, scope, cl, c'⟩) := by
  subst hcl
  refine ⟨fun pins s σ H Q I ⟨hT, h⟩ => ?_⟩
  rcases hT _ hm with ⟨ps, hP, ht, ha⟩
  have hP : H P = some (.tbl ps) := hP
  have hfree := hfree I.ok
  have bP : (s.heap.BuiltinsAt X.mg P) := TB.bm.keeps I.bk
  have hP' : (s.heap.get? P = some { cls := .none, data := .fields ps }) := I.hok P _ hP
  refine (PySem.W.kla_eval hdef ?_)
  cases hc : (codeAmong pos ps.toList) with
  | some cv =>
    obtain ⟨c', rfl, hco⟩ := ha pos cv hc
    refine (PySem.W.kla_makeFunctionHit (mg := X.mg) (c := c) (P := P) (ps := ps) (closure_ok hfree) I.ok.glob (I.mod.glob.keeps I.bk) hcode (TB.code.keeps I.bk) hP' ht hc bP fun ctv h' tk hx hsz => ?_)
    exact ⟨.ref _, _, I.laid (t' := tk) (fun b o e => Heap.get?_push_of_some _ (hx b o e)) hsz (fz_ok (Heap.get?_push_size _ rfl)), rfl, h h'.objs.size c' _ ctv H (Sx.refl _) hT (I.hok.fresh hsz) (I.hok.fresh hsz) hco fun _ _ n => n⟩
  | none =>
    refine (PySem.W.kla_makeFunction (mg := X.mg) (c := c) (P := P) (ps := ps) (closure_ok hfree) I.ok.glob (I.mod.glob.keeps I.bk) hcode (TB.code.keeps I.bk) hP' ht hc TB.gP bP fun c' ctv h' tk hx hge hlt hrec htb => ?_)
    rcases hrec with ⟨c2, oc, vs, t, e2, hoc, hd, hv⟩
    cases e2
    have nC : (H c' = none) := I.hok.fresh hge
    have hsz : (s.heap.objs.size ≤ h'.objs.size) := Nat.le_trans hge (Nat.le_of_lt hlt)
    have nPc : P ≠ c' := ne_of_none hP nC
    have I1 := inv_table (q := X.env.qual ++ "<lambda>") (t' := tk) (more := #[rawInt pos.line, rawInt pos.col, .ref c']) I hP hx htb hge ⟨oc, vs, t, hoc, hd, hv⟩
    have kH : ∀ b, b ≠ P → b ≠ c' → upd (upd H P (.tbl (ps ++ #[rawInt pos.line, rawInt pos.col, .ref c']))) c' (CodeO c' (X.env.qual ++ "<lambda>")) b = H b := fun b h1 h2 => by rw [upd_ne h2, upd_ne h1]
    have kC : ∀ b o, H b = some o → (∀ qs, o ≠ .tbl qs) → upd (upd H P (.tbl (ps ++ #[rawInt pos.line, rawInt pos.col, .ref c']))) c' (CodeO c' (X.env.qual ++ "<lambda>")) b = some o := fun b o e n => by
      rw [kH b (fun z => n ps (Option.some.inj (e.symm.trans (by rw [z]; exact hP)))) (ne_of_none e nC)]
      exact e
    have I2 := I1.laid (t' := tk) (h' := h'.push (PySem.W.kla_obj "<lambda>" (X.env.qual ++ "<lambda>") params body scope (cloFrom X.env.cells scope.names []) ((X.mg "__name__").getD .none) c' ctv)) (a := h'.objs.size) (o := Fz h'.objs.size (PySem.W.kla_obj "<lambda>" (X.env.qual ++ "<lambda>") params body scope (cloFrom X.env.cells scope.names []) ((X.mg "__name__").getD .none) c' ctv))
      (fun b o e => Heap.get?_push_of_some _ e) (Nat.le_refl _) (fz_ok (Heap.get?_push_size _ rfl))
    refine ⟨.ref _, _, I2, rfl, h h'.objs.size c' _ ctv _ (fun b o hb e => by rw [kH b (by simpa using hb) (ne_of_none e nC)]; exact e) (fun p hp => ?_) (I.hok.fresh hsz) ?_ upd_same fun b hb n => ?_⟩
    · by_cases hb : p.1 = P
      · rw [hu p hp hb, hb]
        have eL : ((ps ++ #[rawInt pos.line, rawInt pos.col, .ref c']).toList = ps.toList ++ [rawInt pos.line, rawInt pos.col, .ref c']) := by simp
        refine ⟨_, by rw [upd_ne nPc, upd_same], by rw [eL]; exact PySem.TriplesOk_snoc _ _ _ _ ht, fun p' cv hcv => ?_⟩
        rw [eL] at hcv
        obtain z | z := among_app _ ht hcv
        · rcases ha p' cv z with ⟨c0, e1, e2⟩
          exact ⟨c0, e1, kC _ _ e2 codeO_ne⟩
        · exact ⟨c', z, upd_same⟩
      · obtain ⟨qs, a1, a2, a3⟩ := hT p hp
        refine ⟨qs, by rw [kH _ hb (ne_of_none a1 nC)]; exact a1, a2, fun p' cv hcv => ?_⟩
        rcases a3 p' cv hcv with ⟨c0, e1, e2⟩
        exact ⟨c0, e1, kC _ _ e2 codeO_ne⟩
    · rw [kH _ (Nat.ne_of_gt (Nat.lt_of_lt_of_le (Heap.lt_size hP') hsz)) (Nat.ne_of_gt hlt)]
      exact I.hok.fresh hsz
    · rw [kH b (fun z => by rw [z, hP] at n; cases n) hb]
      exact n
/-- a call while a cell of the caller's (the name y in slot j) is told to the callee -/
def tCallC (X : Cx) (y : Str) (j : Nat) (sp : Sp) (t : TA) : TE := fun σ H Q => t σ H fun vs H1 => ∃ v, σ[j]? = some (some v) ∧ ∀ (cc : Addr) (oc : Obj) (u : Value), X.env.cells.lookup y = some cc → H1 cc = none → oc.data = .cell (some u) → RelV v u →
  sp vs (upd H1 cc (Fz cc oc)) (fun r H3 => Q r (cut1 H3 cc)) E0
theorem pe_callC {x y : Str} {p pos : Pos} {e : Expr} {es : List Expr} {t : TA} {k j : Nat} {f : Addr} {fd : FuncData} {ps : List Str} {sp : Sp} (F : FnOk X.prog X.w X.K X.mg X.base CX0 k f fd ps sp) (hr : Room k X.A) (hg : Gl X x) (hm : X.mg x = some (.ref f)) (hk : PySem.W.keepIn X.K (.ref f) = true)
    (hb : Binds X.K fd ps []) (ha : PA X (e :: es) t) (hN : X.N[j]? = some y) (hy : X.env.scope.names.lookup y = some .cell) (hfn : X.fn y = true) (hdb : (x == ("__debug__" : Str)) = false := by decide) (he : starEach (e :: es) X.env = (false, eval e X.env) :: starEach es X.env := by rfl) (hpl : (backTo pos (starEach es X.env)).any (·.1) = false := by rfl) :
    PE X (.Call (.Name x p) (e :: es) [] pos) (tCallC X y j sp t) := by
  refine ⟨fun pins s σ H Q I h => wpAny_Call_Name_kw (ld_glob I hg hm ?_ hdb)⟩
  refine PySem.W.callWith_K (h₀ := X.base) I.ok.mod.kin hk (thn (ha.run pos pins s σ H _ I h) fun us s1 ⟨vs, H1, I1, r, v, hv, q⟩ => ⟨I1.kIn, ?_⟩) he hpl
  obtain ⟨cc, hcc⟩ := I1.ok.has y (.inl hy)
  obtain ⟨m, hn, hl⟩ := I1.loc
  obtain ⟨u, ru, l⟩ := hl j y v hN hv (.inr (.inl hy))
  have ⟨oc, ho, hd⟩ : s1.heap.IsCell cc (some u) := by
    rcases l with ⟨z, _⟩ | ⟨_, c2, hc2, z⟩
    · have z' : (X.env.scope.names.lookup y = some .local) := z
      rw [hy] at z'; cases z'
    · rw [hcc] at hc2; cases hc2; exact z
  have nc : H1 cc = none := I1.freeC y cc hcc
  have above : X.s_0.heap.objs.size ≤ cc := I1.ok.cab y cc hfn hcc
  have nf : cc ∉ frs X.stack := fun hb => by
    rcases List.mem_cons.1 (I1.stkSub cc hb) with z | z
    · obtain ⟨ob, es', ep, ho2, hd2, _⟩ := hn
      rw [z, ho2] at ho
      cases ho
      rw [hd2] at hd; cases hd
    · obtain ⟨_, ob, ho2, _⟩ := I1.ok.funs.mem z
      exact Nat.lt_irrefl _ (Nat.lt_of_lt_of_le (Heap.lt_size ho2) above)
  have q := q cc oc u hcc nc hd ru
  have ll : (us ++ []).length = ps.length := by rw [List.append_nil, ← r.length]; exact F.len _ _ _ _ q
  have z := hb s1 us I1.kIn ll
  rw [List.append_nil] at z
  refine wpAny_call (codeAny_mono (F.run X.A X.stack s1 _ ⟨us, []⟩ us vs _ E0 hr (Env0.add I1.env0 nc ho nf (Nat.le_trans I1.ok.bsz above)) z r q) fun rs s' hq => ?_)
  match rs, CR.cut nc ho nf hq with
  | .ok (.ret u'), hq => exact I1.after hq
end
abbrev sPSumOver : Stmt := topS 9
abbrev nPSumOver : List Str := ["block", "own", "total", "statement", "inner", "times", "part"]
theorem scPSumOver : FnScope nPSumOver ["block", "own"] (defScope sPSumOver) := ⟨rfl, rfl, rfl, by decide +kernel, rfl, by decide +kernel, by decide +kernel⟩
/-! ### sums over statements -/
def Ts.bare : Ts → Ts
  | .not t => t.bare
  | t => t
def Ts.hd : Ts → Str
  | .rest _ _ _ => "rest"
  | .less _ _ => "less"
  | .not _ => "not"
theorem Ts.at_ {H : Hp} {x : V} {t : Ts} (h : Tp H x t.d) : ∃ a xs, x = .ref a ∧ H a = some (.tup (.str t.hd :: xs)) := by
  have e : ∃ ds, t.d = .tuple (.str t.hd :: ds) := by cases t <;> exact ⟨_, rfl⟩
  obtain ⟨ds, e⟩ := e
  rw [e] at h
  obtain ⟨a, xs, rfl, ha, hx⟩ := h.tuple
  cases hx with
  | cons h hs =>
    obtain rfl := tpS h
    exact ⟨a, _, rfl, ha⟩
def Ts.nots : Ts → Nat
  | .not t => t.nots + 1
  | _ => 0
/-- whether it has a test with this word -/
def St.tw (z : Str) : St → Bool
  | .ite t _ _ => decide (V.str t.bare.hd = V.str z)
  | _ => false
mutual
def St.sumO (own : St → Int) : St → Int
  | .ite t y n => own (.ite t y n) + (y.sumO own + n.sumO own)
  | .rep k y => own (.rep k y) + k * y.sumO own
  | s => own s
def Bk.sumO (own : St → Int) : Bk → Int
  | .nil => 0
  | .cons s b => s.sumO own + b.sumO own
end
def St.times : St → Int
  | .rep k _ => k
  | _ => 1
theorem St.sumO_eq (own : St → Int) (s : St) : s.sumO own = own s + s.times * (s.blks.map fun b => b.sumO own).sum := by
  cases s with
  | ite t y n => simp [St.sumO, St.times, St.blks]
  | rep k y => simp [St.sumO, St.times, St.blks]
  | set z e => simp [St.sumO, St.times, St.blks]
  | pay e => simp [St.sumO, St.times, St.blks]
  | stop => simp [St.sumO, St.times, St.blks]
theorem Bk.sumO_lst (own : St → Int) : ∀ b : Bk, b.sumO own = (b.lst.map fun s => s.sumO own).sum
  | .nil => rfl
  | .cons s b => by rw [Bk.sumO, Bk.lst, List.map_cons, List.sum_cons, Bk.sumO_lst own b]
/-- the factors are small, blocks lie at most so deep -/
def Bk.fac (b : Bk) : Nat → Prop
  | 0 => False
  | d + 1 => b.lst.length < 16777216 ∧ ∀ s ∈ b.lst, -1000000 ≤ s.times ∧ s.times ≤ 1000000 ∧ ∀ y ∈ s.blks, y.fac d
theorem sne {x y : Str} (h : (x == y) = false) : ¬ (decide (V.str x = V.str y) = true) := fun z => by
  have e := V.str.inj (of_decide_eq_true z)
  rw [e] at h
  simp at h
def spBare : Sp := fun vs H Q _ => ∃ (v : V) (t : Ts), vs = [v] ∧ Tp H v t.d ∧ ∀ v', Tp H v' t.bare.d → Q v' H
def spTestsWith : Sp := fun vs H Q _ => ∃ (v : V) (s : St) (z : Str), vs = [v, .str z] ∧ Tp H v s.d ∧ Q (.bl (s.tw z)) H
def spOwn (own : St → Int) : Sp := fun vs H Q _ => ∃ (v : V) (s : St), vs = [v] ∧ Tp H v s.d ∧ ∀ H', Sx [] H H' → Q (.int (own s)) H'
def spSum (T : Addr → Hp → Prop) (own : St → Int) (d : Nat) : Sp := fun vs H Q _ => ∃ (v : V) (b : Bk) (f : Addr), vs = [v, .ref f] ∧ Tp H v (.tuple b.ds) ∧ T f H ∧ b.fac d ∧ ∀ H', Sx [] H H' → Q (.int (b.sumO own)) H'
section
variable {w : World} {P : Program} {K : PySem.W.Frag} {mg : Str → Option Value} {base : Heap}
theorem ok_psum {f fB : Addr} {fd fdB : FuncData} {T : Addr → Hp → Prop} {own : St → Int} (F_psum_over : Fun K "sum_over" "sum_over" sPSumOver f fd) (F_pblocks_of : Fun K "blocks_of" "blocks_of" sPBlocksOf fB fdB) (G_pblocks_of : FnOk P w K mg base CX0 1 fB fdB ["statement"] spBlocks)
    (b_psum_over : Binds K fd ["block", "own"] []) (b_pblocks_of : Binds K fdB ["statement"] []) (m_psum_over : mg "sum_over" = some (.ref f)) (m_pblocks_of : mg "blocks_of" = some (.ref fB)) (z_sum : mg "sum" = none) (hh_own : HeldL P w K mg base 4 T (spOwn own)) :
    ∀ d : Nat, FnOk P w K mg base CX0 (d + 5) f fd ["block", "own"] (spSum T own d) := by
  intro d
  induction d with
  | zero => exact ⟨fun vs H Q E h => by obtain ⟨_, _, _, rfl, _⟩ := h; rfl, fun _ _ _ _ _ _ _ _ _ _ _ _ _ h => by
      obtain ⟨_, _, _, _, _, _, h, _⟩ := h
      exact h.elim⟩
  | succ d G_psum_over =>
    refine F_psum_over.ok scPSumOver (fun vs H Q E h => ?_) (fun cdv A outer s H vs Q E hr h => ?_)
    · obtain ⟨_, _, _, rfl, _⟩ := h
      rfl
    · obtain ⟨v, b, f0, rfl, t, hT, ⟨hlen, hf⟩, q⟩ := h
      refine ⟨_, (pss_cons (ps_set (i := 2) scPSumOver.nd rfl (by first | exact Or.inl rfl | exact Or.inr rfl) pe_int)
      (C8.pss_cut (ps_for PassesOwn.never rfl (pi_tup (pv 0)) (pg_name (i := 3) scPSumOver.nd rfl (by first | exact Or.inl rfl | exact Or.inr rfl)) (pss_cons (ps_set (i := 4) scPSumOver.nd rfl (by first | exact Or.inl rfl | exact Or.inr rfl) (pe_callB (cr_sum rfl) (by rfl) z_sum boot_sum (pa_cons (pe_lc (own := [("part", 6)]) (g := gName 6) (tt := tYes) rfl scPSumOver.nd (pi_tup (pe_call G_pblocks_of (hr.mono (by omega)) (by rfl) m_pblocks_of F_pblocks_of.kp b_pblocks_of .nil pass0 (pa_cons (pv 3) pa_nil))) (blkOk_by (N := nPSumOver) (sc := defScope sPSumOver) (by decide +kernel)) (fun _ _ _ _ _ => (pg_name (i := 6) scPSumOver.nd rfl (by first | exact Or.inl rfl | exact Or.inr rfl))) (fun _ _ _ _ _ => pts_nil) (fun _ _ _ _ _ => (pe_call G_psum_over (hr.mono (by omega)) (by rfl) m_psum_over F_psum_over.kp b_psum_over .nil pass0 (pa_cons (pv 6) (pa_cons (pv 1) pa_nil))))) pa_nil)))
      (C8.pss_cut (ps_set (i := 5) scPSumOver.nd rfl (by first | exact Or.inl rfl | exact Or.inr rfl) (pe_ifExp (pt_cmpR op_eq (pe_ix ix_tup (pv 3) pe_int (fun _ _ => rfl)) pe_str (nomark _)) (pe_ix ix_tup (pv 3) pe_int (fun _ _ => rfl)) pe_int))
      (pss_one (ps_aug (i := 2) scPSumOver.nd rfl (.inl rfl) (pe_op op_add (pe_callT (i := 1) hh_own (hr.mono (by omega)) rfl (by first | exact .inl rfl | exact .inr (.inl rfl)) (pa_cons (pv 3) pa_nil)) (pe_op op_mul (pv 5) (pv 4))) ip_add)))))
      (pss_one (ps_ret (pv 2))))), ?_⟩
      obtain ⟨a, xs, rfl, ha, hx⟩ := t.tuple
      rw [b.ds_lst] at hx
      obtain ⟨hl, hg⟩ := hx.lst
      refine ⟨fun σ H1 => ∃ o3 o4 o5 o6, σ = [some (.ref a), some (.ref f0), some (.int (b.sumO own)), o3, o4, o5, o6] ∧ Sx [] H H1, ?_, ?_⟩
      · refine ⟨_, rfl, a, rfl, ⟨_, SqT.of ha⟩, for_tup (xs := xs)
          (fun i σ H1 => ∃ o3 o4 o5 o6, σ = [some (.ref a), some (.ref f0), some (.int ((b.lst.take i).map fun s => s.sumO own).sum), o3, o4, o5, o6] ∧ Sx [] H H1)
          ⟨_, _, _, _, rfl, Sx.refl _⟩ (fun i σ H1 _ z => by obtain ⟨_, _, _, _, _, z⟩ := z; exact SqT.of (z _ _ (by simp) ha)) (fun i x σ H1 hi z => ?_) (fun σ H1 z => ?_)⟩
        · obtain ⟨o3, o4, o5, o6, rfl, s1⟩ := z
          obtain ⟨st, hst, tst⟩ := hg i x hi
          have hmem : st ∈ b.lst := List.mem_of_getElem? hst
          obtain ⟨f1, f2, f3⟩ := hf st hmem
          have t1 := tst.keep s1.tk0
          refine gnm ?_
          refine ⟨_, rfl, x, st, rfl, t1, fun H2 v2 s2 t2 => ?_⟩
          obtain ⟨a2, ys, rfl, ha2, hy⟩ := t2.tuple
          rw [st.parts_blks] at hy
          obtain ⟨hl2, hg2⟩ := hy.lst
          have hT1 : T f0 H1 := hh_own.st _ _ _ hT s1
          refine ⟨a2, rfl, ⟨_, SqT.of ha2⟩, fun D hD => lc_tup (xs := ys)
            (fun j H3 => Sx [] H2 H3 ∧ H3 D = some (.lst (((st.blks.map fun b => b.sumO own).take j).map V.int))) ⟨Sx.n0 hD, upd_same⟩ (fun i H3 _ p => SqT.of (p.1 _ _ (by simp) ha2)) (fun j y H3 hj p => ?_) (fun H3 p => ?_)⟩
          · obtain ⟨p3, p4⟩ := p
            obtain ⟨b2, hb2, tb2⟩ := hg2 j y hj
            refine ⟨rfl, ?_⟩
            refine ⟨_, rfl, _, rfl, y, b2, f0, rfl, tb2.keep p3.tk0, hh_own.st _ _ _ hT1 (s2.trans p3), f3 b2 (List.mem_of_getElem? hb2), fun H4 s4 => ?_⟩
            have blk2 : st.blks.length ≤ 2 := by cases st <;> simp [St.blks]
            refine ⟨_, s4 _ _ (by simp) p4, lt_line (by rw [List.length_map, List.length_take, List.length_map]; omega), ?_, ?_⟩
            · exact (p3.trans s4).own hD
            · rw [upd_same, List.take_add_one, List.getElem?_map, hb2]
              simp
          · obtain ⟨p3, p4⟩ := p
            rw [hl2, List.take_of_length_le (by rw [List.length_map]; exact Nat.le_refl _)] at p4
            refine ⟨D, _, rfl, SqL.of p4, ?_⟩
            have s3 : Sx [] H H3 := (s1.trans s2).trans p3
            have t3 := tst.keep s3.tk0
            refine ⟨fun σ H4 => ∃ o6, σ = [some (.ref a), some (.ref f0), some (.int ((b.lst.take i).map fun s => s.sumO own).sum), some x, some (.int (st.blks.map fun b => b.sumO own).sum), some (.int st.times), o6] ∧ H4 = H3, ?_, ?_⟩
            · obtain ⟨ax, xs', rfl, hax⟩ := St.at_ t3
              refine ⟨_, rfl, ax, _, _, .str st.hd, rfl, rfl, SqT.of hax, at0 _ _, rfl, _, rfl, ?_⟩
              cases st with
              | rep k y =>
                obtain ⟨a', p1, p2, p3', ea, hA, q1, q2, q3⟩ := tp3 t3
                cases ea
                obtain rfl := tpI q2
                exact iteP (by simp only [St.hd]; decide +kernel) ⟨_, rfl, ax, _, _, _, rfl, rfl, SqT.of hA, rfl, _, rfl, rfl⟩
              | set z e => exact iteN (sne (show (("set" : Str) == "repeat") = false by decide +kernel)) ⟨_, rfl, rfl⟩
              | pay e => exact iteN (sne (show (("pay" : Str) == "repeat") = false by decide +kernel)) ⟨_, rfl, rfl⟩
              | stop => exact iteN (sne (show (("stop" : Str) == "repeat") = false by decide +kernel)) ⟨_, rfl, rfl⟩
              | ite ts y n => exact iteN (sne (show (("if" : Str) == "repeat") = false by decide +kernel)) ⟨_, rfl, rfl⟩
            · rintro _ _ ⟨o6, rfl, rfl⟩
              refine ⟨_, rfl, f0, rfl, hh_own.st _ _ _ hT s3, _, rfl, hh_own.st _ _ _ hT s3, x, st, rfl, t3, fun H5 s5 => ?_⟩
              refine ⟨_, rfl, _, rfl, _, _, rfl, rfl, .inl ⟨by omega, by omega⟩, ?_⟩
              refine ⟨_, _, rfl, rfl, _, _, rfl, rfl, ?_⟩
              have e : ((b.lst.take (i + 1)).map fun s => s.sumO own).sum = ((b.lst.take i).map fun s => s.sumO own).sum + (own st + st.times * (st.blks.map fun b => b.sumO own).sum) := by
                rw [List.take_add_one, hst, List.map_append, List.sum_append, ← St.sumO_eq]
                simp
              exact ⟨some x, some (.int (st.blks.map fun b => b.sumO own).sum), some (.int st.times), o6, by rw [e]; rfl, s3.trans s5⟩
        · obtain ⟨o3, o4, o5, o6, rfl, s1⟩ := z
          exact ⟨o3, o4, o5, o6, by rw [hl, List.take_length, ← Bk.sumO_lst], s1⟩
      · rintro _ H1 ⟨o3, o4, o5, o6, rfl, s1⟩
        exact ⟨_, rfl, q _ s1⟩
end
def spLW (d : Nat) : Sp := fun vs H Q _ => ∃ (v : V) (b : Bk), vs = [v] ∧ Tp H v (.tuple b.ds) ∧ b.fac d ∧ ∀ H', Sx [] H H' → Q (.int (b.sumO fun _ => 1)) H'
section
variable {w : World} {P : Program} {K : PySem.W.Frag} {mg : Str → Option Value} {base : Heap}
theorem ok_lweight {f fP : Addr} {fd fdP : FuncData} (F_weight : Fun K "_law_weight" "_law_weight" sWeight f fd) (F_parts : Fun K "_law_parts" "_law_parts" sParts fP fdP) (G_parts : FnOk P w K mg base CX0 1 fP fdP ["_law_row_here"] spParts)
    (b_weight : Binds K fd ["_law_block_here"] []) (b_parts : Binds K fdP ["_law_row_here"] []) (m_weight : mg "_law_weight" = some (.ref f)) (m_parts : mg "_law_parts" = some (.ref fP)) (z_sum : mg "sum" = none) :
    ∀ d : Nat, FnOk P w K mg base CX0 (d + 2) f fd ["_law_block_here"] (spLW d) := by
  intro d
  induction d with
  | zero => exact ⟨fun vs H Q E h => by obtain ⟨_, _, rfl, _⟩ := h; rfl, fun _ _ _ _ _ _ _ _ _ _ _ _ _ h => by
      obtain ⟨_, _, _, _, h, _⟩ := h
      exact h.elim⟩
  | succ d G_weight =>
    refine F_weight.ok scWeight (fun vs H Q E h => ?_) (fun cdv A outer s H vs Q E hr h => ?_)
    · obtain ⟨_, _, rfl, _⟩ := h
      rfl
    · obtain ⟨v, b, rfl, t, ⟨hlen, hf⟩, q⟩ := h
      refine ⟨_, (pss_cons (ps_set (i := 1) scWeight.nd rfl (by first | exact Or.inl rfl | exact Or.inr rfl) pe_int)
      (C8.pss_cut (ps_for PassesOwn.never rfl (pi_tup (pv 0)) (pg_name (i := 2) scWeight.nd rfl (by first | exact Or.inl rfl | exact Or.inr rfl)) (pss_cons (ps_set (i := 3) scWeight.nd rfl (by first | exact Or.inl rfl | exact Or.inr rfl) (pe_callB (cr_sum rfl) (by rfl) z_sum boot_sum (pa_cons (pe_lc (own := [("_law_part", 4)]) (g := gName 4) (tt := tYes) rfl scWeight.nd (pi_tup (pe_call G_parts (hr.mono (by omega)) (by rfl) m_parts F_parts.kp b_parts .nil pass0 (pa_cons (pv 2) pa_nil))) (blkOk_by (N := nWeight) (sc := defScope sWeight) (by decide +kernel)) (fun _ _ _ _ _ => (pg_name (i := 4) scWeight.nd rfl (by first | exact Or.inl rfl | exact Or.inr rfl))) (fun _ _ _ _ _ => pts_nil) (fun _ _ _ _ _ => (pe_call G_weight (hr.mono (by omega)) (by rfl) m_weight F_weight.kp b_weight .nil pass0 (pa_cons (pv 4) pa_nil)))) pa_nil)))
      (pss_one (ps_set (i := 1) scWeight.nd rfl (by first | exact Or.inl rfl | exact Or.inr rfl) (pe_op op_add (pe_op op_add (pv 1) pe_int) (pe_op op_mul (pv 3) (pe_ifExp (pt_cmpR op_eq (pe_ix ix_tup (pv 2) pe_int (fun _ _ => rfl)) pe_str (nomark _)) (pe_ix ix_tup (pv 2) pe_int (fun _ _ => rfl)) pe_int)))))))
      (pss_one (ps_ret (pv 1))))), ?_⟩
      obtain ⟨a, xs, rfl, ha, hx⟩ := t.tuple
      rw [b.ds_lst] at hx
      obtain ⟨hl, hg⟩ := hx.lst
      refine ⟨fun σ H1 => ∃ o2 o3 o4, σ = [some (.ref a), some (.int (b.sumO fun _ => 1)), o2, o3, o4] ∧ Sx [] H H1, ?_, ?_⟩
      · refine ⟨_, rfl, a, rfl, ⟨_, SqT.of ha⟩, for_tup (xs := xs)
          (fun i σ H1 => ∃ o2 o3 o4, σ = [some (.ref a), some (.int ((b.lst.take i).map fun s => s.sumO fun _ => 1).sum), o2, o3, o4] ∧ Sx [] H H1)
          ⟨_, _, _, rfl, Sx.refl _⟩ (fun i σ H1 _ z => by obtain ⟨_, _, _, _, z⟩ := z; exact SqT.of (z _ _ (by simp) ha)) (fun i x σ H1 hi z => ?_) (fun σ H1 z => ?_)⟩
        · obtain ⟨o2, o3, o4, rfl, s1⟩ := z
          obtain ⟨st, hst, tst⟩ := hg i x hi
          have hmem : st ∈ b.lst := List.mem_of_getElem? hst
          obtain ⟨f1, f2, f3⟩ := hf st hmem
          have t1 := tst.keep s1.tk0
          refine gnm ?_
          refine ⟨_, rfl, x, st, rfl, t1, fun H2 v2 s2 t2 => ?_⟩
          obtain ⟨a2, ys, rfl, ha2, hy⟩ := t2.tuple
          rw [st.parts_blks] at hy
          obtain ⟨hl2, hg2⟩ := hy.lst
          refine ⟨a2, rfl, ⟨_, SqT.of ha2⟩, fun D hD => lc_tup (xs := ys)
            (fun j H3 => Sx [] H2 H3 ∧ H3 D = some (.lst (((st.blks.map fun b => b.sumO fun _ => 1).take j).map V.int))) ⟨Sx.n0 hD, upd_same⟩ (fun i H3 _ p => SqT.of (p.1 _ _ (by simp) ha2)) (fun j y H3 hj p => ?_) (fun H3 p => ?_)⟩
          · obtain ⟨p3, p4⟩ := p
            obtain ⟨b2, hb2, tb2⟩ := hg2 j y hj
            refine ⟨rfl, ?_⟩
            refine ⟨_, rfl, y, b2, rfl, tb2.keep p3.tk0, f3 b2 (List.mem_of_getElem? hb2), fun H4 s4 => ?_⟩
            have blk2 : st.blks.length ≤ 2 := by cases st <;> simp [St.blks]
            refine ⟨_, s4 _ _ (by simp) p4, lt_line (by rw [List.length_map, List.length_take, List.length_map]; omega), ?_, ?_⟩
            · exact (p3.trans s4).own hD
            · rw [upd_same, List.take_add_one, List.getElem?_map, hb2]
              simp
          · obtain ⟨p3, p4⟩ := p
            rw [hl2, List.take_of_length_le (by rw [List.length_map]; exact Nat.le_refl _)] at p4
            refine ⟨D, _, rfl, SqL.of p4, ?_⟩
            have s3 : Sx [] H H3 := (s1.trans s2).trans p3
            have t3 := tst.keep s3.tk0
            have e : ((b.lst.take (i + 1)).map fun s => s.sumO fun _ => 1).sum = ((b.lst.take i).map fun s => s.sumO fun _ => 1).sum + 1 + (st.blks.map fun b => b.sumO fun _ => 1).sum * st.times := by
              rw [List.take_add_one, hst, List.map_append, List.sum_append]
              show _ + ([st].map fun s => s.sumO fun _ => 1).sum = _
              rw [List.map_cons, List.map_nil, List.sum_cons, List.sum_nil, Int.add_zero, St.sumO_eq, Int.mul_comm]
              omega
            obtain ⟨ax, xs', rfl, hax⟩ := St.at_ t3
            refine gnm ?_
            refine ⟨_, rfl, _, 1, rfl, rfl, _, rfl, ?_⟩
            refine ⟨_, rfl, ax, _, _, .str st.hd, rfl, rfl, SqT.of hax, at0 _ _, rfl, _, rfl, ?_⟩
            cases st with
            | rep k y =>
              obtain ⟨a', p1, p2, p3', ea, hA, q1, q2, q3⟩ := tp3 t3
              cases ea
              obtain rfl := tpI q2
              exact iteP (by simp only [St.hd]; decide +kernel) ⟨_, rfl, ax, _, _, _, rfl, rfl, SqT.of hA, rfl, _, k, rfl, rfl, .inr (by simp only [St.times] at f1 f2; omega), _, _, rfl, rfl, _, _, _, by rw [e]; rfl, s3⟩
            | set z e' => exact iteN (sne (show (("set" : Str) == "repeat") = false by decide +kernel)) ⟨_, 1, rfl, rfl, .inr ⟨by decide, by decide⟩, _, _, rfl, rfl, _, _, _, by rw [e]; rfl, s3⟩
            | pay e' => exact iteN (sne (show (("pay" : Str) == "repeat") = false by decide +kernel)) ⟨_, 1, rfl, rfl, .inr ⟨by decide, by decide⟩, _, _, rfl, rfl, _, _, _, by rw [e]; rfl, s3⟩
            | stop => exact iteN (sne (show (("stop" : Str) == "repeat") = false by decide +kernel)) ⟨_, 1, rfl, rfl, .inr ⟨by decide, by decide⟩, _, _, rfl, rfl, _, _, _, by rw [e]; rfl, s3⟩
            | ite ts y n => exact iteN (sne (show (("if" : Str) == "repeat") = false by decide +kernel)) ⟨_, 1, rfl, rfl, .inr ⟨by decide, by decide⟩, _, _, rfl, rfl, _, _, _, by rw [e]; rfl, s3⟩
        · obtain ⟨o2, o3, o4, rfl, s1⟩ := z
          exact ⟨o2, o3, o4, by rw [hl, List.take_length, ← Bk.sumO_lst], s1⟩
      · rintro _ H1 ⟨o2, o3, o4, rfl, s1⟩
        exact ⟨_, rfl, q _ s1⟩
end
abbrev sPWeight : Stmt := topS 8
abbrev nPWeight : List Str := ["program"]
theorem scPWeight : FnScope nPWeight ["program"] (defScope sPWeight) := ⟨rfl, rfl, rfl, by decide +kernel, rfl, by decide +kernel, by decide +kernel⟩
/-- the lambda at the end of a call that a def returns -/
def lamOf (st : Stmt) : Arguments × Expr × Scope := match defBody st with
  | [.Return (some (.Call _ [_, .Lambda p b s _] _ _)) _] => (p, b, s)
  | _ => (defArgs st, .Constant .none 0 ⟨0, 0, 0, 0⟩, defScope st)
def lamQ (q : Str) : Str := q ++ ".<locals>." ++ "<lambda>"
def TLw (PW : Addr) : List (Addr × Str) := [(PW, lamQ "weight")]
theorem tlw {PW : Addr} : ∀ p ∈ TLw PW, p.1 = PW → p.2 = lamQ "weight" := fun p hp _ => by rw [List.mem_singleton.mp hp]
theorem lamFree0 (st : Stmt) (h : ((lamOf st).2.2.names.all fun y => !decide (y.2 = .free)) = true) : ∀ y ∈ (lamOf st).2.2.names, y.2 ≠ .free := fun y hy e => by
  have := List.all_eq_true.mp h y hy
  rw [e] at this
  simp at this
/-- a def whose code object is known -/
structure FunC (K : PySem.W.Frag) (x qual : Str) (st : Stmt) (f : Addr) (fd : FuncData) (c : Addr) : Prop where
  ex : ∃ (oc : Value) (od : Option Addr) (kV doc pm : Value) (an : Option Addr) (ct : Value) (osl : Array (Option Value)),
    fd = PySem.W.fnOf x qual (defArgs st) (defBody st) (defScope st) .none kV doc pm an (.ref c) ct ∧ K.lookup f = some ⟨oc, od, .func fd, osl⟩ ∧ PySem.W.codeIn K (.ref c) qual = true
  kp : (PySem.W.keepIn K (.ref f) = true)
theorem FunC.ok {P : Program} {w : World} {K : PySem.W.Frag} {mg : Str → Option Value} {base : Heap} {x qual : Str} {st : Stmt} {f c : Addr} {fd : FuncData} {N ps : List Str} {k : Nat} {sp : Sp} (F : FunC K x qual st f fd c) (S : FnScope N ps (defScope st)) (len : ∀ as H Q E, sp as H Q E → as.length = ps.length)
    (hbody : ∀ (A : Around) (outer : List Env) (s : Shared) (H : Hp) (as : List V) (Q : VK) (E : XK), Room k (A.deeper (envOfC qual (defScope st) s.heap.objs.size f (.ref c))) → sp as H Q E →
      ∃ t, PSs (cxOf CX0 P w K mg base N qual (defScope st) f (.ref c) A outer s H E).nox (defBody st) t ∧ t { nx := fun _ H' => Q .non H', rt := Q } (start N as) H) : FnOk P w K mg base CX0 (k + 1) f fd ps sp := by
  obtain ⟨oc, od, kV, doc, pm, an, ct, osl, rfl, lk, hcd⟩ := F.ex
  refine fn_of lk hcd S len fun A outer s H as Q E hr hsp => ?_
  obtain ⟨t, h, q⟩ := hbody A outer s H as Q E hr hsp
  exact ⟨t, h.nox, q⟩
abbrev FW (c' : Addr) : LF := ⟨lamQ "weight", (lamOf sPWeight).1, (lamOf sPWeight).2.1, (lamOf sPWeight).2.2, [], c'⟩
def spWeight (PW : Addr) (d : Nat) : Sp := fun vs H Q _ => ∃ (v : V) (b : Bk), vs = [v] ∧ Tp H v (.tuple b.ds) ∧ b.fac d ∧ LamX.Tabs (TLw PW) H ∧ ∀ H', Sx [PW] H H' → LamX.Tabs (TLw PW) H' → Q (.int (b.sumO fun _ => 1)) H'
theorem nsW : NdefX.NScope ["statement"] ["statement"] [] (lamOf sPWeight).2.2 := NdefX.nscope_by (by decide +kernel)
theorem Tabs.sx {T : List (Addr × Str)} {H H' : Hp} (t : LamX.Tabs T H) (s : Sx [] H H') : LamX.Tabs T H' := t.ext fun b o e => s b o (by simp) e
section
variable {w : World} {P : Program} {K : PySem.W.Frag} {mg : Str → Option Value} {base : Heap}
theorem heldW (c' : Addr) : HeldL P w K mg base 4 (Tf0 (FW c')) (spOwn fun _ => 1) := by
  refine held0 (N := ["statement"]) (a := "statement") (k := 3) nsW (fun pm ctv us hl => ?_) (fun f A outer s H _ _ => (pe_int : PE _ (lamOf sPWeight).2.1 _)) (fun vs H Q h => ?_) (fun vs H Q h => ?_)
  · match us, hl with | [_], _ => rfl
  · obtain ⟨_, _, rfl, _⟩ := h
    rfl
  · obtain ⟨v, s, rfl, t, q⟩ := h
    exact q H (Sx.refl _)
theorem ok_pweight {f fS : Addr} {fd fdS : FuncData} {c PW : Addr} {D : Nat} (F_pweight : FunC K "weight" "weight" sPWeight f fd c) (F_psum_over : Fun K "sum_over" "sum_over" sPSumOver fS fdS) (TB : LamX.TabB base mg c PW)
    (G_sum : ∀ (T : Addr → Hp → Prop) (own : St → Int), HeldL P w K mg base 4 T (spOwn own) → ∀ d : Nat, FnOk P w K mg base CX0 (d + 5) fS fdS ["block", "own"] (spSum T own d))
    (b_psum_over : Binds K fdS ["block", "own"] []) (m_psum_over : mg "sum_over" = some (.ref fS)) : FnOk P w K mg base CX0 (D + 6) f fd ["program"] (spWeight PW D) := by
  refine F_pweight.ok scPWeight (fun vs H Q E h => ?_) (fun A outer s H vs Q E hr h => ?_)
  · obtain ⟨_, _, rfl, _⟩ := h
    rfl
  · obtain ⟨v, b, rfl, t, hf, hT, q⟩ := h
    have G_psum_over : FnOk P w K mg base CX0 (D + 5) fS fdS ["block", "own"] (fun vs H Q E => ∃ c', spSum (Tf0 (FW c')) (fun _ => 1) D vs H Q E) := FnOk.ex fun c' => G_sum _ _ (heldW c') D
    refine ⟨_, (pss_one (ps_ret (pe_call G_psum_over (hr.mono (by omega)) (by rfl) m_psum_over F_psum_over.kp b_psum_over .nil pass0 (pa_cons (pv 0) (pa_cons (pe_lambda (T := TLw PW) (cl := []) TB rfl (List.mem_cons_self ..) tlw rfl (fun _ y hy e => absurd e (lamFree0 sPWeight (by decide +kernel) y hy)) rfl) pa_nil))))), ?_⟩
    refine ⟨_, rfl, hT, fun f0 c' pm ctv H2 s2 hT2 n1 n2 hc _ => ?_⟩
    refine ⟨c', v, b, f0, rfl, (t.keep (fun b xs e => s2 b _ ?_ e)).new n2, ⟨rfl, ⟨pm, ctv, upd_same⟩, by rw [upd_ne (ne_of_none hc n2)]; exact hc⟩, hf, fun H3 s3 => q H3 (s2.trans ((Sx.n0 n2).trans s3).nil) (Tabs.sx hT2 ((Sx.n0 n2).trans s3))⟩
    intro hb
    obtain ⟨ps, hP, _⟩ := hT _ (List.mem_cons_self ..)
    rw [List.mem_singleton.mp hb, show H PW = _ from hP] at e
    cases e
end
/-! ### what a run does not wake stays asleep -/
def isRet : Frame → Bool
  | .ret .. => true
  | .gen .. => false
/-- a generator that no run can wake -/
def Poison (x : GenState) : Prop := ∃ w l c p fs cl, x = .suspended (fun _ => .unsupported w) l c p fs cl
def GoodSt : GenState → Prop
  | .suspended _ _ _ _ fs _ => ∀ F ∈ fs, isRet F = true
  | _ => True
def EndRet : End → Prop
  | .ret _ => True
  | .susp _ _ _ _ _ _ fs => ∀ F ∈ fs, isRet F = true
/-- R is X but where X cannot be woken; there both look alike -/
def RelG (R X : Array GenState) : Prop := R.size = X.size ∧ ∀ (i : Nat) (x : GenState), X[i]? = some x → (R[i]? = some x ∧ GoodSt x) ∨ (Poison x ∧ ∃ r : GenState, R[i]? = some r ∧ r.seen = x.seen ∧ r.bare = x.bare)
def KeptG (R X R' X' : Array GenState) : Prop := ∀ (i : Nat) (x : GenState), X[i]? = some x → (Poison x ∨ x = .running) → X'[i]? = some x ∧ R'[i]? = R[i]?
theorem KeptG.refl {R X : Array GenState} : KeptG R X R X := fun _ _ h _ => ⟨h, rfl⟩
theorem KeptG.trans {R X R1 X1 R2 X2 : Array GenState} (a : KeptG R X R1 X1) (b : KeptG R1 X1 R2 X2) : KeptG R X R2 X2 := fun i x h p => by
  obtain ⟨h1, h2⟩ := a i x h p
  obtain ⟨h3, h4⟩ := b i x h1 p
  exact ⟨h3, h4.trans h2⟩
theorem no_run {M : Model} {Γ : PySem.Ctx} {p : Pos} {t : Sem PySem.Fin} {fs : List Frame} {s s' : Shared} {e : End} (h : Runs M Γ p t fs s e s') : ∀ w, t ≠ .unsupported w := by
  induction h with
  | segRet _ _ ih _ => exact ih
  | segGen _ _ ih _ => exact ih
  | segSuspOut _ _ ih => exact ih
  | segSuspGen _ _ _ _ ih _ => exact ih
  | _ => intro w z; cases z
theorem RelG.get {R X : Array GenState} (r : RelG R X) {i : Nat} {x : GenState} (h : X[i]? = some x) (n : ¬ Poison x) : R[i]? = some x ∧ GoodSt x := by
  rcases r.2 i x h with z | z
  · exact z
  · exact absurd z.1 n
theorem RelG.push {R X : Array GenState} {st : GenState} (r : RelG R X) (g : GoodSt st) : RelG (R.push st) (X.push st) ∧ KeptG R X (R.push st) (X.push st) := by
  obtain ⟨hs, hr⟩ := r
  refine ⟨⟨by rw [Array.size_push, Array.size_push, hs], fun i x h => ?_⟩, fun i x h _ => ?_⟩
  · by_cases hi : i = X.size
    · subst hi
      rw [Array.getElem?_push_size] at h
      cases h
      exact .inl ⟨by rw [← hs]; exact Array.getElem?_push_size .., g⟩
    · have h2 : X[i]? = some x := by rw [Array.getElem?_push, if_neg hi] at h; exact h
      have e : ∀ st, (R.push st)[i]? = R[i]? := fun st => by rw [Array.getElem?_push, if_neg (by rw [hs]; exact hi)]
      rw [e]
      exact hr i x h2
  · have hi : i < X.size := (Array.getElem?_eq_some_iff.mp h).1
    exact ⟨by rw [Array.getElem?_push, if_neg (Nat.ne_of_lt hi)]; exact h, by rw [Array.getElem?_push, if_neg (by rw [hs]; exact Nat.ne_of_lt hi)]⟩
theorem RelG.set {R X : Array GenState} {g : Nat} {st : GenState} (r : RelG R X) (hg : GoodSt st) : RelG (R.setIfInBounds g st) (X.setIfInBounds g st) := by
  obtain ⟨hs, hr⟩ := r
  refine ⟨by rw [Array.size_setIfInBounds, Array.size_setIfInBounds, hs], fun i x h => ?_⟩
  by_cases hi : g = i
  · subst hi
    by_cases hb : g < X.size
    · rw [Array.getElem?_setIfInBounds_self_of_lt hb] at h
      cases h
      exact .inl ⟨Array.getElem?_setIfInBounds_self_of_lt (by rw [hs]; exact hb), hg⟩
    · have := (Array.getElem?_eq_some_iff.mp h).1
      rw [Array.size_setIfInBounds] at this
      exact absurd this hb
  · rw [Array.getElem?_setIfInBounds_ne hi] at h ⊢
    exact hr i x h
/-- what is written at g, which was awake to nothing -/
theorem KeptG.at {R X R1 X1 : Array GenState} {g : Nat} {st : GenState} (k : KeptG R X R1 X1) (n : ∀ x, X[g]? = some x → ¬ (Poison x ∨ x = .running)) : KeptG R X (R1.setIfInBounds g st) (X1.setIfInBounds g st) := fun i x h p => by
  have hi : g ≠ i := fun z => by subst z; exact n x h p
  rw [Array.getElem?_setIfInBounds_ne hi, Array.getElem?_setIfInBounds_ne hi]
  exact k i x h p
theorem split_ret : ∀ {fs : List Frame}, (∀ F ∈ fs, isRet F = true) → splitAtGen fs = none
  | [], _ => rfl
  | .ret .. :: r, h => by
    show (splitAtGen r).map _ = none
    rw [split_ret fun F hF => h F (List.mem_cons_of_mem _ hF)]
    rfl
  | .gen .. :: r, h => by have := h _ List.mem_cons_self; cases this
theorem not_poison_fresh {c : Code} : ¬ Poison (.fresh c) := fun ⟨_, _, _, _, _, _, h⟩ => by cases h
theorem not_poison_running : ¬ Poison .running := fun ⟨_, _, _, _, _, _, h⟩ => by cases h
theorem not_poison_finished : ¬ Poison .finished := fun ⟨_, _, _, _, _, _, h⟩ => by cases h
theorem good_of {e : End} (h : EndRet e) : GoodSt e.genState := by
  cases e with
  | ret r => trivial
  | susp => exact h
theorem wake_free {x y : GenState} (h : some x = some y) (n : ¬ Poison x) (m : x ≠ .running) : ¬ (Poison y ∨ y = .running) := by
  cases h
  exact fun z => z.elim n m
theorem not_poison_run {M : Model} {Γ : PySem.Ctx} {p p₂ : Pos} {k : Resume → Sem PySem.Fin} {r : Resume} {fs fs₂ : List Frame} {s s' : Shared} {e : End} {l : List Value} {c : Code} {cl : Bool} {y : GenState} (h : Runs M Γ p (k r) fs s e s') (hy : y = .suspended k l c p₂ fs₂ cl) : ¬ Poison y := fun ⟨w, _, _, _, _, _, z⟩ => by
  rw [hy] at z
  injection z with z1
  exact no_run h w (by rw [z1])
theorem np_at {M : Model} {Γ : PySem.Ctx} {p p₂ : Pos} {k : Resume → Sem PySem.Fin} {r : Resume} {fs fs₂ : List Frame} {s s' : Shared} {e : End} {l : List Value} {c : Code} {cl : Bool} {G : Array GenState} {g : Nat} (_ : G[g]? = some (.suspended k l c p₂ fs₂ cl)) (h : Runs M Γ p (k r) fs s e s') : ¬ Poison (.suspended k l c p₂ fs₂ cl) := not_poison_run h rfl
theorem swap {M : Model} {Γ : PySem.Ctx} {p : Pos} {t : Sem PySem.Fin} {fs : List Frame} {s s' : Shared} {e : End} (h : Runs M Γ p t fs s e s') :
    (∀ F ∈ fs, isRet F = true) → ∀ R, RelG R s.gens → ∃ R', RelG R' s'.gens ∧ KeptG R s.gens R' s'.gens ∧ Runs M Γ p t fs { s with gens := R } e { s' with gens := R' } ∧ EndRet e := by
  induction h with
  | done => intro _ R r; exact ⟨R, r, .refl, .done, trivial⟩
  | raise => intro _ R r; exact ⟨R, r, .refl, .raise, trivial⟩
  | again q _ ih => intro hf R r; obtain ⟨R', r', k, h', e'⟩ := ih hf R r; exact ⟨R', r', k, .again q h', e'⟩
  | rule _ ih => intro hf R r; obtain ⟨R', r', k, h', e'⟩ := ih hf R r; exact ⟨R', r', k, .rule h', e'⟩
  | «at» _ ih => intro hf R r; obtain ⟨R', r', k, h', e'⟩ := ih hf R r; exact ⟨R', r', k, .at h', e'⟩
  | load ho _ ih => intro hf R r; obtain ⟨R', r', k, h', e'⟩ := ih hf R r; exact ⟨R', r', k, .load ho h', e'⟩
  | update ho _ ih => intro hf R r; obtain ⟨R', r', k, h', e'⟩ := ih hf R r; exact ⟨R', r', k, .update ho h', e'⟩
  | loadIfAlive _ ih => intro hf R r; obtain ⟨R', r', k, h', e'⟩ := ih hf R r; exact ⟨R', r', k, .loadIfAlive h', e'⟩
  | point _ ih => intro hf R r; obtain ⟨R', r', k, h', e'⟩ := ih hf R r; exact ⟨R', r', k, .point h', e'⟩
  | alloc _ ih => intro hf R r; obtain ⟨R', r', k, h', e'⟩ := ih hf R r; exact ⟨R', r', k, .alloc h', e'⟩
  | fresh _ ih => intro hf R r; obtain ⟨R', r', k, h', e'⟩ := ih hf R r; exact ⟨R', r', k, .fresh h', e'⟩
  | ask _ ih => intro hf R r; obtain ⟨R', r', k, h', e'⟩ := ih hf R r; exact ⟨R', r', k, .ask h', e'⟩
  | choose hn _ ih => intro hf R r; obtain ⟨R', r', k, h', e'⟩ := ih hf R r; exact ⟨R', r', k, .choose hn h', e'⟩
  | os _ ih => intro hf R r; obtain ⟨R', r', k, h', e'⟩ := ih hf R r; exact ⟨R', r', k, .os h', e'⟩
  | handled _ ih => intro hf R r; obtain ⟨R', r', k, h', e'⟩ := ih hf R r; exact ⟨R', r', k, .handled h', e'⟩
  | genState hg _ ih =>
    intro hf R r
    obtain ⟨R', r', k, h', e'⟩ := ih hf R r
    rcases r.2 _ _ hg with z | ⟨_, st, z1, z2, _⟩
    · exact ⟨R', r', k, .genState z.1 h', e'⟩
    · refine ⟨R', r', k, .genState z1 ?_, e'⟩
      rw [z2]
      exact h'
  | stack _ ih => intro hf R r; obtain ⟨R', r', k, h', e'⟩ := ih hf R r; exact ⟨R', r', k, .stack h', e'⟩
  | thread _ ih => intro hf R r; obtain ⟨R', r', k, h', e'⟩ := ih hf R r; exact ⟨R', r', k, .thread h', e'⟩
  | newGen _ ih =>
    intro hf R r
    obtain ⟨r1, k1⟩ := r.push (st := .fresh _) trivial
    obtain ⟨R', r', k, h', e'⟩ := ih hf _ r1
    refine ⟨R', r', k1.trans k, .newGen ?_, e'⟩
    rw [r.1]
    exact h'
  | call _ _ ih1 ih2 =>
    intro hf R r
    obtain ⟨R1, r1, k1, h1, _⟩ := ih1 (fun _ z => by cases z) R r
    obtain ⟨R2, r2, k2, h2, e2⟩ := ih2 hf R1 r1
    exact ⟨R2, r2, k1.trans k2, .call h1 h2, e2⟩
  | callSusp _ ih =>
    intro hf R r
    obtain ⟨R1, r1, k1, h1, e1⟩ := ih (fun _ z => by cases z) R r
    refine ⟨R1, r1, k1, .callSusp h1, fun F hF => ?_⟩
    rcases List.mem_append.1 hF with z | z
    · exact e1 F z
    · rw [List.mem_singleton.mp z]; rfl
  | yield => intro _ R r; exact ⟨R, r, .refl, .yield, fun _ z => by cases z⟩
  | resumeFresh hg _ hq _ ih1 ih2 =>
    intro hf R r
    obtain ⟨z1, _⟩ := r.get hg not_poison_fresh
    have nf : ∀ x, _ = some x → ¬ (Poison x ∨ x = .running) := fun x hx => wake_free (hg.symm.trans hx) not_poison_fresh (fun z => by cases z)
    have k1 : KeptG R _ _ _ := (KeptG.refl (R := R)).at (st := .running) nf
    obtain ⟨R1, r2, k2, h1, e1⟩ := ih1 (fun _ z => by cases z) _ (r.set (st := .running) trivial)
    obtain ⟨R2, r3, k3, h2, e2⟩ := ih2 hf _ (r2.set (good_of e1))
    exact ⟨R2, r3, ((k1.trans k2).at nf).trans k3, .resumeFresh z1 h1 hq h2, e2⟩
  | resumeSuspended hg hr hq _ ih1 ih2 =>
    intro hf R r
    have np := np_at hg hr
    rcases r.2 _ _ hg with ⟨z1, z2⟩ | ⟨z1, _⟩
    · have nf : ∀ x, _ = some x → ¬ (Poison x ∨ x = .running) := fun x hx => wake_free (hg.symm.trans hx) np (fun z => by cases z)
      have k1 : KeptG R _ _ _ := (KeptG.refl (R := R)).at (st := .running) nf
      obtain ⟨R1, r2, k2, h1, e1⟩ := ih1 z2 _ (r.set (st := .running) trivial)
      obtain ⟨R2, r3, k3, h2, e2⟩ := ih2 hf _ (r2.set (good_of e1))
      exact ⟨R2, r3, ((k1.trans k2).at nf).trans k3, .resumeSuspended z1 h1 hq h2, e2⟩
    · exact absurd z1 np
  | resumeJustStarted hg hv _ ih => intro hf R r; obtain ⟨R', r', k, h', e'⟩ := ih hf R r; exact ⟨R', r', k, .resumeJustStarted (r.get hg not_poison_fresh).1 hv h', e'⟩
  | resumeThrowFresh hg _ ih =>
    intro hf R r
    have nf : ∀ x, _ = some x → ¬ (Poison x ∨ x = .running) := fun x hx => wake_free (hg.symm.trans hx) not_poison_fresh (fun z => by cases z)
    have k1 : KeptG R _ _ _ := (KeptG.refl (R := R)).at (st := .finished) nf
    obtain ⟨R', r', k, h', e'⟩ := ih hf _ (r.set (st := .finished) trivial)
    exact ⟨R', r', k1.trans k, .resumeThrowFresh (r.get hg not_poison_fresh).1 h', e'⟩
  | resumeRunning hg _ ih => intro hf R r; obtain ⟨R', r', k, h', e'⟩ := ih hf R r; exact ⟨R', r', k, .resumeRunning (r.get hg not_poison_running).1 h', e'⟩
  | resumeFinished hg _ ih => intro hf R r; obtain ⟨R', r', k, h', e'⟩ := ih hf R r; exact ⟨R', r', k, .resumeFinished (r.get hg not_poison_finished).1 h', e'⟩
  | segRet _ _ ih1 ih2 =>
    intro hf R r
    obtain ⟨R1, r1, k1, h1, _⟩ := ih1 (fun _ z => by cases z) R r
    obtain ⟨R2, r2, k2, h2, e2⟩ := ih2 (fun F hF => hf F (List.mem_cons_of_mem _ hF)) R1 r1
    exact ⟨R2, r2, k1.trans k2, .segRet h1 h2, e2⟩
  | segGen _ _ ih1 ih2 => intro hf R r; have := hf _ List.mem_cons_self; cases this
  | segSuspOut hs _ ih =>
    intro hf R r
    obtain ⟨R1, r1, k1, h1, e1⟩ := ih (fun _ z => by cases z) R r
    refine ⟨R1, r1, k1, .segSuspOut hs h1, fun F hF => ?_⟩
    rcases List.mem_append.1 hF with z | z
    · exact e1 F z
    · exact hf F z
  | segSuspGen hs _ _ _ ih1 ih2 => intro hf R r; rw [split_ret hf] at hs; cases hs
theorem swap_returns {M : Model} {Γ : PySem.Ctx} {p : Pos} {s s' : Shared} {r : Result} (h : Returns M Γ p s r s') {R : Array GenState} (rr : RelG R s.gens) :
    ∃ R', RelG R' s'.gens ∧ KeptG R s.gens R' s'.gens ∧ Returns M Γ p { s with gens := R } r { s' with gens := R' } := by
  obtain ⟨R', a, b, c, _⟩ := swap h (fun _ z => by cases z) R rr
  exact ⟨R', a, b, c⟩
theorem swap_wakes {M : Model} {Γ : PySem.Ctx} {p : Pos} {g : Nat} {r : Resume} {s s' : Shared} {res : GenResult} (h : Wakes M Γ p g r s res s') {R : Array GenState} (rr : RelG R s.gens) :
    ∃ R', RelG R' s'.gens ∧ KeptG R s.gens R' s'.gens ∧ Wakes M Γ p g r { s with gens := R } res { s' with gens := R' } := by
  unfold Wakes at h
  cases hg : s.gens[g]? with
  | none => rw [hg] at h; exact h.elim
  | some x =>
    rw [hg] at h
    cases x with
    | fresh c =>
      obtain ⟨z1, _⟩ := rr.get hg not_poison_fresh
      have nf : ∀ x, s.gens[g]? = some x → ¬ (Poison x ∨ x = .running) := fun x hx => wake_free (hg.symm.trans hx) not_poison_fresh (fun z => by cases z)
      have fin : ∀ {e₁ : End} {s₁ : Shared}, Runs M (Γ.wake c p) p (M.den c) [] (s.setGen g .running) e₁ s₁ → e₁.quiet = true → ∃ R', RelG R' (s₁.setGen g e₁.genState).gens ∧ KeptG R s.gens R' (s₁.setGen g e₁.genState).gens ∧
          ∃ e s₂, Runs M (Γ.wake c p) p (M.den c) [] (({ s with gens := R } : Shared).setGen g .running) e s₂ ∧ e.quiet = true ∧ e₁.result = e.result ∧ ({ s₁.setGen g e₁.genState with gens := R' } : Shared) = s₂.setGen g e.genState := fun {e₁ s₁} hr hq => by
        obtain ⟨R1, r2, k2, h1, e1⟩ := swap hr (fun _ z => by cases z) _ (rr.set (st := .running) trivial)
        exact ⟨_, r2.set (good_of e1), (((KeptG.refl (R := R)).at (st := .running) nf).trans k2).at nf, e₁, { s₁ with gens := R1 }, h1, hq, rfl, rfl⟩
      cases r with
      | send v =>
        cases v with
        | none =>
          obtain ⟨e₁, s₁, hr, hq, rfl, rfl⟩ := h
          obtain ⟨R', a, b, e, s₂, c1, c2, c3, c4⟩ := fin hr hq
          refine ⟨R', a, b, ?_⟩
          unfold Wakes
          rw [show ({ s with gens := R } : Shared).gens[g]? = some (.fresh c) from z1]
          exact ⟨e, s₂, c1, c2, c3, c4⟩
        | _ =>
          obtain ⟨rfl, rfl⟩ := h
          refine ⟨R, rr, .refl, ?_⟩
          unfold Wakes
          rw [show ({ s' with gens := R } : Shared).gens[g]? = some (.fresh c) from z1]
          exact ⟨rfl, rfl⟩
      | throw x =>
        obtain ⟨rfl, rfl⟩ := h
        refine ⟨_, rr.set (st := .finished) trivial, (KeptG.refl (R := R)).at (st := .finished) nf, ?_⟩
        unfold Wakes
        rw [show ({ s with gens := R } : Shared).gens[g]? = some (.fresh c) from z1]
        exact ⟨rfl, rfl⟩
    | suspended k₀ l₀ c₀ p₀ fs₀ c9 =>
      obtain ⟨e₁, s₁, hr, hq, rfl, rfl⟩ := h
      have np := np_at hg hr
      have nf : ∀ x, s.gens[g]? = some x → ¬ (Poison x ∨ x = .running) := fun x hx => wake_free (hg.symm.trans hx) np (fun z => by cases z)
      obtain ⟨z1, z2⟩ := rr.get hg np
      obtain ⟨R1, r2, k2, h1, e1⟩ := swap hr z2 _ (rr.set (st := .running) trivial)
      refine ⟨_, r2.set (good_of e1), (((KeptG.refl (R := R)).at (st := .running) nf).trans k2).at nf, ?_⟩
      unfold Wakes
      rw [show ({ s with gens := R } : Shared).gens[g]? = some (.suspended k₀ l₀ c₀ p₀ fs₀ c9) from z1]
      exact ⟨e₁, { s₁ with gens := R1 }, h1, hq, rfl, rfl⟩
    | running =>
      obtain ⟨rfl, rfl⟩ := h
      refine ⟨R, rr, .refl, ?_⟩
      unfold Wakes
      rw [show ({ s' with gens := R } : Shared).gens[g]? = some .running from (rr.get hg not_poison_running).1]
      exact ⟨rfl, rfl⟩
    | finished =>
      obtain ⟨rfl, rfl⟩ := h
      refine ⟨R, rr, .refl, ?_⟩
      unfold Wakes
      rw [show ({ s' with gens := R } : Shared).gens[g]? = some .finished from (rr.get hg not_poison_finished).1]
      exact ⟨rfl, rfl⟩
/-- the same end, told of the awake state -/
def PutG {β : Type} (R X : Array GenState) (Q : β → Pos → Shared → Prop) : β → Pos → Shared → Prop := fun a p s' => ∃ X', RelG s'.gens X' ∧ KeptG R X s'.gens X' ∧ Q a p { s' with gens := X' }
theorem PutG.of {β : Type} {R X : Array GenState} {Q : β → Pos → Shared → Prop} {a : β} {p : Pos} {s : Shared} {R' : Array GenState} (r : RelG R' s.gens) (k : KeptG R X R' s.gens) (h : Q a p s) : PutG R X Q a p { s with gens := R' } := ⟨s.gens, r, k, h⟩
theorem PutG.trans {β : Type} {R X R1 X1 : Array GenState} {Q : β → Pos → Shared → Prop} (k : KeptG R X R1 X1) {a : β} {p : Pos} {s : Shared} (h : PutG R1 X1 Q a p s) : PutG R X Q a p s := by
  obtain ⟨X', r, k', q⟩ := h
  exact ⟨X', r, k.trans k', q⟩
open Sem (wp) in
theorem wp_swap {α : Type} (M : Model) (Γ : PySem.Ctx) (t : Sem α) : ∀ (Q : α → Pos → Shared → Prop) (E : Value → Pos → Shared → Prop) (p : Pos) (s : Shared) (R : Array GenState), RelG R s.gens → wp M Γ t Q E p s →
    wp M Γ t (PutG R s.gens Q) (PutG R s.gens E) p { s with gens := R } := by
  induction t with
  | pure a => intro Q E p s R r h; exact .of r .refl h
  | raise e => intro Q E p s R r h; exact .of r .refl h
  | unsupported _ => intro Q E p s R r h; exact h
  | finish _ => intro Q E p s R r h; exact h
  | rule _ k ih => intro Q E p s R r h; exact ih () Q E p s R r h
  | «at» p' k ih => intro Q E p s R r h; exact ih () Q E p' s R r h
  | load a _ k ih => intro Q E p s R r h; obtain ⟨o, ho, h⟩ := h; exact ⟨o, ho, ih o Q E p s R r h⟩
  | update a _ f k ih => intro Q E p s R r h; exact ⟨h.1, ih () Q E p { s with heap := s.heap.update a f } R r h.2⟩
  | loadIfAlive a k ih => intro Q E p s R r h; exact ih _ Q E p s R r h
  | point _ k ih => intro Q E p s R r h; exact ih () Q E p s R r h
  | register _ _ => intro Q E p s R r h; exact h
  | alloc o k ih => intro Q E p s R r h; exact ih _ Q E p { s with heap := s.heap.push o } R r h
  | fresh k ih => intro Q E p s R r h; exact ih _ Q E p { s with toks := s.toks + 1 } R r h
  | ask k ih => intro Q E p s R r h; exact ih _ Q E p s R r h
  | choose src m k ih => intro Q E p s R r h; exact ⟨h.1, ih _ Q E p { s with drawn := s.drawn.bump src } R r h.2⟩
  | os q _ k ih => intro Q E p s R r h; exact ih _ Q E p { s with os := (Os.step s.os q).1 } R r h
  | call c hd _ _ k ih =>
    intro Q E p s R r h
    obtain ⟨x, s₁, hr, h⟩ := h
    obtain ⟨R1, r1, k1, h1⟩ := swap_returns hr r
    exact ⟨x, { s₁ with gens := R1 }, h1, Sem.wp_mono M Γ (k x) (fun a p' s' z => z.trans k1) (fun a p' s' z => z.trans k1) p _ (ih x Q E p s₁ R1 r1 h)⟩
  | handled own k ih => intro Q E p s R r h; exact ih _ Q E p s R r h
  | genState g k ih =>
    intro Q E p s R r h
    obtain ⟨st, hs, h⟩ := h
    rcases r.2 _ _ hs with z | ⟨_, st', z1, z2, _⟩
    · exact ⟨st, z.1, ih _ Q E p s R r h⟩
    · refine ⟨st', z1, ?_⟩
      rw [z2]
      exact ih _ Q E p s R r h
  | newGen c k ih =>
    intro Q E p s R r h
    obtain ⟨r1, k1⟩ := r.push (st := .fresh c) trivial
    have h2 := ih _ Q E p { s with gens := s.gens.push (.fresh c) } _ r1 h
    show wp M Γ (k R.size) _ _ p _
    rw [r.1]
    exact Sem.wp_mono M Γ _ (fun a p' s' z => z.trans k1) (fun a p' s' z => z.trans k1) p _ h2
  | resume g x _ k ih =>
    intro Q E p s R r h
    obtain ⟨res, s₁, hw, h⟩ := h
    obtain ⟨R1, r1, k1, h1⟩ := swap_wakes hw r
    exact ⟨res, { s₁ with gens := R1 }, h1, Sem.wp_mono M Γ (k res) (fun a p' s' z => z.trans k1) (fun a p' s' z => z.trans k1) p _ (ih res Q E p s₁ R1 r1 h)⟩
  | yield _ _ _ _ => intro Q E p s R r h; exact h
  | stack k ih => intro Q E p s R r h; exact ih _ Q E p s R r h
  | fork _ _ => intro Q E p s R r h; exact h
  | thread k ih => intro Q E p s R r h; exact ih _ Q E p s R r h
  | await _ _ _ _ _ => intro Q E p s R r h; exact h
def cleanF (F : Frame) : Frame := .ret (fun _ => .unsupported "asleep") none false [] F.where_.1 F.where_.2 []
def poison : GenState → GenState
  | .suspended _ l c p fs cl => .suspended (fun _ => .unsupported "asleep") l c p (fs.map cleanF) cl
  | x => x
theorem poison_seen (x : GenState) : x.seen = (poison x).seen := by
  cases x with
  | suspended k l c p fs cl =>
    show (_, some ((c, p) :: fs.map Frame.where_)) = (_, some ((c, p) :: (fs.map cleanF).map Frame.where_))
    rw [List.map_map]
    rfl
  | _ => rfl
theorem poison_bare (x : GenState) : x.bare = (poison x).bare := by cases x <;> rfl
theorem relG_poison (G : Array GenState) : RelG G (G.map poison) := by
  refine ⟨(Array.size_map ..).symm, fun i x h => ?_⟩
  rw [Array.getElem?_map] at h
  obtain ⟨y, hy, rfl⟩ := Option.map_eq_some_iff.mp h
  cases y with
  | suspended k l c p fs cl => exact .inr ⟨⟨_, _, _, _, _, _, rfl⟩, _, hy, poison_seen _, poison_bare _⟩
  | _ => exact .inl ⟨hy, trivial⟩
/-- who sleeps (or runs) still does -/
def Slp (G G' : Array GenState) : Prop := ∀ (i : Nat) (y : GenState), G[i]? = some y → (y.status = .suspended ∨ y.status = .running) → G'[i]? = some y
theorem Slp.refl (G : Array GenState) : Slp G G := fun _ _ h _ => h
theorem Slp.trans {G G1 G2 : Array GenState} (a : Slp G G1) (b : Slp G1 G2) : Slp G G2 := fun i y h n => b i y (a i y h n) n
theorem KeptG.slp {G G' X' : Array GenState} (k : KeptG G (G.map poison) G' X') : Slp G G' := fun i y h n => by
  have hx : (G.map poison)[i]? = some (poison y) := by rw [Array.getElem?_map, h]; rfl
  cases y with
  | suspended k' l c p fs cl => rw [(k i _ hx (.inl ⟨_, _, _, _, _, _, rfl⟩)).2]; exact h
  | running => rw [(k i _ hx (.inr rfl)).2]; exact h
  | fresh c => rcases n with n | n <;> cases n
  | finished => rcases n with n | n <;> cases n
theorem RelG.allBare {R X : Array GenState} (r : RelG R X) (b : AllBare X) : AllBare R := fun y hy => by
  rcases Array.mem_iff_getElem.mp hy with ⟨i, hi, e⟩
  have hX : i < X.size := by rw [← r.1]; exact hi
  have eX : X[i]? = some X[i] := Array.getElem?_eq_getElem hX
  have eR : R[i]? = some y := by rw [Array.getElem?_eq_getElem hi, e]
  have bX := b _ (Array.getElem_mem hX)
  rcases r.2 i _ eX with ⟨z, _⟩ | ⟨_, r', z, _, zb⟩
  · rw [eR] at z
    cases z
    exact bX
  · rw [eR] at z
    cases z
    rw [zb]
    exact bX
theorem allBare_poison {G : Array GenState} (b : AllBare G) : AllBare (G.map poison) := fun y hy => by
  obtain ⟨x, hx, rfl⟩ := Array.mem_map.mp hy
  rw [← poison_bare]
  exact b x hx
/-- what is shown while all that sleeps cannot be woken holds of the true run, and they sleep on -/
theorem wpAny_asleep {α : Type} {M : Model} {A : Around} {t : Sem α} {Q : α → Shared → Prop} {E : Value → Shared → Prop} {s : Shared} (h : wpAny M A t Q E { s with gens := s.gens.map poison }) :
    wpAny M A t (fun a s' => ∃ X', Q a { s' with gens := X' } ∧ RelG s'.gens X' ∧ Slp s.gens s'.gens) (fun e s' => ∃ X', E e { s' with gens := X' } ∧ RelG s'.gens X' ∧ Slp s.gens s'.gens) s := fun Γ p hΓ => by
  have h2 := wp_swap M Γ t _ _ p { s with gens := s.gens.map poison } s.gens (relG_poison s.gens) (h Γ p hΓ)
  exact Sem.wp_mono M Γ t (fun a p' s' z => by obtain ⟨X', r, k, q⟩ := z; exact ⟨X', q, r, k.slp⟩) (fun a p' s' z => by obtain ⟨X', r, k, q⟩ := z; exact ⟨X', q, r, k.slp⟩) p s h2
section
variable {X : Cx} {s : Shared} {pins : List (Addr × Obj)} {σ : L2.St} {H : Hp}
theorem inv_gens (I : Inv X pins σ H s) {G : Array GenState} (b : AllBare G) : Inv X pins σ H { s with gens := G } := ⟨I.ok, I.os, b, I.base, I.loc, I.cell, I.free, I.freeC, I.pin, I.hok, I.len⟩
theorem inv_gens' {G : Array GenState} (I : Inv X pins σ H { s with gens := G }) (b : AllBare s.gens) : Inv X pins σ H s := ⟨I.ok, I.os, b, I.base, I.loc, I.cell, I.free, I.freeC, I.pin, I.hok, I.len⟩
theorem sp_gens {D : Ends} {f : Flow} {G : Array GenState} (h : SP X pins D f { s with gens := G }) (r : RelG s.gens G) : SP X pins D f s := by
  cases f with
  | next => obtain ⟨σ', H', I, q⟩ := h; exact ⟨σ', H', inv_gens' I (r.allBare I.bare), q⟩
  | brk => obtain ⟨σ', H', I, q⟩ := h; exact ⟨σ', H', inv_gens' I (r.allBare I.bare), q⟩
  | cont => obtain ⟨σ', H', I, q⟩ := h; exact ⟨σ', H', inv_gens' I (r.allBare I.bare), q⟩
  | ret u => obtain ⟨v, σ', H', I, rv, q⟩ := h; exact ⟨v, σ', H', inv_gens' I (r.allBare I.bare), rv, q⟩
/-- a body leaves asleep what sleeps -/
theorem body_asleep {sts : List Stmt} {t : TS} {D : Ends} (hb : PSs X sts t) (hx : ∀ e s', ¬ X.xe e s') (I : Inv X pins σ H s) (ht : t D σ H) :
    wpAny (model X.prog X.w) X.A (execs sts X.env) (fun f s' => SP X pins D f s' ∧ Slp s.gens s'.gens) (fun _ _ => False) s := by
  refine wpAny_mono (wpAny_asleep (hb.run pins { s with gens := s.gens.map poison } σ H D (inv_gens I (allBare_poison I.bare)) ht)) (fun f s' ⟨X', q, r, k⟩ => ⟨sp_gens q r, k⟩) fun e s' ⟨X', q, _⟩ => hx e _ q
theorem target_asleep {tg : Expr} {g : TG} {v : V} {u : Value} {Q : L2.St → Hp → Prop} (hg : PG X tg g) (hx : ∀ e s', ¬ X.xe e s') (I : Inv X pins σ H s) (r : RelV v u) (h : g v σ H Q) :
    wpAny (model X.prog X.w) X.A (assign tg X.env u) (fun _ s' => (∃ σ' H', Inv X pins σ' H' s' ∧ Q σ' H') ∧ Slp s.gens s'.gens) (fun _ _ => False) s := by
  refine wpAny_mono (wpAny_asleep (hg.run pins { s with gens := s.gens.map poison } σ H v u Q (inv_gens I (allBare_poison I.bare)) r h)) (fun f s' ⟨X', ⟨σ', H', I', q⟩, r', k⟩ => ⟨⟨σ', H', inv_gens' I' (r'.allBare I'.bare), q⟩, k⟩) fun e s' ⟨X', q, _⟩ => hx e _ q
end
/-! ### a generator that is turned by a loop -/
/-- a heap's first n objects -/
def cut (h : Heap) (n : Nat) : Heap := { h with objs := h.objs.extract 0 n }
theorem cut_objs (xs : Array Obj) (n b : Nat) (hb : b < n) : (xs.extract 0 n)[b]? = xs[b]? := by
  rw [Array.getElem?_extract]
  by_cases h1 : b < xs.size
  · rw [if_pos (by omega), Nat.zero_add]
  · rw [if_neg (by omega)]; rw [Array.getElem?_eq_none (by omega)]
theorem cut_sz (xs : Array Obj) (n : Nat) : (xs.extract 0 n).size = min n xs.size := by simp
theorem cut_get {h : Heap} {n : Nat} {b : Addr} (hb : b < n) : (cut h n).get? b = h.get? b := by
  unfold Heap.get? cut
  show (match (h.objs.extract 0 n)[b]? with | some ⟨_, _, .freed, _⟩ => none | o => o) = _
  rw [cut_objs h.objs n b hb]
  rfl
theorem cut_some {h : Heap} {n : Nat} {b : Addr} {o : Obj} (e : (cut h n).get? b = some o) : b < n ∧ h.get? b = some o := by
  have l := Heap.lt_size e
  rw [show (cut h n).objs.size = min n h.objs.size from cut_sz _ _] at l
  have hb : b < n := Nat.lt_of_lt_of_le l (Nat.min_le_left _ _)
  rw [cut_get hb] at e
  exact ⟨hb, e⟩
theorem cut_size {h : Heap} {n : Nat} (l : n ≤ h.objs.size) : (cut h n).objs.size = n := by
  rw [show (cut h n).objs.size = min n h.objs.size from cut_sz _ _]
  exact Nat.min_eq_left l
theorem funs_cut {h base : Heap} {n : Nat} : ∀ {l : List Env}, h.FunFrames base l → (∀ b ∈ frs l, b < n) → (cut h n).FunFrames base l
  | [], _, _ => trivial
  | env :: r, ⟨hk, ⟨L, o, hf, hn, ho, hd⟩, hr⟩, hl => by
    have e : frs (env :: r) = L :: frs r := by unfold frs; rw [List.filterMap_cons, hf]
    exact ⟨hk, ⟨L, o, hf, hn, by rw [cut_get (hl L (by rw [e]; exact List.mem_cons_self))]; exact ho, hd⟩, funs_cut hr fun b hb => hl b (by rw [e]; exact List.mem_cons_of_mem _ hb)⟩
/-- the generator's context: woken at s, H; its frame at n -/
def ycx (P : Program) (w : World) (K : PySem.W.Frag) (mg : Str → Option Value) (base : Heap) (N : List Str) (qual : Str) (scope : Scope) (f : Addr) (cd : Value) (A : Around) (outer : List Env) (n : Nat) (pn : List (Addr × Obj)) (s : Shared) (H : Hp) : Cx where
  prog := P
  w := w
  K := K
  mg := mg
  base := base
  A := A.deeper (envOfC qual scope n f cd)
  N := N
  s_0 := { s with heap := cut s.heap n }
  H_0 := H
  env := envOfC qual scope n f cd
  outer := outer
  stack := envOfC qual scope n f cd :: outer
  ex := []
  calm := true
  fn := fun _ => true
  pn := pn
  xe := fun _ _ => False
/-- what the generator's locals hold, while it sleeps -/
def GLoc (N : List Str) (env : Env) (σ : L2.St) (lo : Obj) : Prop := ∀ h : Heap, h.get? env.locals = some lo → ∃ m, h.Ns env.locals m ∧ ∀ (i : Nat) (x : Str) (v : V), N[i]? = some x → σ[i]? = some (some v) → Vis env.scope x → ∃ u, RelV v u ∧ Look env h m x u
/-- no cells -/
structure NoCells (scope : Scope) : Prop where
  cl : ∀ n : Nat, cellsFrom n scope.names [] = []
  nm : ∀ y ∈ scope.names, y.2 ≠ .cell ∧ y.2 ≠ .free
section
variable {X : Cx} {pins : List (Addr × Obj)} {σ σg : L2.St} {H H' : Hp} {s s' : Shared} {N : List Str} {qual : Str} {scope : Scope} {f : Addr} {cd : Value} {n : Nat} {pn : List (Addr × Obj)} {lo : Obj} {B : Around}
abbrev gcx (X : Cx) (B : Around) (N : List Str) (qual : Str) (scope : Scope) (f : Addr) (cd : Value) (n : Nat) (pn : List (Addr × Obj)) (s : Shared) (H : Hp) : Cx := ycx X.prog X.w X.K X.mg X.base N qual scope f cd B X.stack n pn s H
/-- the consumer's state as the generator sees it when it is woken -/
theorem inv_wake (hk : scope.kind = .function) (nc : NoCells scope) (hd : B.handled = none) (hfr : B.frames = some X.stack) (hX : X.env.locals < n) (hXs : X.s_0.heap.objs.size ≤ n) (hsz : n ≤ s.heap.objs.size)
    (I : Inv X ((n, lo) :: (pn ++ pins)) σ H s) (hpn : ∀ p ∈ pn, p.1 ≠ n ∧ p.1 ∉ frs X.stack) (gl : GLoc N (envOfC qual scope n f cd) σg lo) (hl : σg.length = N.length) : Inv (gcx X B N qual scope f cd n pn s H) [] σg H s := by
  have ec : ∀ x : Str, (envOfC qual scope n f cd).cells.lookup x = none := fun x => by
    show (cellsFrom (n + 1) scope.names []).lookup x = none
    rw [nc.cl]
    rfl
  obtain ⟨pl, ph, pX, _, _⟩ := I.pin (n, lo) (List.mem_append_right _ List.mem_cons_self)
  have flt : ∀ b ∈ frs X.stack, b < n := fun b hb => by
    rcases List.mem_cons.1 (I.stkSub b hb) with e | hb
    · rw [e]; exact hX
    · rcases I.ok.funs.mem hb with ⟨_, o, ho, _⟩
      exact Nat.lt_of_lt_of_le (Heap.lt_size ho) hXs
  have blt : ∀ b o, X.base.get? b = some o → b < n := fun b o e => Nat.lt_of_lt_of_le (Heap.lt_size e) (Nat.le_trans I.ok.bsz hXs)
  refine ⟨⟨I.ok.mod, hk, rfl, rfl, ?_, fun x y c h => ?_, fun x hx => ?_, fun x c _ h => ?_, fun _ => hd, Around.frames_deeper hfr, .inr ⟨rfl, rfl⟩, fun b z => absurd (show b ∈ ([] : List Addr) from z) (by simp), fun b o e => ?_, ?_, fun b o _ z => absurd (show b ∈ ([] : List Addr) from z) (by simp),
    fun b z => absurd (show b ∈ ([] : List Addr) from z) (by simp), ?_, fun b hb => I.stkFree b hb⟩, rfl, I.bare, ?_, gl s.heap pl, fun x c h => ?_, ph, fun x c h => ?_, fun p hp => ?_, I.hok, hl⟩
  · show (cut s.heap n).objs.size ≤ n
    rw [cut_size hsz]
    exact Nat.le_refl _
  · rw [show (gcx X B N qual scope f cd n pn s H).env.cells.lookup x = none from ec x] at h; cases h
  · have hy : scope.names.lookup x = some .cell ∨ scope.names.lookup x = some .free := hx
    rcases hy with hy | hy
    · exact absurd rfl (nc.nm _ (PySem.mem_of_lookup hy)).1
    · exact absurd rfl (nc.nm _ (PySem.mem_of_lookup hy)).2
  · rw [show (gcx X B N qual scope f cd n pn s H).env.cells.lookup x = none from ec x] at h; cases h
  · obtain ⟨e1, e2⟩ := I.bs b o e
    exact ⟨by show (cut s.heap n).get? b = _; rw [cut_get (blt b o e)]; exact e1, e2⟩
  · show X.base.objs.size ≤ (cut s.heap n).objs.size
    rw [cut_size hsz]
    exact Nat.le_trans I.ok.bsz hXs
  · exact funs_cut I.stack flt
  · exact ⟨fun b o e _ _ _ => (cut_some e).2, fun b o e _ _ _ => ⟨o.slots, (cut_some e).2⟩, fun b o _ h _ => h, fun b o e _ => ⟨o, (cut_some e).2⟩, fun _ _ h => h, fun _ _ _ h => h, fun b ps h => ⟨#[], by have h' : H b = some (.tbl ps) := h; rw [h']; simp⟩⟩
  · rw [show (gcx X B N qual scope f cd n pn s H).env.cells.lookup x = none from ec x] at h; cases h
  · rw [show (gcx X B N qual scope f cd n pn s H).env.cells.lookup x = none from ec x] at h; cases h
  · have hp' : p ∈ pn := (List.mem_append.1 hp).elim (fun z => z) fun z => absurd z (by simp)
    obtain ⟨q1, q2, _, _, q5⟩ := I.pin p (List.mem_append_right _ (List.mem_cons_of_mem _ (List.mem_append_left _ hp')))
    exact ⟨q1, q2, (hpn p hp').1, (hpn p hp').2, q5⟩
/-- a namespace outlives its slots -/
theorem ns_slots {h h' : Heap} {a : Addr} {m : Str → Option Value} (hn : h.Ns a m) (hs : ∀ o, h.get? a = some o → ∃ sl, h'.get? a = some { o with slots := sl }) : h'.Ns a m := by
  rcases hn with ⟨o, es, ep, ho, hd, hk, hm⟩
  obtain ⟨sl, e⟩ := hs o ho
  exact ⟨_, es, ep, e, hd, hk, hm⟩
/-- the generator's state as the consumer sees it when it hands something out -/
theorem inv_back {s1 : Shared} {H1 : Hp} (hX : X.env.locals < n) (hXs : X.s_0.heap.objs.size ≤ n) (hXc : ∀ x c, X.env.cells.lookup x = some c → c < n) (hXp : ∀ p ∈ X.pn ++ pins, p.1 < n) (I : Inv X pins σ H1 s1)
    (J : Inv (gcx X B N qual scope f cd n pn s1 H1) [] σg H s) : Inv X pins σ H s := by
  have U := J.base
  have nx : ∀ b : Addr, b ∉ (gcx X B N qual scope f cd n pn s1 H1).ex := fun b z => absurd (show b ∈ ([] : List Addr) from z) (by simp)
  have any : ∀ b o, b < n → s1.heap.get? b = some o → H1 b = none → ∃ sl, s.heap.get? b = some { o with slots := sl } := fun b o hb e q =>
    U.any (by show (cut s1.heap n).get? b = some o; rw [cut_get hb]; exact e) q (nx b)
  obtain ⟨h2, g2, d2, t2, o2⟩ := s
  have ho : o2 = s1.os := J.os
  subst ho
  refine I.step (ch := (List.range s1.heap.objs.size).filter fun b => decide (n ≤ b)) (fun b hb => ?_) (fun b o h1 h2 h3 e q => ?_) (fun b o h1 h2 h3 e q => ?_) (fun b o h3 e q => ?_) (fun b o h3 e => ?_)
    (fun b xs e => U.tups b xs e) (fun b o u e => U.frzs b o u e) (fun b ps e => U.tbls b ps e) (fun m hm => ns_slots hm fun o e => any _ o hX e I.free) J.hok J.bare
  · have hb' : n ≤ b := by
      have := (List.mem_filter.mp hb).2
      exact of_decide_eq_true this
    exact ⟨.inr (Nat.le_trans hXs hb'), fun e => Nat.lt_irrefl _ (Nat.lt_of_lt_of_le (e ▸ hX) hb'), fun x c hc e => Nat.lt_irrefl _ (Nat.lt_of_lt_of_le (e ▸ hXc x c hc) hb'), fun p hp e => Nat.lt_irrefl _ (Nat.lt_of_lt_of_le (e ▸ hXp p hp) hb')⟩
  all_goals
    have lt : b < n := Nat.lt_of_not_le fun hb' => h3 (List.mem_filter.mpr ⟨List.mem_range.mpr (Heap.lt_size e), decide_eq_true hb'⟩)
    have ec : (cut s1.heap n).get? b = some o := by rw [cut_get lt]; exact e
  · exact U.keep b o ec q (fun hb => (List.mem_cons.1 (I.stkSub b hb)).elim h1 h2) (nx b)
  · exact U.any ec q (nx b)
  · exact U.free b o ec q (nx b)
  · exact U.there b o ec (nx b)
/-- the generator's own objects, for the consumer's pins -/
theorem pins_gen {s1 : Shared} {H1 : Hp} (nc : NoCells scope) (hX : X.env.locals < n) (hXs : X.s_0.heap.objs.size ≤ n) (hpn : ∀ p ∈ pn, n < p.1) (I : Inv X pins σ H s) (J : Inv (gcx X B N qual scope f cd n pn s1 H1) [] σg H s) :
    ∃ lo, Inv X ((n, lo) :: (pn ++ pins)) σ H s ∧ GLoc N (envOfC qual scope n f cd) σg lo := by
  have ec : ∀ x : Str, (envOfC qual scope n f cd).cells.lookup x = none := fun x => by
    show (cellsFrom (n + 1) scope.names []).lookup x = none
    rw [nc.cl]
    rfl
  obtain ⟨m, ⟨o, es, ep, ho, hd, hk, hm⟩, look⟩ := J.loc
  have old : ∀ b ∈ X.fs, b < n := fun b hb => by
    rcases I.ok.funs.mem hb with ⟨_, o, ho, _⟩
    exact Nat.lt_of_lt_of_le (Heap.lt_size ho) hXs
  have ho' : s.heap.get? n = some o := ho
  refine ⟨o, I.pins_of fun p hp => ?_, fun h e => ⟨m, ⟨o, es, ep, e, hd, hk, hm⟩, fun i x v h1 h2 h3 => ?_⟩⟩
  · rcases List.mem_cons.1 hp with rfl | hp
    · exact ⟨ho', J.free, fun e => Nat.lt_irrefl _ (e ▸ hX), fun hb => Nat.lt_irrefl _ (old _ hb), fun v q => by rw [hd] at q; cases q⟩
    · rcases List.mem_append.1 hp with hp | hp
      · obtain ⟨q1, q2, _, _, q5⟩ := J.pin p (List.mem_append_left _ hp)
        exact ⟨q1, q2, fun e => Nat.lt_asymm hX (e ▸ hpn p hp), fun hb => Nat.lt_asymm (old _ hb) (hpn p hp), q5⟩
      · exact I.pin p (List.mem_append_right _ hp)
  · obtain ⟨u, ru, lk⟩ := look i x v h1 h2 h3
    rcases lk with ⟨a, b⟩ | ⟨_, c, a, _⟩
    · exact ⟨u, ru, .inl ⟨a, b⟩⟩
    · rw [show (gcx X B N qual scope f cd n pn s1 H1).env.cells.lookup x = none from ec x] at a
      cases a
end
/-! ### its code -/
theorem execs_append_wrap {env : Env} {K : Flow → Sem PySem.Fin} {J : Value → Sem PySem.Fin} {gd : Bool → Bool} {lv : List Value → List Value} {rest : List Stmt} : ∀ pre : List Stmt,
    (execs (pre ++ rest) env).wrap K J gd lv = (execs pre env).wrap (fun f => match f with | .next => (execs rest env).wrap K J gd lv | f => K f) J gd lv
  | [] => rfl
  | st :: pre => by
    rw [List.cons_append]; rw [execs_cons_wrap, execs_cons_wrap]
    congr 1
    funext f
    cases f with
    | next => exact execs_append_wrap pre
    | brk => rfl
    | cont => rfl
    | ret v => rfl
/-- handed out: the consumer's turn -/
def YF (X : Cx) (pins : List (Addr × Obj)) (n : Nat) (pn : List (Addr × Obj)) (g : TG) (tb : TS) (D : Ends) : Protocol := fun _ _ v s kap =>
  ∃ (x : V) (lo : Obj) (σc : L2.St) (H : Hp) (Nx : L2.St → Hp → Prop), RelV x v ∧ Inv X ((n, lo) :: (pn ++ pins)) σc H s ∧ (g x σc H fun σ2 H2 => tb { D with nx := Nx, ct := Nx, bk := D.nx } σ2 H2) ∧
    ∀ s' σ' H', Inv X ((n, lo) :: (pn ++ pins)) σ' H' s' → Nx σ' H' → kap (.send .none) s' ∧ kap (.send (.bool true)) s'
/-- no more to come -/
def RF (X : Cx) (pins : List (Addr × Obj)) (pn : List (Addr × Obj)) (D : Ends) : GenEnd := fun n s₀ r s₁ => ((r = .ok (.ret .none) ∨ r = .ok .next) ∧ (fun (_ : Nat) (_ s : Shared) => ∃ σc H, Inv X (pn ++ pins) σc H s ∧ D.nx σc H) n s₀ s₁) ∨ ∃ e, r = .error e ∧ (fun (_ : Value) (_ : Shared) => False) e s₁
/-- the generator's place in the consumer's run -/
structure Gn (X : Cx) (pins : List (Addr × Obj)) (scope : Scope) (n : Nat) (pn : List (Addr × Obj)) (B : Around) : Prop where
  hk : scope.kind = .function
  co : (scope.isCoroutine = false)
  hi : ∀ (q : Str) (m : Nat) (f : Addr) (cd : Value), interactive (envOfC q scope m f cd) = false
  nc : NoCells scope
  hd : B.handled = none
  hfr : B.frames = some X.stack
  hX : X.env.locals < n
  hXs : X.s_0.heap.objs.size ≤ n
  hXc : ∀ x c, X.env.cells.lookup x = some c → c < n
  hXp : ∀ p ∈ X.pn ++ pins, p.1 < n
  hpn : ∀ p ∈ pn, n < p.1
/-- what a turn reads -/
def Turn (tt : TT) (tas tbs : TS) (te : TE) (g : TG) (tb : TS) (D : Ends) (Hd : Nat → L2.St → L2.St → Hp → Prop) : Prop := ∀ m σg σc H, Hd m σg σc H → tt σg H fun b H1 => if b = true then
  tas { nx := fun σ1 H2 => te σ1 H2 fun x H3 => ∃ Nx : L2.St → Hp → Prop, (g x σc H3 fun σ2 H4 => tb { D with nx := Nx, ct := Nx, bk := D.nx } σ2 H4) ∧ ∀ σ3 H5, Nx σ3 H5 → tbs { nx := fun σ2 H6 => ∃ m', m' < m ∧ Hd m' σ2 σ3 H6, rt := fun _ _ => False } σ1 H5, rt := fun _ _ => False } σg H1
  else D.nx σc H1
section
variable {X : Cx} {pins : List (Addr × Obj)} {N : List Str} {qual : Str} {scope : Scope} {f : Addr} {cd : Value} {n : Nat} {pn : List (Addr × Obj)} {B : Around}
/-- the generator runs, the consumer waits -/
def GJ (X : Cx) (pins : List (Addr × Obj)) (N : List Str) (qual : Str) (scope : Scope) (f : Addr) (cd : Value) (n : Nat) (pn : List (Addr × Obj)) (B : Around) (σg σc : L2.St) (H : Hp) (s : Shared) : Prop :=
  ∃ s1 H1, Inv X pins σc H1 s1 ∧ Inv (gcx X B N qual scope f cd n pn s1 H1) [] σg H s
theorem GJ.back {σg σc : L2.St} {H : Hp} {s : Shared} (W : Gn X pins scope n pn B) (h : GJ X pins N qual scope f cd n pn B σg σc H s) : ∃ lo, Inv X ((n, lo) :: (pn ++ pins)) σc H s ∧ GLoc N (envOfC qual scope n f cd) σg lo := by
  obtain ⟨s1, H1, I, J⟩ := h
  exact pins_gen W.nc W.hX W.hXs W.hpn (inv_back W.hX W.hXs W.hXc W.hXp I J) J
theorem GJ.wake {σg σc : L2.St} {H : Hp} {s : Shared} {lo : Obj} (W : Gn X pins scope n pn B) (I : Inv X ((n, lo) :: (pn ++ pins)) σc H s) (gl : GLoc N (envOfC qual scope n f cd) σg lo) (hl : σg.length = N.length) : GJ X pins N qual scope f cd n pn B σg σc H s := by
  have pl := (I.pin (n, lo) (List.mem_append_right _ List.mem_cons_self)).1
  have hsz : n ≤ s.heap.objs.size := Nat.le_of_lt (Heap.lt_size pl)
  refine ⟨s, H, I.pins_of fun p hp => I.pin p (List.mem_append_right _ (List.mem_cons_of_mem _ (List.mem_append_right _ hp))), inv_wake W.hk W.nc W.hd W.hfr W.hX W.hXs hsz I (fun p hp => ⟨fun e => Nat.lt_irrefl _ (e ▸ W.hpn p hp), fun hb => ?_⟩) gl hl⟩
  have lt : p.1 < n := by
    rcases List.mem_cons.1 (I.stkSub _ hb) with e | hb
    · rw [e]; exact W.hX
    · rcases I.ok.funs.mem hb with ⟨_, o, ho, _⟩
      exact Nat.lt_of_lt_of_le (Heap.lt_size ho) W.hXs
  exact Nat.lt_asymm lt (W.hpn p hp)
theorem GJ.len {σg σc : L2.St} {H : Hp} {s : Shared} (h : GJ X pins N qual scope f cd n pn B σg σc H s) : σg.length = N.length := by
  obtain ⟨s1, H1, I, J⟩ := h
  exact J.len
end
open GenW
section
variable {X : Cx} {pins : List (Addr × Obj)} {N : List Str} {qual : Str} {scope : Scope} {f : Addr} {cd : Value} {n : Nat} {pn : List (Addr × Obj)} {B : Around}
theorem seg_loop {test ye : Expr} {as bs body : List Stmt} {yp pos p : Pos} {tt : TT} {tas tbs : TS} {te : TE} {g : TG} {tb : TS} {D : Ends} {Hd : Nat → L2.St → L2.St → Hp → Prop} (W : Gn X pins scope n pn B)
    (pt : ∀ s H, PT (gcx X B N qual scope f cd n pn s H) test tt) (pas : ∀ s H, PSs (gcx X B N qual scope f cd n pn s H) as tas) (py : ∀ s H, PE (gcx X B N qual scope f cd n pn s H) ye te) (pbs : ∀ s H, PSs (gcx X B N qual scope f cd n pn s H) bs tbs)
    (turn : Turn tt tas tbs te g tb D Hd) {kk : Result → Sem PySem.Fin}
    (hkk : ∀ (k : Nat) (s₀ s : Shared), (∃ σc H, Inv X (pn ++ pins) σc H s ∧ D.nx σc H) → Seg (model X.prog X.w) B (RF X pins pn D) (YF X pins n pn g tb D) k s₀ (.func body (envOfC qual scope n f cd)) (kk (.ok .next)) [] s) :
    ∀ (m k : Nat), m < k → ∀ (σg σc : L2.St) (H : Hp) (s s₀ : Shared), Hd m σg σc H → GJ X pins N qual scope f cd n pn B σg σc H s →
      Seg (model X.prog X.w) B (RF X pins pn D) (YF X pins n pn g tb D) k s₀ (.whileLoop test (as ++ .Expr (.Yield (some ye) yp) pos :: bs) [] (envOfC qual scope n f cd)) ((model X.prog X.w).den (.whileLoop test (as ++ .Expr (.Yield (some ye) yp) pos :: bs) [] (envOfC qual scope n f cd)))
        [.ret kk none false [] (.func body (envOfC qual scope n f cd)) p []] s := by
  have over : B.over (.whileLoop test (as ++ .Expr (.Yield (some ye) yp) pos :: bs) [] (envOfC qual scope n f cd)) [.ret kk none false [] (.func body (envOfC qual scope n f cd)) p []] = B.deeper (envOfC qual scope n f cd) := (over_loop rfl rfl).trans over_func
  intro m
  induction m using _root_.Nat.strongRecOn with
  | ind m ih =>
    intro k hk σg σc H s s₀ hd J
    obtain ⟨s1, H1, I, J1⟩ := J
    refine seg_whileLoop ?_
    rw [over]
    refine wpAny_mono ((pt s1 H1).run [] s σg H _ J1 (turn m σg σc H hd)) (fun b s' hb => ?_) (fun x s' hx => False.elim hx)
    obtain ⟨H2, J2, q⟩ := hb
    cases b with
    | false =>
      rw [if_neg Bool.false_ne_true] at q ⊢
      refine seg_execs_nil ?_
      obtain ⟨lo, I2, _⟩ := GJ.back W ⟨s1, H1, I, J2⟩
      exact seg_leaf (.ok .next) (hkk k s₀ s' ⟨σc, H2, I2.pins_of fun p hp => I2.pin p (List.mem_append_right _ (List.mem_cons_of_mem _ hp)), q⟩)
    | true =>
      rw [if_pos rfl] at q ⊢
      rw [execs_append_wrap]
      refine seg_wrap ?_
      rw [over]
      refine wpAny_mono ((pas s1 H1).run [] s' σg H2 _ J2 q) (fun fl s2 hs => ?_) (fun x s' hx => False.elim hx)
      cases fl with
      | next =>
        obtain ⟨σ1, H3, J3, q3⟩ := hs
        refine seg_execs_cons ?_
        obtain ⟨k', rfl⟩ : ∃ k', k = k' + 1 := ⟨k - 1, by omega⟩
        refine seg_Expr_Yield rfl rfl rfl ?_ W.co (W.hi _ _ _ _)
        rw [over]
        refine wpAny_mono ((py s1 H1).run [] s2 σ1 H3 _ J3 q3) (fun v s3 hv => ?_) (fun x s' hx => False.elim hx)
        obtain ⟨x, H4, J4, rv, Nx, qc, hN⟩ := hv
        intro kap hkap
        obtain ⟨lo, I4, gl⟩ := GJ.back W ⟨s1, H1, I, J4⟩
        refine ⟨x, lo, σc, H4, Nx, rv, I4, qc, fun s5 σ5 H5 I5 n5 => ?_⟩
        refine (fun z => ⟨hkap .none s5 z, hkap (.bool true) s5 z⟩) ?_
        obtain ⟨s6, H6, I6, J6⟩ := GJ.wake W I5 gl J4.len
        refine seg_wrap ?_
        rw [over]
        refine wpAny_mono ((pbs s6 H6).run [] s5 σ1 H5 _ J6 (hN σ5 H5 n5)) (fun fl s7 hs => ?_) (fun x s' hx => False.elim hx)
        cases fl with
        | next =>
          obtain ⟨σ7, H7, J7, m', hm', hd'⟩ := hs
          exact seg_again rfl (ih m' hm' k' (by omega) σ7 σ5 H7 s7 _ hd' ⟨s6, H6, I6, J7⟩)
        | brk => obtain ⟨_, _, _, z⟩ := hs; exact False.elim z
        | cont => obtain ⟨_, _, _, z⟩ := hs; exact False.elim z
        | ret u => obtain ⟨_, _, _, _, _, z⟩ := hs; exact False.elim z
      | brk => obtain ⟨_, _, _, z⟩ := hs; exact False.elim z
      | cont => obtain ⟨_, _, _, z⟩ := hs; exact False.elim z
      | ret u => obtain ⟨_, _, _, _, _, z⟩ := hs; exact False.elim z
theorem seg_gen {test ye : Expr} {pre as bs : List Stmt} {yp pos wpos : Pos} {tt : TT} {tpre tas tbs : TS} {te : TE} {g : TG} {tb : TS} {D : Ends} {Hd : Nat → L2.St → L2.St → Hp → Prop} (W : Gn X pins scope n pn B)
    (ppre : ∀ s H, PSs (gcx X B N qual scope f cd n pn s H) pre tpre) (pt : ∀ s H, PT (gcx X B N qual scope f cd n pn s H) test tt) (pas : ∀ s H, PSs (gcx X B N qual scope f cd n pn s H) as tas) (py : ∀ s H, PE (gcx X B N qual scope f cd n pn s H) ye te) (pbs : ∀ s H, PSs (gcx X B N qual scope f cd n pn s H) bs tbs)
    (turn : Turn tt tas tbs te g tb D Hd) {M : Nat} {σ0 σc : L2.St} {H : Hp} {s s₀ : Shared} (J : GJ X pins N qual scope f cd n pn B σ0 σc H s) (hp : tpre { nx := fun σg H' => ∃ m, m ≤ M ∧ Hd m σg σc H', rt := fun _ _ => False } σ0 H) :
    Seg (model X.prog X.w) B (RF X pins pn D) (YF X pins n pn g tb D) (M + 1) s₀ (.func (pre ++ [.While test (as ++ .Expr (.Yield (some ye) yp) pos :: bs) [] wpos]) (envOfC qual scope n f cd))
      ((model X.prog X.w).den (.func (pre ++ [.While test (as ++ .Expr (.Yield (some ye) yp) pos :: bs) [] wpos]) (envOfC qual scope n f cd))) [] s := by
  refine seg_func ?_
  rw [execs_append_wrap]
  refine seg_wrap ?_
  rw [over_func]
  obtain ⟨s1, H1, I, J1⟩ := J
  refine wpAny_mono ((ppre s1 H1).run [] s σ0 H _ J1 hp) (fun fl s2 hs => ?_) (fun x s' hx => False.elim hx)
  cases fl with
  | next =>
    obtain ⟨σ1, H2, J2, m, hm, hd⟩ := hs
    refine seg_execs_cons ?_
    refine seg_While fun p => ?_
    exact seg_loop W pt pas py pbs turn (fun k s₀ s h => seg_end (.ok (.ret .none)) (.inl ⟨.inl rfl, h⟩)) m (M + 1) (by omega) σ1 σc H2 s2 s₀ hd ⟨s1, H1, I, J2⟩
  | brk => obtain ⟨_, _, _, z⟩ := hs; exact False.elim z
  | cont => obtain ⟨_, _, _, z⟩ := hs; exact False.elim z
  | ret u => obtain ⟨_, _, _, _, _, z⟩ := hs; exact False.elim z
end
theorem letOwned_gen {P : Program} {w : World} {A : Around} {E : Value → Shared → Prop} {s : Shared} {tg : Expr} {a : Addr} {g : Nat} {v : Value} {Q : Unit → Shared → Prop} (hg : s.heap.IsGen a g) (hQ : Q () s) : wpAny (model P w) A (letOwnedTupleGo tg (.ref a) v) Q E s := by
  obtain ⟨o, nm, qn, ho, hc, hd, _⟩ := hg
  unfold letOwnedTupleGo
  split
  all_goals first
    | exact wpAny_pure hQ
    | (cases v with
       | ref T =>
         refine (wpAny_bind (wpAny_load ho ?_))
         rw [hc, hd]
         dsimp only
         rw [if_neg (by simp)]
         exact wpAny_pure hQ
       | _ => exact wpAny_pure hQ)
open GenW
section
variable {X : Cx} {pins : List (Addr × Obj)} {n : Nat}
theorem gen_loop {tg : Expr} {body : List Stmt} {g : TG} {tb : TS} {D : Ends} {a : Addr} {gi : Nat} {go : Obj} (hXh : X.A.handled = none) (hroom : X.A.depth < recursionLimit) (hx : ∀ e s', ¬ X.xe e s') (hgo : ∀ h : Heap, h.get? a = some go → h.IsGen a gi)
    (hg : PG X tg g) (hb : PSs X body tb) {k : Nat} {s : Shared} {σc : L2.St} {H : Hp} {gs : GenState} (hgs : s.gens[gi]? = some gs) (I : Inv X ([(a, go)] ++ pins) σc H s)
    (goes : gs.Goes (model X.prog X.w) X.A.in1 (RF X pins [(a, go)] D) (YF X pins n [(a, go)] g tb D) k (.send .none) (s.setGen gi .running)) :
    codeAny (model X.prog X.w) X.A (.forLoop tg (.ref a) body [] X.env) (fun r s' => match r with | .ok f => SP X pins D f s' | .error e => False) s := by
  refine codeAny_forLoop_any (fun k s => ∃ gs σc H, s.gens[gi]? = some gs ∧ Inv X ([(a, go)] ++ pins) σc H s ∧ gs.Goes (model X.prog X.w) X.A.in1 (RF X pins [(a, go)] D) (YF X pins n [(a, go)] g tb D) k (.send .none) (s.setGen gi .running)) ?_ k ⟨gs, σc, H, hgs, I, goes⟩
  clear goes I hgs
  rintro k s ⟨gs, σc, H, hgs, I, goes⟩
  have lt : gi < s.gens.size := by
    by_cases z : gi < s.gens.size
    · exact z
    · rw [Array.getElem?_eq_none (by omega)] at hgs; cases hgs
  have pa := (I.pin (a, go) (List.mem_append_right _ List.mem_cons_self)).1
  have sub : ∀ {pins' : List (Addr × Obj)} {σ : L2.St} {H : Hp} {s : Shared}, Inv X pins' σ H s → (∀ p ∈ pins, p ∈ pins') → Inv X pins σ H s := fun I h => I.pins_of fun p hp => I.pin p (List.mem_append_right _ (h p hp))
  refine wpAny_gsz (n := gi + 1) lt (wpAny_mono (next_genG (n := k) (Q := fun r s2 => match r with
      | none => SP X pins D .next s2
      | some v => ∃ s₁ gs', s2 = s₁.setGen gi gs' ∧ gs'.bare = true ∧ YF X pins n [(a, go)] g tb D (k - 1) (s.setGen gi .running) v s₁ (fun r' s'' => match k with
        | 0 => False
        | m + 1 => gs'.Goes (model X.prog X.w) X.A.in1 (RF X pins [(a, go)] D) (YF X pins n [(a, go)] g tb D) m r' s''))
    (E := fun _ _ => False) hXh I.nolimit hroom (hgo _ pa) hgs goes (fun v s₁ gs' hb' hY => ⟨s₁, gs', rfl, hb', hY⟩) (fun s₁ hF h' hk => ?_) (fun e s₁ he => False.elim he)) (fun r s2 hr hsz => ?_) (fun e s' h => False.elim h))
  · obtain ⟨σ', H', I', q⟩ := hF
    refine ⟨σ', H', ?_, q⟩
    have I2 := sub I' (fun p hp => List.mem_cons_of_mem _ hp)
    have I3 := inv_gens I2 (allBare_setGen (g := gi) (x := .finished) I2.bare rfl)
    exact I3.kept hk
  · cases r with
    | none => exact (wpAny_execs_nil hr)
    | some v =>
      obtain ⟨s₁, gs', rfl, hb', x, lo, σ1, H1, Nx, rv, I1, qc, hk⟩ := hr
      have hin : gi < s₁.gens.size := by
        have : (s₁.setGen gi gs').gens.size = s₁.gens.size := setGen_size _ _ _
        omega
      have I2 : Inv X ((n, lo) :: ([(a, go)] ++ pins)) σ1 H1 (s₁.setGen gi gs') := inv_gens I1 (allBare_setGen I1.bare hb')
      have pa2 := (I2.pin (a, go) (List.mem_append_right _ (by simp))).1
      have at2 : (s₁.setGen gi gs').gens[gi]? = some gs' := setGen_at hin
      refine letOwned_gen (hgo _ pa2) ?_
      refine wpAny_mono (target_asleep hg hx I2 rv qc) (fun _ s3 h3 => ?_) (fun e s' h => False.elim h)
      obtain ⟨⟨σ3, H3, I3, q3⟩, k3⟩ := h3
      refine wpAny_mono (body_asleep hb hx I3 q3) (fun fl s4 h4 => ?_) (fun e s' h => False.elim h)
      obtain ⟨h4, k4⟩ := h4
      have again : ∀ {σ4 : L2.St} {H4 : Hp}, Inv X ((n, lo) :: ([(a, go)] ++ pins)) σ4 H4 s4 → Nx σ4 H4 → ∃ m, m < k ∧ ∃ gs σc H, s4.gens[gi]? = some gs ∧ Inv X ([(a, go)] ++ pins) σc H s4 ∧ gs.Goes (model X.prog X.w) X.A.in1 (RF X pins [(a, go)] D) (YF X pins n [(a, go)] g tb D) m (.send .none) (s4.setGen gi .running) := by
        intro σ4 H4 I4 n4
        obtain ⟨g1, g2⟩ := hk (s4.setGen gi .running) σ4 H4 (inv_gens I4 (allBare_setGen I4.bare rfl)) n4
        cases k with
        | zero => exact False.elim g1
        | succ m =>
          refine ⟨m, Nat.lt_succ_self m, gs', σ4, H4, ?_, I4.pins_of fun p hp => I4.pin p (List.mem_append_right _ (List.mem_cons_of_mem _ hp)), g1⟩
          cases gs' with
          | suspended k' l c p fs cl => exact k4 _ _ (k3 _ _ at2 (.inl rfl)) (.inl rfl)
          | fresh c => cases g2.1
          | running => exact False.elim g1
          | finished => exact False.elim g1
      cases fl with
      | next => obtain ⟨σ4, H4, I4, n4⟩ := h4; exact again I4 n4
      | cont => obtain ⟨σ4, H4, I4, n4⟩ := h4; exact again I4 n4
      | brk => obtain ⟨σ4, H4, I4, q4⟩ := h4; exact ⟨σ4, H4, sub I4 (fun p hp => List.mem_cons_of_mem _ (List.mem_cons_of_mem _ hp)), q4⟩
      | ret u => obtain ⟨w, σ4, H4, I4, r4, q4⟩ := h4; exact ⟨w, σ4, H4, sub I4 (fun p hp => List.mem_cons_of_mem _ (List.mem_cons_of_mem _ hp)), r4, q4⟩
end
section
variable {X : Cx} {pins : List (Addr × Obj)}
/-- a call of a generator's def makes a generator that has not begun -/
theorem gen_made {x qual : Str} {st : Stmt} {f : Addr} {fd : FuncData} {N ps : List Str} {k : Nat} {σ : L2.St} {H : Hp} {s : Shared} {us : List Value} {vs : List V} (F : Fun X.K x qual st f fd) (S : GScope N ps (defScope st)) (nc : NoCells (defScope st)) (hr : Room (k + 1) X.A) (I : Inv X pins σ H s)
    (hb : BindsTo s fd ⟨us, []⟩ (ps.zip us)) (r : Vals vs us) (hl : vs.length = ps.length) :
    codeAny (model X.prog X.w) X.A (.call (.ref f) ⟨us, []⟩) (fun rs s' => match rs with
      | .ok (.ret u) => ∃ (a : Addr) (gi : Nat) (go lo : Obj) (cd : Value), u = .ref a ∧ (∀ h : Heap, h.get? a = some go → h.IsGen a gi) ∧ s.heap.objs.size < a ∧ s'.gens[gi]? = some (.fresh (.func (defBody st) (envOfC qual (defScope st) s.heap.objs.size f cd))) ∧
          Inv X ((s.heap.objs.size, lo) :: ([(a, go)] ++ pins)) σ H s' ∧ GLoc N (envOfC qual (defScope st) s.heap.objs.size f cd) (start N vs) lo
      | _ => False) s := by
  obtain ⟨o1, o2, k0, dc0, pm0, an0, cdv, ct0, sl0, rfl, lk, hcd⟩ := F.ex
  have KX : X.K.In s.heap := I.kIn
  have lim : s.heap.NoLimit := I.nolimit
  have hkind : ∀ y ∈ ps.zip us, (defScope st).names.lookup y.1 = some .local ∨ ((defScope st).names.lookup y.1 = some .cell ∧ ((cellsFrom (s.heap.objs.size + 1) (defScope st).names []).lookup y.1).isSome = true) := by
    rintro ⟨m, v⟩ hy
    exact (S.par m (List.of_mem_zip hy).1).imp id fun q => ⟨q, PySem.W.cellsFrom_some _ _ _ (.inl q)⟩
  refine codeAny_call_generator hr.depth (KX _ _ lk) rfl S.co S.gen rfl (PySem.W.codeRec_of KX hcd) (hb _ _ _ _ (wpAny_newFunctionEnv_cells S.kind hkind fun env he s1 x => ?_))
  subst he
  refine ⟨lim.keeps x.toInCall.keep, ?_⟩
  obtain ⟨hh1, tk1, es1, hk1⟩ := x.done
  have same_os : s1.os = s.os := by rw [es1]
  have same_gens : s1.gens = s.gens := by rw [es1]
  have grown : s.heap.objs.size < s1.heap.objs.size := x.toInCall.ns.lt
  have kept1 : ∀ b o, s.heap.get? b = some o → s1.heap.get? b = some o := x.toInCall.keep
  have I1 := inv_startG (E := E0) S hr.hd I.env0 hl r x
  obtain ⟨m, ⟨lo, es, ep, ho, hd, hsk, hm⟩, look⟩ := I1.loc
  have ho' : s1.heap.get? s.heap.objs.size = some lo := ho
  have born : ∀ (go : Obj) (n1 n2 : Value) (tk2 : Nat), go.cls = .type "generator" → go.data = .fields #[.int s1.gens.size 0, n1, n2] → go.slots = #[] → (∀ h : Heap, (h.push go).get? h.objs.size = some go) →
      ∃ (a : Addr) (gi : Nat) (go' lo : Obj) (cd : Value), Value.ref s1.heap.objs.size = .ref a ∧ (∀ h : Heap, h.get? a = some go' → h.IsGen a gi) ∧ s.heap.objs.size < a ∧ (s1.gens.push (.fresh (.func (defBody st) (envOfC qual (defScope st) s.heap.objs.size f cdv))))[gi]? = some (.fresh (.func (defBody st) (envOfC qual (defScope st) s.heap.objs.size f cd))) ∧
        Inv X ((s.heap.objs.size, lo) :: ([(a, go')] ++ pins)) σ H { s1 with gens := s1.gens.push (.fresh (.func (defBody st) (envOfC qual (defScope st) s.heap.objs.size f cdv))), toks := tk2, heap := s1.heap.push go } ∧ GLoc N (envOfC qual (defScope st) s.heap.objs.size f cd) (start N vs) lo := by
    intro go n1 n2 tk2 hgc hgd hgs hgp
    have kp2 : ∀ b o, s.heap.get? b = some o → (s1.heap.push go).get? b = some o := fun b o e => Heap.get?_push_of_some _ (kept1 b o e)
    have I2 : Inv X pins σ H { s1 with gens := s1.gens.push (.fresh (.func (defBody st) (envOfC qual (defScope st) s.heap.objs.size f cdv))), toks := tk2, heap := s1.heap.push go } :=
      I.call' (ch := []) same_os (Un.kept kp2) (I.hok.kept kp2) (AllBare.push (by rw [same_gens]; exact I.bare) rfl) fun b z => by simp at z
    refine ⟨s1.heap.objs.size, s1.gens.size, go, lo, cdv, rfl, fun h e => ⟨go, n1, n2, e, hgc, hgd, hgs⟩, grown, Array.getElem?_push_size .., I2.pins_of fun p hp => ?_, fun h e => ⟨m, ⟨lo, es, ep, e, hd, hsk, hm⟩, fun i y v a1 a2 a3 => ?_⟩⟩
    · rcases List.mem_cons.1 hp with rfl | hp
      · exact ⟨Heap.get?_push_of_some _ ho', I1.free, fun e => Nat.lt_irrefl _ (e ▸ I.lt), I.nofs (Nat.le_refl _), fun v q => by rw [hd] at q; cases q⟩
      · rcases List.mem_append.1 hp with hp | hp
        · rw [(List.mem_singleton.mp hp)]
          exact ⟨hgp _, I1.hok.fresh (Nat.le_refl _), fun e => (by
          have e' : s1.heap.objs.size = X.env.locals := e
          have l := I.lt
          rw [← e'] at l
          exact Nat.lt_asymm grown l), I.nofs (Nat.le_of_lt grown), fun v q => by rw [hgd] at q; cases q⟩
        · exact I2.pin p (List.mem_append_right _ hp)
    · obtain ⟨u, ru, lk⟩ := look i y v a1 a2 a3
      refine ⟨u, ru, lk.imp (fun z => z) fun ⟨z1, c, z2, z3⟩ => ?_⟩
      have z4 : (cellsFrom (s.heap.objs.size + 1) (defScope st).names []).lookup y = some c := z2
      rw [nc.cl] at z4
      cases z4
  exact born _ _ _ _ rfl rfl rfl (fun _ => Heap.get?_push_size _ rfl)
end
/-- how a loop over a generator's def reads: Hd tells both sides' states where the generator looks whether to go on -/
def tForG (N ps : List Str) (t : TA) (tpre : TS) (tt : TT) (tas : TS) (te : TE) (tbs : TS) (g : TG) (tb : TS) : TS := fun D σ H => t σ H fun vs H1 => vs.length = ps.length ∧ ∃ (M : Nat) (Hd : Nat → L2.St → L2.St → Hp → Prop),
  tpre { nx := fun σg H' => ∃ m, m ≤ M ∧ Hd m σg σ H', rt := fun _ _ => False } (start N vs) H1 ∧ Turn tt tas tbs te g tb D Hd
/-- the rules of the generator's rows, wherever it is woken -/
structure GenRows (X : Cx) (N : List Str) (qual : Str) (scope : Scope) (f : Addr) (pre as bs : List Stmt) (test ye : Expr) (tpre : TS) (tt : TT) (tas : TS) (te : TE) (tbs : TS) (n : Nat) (cd : Value) (pn : List (Addr × Obj)) (s : Shared) (H : Hp) : Prop where
  pre : PSs (gcx X X.A.in1 N qual scope f cd n pn s H) pre tpre
  test : PT (gcx X X.A.in1 N qual scope f cd n pn s H) test tt
  as : PSs (gcx X X.A.in1 N qual scope f cd n pn s H) as tas
  ye : PE (gcx X X.A.in1 N qual scope f cd n pn s H) ye te
  bs : PSs (gcx X X.A.in1 N qual scope f cd n pn s H) bs tbs
section
variable {X : Cx}
theorem ps_forGen {x y qual : Str} {st : Stmt} {f : Addr} {fd : FuncData} {N ps : List Str} {k : Nat} {pre as bs body : List Stmt} {test ye e tg : Expr} {es : List Expr} {p cpos pos yp ypos wpos : Pos} {tpre tas tbs tb : TS} {tt : TT} {te : TE} {g : TG} {t : TA}
    (F : Fun X.K x qual st f fd) (S : GScope N ps (defScope st)) (nc : NoCells (defScope st)) (shape : defBody st = pre ++ [.While test (as ++ .Expr (.Yield (some ye) yp) ypos :: bs) [] wpos])
    (rules : ∀ n cd pn s H, Room k (X.A.in1.deeper (envOfC qual (defScope st) n f cd)) → GenRows X N qual (defScope st) f pre as bs test ye tpre tt tas te tbs n cd pn s H)
    (hr : Room (k + 2) X.A) (hx : ∀ e s', ¬ X.xe e s') (hg : Gl X y) (hm : X.mg y = some (.ref f)) (hk : PySem.W.keepIn X.K (.ref f) = true) (hb : Binds X.K fd ps []) (ha : PA X (e :: es) t) (hgt : PG X tg g) (hbody : PSs X body tb)
    (hi : ∀ (q : Str) (m : Nat) (f : Addr) (cd : Value), interactive (envOfC q (defScope st) m f cd) = false := by intro _ _ _ _; rfl) (hdb : (y == ("__debug__" : Str)) = false := by decide) (he : starEach (e :: es) X.env = (false, eval e X.env) :: starEach es X.env := by rfl)
    (hpl : (backTo cpos (starEach es X.env)).any (·.1) = false := by rfl) (hs : ∀ z, foldedSetIterable (.Call (.Name y p) (e :: es) [] cpos) X.env z = pure z := by intro _; rfl) :
    PS X (.For tg (.Call (.Name y p) (e :: es) [] cpos) body [] pos) (tForG N ps t tpre tt tas te tbs g tb) := by
  refine (⟨fun pins s σ H D I h => ?_⟩)
  refine wpAny_For (wpAny_Call_Name_kw (ld_glob I hg hm ?_ hdb)) hs
  refine PySem.W.callWith_K (h₀ := X.base) I.ok.mod.kin hk (thn (ha.run cpos pins s σ H _ I h) fun us s1 ⟨vs, H1, I1, r, hl, M, Hd, hpre, turn⟩ => ⟨I1.kIn, ?_⟩) he hpl
  have ll : us.length = ps.length := r.length.symm.trans hl
  have hb1 : BindsTo s1 fd ⟨us, []⟩ (ps.zip us) := by
    have z := hb s1 us I1.kIn (by rw [List.append_nil]; exact ll)
    rw [List.append_nil] at z
    exact z
  refine wpAny_call (codeAny_mono (gen_made (k := k + 1) F S nc hr I1 hb1 r hl) fun rs s' hq => ?_)
  match rs, hq with
  | .ok (.ret u), ⟨a, gi, go, lo, cd, eu, hgo, lta, hgs, I2, gl⟩ =>
    subst eu
    have pa := (I2.pin (a, go) (List.mem_append_right _ (by simp))).1
    refine wpAny_pyIter_gen (hgo _ pa) ?_
    have W : Gn X pins (defScope st) s1.heap.objs.size [(a, go)] X.A.in1 := ⟨S.kind, S.co, hi, nc, hr.hd, I1.ok.frames, I1.lt, I1.sz, fun z c e => (by obtain ⟨v, o, ho, _⟩ := I1.cell z c e; exact Heap.lt_size ho), fun p hp => Heap.lt_size (I1.pin p hp).1, fun p hp => by rw [List.mem_singleton.mp hp]; exact lta⟩
    have R := rules s1.heap.objs.size cd [(a, go)]
    have rm : Room k (X.A.in1.deeper (envOfC qual (defScope st) s1.heap.objs.size f cd)) := (hr.in1).deeper _
    have I3 : Inv X ((s1.heap.objs.size, lo) :: ([(a, go)] ++ pins)) σ H1 (s'.setGen gi .running) := inv_gens I2 (allBare_setGen I2.bare rfl)
    have hl2 : (start N vs).length = N.length := by
      have z := congrArg List.length S.pre
      rw [List.length_take] at z
      unfold L2.start
      rw [List.length_append]; rw [List.length_map, List.length_replicate]
      omega
    refine codeAny_mono (gen_loop (D := D) (k := M + 1) (n := s1.heap.objs.size) hr.hd (by have := hr.dp; omega) hx hgo hgt hbody hgs (I2.pins_of fun p hp => I2.pin p (List.mem_append_right _ (List.mem_cons_of_mem _ hp))) ⟨rfl, ?_⟩) (fun rs s3 h3 => ?_)
    · rw [shape]
      exact seg_gen W (fun s H => (R s H rm).pre) (fun s H => (R s H rm).test) (fun s H => (R s H rm).as) (fun s H => (R s H rm).ye) (fun s H => (R s H rm).bs) turn (GJ.wake W I3 gl hl2) hpre
    · cases rs with
      | ok fl => exact h3
      | error e => exact False.elim h3
end
/-! ### the walk over statements, step by step: what its generator's rows read, whoever asks for the next one -/
def gW (s : Stmt) : Stmt := (defBody s).getLastD (.Pass ⟨0, 0, 0, 0⟩)
def gWT (s : Stmt) : Expr := match gW s with
  | .While t _ _ _ => t
  | _ => .Name "" ⟨0, 0, 0, 0⟩
def gWB (s : Stmt) : List Stmt := match gW s with
  | .While _ b _ _ => b
  | _ => []
def gYe (s : Stmt) (n : Nat) : Expr := match (gWB s).getD n (.Pass ⟨0, 0, 0, 0⟩) with
  | .Expr (.Yield (some e) _) _ => e
  | _ => .Name "" ⟨0, 0, 0, 0⟩
theorem ncEach : NoCells (defScope sPEachStatement) := ⟨fun _ => rfl, by decide +kernel⟩
def rePre (K : PySem.W.Frag) : TS := tSeq (tAsg (tLc (iTup K (tRevT K (tVar 0))) (gName 4) tYes (tTup (tCons (tC (.int 0)) (tCons (tVar 4) tNil))) [4]) (gName 1)) (tAsg (tC (.int 0)) (gName 2))
def reTest (K : PySem.W.Frag) : TT := fun σ H Q => tVar 1 σ H fun x H' => ∃ k, TruV K x H' k ∧ Q k H'
def reAs (K : PySem.W.Frag) : TS := tAsg (tBM0 K "list" rPop (tVar 1)) (gTup K 2 (gCons (gName 3) (gCons (gName 4) gNil)))
def reYe : TE := tTup (tCons (tVar 2) (tCons (tVar 3) (tCons (tVar 4) tNil)))
def reBs (K : PySem.W.Frag) : TS := tSeq (tAug 2 (tC (.int 1)) (ipI fun i j => i + j)) (tFor (iTup K (tRevT K (tCall spBlocks [] E0 (tCons (tVar 4) tNil)))) (gName 5) (tFor (iTup K (tRevT K (tVar 5))) (gName 6) (tDrop (tBM K "list" rAppend (tVar 1) (tCons (tTup (tCons (tOp (rI0 fun i j => .int (i + j)) (tVar 3) (tC (.int 1))) (tCons (tVar 6) tNil))) tNil)))))
theorem rowsEach {P : Program} {w : World} {K : PySem.W.Frag} {mg : Str → Option Value} {base : Heap} {f fE fB : Addr} {fdB : FuncData} {N0 : List Str} {q0 : Str} {sc0 : Scope} (F_pblocks_of : Fun K "blocks_of" "blocks_of" sPBlocksOf fB fdB) (G_pblocks_of : FnOk P w K mg base CX0 1 fB fdB ["statement"] spBlocks) (b_pblocks_of : Binds K fdB ["statement"] []) (m_pblocks_of : mg "blocks_of" = some (.ref fB)) (cdv : Value) (A : Around) (outer : List Env) (s0 : Shared) (H0 : Hp) (E : XK) (n : Addr) (cd : Value) (pn : List (Addr × Obj)) (s : Shared) (H : Hp)
    (hr : Room 1 ((cxOf CX0 P w K mg base N0 q0 sc0 f cdv A outer s0 H0 E).nox.A.in1.deeper (envOfC "each_statement" (defScope sPEachStatement) n fE cd))) :
    GenRows (cxOf CX0 P w K mg base N0 q0 sc0 f cdv A outer s0 H0 E).nox nPEachStatement "each_statement" (defScope sPEachStatement) fE ((defBody sPEachStatement).take 2) ((gWB sPEachStatement).take 1) ((gWB sPEachStatement).drop 2) (gWT sPEachStatement) (gYe sPEachStatement 1) (rePre K) (reTest K) (reAs K) reYe (reBs K) n cd pn s H := ⟨(pss_cons (ps_setLc (i := 1) (own := [("statement", 4)]) (g := gName 4) (tt := tYes) rfl scPEachStatement.nd rfl rfl (sw_true rfl rfl rfl (by decide +kernel)) (pi_tup (pe_revT (pv 0))) (blkOk_by (N := nPEachStatement) (sc := defScope sPEachStatement) (by decide +kernel)) (fun _ _ _ _ _ => (pg_name (i := 4) scPEachStatement.nd rfl (by first | exact Or.inl rfl | exact Or.inr rfl))) (fun _ _ _ _ _ => pts_nil) (fun _ _ _ _ _ => (pe_tup (pa_cons pe_int (pa_cons (pv 4) pa_nil)))))
      (pss_one (ps_set (i := 2) scPEachStatement.nd rfl (by first | exact Or.inl rfl | exact Or.inr rfl) pe_int))), (pt_truth (pv 1) (fun _ => rfl)), (pss_one (ps_asg (pe_bm0 PySem.F.plainAttrs_list PySem.F.slot_list_pop PySem.F.type_list_pop mt_pop (pv 1)) (pg_tup rfl (pgs_cons (pg_name (i := 3) scPEachStatement.nd rfl (by first | exact Or.inl rfl | exact Or.inr rfl)) (pgs_cons (pg_name (i := 4) scPEachStatement.nd rfl (by first | exact Or.inl rfl | exact Or.inr rfl)) pgs_nil))))), (pe_tup (pa_cons (pv 2) (pa_cons (pv 3) (pa_cons (pv 4) pa_nil)))), (pss_cons (ps_aug (i := 2) scPEachStatement.nd rfl (.inl rfl) pe_int ip_add)
      (pss_one (ps_for PassesOwn.never rfl (pi_tup (pe_revT (pe_call G_pblocks_of (hr.mono (by omega)) (by rfl) m_pblocks_of F_pblocks_of.kp b_pblocks_of .nil pass0 (pa_cons (pv 4) pa_nil)))) (pg_name (i := 5) scPEachStatement.nd rfl (by first | exact Or.inl rfl | exact Or.inr rfl)) (pss_one (ps_for PassesOwn.never rfl (pi_tup (pe_revT (pv 5))) (pg_name (i := 6) scPEachStatement.nd rfl (by first | exact Or.inl rfl | exact Or.inr rfl)) (pss_one (ps_expr (pe_bm PySem.F.plainAttrs_list PySem.F.slot_list_append PySem.F.type_list_append mt_append (pv 1) (pa_cons (pe_tup (pa_cons (pe_op op_add (pv 3) pe_int) (pa_cons (pv 6) pa_nil))) pa_nil)))))))))⟩
section
variable {K : PySem.W.Frag} {a D : Addr} {k : Nat} {H : Hp} {R : VK} {Nx : L2.St → Hp → Prop} {o3 o4 o5 o6 : Option V} {d : Int} {st : St} {ws : List (Int × St)} {x : V}
theorem each_first {b : Bk} (t : Tp H (.ref a) (.tuple b.ds)) (hz : b.sz < 16777216) (q : ∀ D H' o3 o4 o5 o6, H D = none → Sx [] H H' → Stk H' D (b.stk 0) → Nx [some (.ref a), some (.ref D), some (.int (0 : Nat)), o3, o4, o5, o6] H') :
    rePre K { nx := Nx, rt := R } (start nPEachStatement [.ref a]) H := by
  obtain ⟨a', xs, ea, ha, hx⟩ := t.tuple
  cases ea
  rw [b.ds_lst] at hx
  obtain ⟨hl, hg⟩ := hx.lst
  refine ⟨_, rfl, a, xs, rfl, SqT.of ha, fun p hp => ⟨p, rfl, ⟨_, SqT.of upd_same⟩, fun D hD => lc_tup (xs := xs.reverse)
    (fun i H1 => Sx [] H H1 ∧ H1 p = some (.tup xs.reverse) ∧ Stk H1 D ((b.lst.drop (b.lst.length - i)).map fun s => (0, s)))
    ⟨(Sx.n0 hp).trans (Sx.n0 hD), by rw [upd_ne (ne_of_none upd_same hD)]; exact upd_same, [], upd_same, by rw [Nat.sub_zero, List.drop_length]; exact .nil⟩ (fun i H1 _ z => SqT.of z.2.1) (fun i x H1 hi z => ?_) (fun H1 z => ?_)⟩⟩
  · obtain ⟨s1, hp1, hv⟩ := z
    obtain ⟨hi1, hi2⟩ := rev_get hi
    rw [hl] at hi1 hi2
    obtain ⟨st, hst, tst⟩ := hg _ x hi2
    refine ⟨rfl, ?_⟩
    refine ⟨_, rfl, by show 2 ≤ sizeLine; decide, fun u hu => ?_⟩
    have hDn : H D = none := by
      cases e : H D with
      | none => rfl
      | some o => have := Sx.n0 (o := .tup xs.reverse) hp D o (by simp) e; rw [hD] at this; cases this
    have bl := bk_le b
    obtain ⟨acc, e1, e2, e3⟩ := (hv.keep (Sx.n0 hu)).push (x := .ref u) (y := (0, st)) (tpPair upd_same ((tst.keep s1.tk0).new hu))
    have npD : p ≠ D := ne_of_none upd_same hD
    refine ⟨acc, e1, lt_line (by rw [e2, List.length_map, List.length_drop]; omega), (s1.new hu).own hDn, ?_, ?_⟩
    · rw [upd_ne npD]; exact Sx.n0 hu _ _ (by simp) hp1
    · rw [drop_back hi1 hst]; exact e3
  · obtain ⟨s1, _, hv⟩ := z
    have hDn : H D = none := by
      cases e : H D with
      | none => rfl
      | some o => have := Sx.n0 (o := .tup xs.reverse) hp D o (by simp) e; rw [hD] at this; cases this
    rw [List.length_reverse, hl, Nat.sub_self, List.drop_zero] at hv
    exact q D H1 _ _ _ _ hDn s1 hv
theorem each_end {Q : Bool → Hp → Prop} (hs : Stk H D []) (q : Q false H) : reTest K [some (.ref a), some (.ref D), some (.int k), o3, o4, o5, o6] H Q := ⟨_, rfl, false, .inl ⟨_, SqL.of hs.nil_, rfl⟩, q⟩
theorem each_more {Q : Bool → Hp → Prop} (hs : Stk H D ((d, st) :: ws)) (q : Q true H) : reTest K [some (.ref a), some (.ref D), some (.int k), o3, o4, o5, o6] H Q := by
  obtain ⟨acc, c, x, e1, e2, e3, e4, e5, e6⟩ := hs.pop
  refine ⟨_, rfl, true, .inl ⟨_, SqL.of e1, ?_⟩, q⟩
  cases acc with
  | nil => simp at e6
  | cons _ _ => rfl
theorem each_take (hs : Stk H D ((d, st) :: ws)) (q : ∀ x H2, Sx [D] H H2 → Stk H2 D ws → Tp H2 x st.d → Nx [some (.ref a), some (.ref D), some (.int k), some (.int d), some x, o5, o6] H2) :
    reAs K { nx := Nx, rt := R } [some (.ref a), some (.ref D), some (.int k), o3, o4, o5, o6] H := by
  obtain ⟨acc, c, x, e1, e2, e3, e4, e5, e6⟩ := hs.pop
  refine ⟨_, rfl, .inl ⟨rfl, _, SqL.of e1⟩, D, _, _, rfl, rfl, e1, e2, ?_⟩
  have k1 : Tk H (upd H D (.lst acc.dropLast)) := Tk.lst e1
  exact ⟨c, _, rfl, SqT.of (k1 _ _ e3), rfl, _, _, rfl, gnm ⟨_, _, rfl, gnm ⟨rfl, q x _ ((Sx.refl H).put (List.mem_singleton.mpr rfl)) e5 (e4.keep k1)⟩⟩⟩
theorem each_give {Q : V → Hp → Prop} (q : ∀ u, H u = none → Q (.ref u) (upd H u (.tup [.int k, .int d, x]))) : reYe [some (.ref a), some (.ref D), some (.int k), some (.int d), some x, o5, o6] H Q :=
  ⟨_, rfl, _, rfl, _, rfl, by show 3 ≤ sizeLine; decide, fun u hu => q u hu⟩
theorem each_back (hs : Stk H D ws) (t : Tp H x st.d) (hz : st.sz + stkSz ws < 16777216) (q : ∀ H6 o5 o6, Sx [D] H H6 → Stk H6 D (kidsOf st.blks (d + 1) ++ ws) → Nx [some (.ref a), some (.ref D), some (.int (k + 1 : Nat)), some (.int d), some x, o5, o6] H6) :
    reBs K { nx := Nx, rt := R } [some (.ref a), some (.ref D), some (.int k), some (.int d), some x, o5, o6] H := by
  have wle := stk_le ws
  have e0 : ((k : Int) + 1) = ((k + 1 : Nat) : Int) := by omega
  refine Exists.intro _ ⟨rfl, _, _, rfl, rfl, ?_⟩
  dsimp only
  rw [e0]
  refine ⟨_, rfl, x, st, rfl, t, fun H4 v4 s6 t4 => ?_⟩
  obtain ⟨a4, xs4, rfl, ha4, hx4⟩ := t4.tuple
  rw [st.parts_blks] at hx4
  obtain ⟨hl4, hg4⟩ := hx4.lst
  refine ⟨a4, xs4, rfl, SqT.of ha4, fun p4 hp4 => ⟨p4, rfl, ⟨_, SqT.of upd_same⟩, for_tup (xs := xs4.reverse)
    (fun i σ H5 => ∃ o5 o6, σ = [some (.ref a), some (.ref D), some (.int (k + 1 : Nat)), some (.int d), some x, o5, o6] ∧ Sx [D] H H5 ∧ H5 p4 = some (.tup xs4.reverse) ∧ Tk H4 H5 ∧ Stk H5 D (kidsOf (st.blks.drop (st.blks.length - i)) (d + 1) ++ ws))
    ⟨_, _, rfl, (s6.new hp4).nil, upd_same, (Sx.n0 hp4).tk0, by rw [Nat.sub_zero, List.drop_length]; exact (hs.keep s6).keep (Sx.n0 hp4)⟩ (fun i σ H5 _ z => by obtain ⟨_, _, _, _, z, _⟩ := z; exact SqT.of z) (fun i y σ H5 hi z => ?_) (fun σ H5 z => ?_)⟩⟩
  · obtain ⟨o5, o6, rfl, s6, hp5, k5, hs5⟩ := z
    obtain ⟨hi1, hi2⟩ := rev_get hi
    rw [hl4] at hi1 hi2
    obtain ⟨bk, hbk, tbk⟩ := hg4 _ y hi2
    have hmem : bk ∈ st.blks := List.mem_of_getElem? hbk
    refine gnm ?_
    obtain ⟨a6, xs6, rfl, ha6, hx6⟩ := (tbk.keep k5).tuple
    rw [bk.ds_lst] at hx6
    obtain ⟨hl6, hg6⟩ := hx6.lst
    rw [drop_back hi1 hbk]
    have bl := bk_le bk
    have kl : (kidsOf (st.blks.drop (st.blks.length - i)) (d + 1)).length + bk.sz ≤ st.sz := by
      have h1 := stk_le (kidsOf (st.blks.drop (st.blks.length - i)) (d + 1))
      have h2 : ∀ (l : List Bk) (n : Nat), ((l.drop n).map Bk.sz).sum ≤ (l.map Bk.sz).sum := fun l n => by
        have e := congrArg (fun l => (l.map Bk.sz).sum) (List.take_append_drop n l)
        simp only [List.map_append, List.sum_append] at e
        omega
      have h3 := h2 st.blks (st.blks.length - (i + 1))
      rw [drop_back hi1 hbk, List.map_cons, List.sum_cons] at h3
      rw [kidsSz] at h1
      rw [st.sz_blks]
      omega
    refine ⟨_, rfl, a6, xs6, rfl, SqT.of ha6, fun p6 hp6 => ⟨p6, rfl, ⟨_, SqT.of upd_same⟩, for_tup (xs := xs6.reverse)
      (fun j σ H6 => ∃ o6, σ = [some (.ref a), some (.ref D), some (.int (k + 1 : Nat)), some (.int d), some x, some (.ref a6), o6] ∧ Sx [D] H H6 ∧ H6 p4 = some (.tup xs4.reverse) ∧ H6 p6 = some (.tup xs6.reverse) ∧ Tk H5 H6 ∧ Stk H6 D ((bk.lst.drop (bk.lst.length - j)).map (fun s => (d + 1, s)) ++ (kidsOf (st.blks.drop (st.blks.length - i)) (d + 1) ++ ws)))
      ⟨_, rfl, s6.new hp6, Sx.n0 hp6 _ _ (by simp) hp5, upd_same, (Sx.n0 hp6).tk0, by rw [Nat.sub_zero, List.drop_length]; exact hs5.keep (Sx.n0 hp6)⟩ (fun j σ H6 _ z => by obtain ⟨_, _, _, _, z, _⟩ := z; exact SqT.of z) (fun j y2 σ H6 hj z => ?_) (fun σ H6 z => ?_)⟩⟩
    · obtain ⟨o6, rfl, s7, hp6a, hp6b, k6, hs6⟩ := z
      obtain ⟨hj1, hj2⟩ := rev_get hj
      rw [hl6] at hj1 hj2
      obtain ⟨st2, hst2, tst2⟩ := hg6 _ y2 hj2
      refine gnm ?_
      obtain ⟨L6, hL6, _⟩ := id hs6
      refine ⟨_, rfl, .inl ⟨rfl, _, SqL.of hL6⟩, _, rfl, d, 1, rfl, rfl, _, rfl, by show 2 ≤ sizeLine; decide, fun u2 hu2 => ?_⟩
      obtain ⟨acc2, g1, g2, g3⟩ := (hs6.keep (Sx.n0 hu2)).push (x := .ref u2) (y := (d + 1, st2)) (tpPair upd_same ((tst2.keep k6).new hu2))
      refine ⟨D, _, _, rfl, rfl, g1, lt_line (by rw [g2, List.length_append, List.length_map, List.length_drop, List.length_append]; omega), ?_⟩
      refine ⟨_, rfl, (s7.new hu2).put (List.mem_singleton.mpr rfl), ?_, ?_, (k6.trans (Sx.n0 hu2).tk0).trans (Tk.lst g1), ?_⟩
      · exact ((Sx.n0 hu2).tk0.trans (Tk.lst g1)) _ _ hp6a
      · exact ((Sx.n0 hu2).tk0.trans (Tk.lst g1)) _ _ hp6b
      · rw [drop_back hj1 hst2]; exact g3
    · obtain ⟨o6, rfl, s7, hp6a, hp6b, k6, hs6⟩ := z
      rw [List.length_reverse, hl6, Nat.sub_self, List.drop_zero] at hs6
      refine ⟨_, _, rfl, s7, hp6a, k5.trans k6, ?_⟩
      show Stk H6 D ((bk.stk (d + 1) ++ kidsOf (st.blks.drop (st.blks.length - i)) (d + 1)) ++ ws)
      rw [List.append_assoc]
      exact hs6
  · obtain ⟨o5, o6, rfl, s6, hp5, k5, hs5⟩ := z
    rw [List.length_reverse, hl4, Nat.sub_self, List.drop_zero] at hs5
    exact q H5 _ _ s6 hs5
end
/-! ### values of any kind -/
mutual
/-- v is the data d; no list and no dict of it lies at an address of N -/
inductive Gd (N : List Addr) (H : Hp) : V → PyData → Prop where
  | non : Gd N H .non .none
  | bl (b : Bool) : Gd N H (.bl b) (.bool b)
  | int (i : Int) : Gd N H (.int i) (.int i)
  | str (x : Str) : Gd N H (.str x) (.str x)
  | tup {a : Addr} {xs : List V} {ds : List PyData} : H a = some (.tup xs) → GdAll N H xs ds → Gd N H (.ref a) (.tuple ds)
  | lst {a : Addr} {xs : List V} {ds : List PyData} : H a = some (.lst xs) → a ∉ N → a ≠ 1 → GdAll N H xs ds → Gd N H (.ref a) (.list ds)
  | dic {a : Addr} (kvs : List (Str × Int)) : H a = some (.dK (kvs.map fun p => (.inr p.1, .int p.2))) → a ∉ N → Gd N H (.ref a) (.dict (kvs.map fun p => (.str p.1, .int p.2)))
inductive GdAll (N : List Addr) (H : Hp) : List V → List PyData → Prop where
  | nil : GdAll N H [] []
  | cons {v : V} {vs : List V} {d : PyData} {ds : List PyData} : Gd N H v d → GdAll N H vs ds → GdAll N H (v :: vs) (d :: ds)
end
/-- tuples stand, lists and dicts outside N stand -/
structure Kp (N : List Addr) (H H' : Hp) : Prop where
  t : Tk H H'
  l : ∀ b xs, b ∉ N → H b = some (.lst xs) → H' b = some (.lst xs)
  d : ∀ b ks, b ∉ N → H b = some (.dK ks) → H' b = some (.dK ks)
theorem Sx.kp0 {N : List Addr} {H H' : Hp} (s : Sx [] H H') : Kp N H H' := ⟨s.tk0, fun b xs _ e => s b _ (by simp) e, fun b ks _ e => s b _ (by simp) e⟩
theorem Sx.kp {N ex : List Addr} {H H' : Hp} (s : Sx ex H H') (h : ∀ b ∈ ex, b ∈ N ∧ ∃ ys, H b = some (.lst ys)) : Kp N H H' :=
  ⟨s.tk fun b hb => (h b hb).2, fun b xs hn e => s b _ (fun z => hn (h b z).1) e, fun b ks hn e => s b _ (fun z => hn (h b z).1) e⟩
theorem Kp.trans {N : List Addr} {H H1 H2 : Hp} (a : Kp N H H1) (b : Kp N H1 H2) : Kp N H H2 := ⟨a.t.trans b.t, fun x xs n e => b.l x xs n (a.l x xs n e), fun x xs n e => b.d x xs n (a.d x xs n e)⟩
theorem Kp.refl (N : List Addr) (H : Hp) : Kp N H H := ⟨Tk.refl H, fun _ _ _ e => e, fun _ _ _ e => e⟩
theorem Kp.mono {N M : List Addr} {H H' : Hp} (a : Kp N H H') (h : ∀ b ∈ N, b ∈ M) : Kp M H H' := ⟨a.t, fun b xs n e => a.l b xs (fun z => n (h b z)) e, fun b xs n e => a.d b xs (fun z => n (h b z)) e⟩
/-- a list of one's own is written anew -/
theorem Kp.own {N : List Addr} {H : Hp} {p : Addr} {ys zs : List V} (e : H p = some (.lst ys)) (n : p ∈ N) : Kp N H (upd H p (.lst zs)) :=
  ⟨Tk.lst e, fun b xs hb h => by rw [upd_ne (fun z => hb (by rw [z]; exact n))]; exact h, fun b xs hb h => by rw [upd_ne (fun z => hb (by rw [z]; exact n))]; exact h⟩
mutual
theorem Gd.keep {N : List Addr} {H H' : Hp} (k : Kp N H H') : ∀ {v : V} {d : PyData}, Gd N H v d → Gd N H' v d
  | _, _, .non => .non
  | _, _, .bl b => .bl b
  | _, _, .int i => .int i
  | _, _, .str x => .str x
  | _, _, .tup h a => .tup (k.t _ _ h) (GdAll.keep k a)
  | _, _, .lst h n m a => .lst (k.l _ _ n h) n m (GdAll.keep k a)
  | _, _, .dic kvs h n => .dic kvs (k.d _ _ n h) n
theorem GdAll.keep {N : List Addr} {H H' : Hp} (k : Kp N H H') : ∀ {vs : List V} {ds : List PyData}, GdAll N H vs ds → GdAll N H' vs ds
  | _, _, .nil => .nil
  | _, _, .cons a b => .cons (Gd.keep k a) (GdAll.keep k b)
end
mutual
theorem Gd.anti {N M : List Addr} {H : Hp} (k : ∀ b ∈ M, b ∈ N) : ∀ {v : V} {d : PyData}, Gd N H v d → Gd M H v d
  | _, _, .non => .non
  | _, _, .bl b => .bl b
  | _, _, .int i => .int i
  | _, _, .str x => .str x
  | _, _, .tup h a => .tup h (GdAll.anti k a)
  | _, _, .lst h n m a => .lst h (fun z => n (k _ z)) m (GdAll.anti k a)
  | _, _, .dic kvs h n => .dic kvs h (fun z => n (k _ z))
theorem GdAll.anti {N M : List Addr} {H : Hp} (k : ∀ b ∈ M, b ∈ N) : ∀ {vs : List V} {ds : List PyData}, GdAll N H vs ds → GdAll M H vs ds
  | _, _, .nil => .nil
  | _, _, .cons a b => .cons (Gd.anti k a) (GdAll.anti k b)
end
mutual
theorem Tp.gd {N : List Addr} {H : Hp} : ∀ {v : V} {d : PyData}, Tp H v d → Gd N H v d
  | _, _, .non => .non
  | _, _, .bl b => .bl b
  | _, _, .int i => .int i
  | _, _, .str x => .str x
  | _, _, .tup h a => .tup h (TpAll.gd a)
theorem TpAll.gd {N : List Addr} {H : Hp} : ∀ {vs : List V} {ds : List PyData}, TpAll H vs ds → GdAll N H vs ds
  | _, _, .nil => .nil
  | _, _, .cons a b => .cons (Tp.gd a) (TpAll.gd b)
end
mutual
/-- no list and no dict in it -/
def plainD : PyData → Bool
  | .list _ => false
  | .dict _ => false
  | .tuple xs => plainL xs
  | _ => true
def plainL : List PyData → Bool
  | [] => true
  | d :: r => plainD d && plainL r
end
mutual
theorem Gd.tp {N : List Addr} {H : Hp} : ∀ {v : V} {d : PyData}, Gd N H v d → plainD d = true → Tp H v d
  | _, _, .non, _ => .non
  | _, _, .bl b, _ => .bl b
  | _, _, .int i, _ => .int i
  | _, _, .str x, _ => .str x
  | _, _, .tup h a, p => .tup h (GdAll.tp a (by simpa only [plainD] using p))
  | _, _, .lst _ _ _ _, p => by simp only [plainD] at p; cases p
  | _, _, .dic _ _ _, p => by simp only [plainD] at p; cases p
theorem GdAll.tp {N : List Addr} {H : Hp} : ∀ {vs : List V} {ds : List PyData}, GdAll N H vs ds → plainL ds = true → TpAll H vs ds
  | _, _, .nil, _ => .nil
  | _, _, .cons a b, p => by
    simp only [plainL, Bool.and_eq_true] at p
    exact .cons (Gd.tp a p.1) (GdAll.tp b p.2)
end
theorem Gd.new {N : List Addr} {H : Hp} {v : V} {d : PyData} {p : Addr} {o : HO} (h : Gd N H v d) (n : H p = none) : Gd N (upd H p o) v d := h.keep (Sx.n0 n).kp0
theorem GdAll.new {N : List Addr} {H : Hp} {vs : List V} {ds : List PyData} {p : Addr} {o : HO} (h : GdAll N H vs ds) (n : H p = none) : GdAll N (upd H p o) vs ds := h.keep (Sx.n0 n).kp0
theorem Gd.tuple {N : List Addr} {H : Hp} {v : V} {ds : List PyData} (h : Gd N H v (.tuple ds)) : ∃ a xs, v = .ref a ∧ H a = some (.tup xs) ∧ GdAll N H xs ds := by
  cases h with
  | tup h a => exact ⟨_, _, rfl, h, a⟩
theorem GdAll.len {N : List Addr} {H : Hp} : ∀ {vs : List V} {ds : List PyData}, GdAll N H vs ds → vs.length = ds.length
  | _, _, .nil => rfl
  | _, _, .cons _ b => by rw [List.length_cons, List.length_cons, GdAll.len b]
theorem GdAll.get {N : List Addr} {H : Hp} : ∀ {vs : List V} {ds : List PyData} {i : Nat} {v : V}, GdAll N H vs ds → vs[i]? = some v → ∃ d, ds[i]? = some d ∧ Gd N H v d
  | _, _, 0, _, .cons a _, e => ⟨_, rfl, by cases e; exact a⟩
  | _, _, i + 1, _, .cons _ b, e => GdAll.get (i := i) b e
theorem GdAll.append {N : List Addr} {H : Hp} : ∀ {vs ws : List V} {ds es : List PyData}, GdAll N H vs ds → GdAll N H ws es → GdAll N H (vs ++ ws) (ds ++ es)
  | _, _, _, _, .nil, h => h
  | _, _, _, _, .cons a b, h => .cons a (GdAll.append b h)
theorem GdAll.take {N : List Addr} {H : Hp} : ∀ (n : Nat) {vs : List V} {ds : List PyData}, GdAll N H vs ds → GdAll N H (vs.take n) (ds.take n)
  | 0, _, _, _ => .nil
  | _ + 1, _, _, .nil => .nil
  | n + 1, _, _, .cons a b => .cons a (GdAll.take n b)
theorem GdAll.drop {N : List Addr} {H : Hp} : ∀ (n : Nat) {vs : List V} {ds : List PyData}, GdAll N H vs ds → GdAll N H (vs.drop n) (ds.drop n)
  | 0, _, _, h => h
  | _ + 1, _, _, .nil => .nil
  | n + 1, _, _, .cons _ b => GdAll.drop n b
theorem GdAll.rev {N : List Addr} {H : Hp} : ∀ {vs : List V} {ds : List PyData}, GdAll N H vs ds → GdAll N H vs.reverse ds.reverse
  | _, _, .nil => .nil
  | _, _, .cons a b => by
    rw [List.reverse_cons]; rw [List.reverse_cons]
    exact (GdAll.rev b).append (.cons a .nil)
/-! ### of which class -/
def tyN : PyData → String
  | .none => "NoneType"
  | .bool _ => "bool"
  | .int _ => "int"
  | .str _ => "str"
  | .list _ => "list"
  | .tuple _ => "tuple"
  | .dict _ => "dict"
theorem Gd.ty {N : List Addr} {K : PySem.W.Frag} {H : Hp} {v : V} {d : PyData} (h : Gd N H v d) : TyX K H v (.type (tyN d)) := by
  cases h with
  | non => exact .base .non
  | bl b => exact .base (.bl b)
  | int i => exact .base (.int i)
  | str x => exact .base (.str x)
  | tup h _ => exact .base (.tup h)
  | lst h _ _ _ => exact .base (.lst h)
  | dic _ h _ => exact .base (.dK h)
def isTup : PyData → Bool
  | .tuple _ => true
  | _ => false
def isStr : PyData → Bool
  | .str _ => true
  | _ => false
def isBol : PyData → Bool
  | .bool _ => true
  | _ => false
def isInb : PyData → Bool
  | .int _ => true
  | .bool _ => true
  | _ => false
def isInt : PyData → Bool
  | .int _ => true
  | _ => false
theorem kb_tuple (d : PyData) : kitB (tyN d) "tuple" = some (isTup d) := by cases d <;> (simp only [tyN, isTup]; decide +kernel)
theorem kb_str (d : PyData) : kitB (tyN d) "str" = some (isStr d) := by cases d <;> (simp only [tyN, isStr]; decide +kernel)
theorem kb_bool (d : PyData) : kitB (tyN d) "bool" = some (isBol d) := by cases d <;> (simp only [tyN, isBol]; decide +kernel)
theorem kb_int (d : PyData) : kitB (tyN d) "int" = some (isInb d) := by cases d <;> (simp only [tyN, isInb]; decide +kernel)
/-! ### a value and a text, by == -/
section
open PySem.SeqAt PySem.AutoSeq1 PySem.MeetsSeq
theorem dic_text {l : Addr} {items : Array DictEntry} {n : Nat} {dd : Option Addr} {sl : Array (Option Value)} (b : Str) (u : Tok) :
    Meets (Builtin.«dict.__eq__» ⟨[.ref l, .str b u], []⟩) (fun _ R s => s.heap.get? l = some { cls := .type "dict", dict := dd, data := .dict items n, slots := sl } ∧ R (.ok (.ret .notImplemented)) s) :=
  .of_wp fun prog w A R s h => by obtain ⟨hp, g, d, tk, os⟩ := s; obtain ⟨hl, h⟩ := h; have f1 := PySem.F.sub_str_dict; wp_walk using wpAny_loadPart' hl; exact ⟨_, rfl, h⟩
theorem text_dic (b : Str) (u : Tok) (l : Addr) (items : Array DictEntry) (n : Nat) (dd : Option Addr) (sl : Array (Option Value)) :
    Meets (Builtin.«str.__eq__» ⟨[.str b u, .ref l], []⟩) (fun _ R s => s.heap.get? l = some { cls := .type "dict", dict := dd, data := .dict items n, slots := sl } ∧ R (.ok (.ret .notImplemented)) s) :=
  .of_wp fun prog w A R s h => by obtain ⟨h1, h2, h3, h4, h5⟩ := s; obtain ⟨hl, h⟩ := h; wp_walk using wpAny_loadPart' hl, wpAny_load hl; exact ⟨_, rfl, h⟩
theorem rc_dic_text {A : Around} {s : Shared} {l : Addr} {o : Obj} {es : Array DictEntry} {ep : Nat} (b : Str) (u : Tok) (ho : s.heap.get? l = some o) (hc : o.ExactDict) (hd : o.data = .dict es ep) (hu : A.units < cLine) : RcAt A s (.ref l) (.str b u) false := fun prog w E Q h => by
  obtain ⟨cls, dd, data, sl⟩ := o
  obtain ⟨hc, _, _⟩ := hc
  simp only at hc hd
  subst hc hd
  exact rc_eq_decline_or (k := false) ⟨_, ho, rfl⟩ (typeIs_str s b u) (by decide) PySem.F.sub_str_dict PySem.F.slot_dict_eq PySem.F.slot_str_eq_refl
    (fun _ hq => call_meets PySem.F.slot_dict_eq ⟨_, ho, rfl⟩ PySem.F.entry_dict_eq (PySem.F.args_dict_eq_2 _ _) (dic_text b u) ⟨ho, hq⟩)
    (fun _ hq => call_meets PySem.F.slot_str_eq_refl (typeIs_str s b u) PySem.F.entry_str_eq (PySem.F.args_str_eq_2 _ _) (text_dic b u l es ep dd sl) ⟨ho, hq⟩)
    (fun _ same => wpAny_of_eq (rfl : isSame (.ref l) (.str b u) = pure false) same) (.inr hu) h
/-- it is that text -/
def isTx (z : Str) : PyData → Bool
  | .str y => decide (V.str y = V.str z)
  | _ => false
def rEqS : R2 := fun x y H Q => ∃ (N : List Addr) (d : PyData) (z : Str), y = .str z ∧ Gd N H x d ∧ Q (.bl (isTx z d)) H
theorem op_eqS {X : Cx} (hu0 : X.A.units + 64 < cLine) : OpR X (compareOp .Eq) rEqS := by
  intro pins s σ H x y v u Q I rx ry asked
  have hu : X.A.units < cLine := by omega
  obtain ⟨N, d, z, rfl, hd, q⟩ := asked
  cases hd with
  | non => exact op_eq pins s σ H _ _ v u Q I rx ry ⟨rfl, by rw [decide_eq_false (by simp)]; exact q⟩
  | bl b => exact op_eq pins s σ H _ _ v u Q I rx ry ⟨rfl, by rw [decide_eq_false (by simp)]; exact q⟩
  | int i => exact op_eq pins s σ H _ _ v u Q I rx ry ⟨rfl, by rw [decide_eq_false (by simp)]; exact q⟩
  | str t => exact op_eq pins s σ H _ _ v u Q I rx ry ⟨rfl, q⟩
  | tup ha _ =>
    cases rx
    obtain ⟨t, rfl⟩ := ry
    obtain ⟨its, _, pl, _⟩ := I.tuple (SqT.of ha)
    exact RcAt.tuple_str z t pl hu _ _ _ _ ⟨.bl _, H, I, rfl, q⟩
  | lst ha _ _ _ =>
    cases rx
    obtain ⟨t, rfl⟩ := ry
    obtain ⟨its, _, pl, _⟩ := I.list (SqL.of ha)
    exact RcAt.list_str z t pl.isList hu _ _ _ _ ⟨.bl _, H, I, rfl, q⟩
  | dic kvs ha _ =>
    cases rx
    obtain ⟨t, rfl⟩ := ry
    obtain ⟨_, _, vs, _, o, es, ep, ho, hc, hd, _⟩ := (show ObjOk X.prog X.w H s.heap _ (.dK _) from I.hok _ _ ha)
    exact rc_dic_text z t ho hc hd hu _ _ _ _ ⟨.bl _, H, I, rfl, q⟩
/-! ### a tuple and the empty one, by == -/
def isNl : PyData → Bool
  | .tuple [] => true
  | _ => false
def rEqE : R2 := fun x y H Q => ∃ (N : List Addr) (ds : List PyData) (b : Addr), y = .ref b ∧ H b = some (.tup []) ∧ Gd N H x (.tuple ds) ∧ Q (.bl (isNl (.tuple ds))) H
theorem op_eqE {X : Cx} (hu0 : X.A.units + 64 < cLine) : OpR X (compareOp .Eq) rEqE := by
  intro pins s σ H x y v u Q I rx ry asked
  have hu : X.A.units < cLine := by omega
  obtain ⟨N, ds, b, rfl, hb, hd, q⟩ := asked
  obtain ⟨a, xs, rfl, ha, hx⟩ := hd.tuple
  cases rx
  cases ry
  obtain ⟨its, rv, pl, _⟩ := I.tuple (SqT.of ha)
  obtain ⟨its2, rv2, pl2, _⟩ := I.tuple (SqT.of hb)
  cases rv2
  refine RcAt.tuples (e := fun _ => false) pl pl2 hu (fun j j1 j2 => absurd j2 (by simp)) _ _ _ _ ⟨.bl _, H, I, ?_, q⟩
  have h1 := rv.length
  have h2 := hx.len
  cases ds with
  | nil =>
    obtain rfl : xs = [] := List.length_eq_zero_iff.mp (by simpa using h2)
    cases rv
    rfl
  | cons d r =>
    obtain ⟨x0, xs0, rfl⟩ : ∃ x0 xs0, xs = x0 :: xs0 := by
      cases xs with
      | nil => simp at h2
      | cons x0 xs0 => exact ⟨_, _, rfl⟩
    cases rv with
    | cons _ _ => rfl
end
def spIsIntG : Sp := fun vs H Q _ => ∃ (N : List Addr) (v : V) (d : PyData), vs = [v] ∧ Gd N H v d ∧ Q (.bl (isInt d)) H
section
variable {w : World} {P : Program} {K : PySem.W.Frag} {mg : Str → Option Value} {base : Heap}
theorem ok_gint {f : Addr} {fd : FuncData} {k : Nat} (F_pis_integer : Fun K "is_integer" "is_integer" sPIsInteger f fd) (z_isinstance : mg "isinstance" = none) (z_int : mg "int" = none) (z_bool : mg "bool" = none) : FnOk P w K mg base CX0 (k + 1) f fd ["value"] spIsIntG := by
  refine F_pis_integer.ok scPIsInteger (fun vs H Q E h => ?_) (fun cdv A outer s H vs Q E hr h => ?_)
  · obtain ⟨_, _, _, rfl, _⟩ := h
    rfl
  · obtain ⟨N, v, d, rfl, hd, q⟩ := h
    refine ⟨_, (pss_one (ps_ret (pe_and (pe_callB call_isi (by rfl) z_isinstance (by decide +kernel) (pa_cons (pv 0) (pa_cons (pe_bltn (v := .ty "int") (by rfl) z_int (by decide +kernel) rfl) pa_nil))) (pe_one (pe_not (pe_callB call_isi (by rfl) z_isinstance (by decide +kernel) (pa_cons (pv 0) (pa_cons (pe_bltn (v := .ty "bool") (by rfl) z_bool (by decide +kernel) rfl) pa_nil)))))))), ?_⟩
    refine ⟨_, rfl, _, _, _, _, _, rfl, .ty _, hd.ty, kit_ty (kb_int d), _, rfl, ?_⟩
    cases d with
    | int i => exact iteT ⟨_, rfl, _, _, _, _, _, rfl, .ty _, hd.ty, kit_ty (kb_bool _), _, rfl, q⟩
    | bool b => exact iteT ⟨_, rfl, _, _, _, _, _, rfl, .ty _, hd.ty, kit_ty (kb_bool _), _, rfl, q⟩
    | _ => exact iteF q
end
theorem wA_len : ∀ xs : List PyData, xs.length ≤ PyData.weightAll xs
  | [] => Nat.zero_le _
  | _ :: xs => by
    have := wA_len xs
    simp only [PyData.weightAll, List.length_cons]
    omega
/-! ### data that repr shows -/
structure ShG (k n : Nat) (d : PyData) : Prop where
  s : d.showable = true
  l : d.leavesShort 201 = true
  dp : d.depth ≤ k
  w : d.weight ≤ n
structure ShGA (k n : Nat) (ds : List PyData) : Prop where
  s : PyData.showableAll ds = true
  l : PyData.leavesShortAll 201 ds = true
  dp : PyData.depthAll ds ≤ k
  w : PyData.weightAll ds ≤ n
namespace ShG
theorem mono {k n k' n' : Nat} {d : PyData} (h : ShG k n d) (hk : k ≤ k') (hn : n ≤ n') : ShG k' n' d := ⟨h.s, h.l, Nat.le_trans h.dp hk, Nat.le_trans h.w hn⟩
theorem int {i : Int} {n : Nat} (h : i.natAbs < 2 ^ n) (h0 : 0 < n) (hn : n ≤ 200) (k : Nat) : ShG k n (.int i) := by
  have l := PySem.Flt.log2_lt_of h0 h
  have l' : i.natAbs.log2 < 200 := by omega
  refine ⟨by simp only [PyData.showable, decide_eq_true_eq]; omega, ?_, by simp only [PyData.depth]; omega, ?_⟩
  · simp only [PyData.leavesShort, decide_eq_true_eq, PyData.shown]
    exact decide_eq_true (by rw [PySem.ofString_length]; exact PySem.int_text_length_le (k := 200) (by decide) l')
  · simp only [PyData.weight]
    split <;> omega
theorem str {z : Str} (h : PyData.strOk z = true) (k n : Nat) (hn : z.length ≤ n) : ShG k n (.str z) := by
  refine ⟨by simp only [PyData.showable], ?_, by simp only [PyData.depth]; omega, by simp only [PyData.weight]; exact hn⟩
  simp only [PyData.leavesShort]
  rw [List.all_eq_true]
  intro c hc
  unfold PyData.strOk at h
  rw [Array.all_eq_true'] at h
  have := of_decide_eq_true (h c (Array.mem_toList_iff.mp hc))
  have e : (16 : Nat) ^ 8 = 4294967296 := rfl
  refine decide_eq_true ?_; omega
theorem tup {k n : Nat} {ds : List PyData} (h : ShGA k n ds) : ShG (k + 1) n (.tuple ds) :=
  ⟨by simp only [PyData.showable]; exact h.s, by simp only [PyData.leavesShort]; exact h.l, by simp only [PyData.depth]; have := h.dp; omega, by simp only [PyData.weight]; exact h.w⟩
theorem lst {k n : Nat} {ds : List PyData} (h : ShGA k n ds) : ShG (k + 1) n (.list ds) :=
  ⟨by simp only [PyData.showable]; exact h.s, by simp only [PyData.leavesShort]; exact h.l, by simp only [PyData.depth]; have := h.dp; omega, by simp only [PyData.weight]; exact h.w⟩
/-- what repr asks -/
theorem len {k n : Nat} {d : PyData} (h : ShG k n d) (hn : n ≤ 80000) : d.shown.length ≤ 16777216 := by
  have := PyData.shown_le 201 (by decide) d h.l
  have := h.w
  omega
end ShG
namespace ShGA
theorem nil (k n : Nat) : ShGA k n [] := ⟨by simp only [PyData.showableAll], by simp only [PyData.leavesShortAll], by simp only [PyData.depthAll]; omega, by simp only [PyData.weightAll]; omega⟩
theorem cons {k n m : Nat} {d : PyData} {ds : List PyData} (h : ShG k n d) (hs : ShGA k m ds) : ShGA k (n + 1 + m) (d :: ds) := by
  refine ⟨?_, ?_, ?_, ?_⟩
  · simp only [PyData.showableAll, h.s, hs.s, Bool.and_self]
  · simp only [PyData.leavesShortAll, h.l, hs.l, Bool.and_self]
  · simp only [PyData.depthAll]; have := h.dp; have := hs.dp; omega
  · simp only [PyData.weightAll]; have := h.w; have := hs.w; omega
theorem mono {k n k' n' : Nat} {d : List PyData} (h : ShGA k n d) (hk : k ≤ k') (hn : n ≤ n') : ShGA k' n' d := ⟨h.s, h.l, Nat.le_trans h.dp hk, Nat.le_trans h.w hn⟩
theorem allInt {l : List Int} {n : Nat} (h0 : 0 < n) (hn : n ≤ 200) (h : ∀ i ∈ l, i.natAbs < 2 ^ n) (k : Nat) : ShGA k ((n + 1) * l.length) (l.map PyData.int) := by
  induction l with
  | nil => exact .nil _ _
  | cons i l ih =>
    refine (ShGA.cons (ShG.int (h i (by simp)) h0 hn k) (ih fun j hj => h j (List.mem_cons_of_mem _ hj))).mono (Nat.le_refl _) ?_
    rw [List.length_cons, Nat.mul_succ]
    omega
end ShGA
theorem smG {i : Int} (h1 : -120 ≤ i) (h2 : i ≤ 120) (k : Nat) : ShG k 7 (.int i) := by
  have e : (2 : Nat) ^ 7 = 128 := by decide
  exact ShG.int (by omega) (by decide) (by decide) k
def wEG : Nat → Nat
  | 0 => 0
  | n + 1 => 2 * wEG n + 16
theorem Ex.shg {ns : List Str} (hn : ∀ z ∈ ns, NmOk z) : ∀ (e : Ex) (n : Nat), e.ok ns n → ShG n (wEG n) e.d
  | .int i, n, ⟨h1, h2, h3⟩ => by
    obtain ⟨m, rfl⟩ : ∃ m : Nat, n = m + 1 := ⟨n - 1, by omega⟩
    exact (smG (by omega) (by omega) _).mono (Nat.le_refl _) (by simp only [wEG]; omega)
  | .name z, n, ⟨h1, h2⟩ => by
    obtain ⟨m, rfl⟩ : ∃ m : Nat, n = m + 1 := ⟨n - 1, by omega⟩
    exact ShG.str (hn z h2).ok _ _ (by have := (hn z h2).hi; simp only [wEG]; omega)
  | .plus x y, n, ⟨h1, h2, h3⟩ => by
    obtain ⟨m, rfl⟩ : ∃ m : Nat, n = m + 1 := ⟨n - 1, by omega⟩
    exact (ShG.tup (.cons (ShG.str (n := 4) (by decide +kernel) m (by decide)) (.cons (Ex.shg hn x m h2) (.cons (Ex.shg hn y m h3) (.nil m 0))))).mono (Nat.le_refl _) (by simp only [wEG]; omega)
  | .minus x y, n, ⟨h1, h2, h3⟩ => by
    obtain ⟨m, rfl⟩ : ∃ m : Nat, n = m + 1 := ⟨n - 1, by omega⟩
    exact (ShG.tup (.cons (ShG.str (n := 5) (by decide +kernel) m (by decide)) (.cons (Ex.shg hn x m h2) (.cons (Ex.shg hn y m h3) (.nil m 0))))).mono (Nat.le_refl _) (by simp only [wEG]; omega)
  | .times f x, n, ⟨h1, h2, h3, h4⟩ => by
    obtain ⟨m, rfl⟩ : ∃ m : Nat, n = m + 1 := ⟨n - 1, by omega⟩
    exact (ShG.tup (.cons (ShG.str (n := 5) (by decide +kernel) m (by decide)) (.cons (smG (by omega) (by omega) m) (.cons (Ex.shg hn x m h4) (.nil m 0))))).mono (Nat.le_refl _) (by simp only [wEG]; omega)
theorem Ts.shg {ns : List Str} (hn : ∀ z ∈ ns, NmOk z) : ∀ (t : Ts) (n : Nat), t.ok ns n → ShG (n + 4) (5 * n + 240) t.d
  | .rest x b r, n, ⟨h1, h2, h3, h4, h5⟩ => (ShG.tup (.cons (ShG.str (n := 4) (by decide +kernel) 3 (by decide)) (.cons (Ex.shg hn x 3 h1) (.cons (smG (by omega) (by omega) 3) (.cons (smG (by omega) (by omega) 3) (.nil 3 0)))))).mono (by omega) (by simp only [wEG]; omega)
  | .less x y, n, ⟨h1, h2⟩ => (ShG.tup (.cons (ShG.str (n := 4) (by decide +kernel) 3 (by decide)) (.cons (Ex.shg hn x 3 h1) (.cons (Ex.shg hn y 3 h2) (.nil 3 0))))).mono (by omega) (by simp only [wEG]; omega)
  | .not t, n, ⟨h1, h2⟩ => by
    obtain ⟨m, rfl⟩ : ∃ m : Nat, n = m + 1 := ⟨n - 1, by omega⟩
    exact (ShG.tup (.cons (ShG.str (n := 3) (by decide +kernel) _ (by decide)) (.cons (Ts.shg hn t m h2) (.nil _ 0)))).mono (by omega) (by omega)
mutual
theorem St.shg {ns : List Str} (hn : ∀ z ∈ ns, NmOk z) : ∀ (s : St) (d : Nat), s.ok ns d → ShG (2 * d + 9) (300 * s.sz - 1) s.d
  | .set z e, d, ⟨h1, h2⟩ => (ShG.tup (.cons (ShG.str (n := 3) (by decide +kernel) 3 (by decide)) (.cons (ShG.str (n := 8) (hn z h1).ok 3 (hn z h1).hi) (.cons (Ex.shg hn e 3 h2) (.nil 3 0))))).mono (by omega) (by simp only [wEG, St.sz]; omega)
  | .pay e, d, h => (ShG.tup (.cons (ShG.str (n := 3) (by decide +kernel) 3 (by decide)) (.cons (Ex.shg hn e 3 h) (.nil 3 0)))).mono (by omega) (by simp only [wEG, St.sz]; omega)
  | .stop, d, h => (ShG.tup (.cons (ShG.str (n := 4) (by decide +kernel) 3 (by decide)) (.nil 3 0))).mono (by omega) (by simp only [St.sz]; omega)
  | .ite t y n, d, ⟨h1, h2, h3⟩ => (ShG.tup (.cons (ShG.str (n := 2) (by decide +kernel) (2 * d + 8) (by decide)) (.cons ((Ts.shg hn t 2 h1).mono (by omega) (Nat.le_refl _)) (.cons ((ShG.tup (Bk.shg hn y d h2)).mono (by omega) (Nat.le_refl _)) (.cons ((ShG.tup (Bk.shg hn n d h3)).mono (by omega) (Nat.le_refl _)) (.nil _ 0)))))).mono (by omega) (by simp only [St.sz]; omega)
  | .rep k y, d, ⟨h1, h2, h3⟩ => (ShG.tup (.cons (ShG.str (n := 6) (by decide +kernel) (2 * d + 8) (by decide)) (.cons (smG (by omega) (by omega) _) (.cons ((ShG.tup (Bk.shg hn y d h3)).mono (by omega) (Nat.le_refl _)) (.nil _ 0))))).mono (by omega) (by simp only [St.sz]; omega)
theorem Bk.shg {ns : List Str} (hn : ∀ z ∈ ns, NmOk z) : ∀ (b : Bk) (d : Nat), b.ok ns d → ShGA (2 * d + 7) (300 * b.sz) b.ds
  | .nil, d, _ => .nil _ _
  | .cons s b, d, ⟨h1, h2, h3⟩ => by
    have p : 1 ≤ s.sz := by rw [s.sz_blks]; omega
    exact (ShGA.cons ((St.shg hn s (d - 1) h2).mono (by omega) (Nat.le_refl _)) (Bk.shg hn b d h3)).mono (Nat.le_refl _) (by simp only [Bk.sz]; omega)
end
/-! ### repr of values of any kind -/
theorem ShG.non (k n : Nat) : ShG k n .none := ⟨by simp only [PyData.showable], by simp only [PyData.leavesShort], by simp only [PyData.depth]; omega, by simp only [PyData.weight]; omega⟩
theorem ShG.bl (b : Bool) (k n : Nat) : ShG k n (.bool b) := ⟨by simp only [PyData.showable], by simp only [PyData.leavesShort], by simp only [PyData.depth]; omega, by simp only [PyData.weight]; omega⟩
theorem sys1 : PySem.sysModules = (1 : Nat) := rfl
theorem dic_reads {h : Heap} {P : Program} {w : World} : ∀ {kvs : List (Str × Int)} {vs : List (Key × Value)} {es : List DictEntry}, KV (kvs.map fun p => ((.inr p.1 : Key), V.int p.2)) vs → PySem.Pairs (mixKind P w) es vs →
    ReadsAll h (es.map (·.key)) ((kvs.map fun p => (PyData.str p.1, PyData.int p.2)).map (·.1)) [] ∧ ReadsAll h (es.map (·.val)) ((kvs.map fun p => (PyData.str p.1, PyData.int p.2)).map (·.2)) []
  | [], _, _, r, p => by
    cases r
    cases p
    exact ⟨.nil, .nil⟩
  | (z, i) :: kvs, _, _, r, p => by
    cases r with
    | @cons a b as bs r1 r2 =>
      cases p with
      | @cons e kv es kvs' h1 h2 h3 =>
        obtain ⟨i1, i2⟩ := dic_reads (h := h) r2 h3
        obtain ⟨k0, v0⟩ := b
        obtain ⟨e1, t, e2⟩ := r1
        have e1 : (.inr z : Key) = k0 := e1
        subst e1
        have e2 : v0 = Value.int i t := e2
        have h2 : e.val = v0 := h2
        have h1 : keyIs (.inr z) e.key = true := h1
        rcases keyIs_shape h1 with ⟨_, _, q, _⟩ | ⟨x, u, q, e3⟩
        · cases q
        · cases q
          obtain ⟨ha, ky, va⟩ := e
          have e3 : ky = Value.str z u := e3
          have h2 : va = v0 := h2
          subst h2
          subst e2
          subst e3
          exact ⟨ReadsAll.cons (as := []) (bs := []) (.str z u) i1, ReadsAll.cons (as := []) (bs := []) (.int i t) i2⟩
section
variable {X : Cx} {pins : List (Addr × Obj)} {σ : L2.St} {H : Hp} {s : Shared} {N : List Addr}
mutual
theorem Gd.reads (I : Inv X pins σ H s) : ∀ {v : V} {d : PyData}, Gd N H v d → ∀ u : Value, RelV v u → ∃ as, Reads s.heap u d as ∧ PySem.sysModules ∉ as
  | _, _, .non, _, r => by cases r; exact ⟨_, Reads.none, by simp⟩
  | _, _, .bl b, _, r => by cases r; exact ⟨_, Reads.bool b, by simp⟩
  | _, _, .int i, _, r => by obtain ⟨t, rfl⟩ := r; exact ⟨_, Reads.int i t, by simp⟩
  | _, _, .str x, _, r => by obtain ⟨t, rfl⟩ := r; exact ⟨_, Reads.str x t, by simp⟩
  | _, _, .tup h a, _, r => by
    cases r
    obtain ⟨its, rv, ⟨o, ho, hc, n, hd⟩, _⟩ := I.tuple (SqT.of h)
    obtain ⟨as, hr, hn⟩ := GdAll.reads I a its rv
    exact ⟨_, Reads.tuple ho hc hd hr, hn⟩
  | _, _, .lst (a := p) h _ h1 a, _, r => by
    cases r
    obtain ⟨its, rv, ⟨o, n, ho, hc, _, hd⟩, _⟩ := I.list (SqL.of h)
    obtain ⟨as, hr, hn⟩ := GdAll.reads I a its rv
    refine ⟨_, Reads.list ho hc hd hr, fun hm => ?_⟩
    rcases List.mem_cons.1 hm with e | hm
    · exact h1 e.symm
    · exact hn hm
  | _, _, .dic (a := p) kvs h _, _, r => by
    cases r
    obtain ⟨_, hd, vs, rel, o, es, ep, ho, hx, hdt, _, hp, _⟩ := dk_of I.hok h
    obtain ⟨i1, i2⟩ := dic_reads (h := s.heap) rel hp
    refine ⟨_, Reads.dict ho hx.1 hdt i1 i2, fun hm => ?_⟩
    have e : PySem.sysModules = p := by simpa using hm
    rw [← e] at hd
    simp at hd
theorem GdAll.reads (I : Inv X pins σ H s) : ∀ {vs : List V} {ds : List PyData}, GdAll N H vs ds → ∀ us : List Value, Vals vs us → ∃ as, ReadsAll s.heap us ds as ∧ PySem.sysModules ∉ as
  | _, _, .nil, _, r => by cases r; exact ⟨_, ReadsAll.nil, by simp⟩
  | _, _, .cons a b, _, r => by
    cases r with
    | cons r1 r2 =>
      obtain ⟨as, q1, n1⟩ := Gd.reads I a _ r1
      obtain ⟨bs, q2, n2⟩ := GdAll.reads I b _ r2
      exact ⟨_, ReadsAll.cons q1 q2, fun hm => (List.mem_append.1 hm).elim n1 n2⟩
end
end
def rReprG : List V → Hp → VK → Prop := fun xs H Q => ∃ (N : List Addr) (x : V) (d : PyData), xs = [x] ∧ Gd N H x d ∧ ShG 60 80000 d ∧ Q (.str d.shown) H
theorem call_reprG {X : Cx} (hgd : X.A.guards = some []) (hu : X.A.units + 64 < cLine) : CallR X (.builtin "repr") rReprG := by
  intro pins s σ H xs us Q I r h0; have h := h0
  obtain ⟨N, x, d, rfl, hd, sh, q⟩ := h
  rcases vals1 r with ⟨u, rfl, rx⟩
  have hz := sh.len (Nat.le_refl _)
  have hdp := sh.dp
  obtain ⟨as, rd, hns⟩ := hd.reads I u rx
  have fin : ∀ {a : Addr}, Reads s.heap (.ref a) d as → wpAny (model X.prog X.w) X.A (call (.builtin "repr") [.ref a]) (EP X pins σ Q) X.xe s := fun {a} rd =>
    repr_of_reads' rd sh.s (fun _ => hns) hgd (by omega) (fun _ _ e => e) (fun h' u' tk hk => ⟨.str d.shown, H, I.kept hk, ⟨u', rfl⟩, q⟩) hz
  cases hd with
  | non =>
    cases rx
    have e : PyData.shown .none = "None" := by simp only [PyData.shown]
    rw [e] at q
    exact PySem.P.repr_of_none ⟨.str _, H, I.tok _, ⟨_, rfl⟩, q⟩
  | bl b =>
    cases rx
    have e : (PyData.bool b).shown = (if b then "True" else "False" : Str) := by cases b <;> simp [PyData.shown]
    rw [e] at q
    exact PySem.P.repr_of_bool ⟨.str _, H, I.tok _, ⟨_, rfl⟩, q⟩
  | int i =>
    obtain ⟨t, rfl⟩ := rx
    have hi : i.natAbs.log2 < 1920 := by
      have : (PyData.int i).showable = true := sh.s
      simpa only [PyData.showable, decide_eq_true_eq] using this
    have e : (PyData.int i).shown = (toString i : String) := by simp only [PyData.shown]
    rw [e] at q
    exact PySem.P.repr_of_int hi ⟨.str _, H, I.tok _, ⟨_, rfl⟩, q⟩
  | str z =>
    obtain ⟨t, rfl⟩ := rx
    have e : (PyData.str z).shown = reprText z := by simp only [PyData.shown]
    rw [e] at q hz
    exact PySem.P.repr_of_str ⟨.str _, H, I.tok _, ⟨_, rfl⟩, q⟩ hz
  | tup _ _ => cases rx; exact fin rd
  | lst _ _ _ _ => cases rx; exact fin rd
  | dic _ _ _ => cases rx; exact fin rd
/-! ### lists as data -/
def tLstB (t : TA) : TE := fun σ H Q => t σ H fun xs H1 => xs.length ≤ sizeLine ∧ ∀ p, H1 p = none → p ≠ 1 → Q (.ref p) (upd H1 p (.lst xs))
theorem pe_lstB {X : Cx} {es : List Expr} {pos : Pos} {t : TA} (h : PA X es t) : PE X (.List es pos) (tLstB t) := by
  refine (⟨fun pins s σ H Q I hq => ?_⟩)
  refine (wpAny_List_spliced (thn (h.run pos pins s σ H _ I hq) fun us s1 ⟨xs, H1, I1, r, z, q⟩ => ⟨by rw [← r.length]; exact z, ?_⟩))
  have hf : (H1 s1.heap.objs.size = none) := I1.hok.fresh (Nat.le_refl _)
  have big := I1.big
  refine ⟨.ref s1.heap.objs.size, upd H1 s1.heap.objs.size (.lst xs), I1.laid (t' := s1.toks) (fun b u e => Heap.get?_push_of_some _ e) (Nat.le_refl _) ?_, rfl, q _ hf (Nat.ne_of_gt big)⟩
  exact (⟨z, us, 0, r, Heap.get?_push_size _ rfl⟩)
theorem call_list_ofB {X : Cx} : CallR X (.type "list") (fun xs H Q => ∃ p ys, xs = [.ref p] ∧ (SqL X.K H p ys ∨ SqT X.K H p ys) ∧ ∀ l, H l = none → l ≠ 1 → Q (.ref l) (upd H l (.lst ys))) := by
  intro pins s σ H xs us Q I r h0; have h := h0
  rcases h with ⟨p, ys, rfl, hq, q⟩
  rcases vals1 r with ⟨u, rfl, rx⟩
  cases rx
  have big := I.big
  have fin : ∀ (js : List Value), Vals ys js → ys.length ≤ sizeLine → ∀ (g : Heap) (m : Nat), (∀ b o', s.heap.get? b = some o' → g.get? b = some o') →
      g.get? s.heap.objs.size = some ⟨.type "list", none, .seq js.toArray m, #[]⟩ → EP X pins σ Q (.ref s.heap.objs.size) { s with heap := g } := fun its r' hz h' c' kp e =>
    ⟨.ref s.heap.objs.size, _, I.laid (t' := s.toks) kp (Nat.le_refl _) (show ObjOk X.prog X.w _ h' _ (.lst ys) from ⟨hz, its, c', r', e⟩), rfl, q _ (I.hok.fresh (Nat.le_refl _)) (Nat.ne_of_gt big)⟩
  rcases hq with hq | hq
  · rcases I.list hq with ⟨its, r', pl, hz⟩
    have hlen := r'.length
    rcases pl.isList with ⟨o, ho, hc, n, hd⟩
    exact (call_list_seq p (.inl rfl) ho hc hd (fun h' c' kp e => fin its r' hz h' c' kp e) (by simp only [List.size_toArray] <;> omega))
  · rcases I.tuple hq with ⟨its, r', pl, hz⟩
    have hlen := r'.length
    rcases pl with ⟨o, ho, hc, n, hd⟩
    exact (call_list_seq p (.inr rfl) ho hc hd (fun h' c' kp e => fin its r' hz h' c' kp e) (by simp only [List.size_toArray] <;> omega))
/-! ### one step of a reading -/
theorem gSeqAsg {te : TE} {g : TG} {u : TS} {D : Ends} {σ : L2.St} {H : Hp} (h : te σ H fun x H1 => g x σ H1 (u D)) : tSeq (tAsg te g) u D σ H := h
theorem gAsg {te : TE} {g : TG} {D : Ends} {σ : L2.St} {H : Hp} (h : te σ H fun x H1 => g x σ H1 D.nx) : tAsg te g D σ H := h
theorem gRet {te : TE} {D : Ends} {σ : L2.St} {H : Hp} (h : te σ H D.rt) : tRet te D σ H := h
theorem gCall {sp : Sp} {dvs : List V} {E : XK} {t : TA} {σ : L2.St} {H : Hp} {Q : VK} (h : t σ H fun vs H1 => sp (vs ++ dvs) H1 Q E) : tCall sp dvs E t σ H Q := h
theorem gCons {te : TE} {ta : TA} {σ : L2.St} {H : Hp} {Q : List V → Hp → Prop} (h : te σ H fun x H1 => ta σ H1 fun xs H2 => Q (x :: xs) H2) : tCons te ta σ H Q := h
theorem gVar {i : Nat} {v : V} {σ : L2.St} {H : Hp} {Q : VK} (e : σ[i]? = some (some v)) (h : Q v H) : tVar i σ H Q := ⟨v, e, h⟩
theorem gNil {σ : L2.St} {H : Hp} {Q : List V → Hp → Prop} (h : Q [] H) : tNil σ H Q := h
/-! ### written data -/
/-- the reading t makes a value of any kind, as deep and as large at most -/
def MkE (N : List Addr) (σ : L2.St) (H : Hp) (k n : Nat) (t : TE) : Prop := ∀ (H1 : Hp) (Q : VK), Sx [] H H1 → (∀ H2 v d, Sx [] H1 H2 → Gd N H2 v d → ShG k n d → Q v H2) → t σ H1 Q
/-- the same of values one behind the other -/
def GS (N : List Addr) (H : Hp) (k n : Nat) (vs : List V) : Prop := ∃ ds, GdAll N H vs ds ∧ ShGA k n ds
def MkA (N : List Addr) (σ : L2.St) (H : Hp) (k n m : Nat) (t : TA) : Prop := ∀ (H1 : Hp) (Q : List V → Hp → Prop), Sx [] H H1 → (∀ H2 vs, Sx [] H1 H2 → GS N H2 k n vs → vs.length = m → Q vs H2) → t σ H1 Q
section
variable {N : List Addr} {σ : L2.St} {H : Hp} {k n m : Nat}
theorem GS.len {vs : List V} (h : GS N H k n vs) : vs.length ≤ n := by
  obtain ⟨ds, h1, h2⟩ := h
  rw [h1.len]
  have := wA_len ds
  have := h2.w
  omega
theorem GS.keep {H' : Hp} {vs : List V} (s : Kp N H H') (h : GS N H k n vs) : GS N H' k n vs := by
  obtain ⟨ds, h1, h2⟩ := h
  exact ⟨ds, h1.keep s, h2⟩
theorem GS.mono {vs : List V} {n2 : Nat} (h : GS N H k n vs) (hn : n ≤ n2) : GS N H k n2 vs := by
  obtain ⟨ds, h1, h2⟩ := h
  exact ⟨ds, h1, h2.mono (Nat.le_refl _) hn⟩
theorem GS.mem {vs : List V} {x : V} (h : GS N H k n vs) (hx : x ∈ vs) : ∃ d, Gd N H x d ∧ ShG k n d := by
  obtain ⟨ds, h1, h2⟩ := h
  induction vs generalizing ds n with
  | nil => cases hx
  | cons y vs ih =>
    cases h1 with
    | @cons _ _ d ds g h1 =>
      have hs := h2.s
      have hl := h2.l
      have hd := h2.dp
      have hw := h2.w
      simp only [PyData.showableAll, Bool.and_eq_true] at hs
      simp only [PyData.leavesShortAll, Bool.and_eq_true] at hl
      simp only [PyData.depthAll] at hd
      simp only [PyData.weightAll] at hw
      rcases List.mem_cons.1 hx with rfl | hx
      · exact ⟨d, g, hs.1, hl.1, by omega, by omega⟩
      · exact ih hx ds h1 ⟨hs.2, hl.2, by omega, by omega⟩
theorem GS.append {n2 : Nat} {vs us : List V} (h : GS N H k n vs) (h' : GS N H k n2 us) : GS N H k (n + n2) (vs ++ us) := by
  obtain ⟨ds, h1, h2⟩ := h
  obtain ⟨es, h3, h4⟩ := h'
  refine ⟨ds ++ es, h1.append h3, ?_⟩
  clear h1 h3
  induction ds generalizing n with
  | nil => exact h4.mono (Nat.le_refl _) (by omega)
  | cons d ds ih =>
    have hs := h2.s
    have hl := h2.l
    have hd := h2.dp
    have hw := h2.w
    simp only [PyData.showableAll, Bool.and_eq_true] at hs
    simp only [PyData.leavesShortAll, Bool.and_eq_true] at hl
    simp only [PyData.depthAll] at hd
    simp only [PyData.weightAll] at hw
    have r := ih (n := n - d.weight - 1) ⟨hs.2, hl.2, by omega, by omega⟩
    exact (ShGA.cons (n := d.weight) (k := k) ⟨hs.1, hl.1, by omega, Nat.le_refl _⟩ r).mono (Nat.le_refl _) (by omega)
theorem MkA.nil : MkA N σ H k 0 0 tNil := fun H1 Q s q => q H1 [] (Sx.refl _) ⟨[], .nil, .nil _ _⟩ rfl
theorem MkA.cons {te : TE} {ta : TA} {n2 : Nat} (h : MkE N σ H k n te) (h' : MkA N σ H k n2 m ta) : MkA N σ H k (n + 1 + n2) (m + 1) (tCons te ta) := fun H1 Q s q =>
  h H1 _ s fun H2 v d s2 g sh => h' H2 _ (s.trans s2) fun H3 vs s3 ⟨ds, g3, sh3⟩ hl => q H3 (v :: vs) (s2.trans s3) ⟨d :: ds, .cons (g.keep s3.kp0) g3, .cons sh sh3⟩ (by rw [List.length_cons, hl])
theorem MkE.mono {te : TE} {k2 n2 : Nat} (h : MkE N σ H k n te) (hk : k ≤ k2) (hn : n ≤ n2) : MkE N σ H k2 n2 te := fun H1 Q s q => h H1 Q s fun H2 v d s2 g sh => q H2 v d s2 g (sh.mono hk hn)
theorem MkE.int {i : Int} (h : i.natAbs < 2 ^ 200) : MkE N σ H k 200 (tC (.int i)) := fun H1 Q s q => q H1 _ _ (Sx.refl _) (.int i) (ShG.int h (by decide) (by decide) k)
theorem MkE.sm {i : Int} (h : i.natAbs < 2 ^ 8) : MkE N σ H k 8 (tC (.int i)) := fun H1 Q s q => q H1 _ _ (Sx.refl _) (.int i) (ShG.int h (by decide) (by decide) k)
theorem MkE.str {z : Str} (h : PyData.strOk z = true) (hz : z.length ≤ 20) : MkE N σ H k 20 (tC (.str z)) := fun H1 Q s q => q H1 _ _ (Sx.refl _) (.str z) (ShG.str h k 20 hz)
theorem MkE.bl {b : Bool} : MkE N σ H k 0 (tC (.bl b)) := fun H1 Q s q => q H1 _ _ (Sx.refl _) (.bl b) (ShG.bl b k 0)
theorem MkE.non : MkE N σ H k 0 (tC .non) := fun H1 Q s q => q H1 _ _ (Sx.refl _) .non (ShG.non k 0)
theorem MkE.neg {i : Int} (h : i.natAbs < 2 ^ 8) : MkE N σ H k 8 (tUn (rU fun i => .int (-i)) (tC (.int i))) := fun H1 Q s q => ⟨i, rfl, q H1 _ _ (Sx.refl _) (.int _) (ShG.int (by omega) (by decide) (by decide) k)⟩
theorem MkE.pow {i j : Int} (h1 : CPow i j) (h : (i ^ j.toNat).natAbs < 2 ^ 200) : MkE N σ H k 200 (tOp (rI CPow fun i j => .int (i ^ j.toNat)) (tC (.int i)) (tC (.int j))) := fun H1 Q s q => ⟨i, j, rfl, rfl, h1, q H1 _ _ (Sx.refl _) (.int _) (ShG.int h (by decide) (by decide) k)⟩
theorem MkE.tup {ta : TA} (h : MkA N σ H k n m ta) (hm : m ≤ 16777216) : MkE N σ H (k + 1) n (tTup ta) := fun H1 Q s q =>
  h H1 _ s fun H2 vs s2 ⟨ds, g, sh⟩ hl => ⟨by rw [hl]; exact hm, fun p hp => q _ _ _ (s2.new hp) (.tup upd_same (g.new hp)) (ShG.tup sh)⟩
theorem notin_new {p : Addr} {H2 : Hp} (hN : ∀ b ∈ N, H b ≠ none) (s : Sx [] H H2) (hp : H2 p = none) : p ∉ N := fun hm => hN p hm (s.free (by simp) hp)
theorem MkE.lst {ta : TA} (hN : ∀ b ∈ N, H b ≠ none) (h : MkA N σ H k n m ta) (hm : m ≤ 16777216) : MkE N σ H (k + 1) n (tLstB ta) := fun H1 Q s q =>
  h H1 _ s fun H2 vs s2 ⟨ds, g, sh⟩ hl => ⟨by rw [hl]; exact hm, fun p hp p1 => q _ _ _ (s2.new hp) (.lst upd_same (notin_new hN (s.trans s2) hp) p1 (g.new hp)) (ShG.lst sh)⟩
theorem ShG.dic0 : ShG (k + 1) n (.dict []) := ⟨by simp only [PyData.showable, PyData.showableKv], by simp only [PyData.leavesShort, PyData.leavesShortKv], by simp only [PyData.depth, PyData.depthKv]; omega, by simp only [PyData.weight, PyData.weightKv]; omega⟩
theorem MkE.dic0 (hN : ∀ b ∈ N, H b ≠ none) : MkE N σ H (k + 1) 0 tDNewK := fun H1 Q s q p hp => q _ _ _ (Sx.n0 hp) (.dic [] upd_same (notin_new hN s hp)) ShG.dic0
theorem ShG.dic1 {z : Str} {i : Int} (h : PyData.strOk z = true) (hz : z.length ≤ 20) (hi : i.natAbs < 2 ^ 200) : ShG (k + 1) 300 (.dict [(.str z, .int i)]) := by
  have a := ShG.str h k 20 hz
  have b := ShG.int (n := 200) hi (by decide) (by decide) k
  refine ⟨?_, ?_, ?_, ?_⟩
  · simp only [PyData.showable, PyData.showableKv]; have := a.s; have := b.s; simp_all [PyData.showable]
  · simp only [PyData.leavesShort, PyData.leavesShortKv]; have := a.l; have := b.l; simp_all [PyData.leavesShort]
  · simp only [PyData.depth, PyData.depthKv]; omega
  · have h1 := a.w
    have h2 := b.w
    simp only [PyData.weight, PyData.weightKv] at h1 h2 ⊢
    omega
theorem MkE.dic1 {z : Str} {i : Int} (hN : ∀ b ∈ N, H b ≠ none) (h : PyData.strOk z = true) (hz : z.length ≤ 20) (hi : i.natAbs < 2 ^ 200) : MkE N σ H (k + 1) 300 (tDisp [(tC (.str z), tC (.int i))]) := fun H1 Q s q p hp => by
  refine ⟨upd_same, [(.inr z, .int i)], rfl, (show 1 ≤ 15 by decide), ?_⟩
  refine q _ _ (.dict [(.str z, .int i)]) ?_ ?_ (ShG.dic1 h hz hi)
  · exact ((Sx.refl _).new hp).own hp
  · exact .dic [(z, i)] upd_same (notin_new hN s hp)
theorem MkE.var {i : Nat} {v : V} {d : PyData} {k2 : Nat} (hv : σ[i]? = some (some v)) (g : Gd N H v d) (sh : ShG k2 n d) (hk : k2 ≤ k) : MkE N σ H k n (tVar i) := fun H1 Q s q => ⟨v, hv, q H1 v d (Sx.refl _) (g.keep s.kp0) (sh.mono hk (Nat.le_refl _))⟩
/-- a list of such values, at an address of its own -/
def MkL (N : List Addr) (σ : L2.St) (H : Hp) (k n m : Nat) (t : TE) : Prop := ∀ (H1 : Hp) (Q : VK), Sx [] H H1 → (∀ H2 l vs, Sx [] H1 H2 → l ∉ N → H2 l = some (.lst vs) → GS N H2 k n vs → vs.length = m → Q (.ref l) H2) → t σ H1 Q
theorem MkL.lst {ta : TA} (hN : ∀ b ∈ N, H b ≠ none) (h : MkA N σ H k n m ta) (hm : m ≤ 16777216) : MkL N σ H k n m (tLst ta) := fun H1 Q s q =>
  h H1 _ s fun H2 vs s2 g hl => ⟨by rw [hl]; exact hm, fun p hp => q _ p vs (s2.new hp) (notin_new hN (s.trans s2) hp) upd_same (g.keep (Sx.n0 hp).kp0) hl⟩
theorem MkL.var {i : Nat} {l : Addr} {vs : List V} (hv : σ[i]? = some (some (.ref l))) (hl : l ∉ N) (e : H l = some (.lst vs)) (g : GS N H k n vs) (hm : vs.length = m) : MkL N σ H k n m (tVar i) := fun H1 Q s q => ⟨_, hv, q H1 l vs (Sx.refl _) hl (s _ _ (by simp) e) (g.keep s.kp0) hm⟩
theorem MkL.cat {ta tb : TE} {n2 m2 : Nat} (hN : ∀ b ∈ N, H b ≠ none) (h : MkL N σ H k n m ta) (h' : MkL N σ H k n2 m2 tb) (hm : m + m2 ≤ 16777216) : MkL N σ H k (n + n2) (m + m2) (tOp rCat ta tb) := fun H1 Q s q =>
  h H1 _ s fun H2 l vs s2 nl el g hl => h' H2 _ (s.trans s2) fun H3 l' us s3 nl' el' g' hl' => ⟨l, l', vs, us, rfl, rfl, s3 _ _ (by simp) el, el', by rw [hl, hl']; exact hm, fun p hp =>
    q _ p _ ((s2.trans s3).new hp) (notin_new hN (s.trans (s2.trans s3)) hp) upd_same (((g.keep s3.kp0).append g').keep (Sx.n0 hp).kp0) (by rw [List.length_append, hl, hl'])⟩
end
/-! ### written lists, each item as large at most -/
def GE (N : List Addr) (H : Hp) (k e : Nat) (vs : List V) : Prop := ∃ ds, GdAll N H vs ds ∧ ∀ d ∈ ds, ShG k e d
def MkB (N : List Addr) (σ : L2.St) (H : Hp) (k e m : Nat) (t : TA) : Prop := ∀ (H1 : Hp) (Q : List V → Hp → Prop), Sx [] H H1 → (∀ H2 vs, Sx [] H1 H2 → GE N H2 k e vs → vs.length = m → Q vs H2) → t σ H1 Q
def MkM (N : List Addr) (σ : L2.St) (H : Hp) (k e m : Nat) (t : TE) : Prop := ∀ (H1 : Hp) (Q : VK), Sx [] H H1 → (∀ H2 l vs, Sx [] H1 H2 → l ∉ N → H2 l = some (.lst vs) → GE N H2 k e vs → vs.length = m → Q (.ref l) H2) → t σ H1 Q
section
variable {N : List Addr} {σ : L2.St} {H : Hp} {k e m : Nat}
theorem GE.keep {H' : Hp} {vs : List V} (s : Kp N H H') (h : GE N H k e vs) : GE N H' k e vs := by
  obtain ⟨ds, h1, h2⟩ := h
  exact ⟨ds, h1.keep s, h2⟩
theorem GE.mono {vs : List V} {k2 e2 : Nat} (h : GE N H k e vs) (hk : k ≤ k2) (he : e ≤ e2) : GE N H k2 e2 vs := by
  obtain ⟨ds, h1, h2⟩ := h
  exact ⟨ds, h1, fun d hd => (h2 d hd).mono hk he⟩
theorem GE.nil : GE N H k e [] := ⟨[], .nil, fun _ h => by cases h⟩
theorem GE.cons {v : V} {d : PyData} {vs : List V} (g : Gd N H v d) (s : ShG k e d) (h : GE N H k e vs) : GE N H k e (v :: vs) := by
  obtain ⟨ds, h1, h2⟩ := h
  exact ⟨d :: ds, .cons g h1, fun x hx => (List.mem_cons.1 hx).elim (fun z => by rw [z]; exact s) (h2 x)⟩
theorem GE.append {vs us : List V} (h : GE N H k e vs) (h' : GE N H k e us) : GE N H k e (vs ++ us) := by
  obtain ⟨ds, h1, h2⟩ := h
  obtain ⟨es, h3, h4⟩ := h'
  exact ⟨ds ++ es, h1.append h3, fun d hd => (List.mem_append.1 hd).elim (h2 d) (h4 d)⟩
theorem GE.mem {vs : List V} {x : V} (h : GE N H k e vs) (hx : x ∈ vs) : ∃ d, Gd N H x d ∧ ShG k e d := by
  obtain ⟨ds, h1, h2⟩ := h
  obtain ⟨i, hi⟩ := List.getElem?_of_mem hx
  obtain ⟨d, hd, g⟩ := h1.get hi
  exact ⟨d, g, h2 d (List.mem_of_getElem? hd)⟩
theorem GE.take {vs : List V} (h : GE N H k e vs) (j : Nat) : GE N H k e (vs.take j) := by
  obtain ⟨ds, h1, h2⟩ := h
  exact ⟨ds.take j, h1.take j, fun d hd => h2 d (List.mem_of_mem_take hd)⟩
theorem GE.tup {vs : List V} (h : GE N H k e vs) : ∃ ds, GdAll N H vs ds ∧ ShGA k (vs.length * (e + 1)) ds := by
  obtain ⟨ds, h1, h2⟩ := h
  refine ⟨ds, h1, ?_⟩
  rw [h1.len]
  clear h1
  induction ds with
  | nil => exact .nil _ _
  | cons d ds ih =>
    refine (ShGA.cons (h2 d (List.mem_cons_self ..)) (ih fun x hx => h2 x (List.mem_cons_of_mem _ hx))).mono (Nat.le_refl _) ?_
    rw [List.length_cons, Nat.succ_mul]
    omega
theorem GE.strs {zs : List Str} (h : ∀ z ∈ zs, PyData.strOk z = true ∧ z.length ≤ e) : GE N H k e (zs.map V.str) := by
  induction zs with
  | nil => exact .nil
  | cons z zs ih =>
    obtain ⟨h1, h2⟩ := h z (List.mem_cons_self ..)
    exact .cons (.str z) (ShG.str h1 k e h2) (ih fun y hy => h y (List.mem_cons_of_mem _ hy))
theorem MkB.nil : MkB N σ H k e 0 tNil := fun H1 Q s q => q H1 [] (Sx.refl _) .nil rfl
theorem MkB.cons {te : TE} {ta : TA} {n : Nat} (h : MkE N σ H k n te) (hn : n ≤ e) (h' : MkB N σ H k e m ta) : MkB N σ H k e (m + 1) (tCons te ta) := fun H1 Q s q =>
  h H1 _ s fun H2 v d s2 g sh => h' H2 _ (s.trans s2) fun H3 vs s3 ge hl => q H3 (v :: vs) (s2.trans s3) (.cons (g.keep s3.kp0) (sh.mono (Nat.le_refl _) hn) ge) (by rw [List.length_cons, hl])
theorem MkM.lst {ta : TA} (hN : ∀ b ∈ N, H b ≠ none) (h : MkB N σ H k e m ta) (hm : m ≤ 16777216) : MkM N σ H k e m (tLst ta) := fun H1 Q s q =>
  h H1 _ s fun H2 vs s2 g hl => ⟨by rw [hl]; exact hm, fun p hp => q _ p vs (s2.new hp) (notin_new hN (s.trans s2) hp) upd_same (g.keep (Sx.n0 hp).kp0) hl⟩
theorem MkM.var {i : Nat} {l : Addr} {vs : List V} (hv : σ[i]? = some (some (.ref l))) (hl : l ∉ N) (el : H l = some (.lst vs)) (g : GE N H k e vs) (hm : vs.length = m) : MkM N σ H k e m (tVar i) := fun H1 Q s q => ⟨_, hv, q H1 l vs (Sx.refl _) hl (s _ _ (by simp) el) (g.keep s.kp0) hm⟩
theorem MkM.cat {ta tb : TE} {m2 : Nat} (hN : ∀ b ∈ N, H b ≠ none) (h : MkM N σ H k e m ta) (h' : MkM N σ H k e m2 tb) (hm : m + m2 ≤ 16777216) : MkM N σ H k e (m + m2) (tOp rCat ta tb) := fun H1 Q s q =>
  h H1 _ s fun H2 l vs s2 nl el g hl => h' H2 _ (s.trans s2) fun H3 l' us s3 nl' el' g' hl' => ⟨l, l', vs, us, rfl, rfl, s3 _ _ (by simp) el, el', by rw [hl, hl']; exact hm, fun p hp =>
    q _ p _ ((s2.trans s3).new hp) (notin_new hN (s.trans (s2.trans s3)) hp) upd_same (((g.keep s3.kp0).append g').keep (Sx.n0 hp).kp0) (by rw [List.length_append, hl, hl'])⟩
end
/-! ### written data, told exactly -/
def MkX (σ : L2.St) (H : Hp) (t : TE) (d : PyData) : Prop := ∀ (H1 : Hp) (Q : VK), Sx [] H H1 → (∀ H2 v, Sx [] H1 H2 → Tp H2 v d → Q v H2) → t σ H1 Q
def MkXA (σ : L2.St) (H : Hp) (t : TA) (ds : List PyData) : Prop := ∀ (H1 : Hp) (Q : List V → Hp → Prop), Sx [] H H1 → (∀ H2 vs, Sx [] H1 H2 → TpAll H2 vs ds → Q vs H2) → t σ H1 Q
def MkXL (σ : L2.St) (H : Hp) (t : TE) (ds : List PyData) : Prop := ∀ (H1 : Hp) (Q : VK), Sx [] H H1 → (∀ H2 l vs, Sx [] H1 H2 → H2 l = some (.lst vs) → TpAll H2 vs ds → Q (.ref l) H2) → t σ H1 Q
section
variable {σ : L2.St} {H : Hp}
theorem MkX.int {i : Int} : MkX σ H (tC (.int i)) (.int i) := fun H1 Q s q => q H1 _ (Sx.refl _) (.int i)
theorem MkX.str {z : Str} : MkX σ H (tC (.str z)) (.str z) := fun H1 Q s q => q H1 _ (Sx.refl _) (.str z)
theorem MkX.bl {b : Bool} : MkX σ H (tC (.bl b)) (.bool b) := fun H1 Q s q => q H1 _ (Sx.refl _) (.bl b)
theorem MkX.non : MkX σ H (tC .non) .none := fun H1 Q s q => q H1 _ (Sx.refl _) .non
theorem MkX.neg {i : Int} : MkX σ H (tUn (rU fun i => .int (-i)) (tC (.int i))) (.int (-i)) := fun H1 Q s q => ⟨i, rfl, q H1 _ (Sx.refl _) (.int _)⟩
theorem MkX.var {i : Nat} {v : V} {d : PyData} (hv : σ[i]? = some (some v)) (t : Tp H v d) : MkX σ H (tVar i) d := fun H1 Q s q => ⟨v, hv, q H1 v (Sx.refl _) (t.keep s.tk0)⟩
theorem MkXA.nil : MkXA σ H tNil [] := fun H1 Q s q => q H1 [] (Sx.refl _) .nil
theorem MkXA.cons {te : TE} {ta : TA} {d : PyData} {ds : List PyData} (h : MkX σ H te d) (h' : MkXA σ H ta ds) : MkXA σ H (tCons te ta) (d :: ds) := fun H1 Q s q =>
  h H1 _ s fun H2 v s2 t2 => h' H2 _ (s.trans s2) fun H3 vs s3 t3 => q H3 (v :: vs) (s2.trans s3) (.cons (t2.keep s3.tk0) t3)
theorem MkX.tup {ta : TA} {ds : List PyData} (h : MkXA σ H ta ds) (hm : ds.length ≤ 16777216) : MkX σ H (tTup ta) (.tuple ds) := fun H1 Q s q =>
  h H1 _ s fun H2 vs s2 t2 => ⟨by rw [t2.len]; exact hm, fun p hp => q _ _ (s2.new hp) (.tup upd_same (t2.new hp))⟩
theorem MkXL.lst {ta : TA} {ds : List PyData} (h : MkXA σ H ta ds) (hm : ds.length ≤ 16777216) : MkXL σ H (tLst ta) ds := fun H1 Q s q =>
  h H1 _ s fun H2 vs s2 t2 => ⟨by rw [t2.len]; exact hm, fun p hp => q _ p vs (s2.new hp) upd_same (t2.new hp)⟩
theorem MkXL.var {i : Nat} {l : Addr} {vs : List V} {ds : List PyData} (hv : σ[i]? = some (some (.ref l))) (e : H l = some (.lst vs)) (t : TpAll H vs ds) : MkXL σ H (tVar i) ds := fun H1 Q s q => ⟨_, hv, q H1 l vs (Sx.refl _) (s _ _ (by simp) e) (t.keep s.tk0)⟩
theorem MkXL.cat {ta tb : TE} {ds es : List PyData} (h : MkXL σ H ta ds) (h' : MkXL σ H tb es) (hm : ds.length + es.length ≤ 16777216) : MkXL σ H (tOp rCat ta tb) (ds ++ es) := fun H1 Q s q =>
  h H1 _ s fun H2 l vs s2 e2 t2 => h' H2 _ (s.trans s2) fun H3 l' us s3 e3 t3 => ⟨l, l', vs, us, rfl, rfl, s3 _ _ (by simp) e2, e3, by rw [t2.len, t3.len]; exact hm, fun p hp =>
    q _ p _ ((s2.trans s3).new hp) upd_same (((t2.keep s3.tk0).append t3).new hp)⟩
end
theorem gNext {D : Ends} {σ : L2.St} {H : Hp} (h : D.nx σ H) : tNext D σ H := h
theorem gForL {K : PySem.W.Frag} {tl : TE} {g : TG} {tb : TS} {D : Ends} {σ : L2.St} {H : Hp} (h : tl σ H fun x H1 => ∃ a, x = .ref a ∧ (∃ xs, SqL K H1 a xs) ∧ ∃ W : Nat → Nat → L2.St → Hp → Prop, (∃ m, W 0 m σ H1) ∧ ∀ i m σ H, W i m σ H →
    ((Itl K a).stop i H ∧ D.nx σ H) ∨ ((Itl K a).go i H ∧ ∃ Nx : L2.St → Hp → Prop, (∀ σ' H', Nx σ' H' → ∃ m', m' < m ∧ W (i + 1) m' σ' H') ∧ ∀ x H', (Itl K a).yld i H x H' → g x σ H' fun σ2 H2 => tb { D with nx := Nx, ct := Nx, bk := D.nx } σ2 H2)) : tFor (iList K tl) g tb D σ H := h
/-! ### repr of any data -/
structure RpA (K : PySem.W.Frag) (H : Hp) (v : V) (d : PyData) : Prop where
  r1 : Dp K H v d
  r2 : d.showable = true
  r3 : d.hasDict = false
  r4 : d.depth ≤ 60
  r5 : d.shown.length ≤ 16777216
theorem RpA.of {K : PySem.W.Frag} {H : Hp} {v : V} {d : PyData} {k n : Nat} (h : Dp K H v d) (z : Shw k n d) (hk : k ≤ 60) (hn : n ≤ 8000) : RpA K H v d :=
  ⟨h, z.s, z.h, by have := z.dp; omega, z.len hn⟩
def rReprA (K : PySem.W.Frag) : List V → Hp → VK → Prop := fun xs H Q => ∃ x d, xs = [x] ∧ RpA K H x d ∧ Q (.str d.shown) H
theorem call_reprA {X : Cx} (hgd : X.A.guards = some []) (hu : X.A.units + 64 < cLine) : CallR X (.builtin "repr") (rReprA X.K) := by
  intro pins s σ H xs us Q I r h0; have h := h0
  obtain ⟨x, d, rfl, ⟨hd, hs, hnd, hdp, hz⟩, q⟩ := h
  rcases vals1 r with ⟨u, rfl, rx⟩
  have fin : ∀ {as : List Addr} {a : Addr}, Reads s.heap (.ref a) d as → wpAny (model X.prog X.w) X.A (call (.builtin "repr") [.ref a]) (EP X pins σ Q) X.xe s := fun {as a} rd =>
    repr_of_reads' rd hs (fun h => by rw [hnd] at h; cases h) hgd (by omega) (fun _ _ e => e) (fun h' u' tk hk => ⟨.str d.shown, H, I.kept hk, ⟨u', rfl⟩, q⟩) hz
  obtain ⟨as, rd⟩ := Dp.reads I d x u hd rx
  cases hd with
  | non =>
    cases rx
    have e : PyData.shown .none = "None" := by simp only [PyData.shown]
    rw [e] at q
    exact PySem.P.repr_of_none ⟨.str _, H, I.tok _, ⟨_, rfl⟩, q⟩
  | bl b =>
    cases rx
    have e : (PyData.bool b).shown = (if b then "True" else "False" : Str) := by cases b <;> simp [PyData.shown]
    rw [e] at q
    exact PySem.P.repr_of_bool ⟨.str _, H, I.tok _, ⟨_, rfl⟩, q⟩
  | int i =>
    obtain ⟨t, rfl⟩ := rx
    have hi : i.natAbs.log2 < 1920 := by
      have : (PyData.int i).showable = true := hs
      simpa only [PyData.showable, decide_eq_true_eq] using this
    have e : (PyData.int i).shown = (toString i : String) := by simp only [PyData.shown]
    rw [e] at q
    exact PySem.P.repr_of_int hi ⟨.str _, H, I.tok _, ⟨_, rfl⟩, q⟩
  | str z =>
    obtain ⟨t, rfl⟩ := rx
    have e : (PyData.str z).shown = reprText z := by simp only [PyData.shown]
    rw [e] at q hz
    exact PySem.P.repr_of_str ⟨.str _, H, I.tok _, ⟨_, rfl⟩, q⟩ hz
  | lst hq ha => cases rx; exact fin rd
  | tup hq ha => cases rx; exact fin rd
/-! ### data that repr shows, with short leaves -/
structure Sw (B k n : Nat) (d : PyData) : Prop where
  s : d.showable = true
  h : d.hasDict = false
  l : d.leavesShort B = true
  dp : d.depth ≤ k
  w : d.weight ≤ n
structure SwA (B k n : Nat) (ds : List PyData) : Prop where
  s : PyData.showableAll ds = true
  h : PyData.hasDictAll ds = false
  l : PyData.leavesShortAll B ds = true
  dp : PyData.depthAll ds ≤ k
  w : PyData.weightAll ds ≤ n
namespace Sw
theorem mono {B k n k' n' : Nat} {d : PyData} (h : Sw B k n d) (hk : k ≤ k') (hn : n ≤ n') : Sw B k' n' d := ⟨h.s, h.h, h.l, Nat.le_trans h.dp hk, Nat.le_trans h.w hn⟩
theorem sm {i : Int} (h1 : -120 ≤ i) (h2 : i ≤ 120) (k : Nat) : Sw 13 k 7 (.int i) := by
  have e : (2 : Nat) ^ 7 = 128 := by decide
  have h : i.natAbs < 2 ^ 7 := by omega
  have z := Shw.int (n := 7) h (by decide) (by decide) k
  refine ⟨z.s, z.h, ?_, z.dp, z.w⟩
  simp only [PyData.leavesShort, decide_eq_true_eq, PyData.shown]
  have e2 : (10 : Nat) ^ 3 = 1000 := by decide
  have := int_text_length_le10 (a := i) (k := 3) (by decide) (by omega)
  refine decide_eq_true ?_
  rw [PySem.ofString_length]
  omega
theorem str {B : Nat} {z : Str} (h : PyData.strOk z = true) (k n : Nat) (hn : z.length ≤ n) : Sw B k n (.str z) := by
  have z := Shw.str h k n hn
  exact ⟨z.s, z.h, by have := z.l; simp only [PyData.leavesShort] at this ⊢; exact this, z.dp, z.w⟩
theorem tup {B k n : Nat} {ds : List PyData} (h : SwA B k n ds) : Sw B (k + 1) n (.tuple ds) :=
  ⟨by simp only [PyData.showable]; exact h.s, by simp only [PyData.hasDict]; exact h.h, by simp only [PyData.leavesShort]; exact h.l, by simp only [PyData.depth]; have := h.dp; omega, by simp only [PyData.weight]; exact h.w⟩
end Sw
namespace SwA
theorem nil (B k n : Nat) : SwA B k n [] := ⟨by simp only [PyData.showableAll], by simp only [PyData.hasDictAll], by simp only [PyData.leavesShortAll], by simp only [PyData.depthAll]; omega, by simp only [PyData.weightAll]; omega⟩
theorem cons {B k n m : Nat} {d : PyData} {ds : List PyData} (h : Sw B k n d) (hs : SwA B k m ds) : SwA B k (n + 1 + m) (d :: ds) := by
  refine ⟨?_, ?_, ?_, ?_, ?_⟩
  · simp only [PyData.showableAll, h.s, hs.s, Bool.and_self]
  · simp only [PyData.hasDictAll, h.h, hs.h, Bool.or_self]
  · simp only [PyData.leavesShortAll, h.l, hs.l, Bool.and_self]
  · simp only [PyData.depthAll]; have := h.dp; have := hs.dp; omega
  · simp only [PyData.weightAll]; have := h.w; have := hs.w; omega
theorem mono {B k n k' n' : Nat} {d : List PyData} (h : SwA B k n d) (hk : k ≤ k') (hn : n ≤ n') : SwA B k' n' d := ⟨h.s, h.h, h.l, Nat.le_trans h.dp hk, Nat.le_trans h.w hn⟩
theorem all {B k n : Nat} : ∀ {ds : List PyData}, (∀ d ∈ ds, Sw B k n d) → SwA B k ((n + 1) * ds.length) ds
  | [], _ => .nil _ _ _
  | d :: ds, h => (SwA.cons (h d (List.mem_cons_self ..)) (SwA.all fun x hx => h x (List.mem_cons_of_mem _ hx))).mono (Nat.le_refl _) (by rw [List.length_cons, Nat.mul_succ]; omega)
end SwA
theorem RpA.sw {K : PySem.W.Frag} {H : Hp} {v : V} {d : PyData} {k n : Nat} (h : Dp K H v d) (z : Sw 13 k n d) (hk : k ≤ 60) (hn : n ≤ 1000000) : RpA K H v d :=
  ⟨h, z.s, z.h, by have := z.dp; omega, by
    have e : sizeLine = 16777216 := rfl
    rw [← e]
    exact PyData.shown_fits (B := 13) (by decide) (by decide) z.l (by have := z.w; have e2 : (2 : Nat) ^ 20 = 1048576 := by decide
                                                                      omega)⟩
mutual
theorem St.rws_pl : ∀ (s : St) (d p : Int), ∀ r ∈ s.rws d p, p ≤ r.1 ∧ r.1 < p + s.sz
  | .set _ _, d, p, r, hr => by rw [List.mem_singleton.mp hr]; show p ≤ p ∧ p < p + ((1 : Nat) : Int); omega
  | .pay _, d, p, r, hr => by rw [List.mem_singleton.mp hr]; show p ≤ p ∧ p < p + ((1 : Nat) : Int); omega
  | .stop, d, p, r, hr => by rw [List.mem_singleton.mp hr]; show p ≤ p ∧ p < p + ((1 : Nat) : Int); omega
  | .ite t y n, d, p, r, hr => by
    have e : ((St.ite t y n).sz : Int) = 1 + (y.sz + n.sz) := by rw [St.sz_blks]; simp [St.blks]
    rw [e]
    rcases List.mem_cons.1 hr with rfl | hr
    · show p ≤ p ∧ p < _; omega
    · rcases List.mem_append.1 hr with hr | hr
      · have := Bk.rws_pl y _ _ r hr; omega
      · have := Bk.rws_pl n _ _ r hr; omega
  | .rep k y, d, p, r, hr => by
    have e : ((St.rep k y).sz : Int) = 1 + y.sz := by rw [St.sz_blks]; simp [St.blks]
    rw [e]
    rcases List.mem_cons.1 hr with rfl | hr
    · show p ≤ p ∧ p < _; omega
    · have := Bk.rws_pl y _ _ r hr; omega
theorem Bk.rws_pl : ∀ (b : Bk) (d p : Int), ∀ r ∈ b.rws d p, p ≤ r.1 ∧ r.1 < p + b.sz
  | .nil, _, _, r, hr => by cases hr
  | .cons s b, d, p, r, hr => by
    have e : ((Bk.cons s b).sz : Int) = s.sz + b.sz := by rw [Bk.sz]; omega
    rw [e]
    rcases List.mem_append.1 hr with hr | hr
    · have := St.rws_pl s _ _ r hr; omega
    · have := Bk.rws_pl b _ _ r hr; omega
end
mutual
/-- right but for expressions that may lie four deep -/
def St.M (ns : List Str) : St → Nat → Prop
  | .set z e, _ => z ∈ ns ∧ e.ok ns 4
  | .pay e, _ => e.ok ns 4
  | .stop, _ => True
  | .ite t y n, d => t.ok ns 2 ∧ y.M ns d ∧ n.M ns d
  | .rep k y, d => 1 ≤ k ∧ k ≤ 8 ∧ y.M ns d
def Bk.M (ns : List Str) : Bk → Nat → Prop
  | .nil, _ => True
  | .cons s b, d => 1 ≤ d ∧ s.M ns (d - 1) ∧ b.M ns d
end
theorem Ex.ok_up {ns : List Str} : ∀ {e : Ex} {n m : Nat}, e.ok ns n → n ≤ m → e.ok ns m
  | .int _, _, _, ⟨h1, h⟩, l => ⟨by omega, h⟩
  | .name _, _, _, ⟨h1, h⟩, l => ⟨by omega, h⟩
  | .plus _ _, _, _, ⟨h1, h2, h3⟩, l => ⟨by omega, Ex.ok_up h2 (by omega), Ex.ok_up h3 (by omega)⟩
  | .minus _ _, _, _, ⟨h1, h2, h3⟩, l => ⟨by omega, Ex.ok_up h2 (by omega), Ex.ok_up h3 (by omega)⟩
  | .times _ _, _, _, ⟨h1, h2, h3, h4⟩, l => ⟨by omega, h2, h3, Ex.ok_up h4 (by omega)⟩
mutual
theorem St.M_ok {ns : List Str} : ∀ {s : St} {d : Nat}, s.ok ns d → s.M ns d
  | .set _ _, _, ⟨h1, h2⟩ => ⟨h1, Ex.ok_up h2 (by decide)⟩
  | .pay _, _, h => Ex.ok_up (show Ex.ok ns _ 3 from h) (by decide)
  | .stop, _, _ => trivial
  | .ite _ _ _, _, ⟨h1, h2, h3⟩ => ⟨h1, Bk.M_ok h2, Bk.M_ok h3⟩
  | .rep _ _, _, ⟨h1, h2, h3⟩ => ⟨h1, h2, Bk.M_ok h3⟩
theorem Bk.M_ok {ns : List Str} : ∀ {b : Bk} {d : Nat}, b.ok ns d → b.M ns d
  | .nil, _, _ => trivial
  | .cons _ _, _, ⟨h1, h2, h3⟩ => ⟨h1, St.M_ok h2, Bk.M_ok h3⟩
end
theorem Bk.M_mem {ns : List Str} {d : Nat} : ∀ {b : Bk} {s : St}, b.M ns d → s ∈ b.lst → 1 ≤ d ∧ s.M ns (d - 1)
  | .cons s b, t, h, hm => by
    rcases List.mem_cons.1 hm with rfl | hm
    · exact ⟨h.1, h.2.1⟩
    · exact Bk.M_mem (b := b) h.2.2 hm
theorem Bk.fac_M {ns : List Str} : ∀ (d : Nat) (b : Bk), b.M ns d → b.sz < 16777216 → b.fac (d + 1)
  | d, b, ho, hz => by
    have hb := bk_le b
    refine ⟨by omega, fun s hs => ?_⟩
    obtain ⟨h1, h2⟩ := Bk.M_mem ho hs
    have zs : s.sz ≤ b.sz := by rw [b.sz_lst]; exact sum_mem (List.mem_map_of_mem hs)
    have tm : -1000000 ≤ s.times ∧ s.times ≤ 1000000 := by
      cases s with
      | rep k y => obtain ⟨a, c, _⟩ := h2; simp only [St.times]; omega
      | _ => simp [St.times]
    refine ⟨tm.1, tm.2, fun y hy => ?_⟩
    obtain ⟨m, rfl⟩ : ∃ m, d = m + 1 := ⟨d - 1, by omega⟩
    have zy : y.sz ≤ s.sz := by rw [s.sz_blks]; have := sum_mem (List.mem_map_of_mem (f := Bk.sz) hy); omega
    have yo : y.M ns m := by
      cases s with
      | ite t a b =>
        simp only [St.blks, List.mem_cons, List.not_mem_nil, or_false] at hy
        rcases hy with rfl | rfl
        · exact h2.2.1
        · exact h2.2.2
      | rep k a =>
        simp only [St.blks, List.mem_cons, List.not_mem_nil, or_false] at hy
        subst hy
        exact h2.2.2
      | _ => simp [St.blks] at hy
    exact Bk.fac_M m y yo (by omega)
theorem Ex.sw {ns : List Str} (hn : ∀ z ∈ ns, NmOk z) : ∀ (e : Ex) (n : Nat), e.ok ns n → Sw 13 n (wE n) e.d
  | .int i, n, ⟨h1, h2, h3⟩ => by
    obtain ⟨m, rfl⟩ : ∃ m : Nat, n = m + 1 := ⟨n - 1, by omega⟩
    exact (Sw.sm (by omega) (by omega) _).mono (Nat.le_refl _) (by simp only [wE]; omega)
  | .name z, n, ⟨h1, h2⟩ => by
    obtain ⟨m, rfl⟩ : ∃ m : Nat, n = m + 1 := ⟨n - 1, by omega⟩
    exact Sw.str (hn z h2).ok _ _ (by have := (hn z h2).hi; simp only [wE]; omega)
  | .plus x y, n, ⟨h1, h2, h3⟩ => by
    obtain ⟨m, rfl⟩ : ∃ m : Nat, n = m + 1 := ⟨n - 1, by omega⟩
    exact (Sw.tup (.cons (Sw.str (n := 4) (by decide +kernel) m (by decide)) (.cons (Ex.sw hn x m h2) (.cons (Ex.sw hn y m h3) (.nil _ m 0))))).mono (Nat.le_refl _) (by simp only [wE]; omega)
  | .minus x y, n, ⟨h1, h2, h3⟩ => by
    obtain ⟨m, rfl⟩ : ∃ m : Nat, n = m + 1 := ⟨n - 1, by omega⟩
    exact (Sw.tup (.cons (Sw.str (n := 5) (by decide +kernel) m (by decide)) (.cons (Ex.sw hn x m h2) (.cons (Ex.sw hn y m h3) (.nil _ m 0))))).mono (Nat.le_refl _) (by simp only [wE]; omega)
  | .times f x, n, ⟨h1, h2, h3, h4⟩ => by
    obtain ⟨m, rfl⟩ : ∃ m : Nat, n = m + 1 := ⟨n - 1, by omega⟩
    exact (Sw.tup (.cons (Sw.str (n := 5) (by decide +kernel) m (by decide)) (.cons (Sw.sm (by omega) (by omega) m) (.cons (Ex.sw hn x m h4) (.nil _ m 0))))).mono (Nat.le_refl _) (by simp only [wE]; omega)
theorem Ts.sw {ns : List Str} (hn : ∀ z ∈ ns, NmOk z) : ∀ (t : Ts) (n : Nat), t.ok ns n → Sw 13 (n + 4) (5 * n + 240) t.d
  | .rest x b r, n, ⟨h1, h2, h3, h4, h5⟩ => (Sw.tup (.cons (Sw.str (n := 4) (by decide +kernel) 3 (by decide)) (.cons (Ex.sw hn x 3 h1) (.cons (Sw.sm (by omega) (by omega) 3) (.cons (Sw.sm (by omega) (by omega) 3) (.nil _ 3 0)))))).mono (by omega) (by simp only [wE]; omega)
  | .less x y, n, ⟨h1, h2⟩ => (Sw.tup (.cons (Sw.str (n := 4) (by decide +kernel) 3 (by decide)) (.cons (Ex.sw hn x 3 h1) (.cons (Ex.sw hn y 3 h2) (.nil _ 3 0))))).mono (by omega) (by simp only [wE]; omega)
  | .not t, n, ⟨h1, h2⟩ => by
    obtain ⟨m, rfl⟩ : ∃ m : Nat, n = m + 1 := ⟨n - 1, by omega⟩
    exact (Sw.tup (.cons (Sw.str (n := 3) (by decide +kernel) _ (by decide)) (.cons (Ts.sw hn t m h2) (.nil _ _ 0)))).mono (by omega) (by omega)
mutual
theorem St.sw {ns : List Str} (hn : ∀ z ∈ ns, NmOk z) : ∀ (s : St) (d : Nat), s.M ns d → Sw 13 (2 * d + 9) (300 * s.sz - 1) s.d
  | .set z e, d, ⟨h1, h2⟩ => (Sw.tup (.cons (Sw.str (n := 3) (by decide +kernel) 4 (by decide)) (.cons (Sw.str (n := 8) (hn z h1).ok 4 (hn z h1).hi) (.cons (Ex.sw hn e 4 h2) (.nil _ 4 0))))).mono (by omega) (by simp only [wE, St.sz]; omega)
  | .pay e, d, h => (Sw.tup (.cons (Sw.str (n := 3) (by decide +kernel) 4 (by decide)) (.cons (Ex.sw hn e 4 h) (.nil _ 4 0)))).mono (by omega) (by simp only [wE, St.sz]; omega)
  | .stop, d, h => (Sw.tup (.cons (Sw.str (n := 4) (by decide +kernel) 3 (by decide)) (.nil _ 3 0))).mono (by omega) (by simp only [St.sz]; omega)
  | .ite t y n, d, ⟨h1, h2, h3⟩ => (Sw.tup (.cons (Sw.str (n := 2) (by decide +kernel) (2 * d + 8) (by decide)) (.cons ((Ts.sw hn t 2 h1).mono (by omega) (Nat.le_refl _)) (.cons ((Sw.tup (Bk.sw hn y d h2)).mono (by omega) (Nat.le_refl _)) (.cons ((Sw.tup (Bk.sw hn n d h3)).mono (by omega) (Nat.le_refl _)) (.nil _ _ 0)))))).mono (by omega) (by simp only [St.sz]; omega)
  | .rep k y, d, ⟨h1, h2, h3⟩ => (Sw.tup (.cons (Sw.str (n := 6) (by decide +kernel) (2 * d + 8) (by decide)) (.cons (Sw.sm (by omega) (by omega) _) (.cons ((Sw.tup (Bk.sw hn y d h3)).mono (by omega) (Nat.le_refl _)) (.nil _ _ 0))))).mono (by omega) (by simp only [St.sz]; omega)
theorem Bk.sw {ns : List Str} (hn : ∀ z ∈ ns, NmOk z) : ∀ (b : Bk) (d : Nat), b.M ns d → SwA 13 (2 * d + 7) (300 * b.sz) b.ds
  | .nil, d, _ => .nil _ _ _
  | .cons s b, d, ⟨h1, h2, h3⟩ => by
    have p : 1 ≤ s.sz := by rw [s.sz_blks]; omega
    exact (SwA.cons ((St.sw hn s (d - 1) h2).mono (by omega) (Nat.le_refl _)) (Bk.sw hn b d h3)).mono (Nat.le_refl _) (by simp only [Bk.sz]; omega)
end
/-- one table is neither a list nor a tuple -/
theorem tab_w {PW : Addr} {H : Hp} (hT : LamX.Tabs (TLw PW) H) : ∃ ps, H PW = some (.tbl ps) := by
  obtain ⟨ps, hP, _⟩ := hT _ (List.mem_cons_self ..)
  exact ⟨ps, hP⟩
theorem deck_w {PW D c : Addr} {H : Hp} {cs : List Int} {k : Int} (DK : Dk H D c cs k) (hT : LamX.Tabs (TLw PW) H) : ∀ b ∈ [D, c], b ≠ PW := fun b hb e => by
  obtain ⟨ys, e1⟩ := DK.lst b hb
  obtain ⟨ps, e2⟩ := tab_w hT
  rw [e, e2] at e1
  cases e1
/-- the table stays where lists are written -/
theorem tabs_lst {PW : Addr} {ex : List Addr} {H H' : Hp} (hT : LamX.Tabs (TLw PW) H) (s : Sx ex H H') (h : ∀ b ∈ ex, ∃ ys, H b = some (.lst ys)) : LamX.Tabs (TLw PW) H' := fun p hp => by
  obtain ⟨ps, h1, h2, h3⟩ := hT p hp
  refine ⟨ps, s _ _ (fun hb => ?_) h1, h2, fun pos cv hc => ?_⟩
  · obtain ⟨ys, e⟩ := h _ hb
    rw [h1] at e; cases e
  · obtain ⟨cc, e, h4⟩ := h3 pos cv hc
    exact ⟨cc, e, s _ _ (fun hb => by obtain ⟨ys, e2⟩ := h cc hb; rw [h4] at e2; cases e2) h4⟩
theorem tabs_tkw {PW : Addr} {H H' : Hp} (hT : LamX.Tabs (TLw PW) H) (s : Sx [PW] H H') : Tk H H' := fun b xs e => s b _ (fun hb => by
  obtain ⟨ps, hP⟩ := tab_w hT
  rw [List.mem_singleton.mp hb, hP] at e
  cases e) e
/-! ### own exceptions over a built-in class -/
/-- of an error class, told -/
structure ExG (K : PySem.W.Frag) (C : Addr) (bm : List Value) (nw : String) : Prop where
  ini : PySem.W.excInitIn K C bm nw = true
  ovr : PySem.W.excOver K C bm = true
  dct : PySem.W.hasDictIn K C = true
  (sa : PySem.W.findIn K (.ref C) "__setattr__" = some (some (.builtin "object.__setattr__")))
  (exC : PySem.W.subIn K (.ref C) (.type "BaseException") = some true)
  (tyC : PySem.W.typeIn K (.ref C) = some (.type "type"))
  (kC : PySem.W.keepIn K (.ref C) = true)
def exGB (K : PySem.W.Frag) (C : Addr) (bm : List Value) (nw : String) : Bool :=
  PySem.W.excInitIn K C bm nw && (PySem.W.excOver K C bm && (PySem.W.hasDictIn K C && (decide (PySem.W.findIn K (.ref C) "__setattr__" = some (some (.builtin "object.__setattr__"))) && (decide (PySem.W.subIn K (.ref C) (.type "BaseException") = some true) &&
    (decide (PySem.W.typeIn K (.ref C) = some (.type "type")) && PySem.W.keepIn K (.ref C))))))
theorem exGB_ok {K : PySem.W.Frag} {C : Addr} {bm : List Value} {nw : String} (h : exGB K C bm nw = true) : ExG K C bm nw := by
  unfold exGB at h
  simp only [decide_eq_true_eq, Bool.and_eq_true] at h
  obtain ⟨h1, h2, h3, h4, h5, h6, h7⟩ := h
  exact (⟨h1, h2, h3, h4, h5, h6, h7⟩)
abbrev leBase : List Value := [.type "LookupError", .type "Exception", .type "BaseException", .type "object"]
section
variable {X : Cx} {pins : List (Addr × Obj)} {σ : L2.St} {H : Hp} {s : Shared} {a C : Addr} {f : Str} {y : V} {u : Value} {Q : Unit → Shared → Prop} {E : Value → Shared → Prop} {A : Around} {bm : List Value} {B nw ni : String}
/-- the first field of an exception that is being made -/
theorem ostG (SF : StoreFacts B bm "object.__setattr__" "object") (T : ExG X.K C bm nw) (I : Inv X pins σ H s) (e : H a = some (exo a C none)) (hno : PySem.W.findIn X.K (.ref C) f = some none) (ry : RelV y u)
    (h : ∀ dx s', H dx = none → (dx ≠ a) → Inv X pins σ (upd (upd H dx (exd dx [(f, y)])) a (exo a C (some dx))) s' → Q () s') : wpAny (model X.prog X.w) A (setAttr (.ref a) f u) Q E s := by
  rcases exo_at I.hok e with ⟨t1, ho⟩
  obtain ⟨cd, hcd, hdd⟩ := PySem.W.any_some T.dct
  obtain ⟨hp, g, d, t, os⟩ := s
  have hal : a < hp.objs.size := Heap.lt_size ho
  have hn : H hp.objs.size = none := I.hok.fresh (Nat.le_refl _)
  have hne : hp.objs.size ≠ a := Nat.ne_of_gt hal
  refine PySem.W.set_plain (C := C) (od := none) I.kIn ⟨ho, rfl, rfl, trivial⟩ T.sa ?_
  refine PySem.W.osa_openX (C := C) (od := none) (r := none) SF (s := ⟨hp, g, d, t + 1, os⟩) I.kIn ⟨ho, rfl, rfl, trivial⟩ T.ovr (by unfold PySem.W.takerIn; rw [hno] <;> rfl) fun b => ?_
  refine wpAny_bind (wpAny_pure (wpAny_bind (PySem.W.instanceDict_exc (s := ⟨hp, g, d, t + 1, os⟩) (C := C) (t := t1) (c2 := .none) ho (PySem.W.looks_clsIn (K := X.K) I.kIn hcd) hdd ?_)))
  -- the dict, the object
  have I1 : Inv X pins σ (upd H hp.objs.size (exd hp.objs.size [])) ⟨hp.push (PySem.W.dictOf [] 0), g, d, t + 1, os⟩ :=
    I.laid (t' := t + 1) (fun _ _ q => Heap.get?_push_of_some _ q) (Nat.le_refl _) (exd_ok (fs := []) (mA := fun _ => none) (Heap.Ns1.of_empty ⟨_, #[], 0, Heap.get?_push_size _ rfl, rfl, fun e he => absurd he (by simp), fun _ => rfl⟩) fun _ => True.intro)
  have ha1 : (hp.push (PySem.W.dictOf [] 0)).get? a = some (PySem.W.excObj C t1 none .none) := Heap.get?_push_of_some _ ho
  have I2 : Inv X pins σ (upd (upd H hp.objs.size (exd hp.objs.size [])) a (exo a C (some hp.objs.size))) ⟨(hp.push (PySem.W.dictOf [] 0)).update a fun o => { o with dict := some hp.objs.size }, g, d, t + 1, os⟩ :=
    I1.write (t' := t + 1) (x := a) (e := a) (by rw [upd_ne (Ne.symm hne), e]; exact True.intro) (.inl rfl) (fun b o hb q => (Heap.get?_update_other _ _ (Ne.symm hb)).trans q) ⟨_, Heap.get?_update_self _ ha1 rfl⟩ (exo_ok (t1 := t1) (Heap.get?_update_self _ ha1 rfl))
  have hd2 : ((hp.push (PySem.W.dictOf [] 0)).update a fun o => { o with dict := some hp.objs.size }).Ns hp.objs.size (fun _ => none) :=
    ⟨PySem.W.dictOf [] 0, #[], 0, (Heap.get?_update_other _ _ (Ne.symm hne)).trans (Heap.get?_push_size _ rfl), rfl, fun e he => absurd he (by simp), fun _ => rfl⟩
  show wpAny _ _ (Builtin.ObjectAttr.storeInDict hp.objs.size (.str f t) f u) _ _ _
  refine PySem.HandSPX.store_in_new hd2 fun h' tk' hns sb => ?_
  have I3 : Inv X pins σ (upd (upd (upd H hp.objs.size (exd hp.objs.size [])) a (exo a C (some hp.objs.size))) hp.objs.size (exd hp.objs.size [(f, y)])) ⟨h', g, d, tk', os⟩ :=
    I2.write (t' := tk') (x := hp.objs.size) (e := hp.objs.size) (by rw [upd_ne hne, upd_same]; exact True.intro) (.inl rfl) (fun b o hb q => (sb.2 b hb).trans q) (by obtain ⟨o, _, _, q, _⟩ := hns; exact ⟨o, q⟩)
      (exd_ok hns (relO_put (fs := []) ry fun _ => True.intro))
  have eu : upd (upd (upd H hp.objs.size (exd hp.objs.size [])) a (exo a C (some hp.objs.size))) hp.objs.size (exd hp.objs.size [(f, y)]) = upd (upd H hp.objs.size (exd hp.objs.size [(f, y)])) a (exo a C (some hp.objs.size)) := by
    funext b
    by_cases h1 : b = hp.objs.size
    · rw [h1, upd_same, upd_ne hne, upd_same]
    · by_cases h2 : b = a
      · rw [h2, upd_ne (Ne.symm hne), upd_same, upd_same]
      · rw [upd_ne h1, upd_ne h2, upd_ne h1, upd_ne h2, upd_ne h1]
  rw [eu] at I3
  exact h _ _ hn hne I3
end
/-- self.f = e, in the __init__ of an own exception, for the first time -/
def tOstG (K : PySem.W.Frag) (bm : List Value) (nw : String) (f : Str) (to te : TE) : TS := fun D σ H => te σ H fun y H1 => to σ H1 fun x H2 => ∃ a C : Addr, x = .ref a ∧ ExG K C bm nw ∧ PySem.W.findIn K (.ref C) f = some none ∧ H2 a = some (exo a C none) ∧
  ∀ dx, H2 dx = none → dx ≠ a → D.nx σ (upd (upd H2 dx (exd dx [(f, y)])) a (exo a C (some dx)))
theorem ps_ostG {X : Cx} {o e : Expr} {to te : TE} {f : Str} {p' pos : Pos} {bm : List Value} {B nw : String} (SF : StoreFacts B bm "object.__setattr__" "object") (ho : PE X o to) (he : PE X e te) (hs : swapsWith e (some (.Attribute o f p')) pos.line X.env = pure false := by rfl) :
    PS X (.Assign [.Attribute o f p'] e pos) (tOstG X.K bm nw f to te) := by
  refine ⟨fun pins s σ H D I h => plainObj_wpAny_Assign_Attribute (thn (he.run pins s σ H _ I h) fun v s1 hh => ?_) hs⟩
  obtain ⟨y, H1, I1, r1, q1⟩ := hh
  refine thn (ho.run pins s1 σ H1 _ I1 q1) fun u s2 hh => ?_
  obtain ⟨x, H2, I2, r2, a, C, ex, T, hno, ea, q⟩ := hh
  subst ex
  have eqv : (u = Value.ref a) := r2; subst eqv
  exact ostG SF T I2 ea hno r1 fun dx s' n ne J => ⟨σ, _, J, q dx n ne⟩
section
variable {X : Cx} {e : Expr} {es : List Expr} {ta : TA} {p pos : Pos}
/-- C(e, ..), C's own __init__ a def: what it leaves -/
theorem made_exG {bm : List Value} {B nw ni : String} {C fI : Addr} {k : Nat} {fd : FuncData} {ps : List Str} {sp : Sp} {ds : List Value} {dvs : List V} {CX : CXT} {pins : List (Addr × Obj)} {σ : L2.St} {H1 : Hp} {s1 : Shared} {us : List Value} {vs : List V} {Qv : VK} {E : Value → Shared → Prop} {R : Value → Shared → Prop}
    (FB : ExcBaseFacts B nw ni bm) (T : ExG X.K C bm nw) (iC : PySem.W.findIn X.K (.ref C) "__init__" = some (some (.ref fI))) (tI : PySem.W.typeIn X.K (.ref fI) = some (.type "function"))
    (F1 : FnOk X.prog X.w X.K X.mg X.base CX k fI fd ps sp) (hr : Room (k + 1) X.A) (hb : Binds X.K fd ps ds) (hd : Vals dvs ds) (hx : Passes CX X (fun _ _ _ => False)) (hxe : X.xe = E) (I1 : Inv X pins σ H1 s1) (r1 : Vals vs us) (hz : vs.length ≤ 1000)
    (hq : ∀ a, H1 a = none → sp (.ref a :: (vs ++ dvs)) (upd H1 a (exo a C none)) (fun v H2 => v = .non ∧ Qv (.ref a) H2) (fun _ _ _ => False))
    (fin : ∀ (H2 : Hp) (h1 h2 : Heap) (a : Addr) (g2 : Array GenState) (d2 : Drawn) (t2 : Nat), s1.heap.objs.size ≤ a → (∀ b o, s1.heap.get? b = some o → h1.get? b = some o) → Inv X pins σ (upd H1 a (exo a C none)) { s1 with heap := h1 } → Un (frs X.stack) [] (upd H1 a (exo a C none)) H2 h1 h2 → HOk X.prog X.w H2 h2 → AllBare g2 → Qv (.ref a) H2 → R (.ref a) ⟨h2, g2, d2, t2, s1.os⟩) :
    wpAny (model X.prog X.w) X.A (call (.ref C) us) R E s1 := by
  obtain ⟨nm, N, q, bs, bm', hdct, sn, sub, ab, col, dd, k0, k1, k2, k3, k5, hC, hT⟩ := PySem.W.excInit_of I1.kIn T.ini
  rcases s1 with ⟨hp, g, dr, tk, os⟩
  have hsz : hp.objs.size ≤ hp.objs.size + 1 := Nat.le_add_right _ 1
  have hq1 := hq (hp.objs.size + 1) (I1.hok.fresh hsz)
  have kk : ∀ b o, hp.get? b = some o → ((hp.push (PySem.W.kdv_tup us)).push (PySem.HandSPX.excO C hp.objs.size)).get? b = some o := fun b o z => Heap.get?_push_of_some _ (Heap.get?_push_of_some _ z)
  have I2 : Inv X pins σ (upd H1 (hp.objs.size + 1) (exo (hp.objs.size + 1) C none)) ⟨(hp.push (PySem.W.kdv_tup us)).push (PySem.HandSPX.excO C hp.objs.size), g, dr, tk, os⟩ := I1.laid (t' := tk) kk hsz (exo_ok (t1 := hp.objs.size) (by heap_get))
  have r2 : (Vals (V.ref (hp.objs.size + 1) :: (vs ++ dvs)) (Value.ref (hp.objs.size + 1) :: (us ++ ds))) := .cons rfl (r1.append hd)
  have hl : (Value.ref (hp.objs.size + 1) :: us ++ ds).length = ps.length := (r2.length.symm.trans (F1.len _ _ _ _ hq1))
  have hus : (us.length ≤ sizeLine) := by
    rw [← Paired.length r1]
    rw [sizeLine_eq]
    omega
  refine wpAny_call (PySem.HandSPX.call_own FB hT hC (PySem.W.looks_findIn I1.kIn iC) (fun self => PySem.W.bind_fn I1.kIn self tI) hus (codeAny_mono (F1.run _ X.stack _ _ ⟨Value.ref (hp.objs.size + 1) :: us, []⟩
    (Value.ref (hp.objs.size + 1) :: (us ++ ds)) _ _ (fun _ _ _ => False) (hr.make C us []) (I2.env0.make C us []) (hb _ (Value.ref (hp.objs.size + 1) :: us) I2.kIn hl) r2 hq1) fun r s' z => ?_))
  cases r with
  | error er => rw [← hxe]; exact hx pins σ _ _ er s' I2 z
  | ok fl =>
    cases fl with
    | ret u =>
      obtain ⟨v, H2, os2, bare2, un2, hok2, rv, ev, q2⟩ := z
      subst ev
      rcases s' with ⟨h2, g2, d2, t2, os'⟩
      have os3 : os' = os := os2
      subst os3
      exact ⟨rv, fin H2 _ h2 _ g2 d2 t2 hsz kk I2 un2 hok2 bare2 q2⟩
    | next => exact z.elim
    | brk => exact z.elim
    | cont => exact z.elim
end
section
variable {X : Cx} {e : Expr} {es : List Expr} {ta : TA} {p pos : Pos}
/-- C(e, ..), to be raised -/
theorem pmk_exG {bm : List Value} {B nw ni : String} {CX : CXT} {x : Str} {C fI : Addr} {k : Nat} {fd : FuncData} {ps : List Str} {sp : Sp} {ds : List Value} {dvs : List V} (FB : ExcBaseFacts B nw ni bm) (T : ExG X.K C bm nw) (iC : PySem.W.findIn X.K (.ref C) "__init__" = some (some (.ref fI)))
    (tI : PySem.W.typeIn X.K (.ref fI) = some (.type "function")) (F1 : FnOk X.prog X.w X.K X.mg X.base CX k fI fd ps sp) (hr : Room (k + 1) X.A) (hb : Binds X.K fd ps ds) (hd : Vals dvs ds) (hx : Passes CX X (fun _ _ _ => False)) (hg : Gl X x) (hm : X.mg x = some (.ref C)) (ha : PA X (e :: es) ta)
    (hdbg : (x == ("__debug__" : Str)) = false := by decide) (he : starEach (e :: es) X.env = (false, eval e X.env) :: starEach es X.env := by rfl) (hpl : (backTo pos (starEach es X.env)).any (·.1) = false := by rfl) :
    (PMk X (.Call (.Name x p) (e :: es) [] pos) (tMkO C sp dvs ta)) := by
  intro pins s σ H Q I h
  refine wpAny_Call_Name_kw (ld_glob I hg hm ?_ hdbg)
  refine (PySem.W.callWith_K (h₀ := X.base) I.ok.mod.kin T.kC (thn (ha.run pos pins s σ H _ I h) fun us s1 hh => ?_) he hpl)
  obtain ⟨vs, H1, I1, r1, hz, q1⟩ := hh
  refine ⟨I1.kIn, ?_⟩
  refine made_exG (Qv := fun v H2 => ∃ (a d : Addr) (fs : List (Str × V)), v = .ref a ∧ H2 a = some (exo a C (some d)) ∧ H2 d = some (exd d fs) ∧ H1 d = none ∧ Q (.ref C) (some d) (upd (del H2 a) d (.xd fs))) FB T iC tI F1 hr hb hd hx rfl I1 r1 hz (fun a na => ?_)
    fun H2 h1 h2 a g2 d2 t2 hsz kk I2 un hok bare q => ?_
  · have z := q1 a na
    have w : (fun (v : V) (H2 : Hp) => v = .non ∧ ∃ (d : Addr) (fs : List (Str × V)), H2 a = some (exo a C (some d)) ∧ H2 d = some (exd d fs) ∧ H1 d = none ∧ Q (.ref C) (some d) (upd (del H2 a) d (.xd fs))) = fun v H2 => v = .non ∧ ∃ (a' d : Addr) (fs : List (Str × V)), V.ref a = .ref a' ∧ H2 a' = some (exo a' C (some d)) ∧ H2 d = some (exd d fs) ∧ H1 d = none ∧ Q (.ref C) (some d) (upd (del H2 a') d (.xd fs)) := by
      funext v H2
      refine propext ⟨fun ⟨e, d, fs, z⟩ => ⟨e, a, d, fs, rfl, z⟩, fun ⟨e, a', d, fs, ea, z⟩ => ?_⟩
      cases ea
      exact ⟨e, d, fs, z⟩
    rw [w] at z
    exact z
  · obtain ⟨a', d, fs, ea, e1, e2, e3, q⟩ := q
    cases ea
    rcases s1 with ⟨hp, g, dr, tk, os⟩
    exact mk_end (raises_own T.exC T.tyC) I1 hsz kk un hok rfl bare e1 e2 e3 q
end
def clsB : Stmt → List Stmt
  | .ClassDef _ _ _ b _ _ _ _ _ _ _ => b
  | _ => []
abbrev sNpInit : Stmt := (clsB (topS 1)).getD 0 (.Pass ⟨0, 0, 0, 0⟩)
theorem scNpInit : FnScope ["self", "place"] ["self", "place"] (defScope sNpInit) := ⟨rfl, rfl, rfl, by decide +kernel, rfl, by decide +kernel, by decide +kernel⟩
/-- what the written part says of NoPlace, at C, and of its __init__, at fI -/
structure NpC (K : PySem.W.Frag) (C fI : Addr) : Prop where
  ex : ExG K C leBase "LookupError.__new__"
  no : PySem.W.findIn K (.ref C) "place" = some none
  ini : PySem.W.findIn K (.ref C) "__init__" = some (some (.ref fI))
  tI : PySem.W.typeIn K (.ref fI) = some (.type "function")
def spNpI (K : PySem.W.Frag) : Sp := fun vs H Q _ => ∃ (a C : Addr) (y : V), vs = [.ref a, y] ∧ ExG K C leBase "LookupError.__new__" ∧ PySem.W.findIn K (.ref C) "place" = some none ∧ H a = some (exo a C none) ∧
  ∀ dx, H dx = none → dx ≠ a → Q .non (upd (upd H dx (exd dx [("place", y)])) a (exo a C (some dx)))
section
variable {w : World} {P : Program} {K : PySem.W.Frag} {mg : Str → Option Value} {base : Heap}
theorem ok_npI {f : Addr} {fd : FuncData} (F : Fun K "__init__" "NoPlace.__init__" sNpInit f fd) : FnOk P w K mg base CX0 1 f fd ["self", "place"] (spNpI K) := by
  refine F.ok scNpInit (fun vs H Q E h => ?_) (fun cdv A outer s H vs Q E hr h => ?_)
  · obtain ⟨_, _, _, rfl, _⟩ := h
    rfl
  · obtain ⟨a, C, y, rfl, T, hno, ea, q⟩ := h
    refine ⟨_, pss_one (ps_ostG (nw := "LookupError.__new__") PySem.F.store_LookupError (pv 0) (pv 1)), ?_⟩
    exact ⟨_, rfl, _, rfl, a, C, rfl, T, hno, ea, q⟩
end
abbrev sPStatementAt : Stmt := topS 7
abbrev nPStatementAt : List Str := ["program", "place", "at", "depth", "statement"]
theorem scPStatementAt : FnScope nPStatementAt ["program", "place"] (defScope sPStatementAt) := ⟨rfl, rfl, rfl, by decide +kernel, rfl, by decide +kernel, by decide +kernel⟩
/-- the statement at a place; an error where none stands there -/
def spStAt (C : Addr) : Sp := fun vs H Q E => ∃ (N : List Addr) (v pl : V) (b : Bk) (d : PyData), vs = [v, pl] ∧ Tp H v (.tuple b.ds) ∧ b.sz < 16777216 ∧ Gd N H pl d ∧
  (∀ (i : Nat) (dp : Int) (st : St), d = .int i → (b.rws 0 0)[i]? = some ((i : Int), dp, st) → ∀ H' x, Sx [] H H' → Tp H' x st.d → Q x H') ∧
  ((∀ i : Nat, d = .int i → b.sz ≤ i) → ∀ H' D, Sx [] H H' → H D = none → H' D = some (.xd [("place", pl)]) → E (.ref C) (some D) H')
section
variable {w : World} {P : Program} {K : PySem.W.Frag} {mg : Str → Option Value} {base : Heap}
theorem ok_stAt {f fE fB fI fN : Addr} {fd fdE fdB fdI fdN : FuncData} {C : Addr} (T : NpC K C fN) (m_C : mg "NoPlace" = some (.ref C)) (G_init : FnOk P w K mg base CX0 1 fN fdN ["self", "place"] (spNpI K)) (b_init : Binds K fdN ["self", "place"] [])
    (F_pstatement_at : Fun K "statement_at" "statement_at" sPStatementAt f fd) (F_peach_statement : Fun K "each_statement" "each_statement" sPEachStatement fE fdE) (F_pblocks_of : Fun K "blocks_of" "blocks_of" sPBlocksOf fB fdB) (F_pis_integer : Fun K "is_integer" "is_integer" sPIsInteger fI fdI)
    (G_pblocks_of : FnOk P w K mg base CX0 1 fB fdB ["statement"] spBlocks) (G_pis_integer : FnOk P w K mg base CX0 1 fI fdI ["value"] spIsIntG)
    (b_peach_statement : Binds K fdE ["program"] []) (b_pblocks_of : Binds K fdB ["statement"] []) (b_pis_integer : Binds K fdI ["value"] [])
    (m_peach_statement : mg "each_statement" = some (.ref fE)) (m_pblocks_of : mg "blocks_of" = some (.ref fB)) (m_pis_integer : mg "is_integer" = some (.ref fI)) : FnOk P w K mg base (L2.CX P w) 6 f fd ["program", "place"] (spStAt C) := by
  refine F_pstatement_at.okX scPStatementAt (fun vs H Q E h => ?_) (fun cdv A outer s H vs Q E hr h => ?_)
  · obtain ⟨_, _, _, _, _, rfl, _⟩ := h
    rfl
  · obtain ⟨N, v, pl, b, dp, rfl, t, hz, hg, qy, qn⟩ := h
    refine ⟨_, C8.pss_cut (ps_if (pt_val (pe_call G_pis_integer (hr.mono (by omega)) (by rfl) m_pis_integer F_pis_integer.kp b_pis_integer .nil pass0 (pa_cons (pv 1) pa_nil))) (PSs.nox (pss_one (ps_forGen (k := 1) (pre := (defBody sPEachStatement).take 2) (test := gWT sPEachStatement) (as := (gWB sPEachStatement).take 1) (ye := gYe sPEachStatement 1) (bs := (gWB sPEachStatement).drop 2) F_peach_statement scPEachStatement ncEach (by rfl) (fun n cd pn s H hr => rowsEach F_pblocks_of G_pblocks_of b_pblocks_of m_pblocks_of cdv A outer _ _ E n cd pn s H hr) (hr.mono (by omega)) (fun _ _ z => z) (by rfl) m_peach_statement F_peach_statement.kp b_peach_statement (pa_cons (pv 0) pa_nil) (pg_tup rfl (pgs_cons (pg_name (i := 2) scPStatementAt.nd rfl (by first | exact Or.inl rfl | exact Or.inr rfl)) (pgs_cons (pg_name (i := 3) scPStatementAt.nd rfl (by first | exact Or.inl rfl | exact Or.inr rfl)) (pgs_cons (pg_name (i := 4) scPStatementAt.nd rfl (by first | exact Or.inl rfl | exact Or.inr rfl)) pgs_nil)))) (pss_one (ps_if (pt_cmpR op_eq (pv 2) (pv 1) (nomark _)) (pss_one (ps_ret (pv 4))) pss_nil))))) pss_nil)
      (pss_one (ps_raise rfl (takes_of rfl rfl rfl rfl) (pmk_exG PySem.F.excBase_LookupError T.ex T.ini T.tI G_init (hr.mono (by omega)) b_init .nil pass0 (by rfl) m_C (pa_cons (pv 1) pa_nil)))), ?_⟩
    obtain ⟨a, xs, ea, ha, hx⟩ := t.tuple
    subst ea
    have t0 : Tp H (.ref a) (.tuple b.ds) := t
    refine ⟨fun σ H' => ∃ o2 o3 o4, σ = [some (.ref a), some pl, o2, o3, o4] ∧ Sx [] H H' ∧ (∀ i : Nat, dp = .int i → b.sz ≤ i), ?_, ?_⟩
    · refine ⟨_, rfl, N, pl, dp, rfl, hg, _, rfl, ?_⟩
      cases hg with
      | int i =>
        refine iteT ?_
        refine ⟨_, rfl, rfl, b.sz, fun m σg σc H' => ∃ (D : Addr) (ws : List (Int × St)) (k : Nat) (o3 o4 o5 o6 c1 c2 c3 : Option V), σg = [some (.ref a), some (.ref D), some (.int k), o3, o4, o5, o6] ∧ σc = [some (.ref a), some (.int i), c1, c2, c3] ∧ H D = none ∧ Sx [] H H' ∧ Stk H' D ws ∧ k + stkSz ws = b.sz ∧
          stkRws ws k = (b.rws 0 0).drop k ∧ (∀ j : Nat, j < k → (j : Int) ≠ i) ∧ m = stkSz ws, ?_, ?_⟩
        · refine each_first t0 hz fun D H' o3 o4 o5 o6 hD s1 hs => ?_
          exact ⟨b.sz, Nat.le_refl _, D, b.stk 0, 0, _, _, _, _, _, _, _, rfl, rfl, hD, s1, hs, by rw [stkSz_bk]; omega, stk_bk b 0 0, fun j hj => absurd hj (Nat.not_lt_zero _), (stkSz_bk b 0).symm⟩
        · rintro m σg σc H' ⟨D, ws, k, o3, o4, o5, o6, c1, c2, c3, rfl, rfl, hDn, s2, hs, hk, hrw, hne, rfl⟩
          cases ws with
          | nil =>
            refine each_end hs (iteF ⟨_, _, _, rfl, s2, fun j e => ?_⟩)
            cases e
            have hk : k + 0 = b.sz := hk
            have := hne
            by_cases c : b.sz ≤ j
            · exact c
            · exact absurd rfl (hne j (by omega))
          | cons y ws =>
            obtain ⟨d, st⟩ := y
            have hk : k + (st.sz + stkSz ws) = b.sz := hk
            have stp := st.sz_pos
            have rowE : stkRws ((d, st) :: ws) k = ((k : Int), d, st) :: (stkRws (kidsOf st.blks (d + 1)) (k + 1) ++ stkRws ws (k + st.sz)) := by
              show st.rws d k ++ stkRws ws _ = _
              rw [st.rws_kids, List.cons_append]
            rw [rowE] at hrw
            have hget : (b.rws 0 0)[k]? = some ((k : Int), d, st) := by
              have z := congrArg (·[0]?) hrw
              rw [List.getElem?_drop] at z
              exact z.symm
            refine each_more hs (iteT (each_take hs fun x H2 sD hs2 tx => each_give fun u hu => ?_))
            have s3 : Sx [] H H2 := s2.step sD fun x hx => by rw [List.mem_singleton.mp hx]; exact .inr hDn
            have eu : (upd H2 u (.tup [.int k, .int d, x])) u = some (.tup [.int k, .int d, x]) := upd_same
            have s4 : Sx [] H (upd H2 u (.tup [.int k, .int d, x])) := s3.new hu
            have e7 := hs2.keep (Sx.n0 (o := .tup [.int k, .int d, x]) hu)
            have e8 : Tp (upd H2 u (.tup [.int k, .int d, x])) x st.d := tx.new hu
            generalize upd H2 u (.tup [.int k, .int d, x]) = H3 at s4 e7 e8 eu ⊢
            refine ⟨fun σ3 H5 => σ3 = [some (.ref a), some (.int i), some (.int k), some (.int d), some x] ∧ Sx [] H H5 ∧ Stk H5 D ws ∧ Tp H5 x st.d ∧ (k : Int) ≠ i, ?_, ?_⟩
            · refine ⟨u, _, rfl, SqT.of eu, rfl, _, _, rfl, gnm ⟨_, _, rfl, gnm ⟨_, _, rfl, gnm ⟨rfl, ?_⟩⟩⟩⟩
              refine ⟨_, rfl, _, rfl, rfl, ?_⟩
              refine ⟨_, rfl, ite2 (fun e => ?_) (fun e => ?_)⟩
              · have e' : (k : Int) = i := V.int.inj (of_decide_eq_true e)
                refine ⟨_, rfl, ?_⟩
                refine qy k d st (by rw [e']) hget H3 x s4 e8
              · have e' : (k : Int) ≠ i := fun z => e (decide_eq_true (congrArg V.int z))
                exact ⟨rfl, s4, e7, e8, e'⟩
            · rintro _ H5 ⟨rfl, s5, hs5, t5, hki⟩
              refine each_back hs5 t5 (by omega) fun H6 o5 o6 s6 hs6 => ?_
              have szE : stkSz (kidsOf st.blks (d + 1) ++ ws) + 1 = st.sz + stkSz ws := by
                rw [stkSz_append, kidsSz, st.sz_blks]
                omega
              refine ⟨_, ?_, D, kidsOf st.blks (d + 1) ++ ws, k + 1, _, _, _, _, _, _, _, rfl, rfl, hDn, s5.step s6 fun x hx => by rw [List.mem_singleton.mp hx]; exact .inr hDn, hs6, by omega, ?_, fun j hj => ?_, rfl⟩
              · have e10 : ((d, st) : Int × St).2.sz = st.sz := rfl
                rw [stkSz_cons, e10]
                omega
              · have e9 : ((k + 1 : Nat) : Int) = (k : Int) + 1 := by omega
                have z := congrArg (List.drop 1) hrw
                rw [List.drop_drop, List.drop_one, List.tail_cons] at z
                rw [← z, stk_append, e9, kidsSz]
                congr 2
                rw [st.sz_blks]
                omega
              · by_cases c : j = k
                · rw [c]; exact hki
                · exact hne j (by omega)
      | _ => exact iteF ⟨_, _, _, rfl, Sx.refl _, fun i e => by cases e⟩
    · rintro _ H1 ⟨o2, o3, o4, rfl, s1, hno⟩
      refine ⟨_, rfl, by show 1 ≤ 1000; decide, fun a2 h2 => ?_⟩
      refine ⟨a2, C, pl, rfl, T.ex, T.no, upd_same, fun dx n1 n2 => ⟨rfl, dx, [("place", pl)], upd_same, by rw [upd_ne n2, upd_same], ?_, ?_⟩⟩
      · rw [upd_ne n2] at n1
        exact n1
      · have n1' : H1 dx = none := by rw [upd_ne n2] at n1; exact n1
        refine qn hno _ dx (fun b o hb e => ?_) ?_ upd_same
        · have eb := s1 b o hb e
          have b1 : b ≠ dx := ne_of_none eb n1'
          have b2 : b ≠ a2 := ne_of_none eb h2
          rw [upd_ne b1, del_ne b2, upd_ne b2, upd_ne b1, upd_ne b2]
          exact eb
        · exact s1.free (by simp) n1'
end
/-! ### isinstance of a caught error that has its own dict -/
def rIsG (K : PySem.W.Frag) (D a : Addr) (cls : Value) (d : Option Addr) : List V → Hp → VK → Prop := fun xs H Q => ∃ (c : V) (cv : Value) (b : Bool) (dd : Addr) (fs : List (Str × V)), xs = [.ref a, c] ∧ cls = .ref D ∧ (∀ u, RelV c u → u = cv) ∧ PySem.W.kitOne K (.ref D) cv = some b ∧ d = some dd ∧ H dd = some (.xd fs) ∧ Q (.bl b) H
theorem call_isG {X : Cx} {a D : Addr} {oe : Obj} {cls : Value} {d : Option Addr} {pn : List (Addr × Obj)} (C : ExcC X.K D) (hz : Zc cls d oe) (hf : ∃ vs, oe.data = .fields vs) : CallR (X.suite a ((a, oe) :: pn)) (.builtin "isinstance") (rIsG X.K D a cls d) := by
  intro pins s σ H xs us Q I r h0; have h := h0
  obtain ⟨c, cv, b, dd, fs, rfl, ec, hcv, e, ed, ea, q⟩ := h
  subst ec ed
  cases r with
  | cons rx rr =>
    cases rr with
    | cons rt rr =>
      cases rr
      cases rx
      obtain rfl := hcv _ rt
      rcases I.pin (a, oe) (List.mem_append.mpr (.inl List.mem_cons_self)) with ⟨hget, _⟩
      obtain ⟨vs, hv⟩ := hf
      have hx : ObjOk X.prog X.w H s.heap dd (.xd fs) := I.hok dd _ ea
      obtain ⟨mA, hns, _⟩ := hx
      obtain ⟨od, ho, _⟩ := lookIn_ns hns
      obtain ⟨cd, hcd, _⟩ := PySem.W.any_some C.hd
      have J : PySem.W.InstAt s.heap a oe D (some od) := ⟨hget, hz.1, by unfold PySem.W.notCls; rw [hv] <;> rfl, by rw [hz.2]; exact ho⟩
      exact PySem.W.kia_one (PySem.W.kitx_exc (od := some od) (by rw [hcd]; rfl) C.hg C.hk C.hs C.ha C.hn C.ht C.hm) I.kIn J e (fun z => nomatch z) fun tk => ⟨.bl b, H, I.kept (t' := tk) fun _ _ z => z, rfl, q⟩
abbrev sRefused : Stmt := topS 24
abbrev nRefused : List Str := ["_law_program_here", "_law_place", "_law_found", "error"]
theorem scRefused : FnScope nRefused ["_law_program_here", "_law_place"] (defScope sRefused) := ⟨rfl, rfl, rfl, by decide +kernel, rfl, by decide +kernel, by decide +kernel⟩
/-- what the caught error's class says of itself -/
structure NpR (K : PySem.W.Frag) (C : Addr) : Prop where
  is : ExcC K C
  fld : XfC K C
  exm : PySem.W.exmOne K (.ref C) (.ref C) = some true
  le : PySem.W.kitOne K (.ref C) (.type "LookupError") = some true
  ve : PySem.W.kitOne K (.ref C) (.type "ValueError") = some false
def spRef : Sp := fun vs H Q _ => ∃ (N : List Addr) (v pl : V) (b : Bk) (d : PyData), vs = [v, pl] ∧ Tp H v (.tuple b.ds) ∧ b.sz < 16777216 ∧ Gd N H pl d ∧ ShG 60 80000 d ∧ (∀ i : Nat, d = .int i → b.sz ≤ i) ∧ ∀ H', Sx [] H H' → Q (.bl true) H'
section
variable {w : World} {P : Program} {K : PySem.W.Frag} {mg : Str → Option Value} {base : Heap}
theorem ok_refused {f fS fN : Addr} {fd fdS : FuncData} {C : Addr} (T : NpC K C fN) (R : NpR K C) (m_C : mg "NoPlace" = some (.ref C)) (F_refused : Fun K "_law_refused" "_law_refused" sRefused f fd) (F_pstatement_at : Fun K "statement_at" "statement_at" sPStatementAt fS fdS)
    (G_pstatement_at : FnOk P w K mg base (L2.CX P w) 6 fS fdS ["program", "place"] (spStAt C)) (b_pstatement_at : Binds K fdS ["program", "place"] []) (m_pstatement_at : mg "statement_at" = some (.ref fS))
    (z_isinstance : mg "isinstance" = none) (z_LookupError : mg "LookupError" = none) (z_ValueError : mg "ValueError" = none) (z_repr : mg "repr" = none) : FnG P w K mg base 8 f fd ["_law_program_here", "_law_place"] spRef := by
  refine Fun.okG F_refused scRefused (fun vs H Q E h => ?_) (fun cdv A outer s H vs Q E hr hgd h => ?_)
  · obtain ⟨_, _, _, _, _, rfl, _⟩ := h
    rfl
  · obtain ⟨N, v, pl, b, d, rfl, t, hz, hg, sh, hno, q⟩ := h
    have hu := hr.units
    refine ⟨_, pss_cons (ps_set (i := 2) scRefused.nd rfl (by first | exact Or.inl rfl | exact Or.inr rfl) pe_bl)
      (C8.pss_cut (ps_try_as (i := 3) (tb := fun W => tDrop (tCallS (spStAt C) (WE W) (tCons (tVar 0) (tCons (tVar 1) tNil)))) (Wout := fun _ _ _ _ => False) rfl rfl scRefused.nd rfl rfl ⟨rfl, by decide, Or.inl m_C⟩ takes0
        (fun W pn xe tk _ => pss_one (ps_expr (by exact (pe_callS G_pstatement_at (hr.mono (by omega)) rfl m_pstatement_at F_pstatement_at.kp b_pstatement_at (fun σ => passAt tk σ) (by exact (pa_cons (pv 0) (pa_cons (pv 1) pa_nil)))))))
        (fun a oe cls d pn hz hf => pss_cons (ps_set (i := 2) scRefused.nd rfl (by first | exact Or.inl rfl | exact Or.inr rfl) (pe_and (pe_callB (call_isG R.is hz hf) (by rfl) z_isinstance (by decide +kernel) (pa_cons (pv 3) (pa_cons (pe_bltn (v := .ty "LookupError") (by rfl) z_LookupError (by decide +kernel) rfl) pa_nil))) (pe_one (pe_not (pe_callB (call_isG R.is hz hf) (by rfl) z_isinstance (by decide +kernel) (pa_cons (pv 3) (pa_cons (pe_bltn (v := .ty "ValueError") (by rfl) z_ValueError (by decide +kernel) rfl) pa_nil)))))))
          (pss_one (ps_set (i := 2) scRefused.nd rfl (by first | exact Or.inl rfl | exact Or.inr rfl) (pe_and (pv 2) (pe_one (pe_cmpR op_eq (pe_callB (call_reprG hgd hu) (by rfl) z_repr boot_repr (pa_cons (pe_xf R.fld T.no hz hf (pv 3)) pa_nil)) (pe_callB (call_reprG hgd hu) (by rfl) z_repr boot_repr (pa_cons (pv 1) pa_nil)) (nomark _))))))))
      (pss_one (ps_ret (pv 2)))), ?_⟩
    refine gnm ?_
    refine ⟨fun σ H' => ∃ o3, σ = [some v, some pl, some (.bl true), o3] ∧ Sx [] H H', ?_, ?_⟩
    · refine ⟨_, rfl, _, rfl, N, v, pl, b, d, rfl, t, hz, hg, fun i dp st ed hget => ?_, fun _ H1 D s1 hD eD => ?_⟩
      · have := (List.getElem?_eq_some_iff.mp hget).1
        rw [Bk.rws_len] at this
        have := hno i ed
        omega
      · refine ⟨true, R.exm, fun _ a ha => ?_, fun z => nomatch z⟩
        have hg1 := hg.keep s1.kp0
        refine ⟨_, rfl, .ty "LookupError", .type "LookupError", true, D, _, rfl, rfl, fun u r => r, R.le, rfl, eD, true, rfl, iteT ?_⟩
        refine ⟨_, rfl, .ty "ValueError", .type "ValueError", false, D, _, rfl, rfl, fun u r => r, R.ve, rfl, eD, false, rfl, gnm ?_⟩
        refine ⟨_, rfl, true, rfl, iteT ?_⟩
        refine ⟨_, rfl, rfl, rfl, D, _, pl, rfl, eD, by simp [List.lookup], N, pl, d, rfl, hg1, sh, _, rfl, N, pl, d, rfl, hg1, sh, rfl, gnm ?_⟩
        rw [decide_eq_true rfl]
        exact ⟨_, rfl, s1⟩
    · rintro _ H1 ⟨o3, rfl, s1⟩
      exact ⟨_, rfl, q _ s1⟩
end
/-! ### one wake of a generator: what it comes to, with the place where it sleeps -/
section
open GenW
/-- code c with its tree t over the frames fs, at s: it runs to an end of which F holds -/
def Sg1 (M : Model) (A : Around) (F : End → Shared → Prop) (c : Code) (t : Sem PySem.Fin) (fs : List Frame) (s : Shared) : Prop :=
  ∀ (Γ : PySem.Ctx) (p : Pos), Γ.code = c → Γ.Woken A → ∃ e s', Runs M Γ p t fs s e s' ∧ F e s'
section
variable {M : Model} {A : Around} {F : End → Shared → Prop} {c : Code} {fs : List Frame} {s : Shared}
theorem sg_wrap {α : Type} {m : Sem α} {K : α → Sem PySem.Fin} {H : Value → Sem PySem.Fin} {gd : Bool → Bool} {lv : List Value → List Value} (h : wpAny M (A.over c fs) m (fun a s' => Sg1 M A F c (K a) fs s') (fun x s' => Sg1 M A F c (H x) fs s') s) : Sg1 M A F c (m.wrap K H gd lv) fs s := fun Γ p e hΓ => by
  subst e
  exact runs_wrap_of_wp K H gd lv m (h (Γ.over fs) p (hΓ.over fs)) (fun _ q _ z => z Γ q rfl hΓ) fun _ q _ z => z Γ q rfl hΓ
theorem sg_at {p' : Pos} {k : Unit → Sem PySem.Fin} (h : Sg1 M A F c (k ()) fs s) : Sg1 M A F c (.at p' k) fs s := sg_wrap (m := standAt p') (H := .raise) (gd := id) (lv := id) (wpAny_standAt h)
theorem sg_point {l : List Value} {k : Unit → Sem PySem.Fin} (h : Sg1 M A F c (k ()) fs s) : Sg1 M A F c (.point l k) fs s := sg_wrap (m := point) (H := .raise) (gd := id) (lv := fun _ => l) (wpAny_point h)
theorem sg_call {c' : Code} {h : Option Value} {g : Bool} {l : List Value} {k : Result → Sem PySem.Fin} (hc : ∀ p, Sg1 M A F c' (M.den c') (.ret k h g l c p [] :: fs) s) : Sg1 M A F c (.call c' h g l k) fs s := fun Γ p e hΓ => by
  subst e
  obtain ⟨x, s', r, f⟩ := hc p (Γ.goto c') p rfl (hΓ.goto c')
  exact ⟨x, s', runs_call_seg r, f⟩
theorem sg_leaf {k : Result → Sem PySem.Fin} {h : Option Value} {g : Bool} {l : List Value} {c₁ : Code} {p₁ : Pos} {kp : List Value} (r : Result) (hk : Sg1 M A F c₁ (k r) fs s) : Sg1 M A F c (leafOf r) (.ret k h g l c₁ p₁ kp :: fs) s := fun Γ p e hΓ => by
  subst e
  obtain ⟨x, s', q, f⟩ := hk (Γ.goto c₁) p₁ rfl (hΓ.goto c₁)
  exact ⟨x, s', Runs.pop r q, f⟩
theorem sg_again {c' : Code} (hq : c'.quiet = true) (hc : Sg1 M A F c' (M.den c') fs s) : Sg1 M A F c (.pure (.again c')) fs s := fun Γ p e hΓ => by
  subst e
  obtain ⟨x, s', r, f⟩ := hc (Γ.goto c') p rfl (hΓ.goto c')
  exact ⟨x, s', Runs.head (c₁ := c') (fun _ _ z => .again hq z) r, f⟩
theorem sg_end (r : Result) (h : F (.ret r) s) : Sg1 M A F c (leafOf r) [] s := fun Γ p _ _ => ⟨.ret r, s, Runs.leaf r, h⟩
theorem sg_yexpr {env : Env} {K : Flow → Sem PySem.Fin} {H : Value → Sem PySem.Fin} {gd : Bool → Bool} {lv : List Value → List Value} {e : Expr} {yp pos : Pos} (hfs : splitAtGen fs = none) (hgd : gd false = false)
    (h : wpAny M (A.over c fs) (eval e env) (fun v s' => ∀ (l : List Value) (k : Resume → Sem PySem.Fin) (p : Pos), k (.send .none) = K .next → F (.susp v false l k c p fs) s') (fun x s' => Sg1 M A F c (H x) fs s') s) (hco : env.scope.isCoroutine = false) (hi : interactive env = false) :
    Sg1 M A F c ((exec (.Expr (.Yield (some e) yp) pos) env).wrap K H gd lv) fs s := by
  rw [(exec_Expr env _ pos hi rfl)]
  show Sg1 M A F c (.at pos fun _ => ((eval e env >>= fun v => (standAt yp >>= fun _ => yieldOut env v)) >>= fun x => dropValue (.Yield (some e) yp) pos x).wrap K H gd lv) fs s
  have hy : (∀ v, yieldOut env v = yieldValue v) := fun v => by simp only [yieldOut, hco, Bool.false_eq_true, if_false]
  simp only [hy]
  refine sg_at ?_
  rw [Sem.bind_eq_wrap']; rw [Sem.bind_eq_wrap', Sem.wrap_wrap, Sem.wrap_wrap]
  refine sg_wrap (wpAny_mono h (fun v s' z => ?_) fun _ _ z => z)
  refine sg_at ?_
  unfold yieldValue
  refine fun Γ p ec _ => ?_
  subst ec
  refine ⟨_, s', Runs.yield' fs hfs, ?_⟩
  have e2 : ((fun g => gd (id g)) false) = false := hgd
  rw [e2]
  exact z _ _ p rfl
end
/-- what a loop's turn, an exception in it come to -/
def lpK (test : Expr) (body : List Stmt) (env : Env) : Flow → Sem PySem.Fin
  | .next | .cont => .pure (.again (.whileLoop test body [] env))
  | .brk => .pure (.done .next)
  | .ret v => .pure (.done (.ret v))
def lpJ (env : Env) : Value → Sem PySem.Fin := fun e => (do noteFrame e env; theTreesLotGoes e : Sem Unit).bind fun _ => .raise e
section
variable {prog : Program} {w : World} {A : Around} {F : End → Shared → Prop} {fs : List Frame} {s : Shared} {env : Env}
theorem loop_den {test : Expr} {body : List Stmt} : (model prog w).den (.whileLoop test body [] env) =
    (isTrue test env (eval test env)).wrap (fun b => if b = true then (execs body env).wrap (lpK test body env) (lpJ env) id id else (.pure (.done .next) : Sem PySem.Fin)) (lpJ env) id id := by
  show (whileTurn test body [] env).onRaise (fun x => do noteFrame x env; theTreesLotGoes x) = _
  unfold whileTurn
  rw [Sem.onRaise_eq_wrap]; rw [Sem.bind_eq_wrap', Sem.wrap_wrap]
  refine Sem.wrap_congr _ _ _ (fun b => ?_) fun e => rfl
  cases b with
  | false => rfl
  | true =>
    show Sem.wrap _ _ _ _ (if true = true then _ else _) = (if true = true then _ else _)
    rw [if_pos rfl, if_pos rfl, Sem.bind_eq_wrap', Sem.wrap_wrap]
    exact Sem.wrap_congr _ _ _ (fun f => by cases f <;> rfl) fun e => rfl
/-- what a def's body's end, an exception in it come to -/
def fnK : Flow → Sem PySem.Fin := fun f => .pure (.done (.ret (match f with | .ret v => v | _ => .none)))
def fnJ (env : Env) : Value → Sem PySem.Fin := fun e => (leaving env e).bind fun _ => .raise e
theorem func_den {body : List Stmt} : (model prog w).den (.func body env) = .point [] fun _ => (execs body env).wrap fnK (fnJ env) id id := by
  show Sem.point [] (fun _ => ((execs body env).onRaise (leaving env)) >>= _) = _
  congr 1
  funext _
  rw [Sem.onRaise_eq_wrap]; rw [Sem.bind_eq_wrap', Sem.wrap_wrap]
  refine Sem.wrap_congr _ _ _ (fun f => by cases f <;> rfl) fun e => ?_
  rw [Sem.bind_eq_wrap]; rw [Sem.wrap_wrap]
  unfold fnJ
  rw [Sem.bind_eq_wrap]
  rfl
end
end
section
variable {X : Cx} {s : Shared} {pins : List (Addr × Obj)} {σ : L2.St} {H : Hp}
theorem pt_asleep {test : Expr} {tt : TT} {Q : Bool → Hp → Prop} (h : PT X test tt) (hx : ∀ e s', ¬ X.xe e s') (I : Inv X pins σ H s) (q : tt σ H Q) :
    wpAny (model X.prog X.w) X.A (isTrue test X.env (eval test X.env)) (fun b s' => (∃ H', Inv X pins σ H' s' ∧ Q b H') ∧ Slp s.gens s'.gens) (fun _ _ => False) s := by
  refine wpAny_mono (wpAny_asleep (h.run pins { s with gens := s.gens.map poison } σ H Q (inv_gens I (allBare_poison I.bare)) q)) (fun b s' z => ?_) fun e s' z => ?_
  · obtain ⟨X', ⟨H', I', q'⟩, r, k⟩ := z
    exact ⟨⟨H', inv_gens' I' (r.allBare I'.bare), q'⟩, k⟩
  · obtain ⟨X', z, _⟩ := z
    exact hx e _ z
theorem pe_asleep {e : Expr} {te : TE} {Q : VK} (h : PE X e te) (hx : ∀ e s', ¬ X.xe e s') (I : Inv X pins σ H s) (q : te σ H Q) :
    wpAny (model X.prog X.w) X.A (eval e X.env) (fun u s' => (∃ x H', Inv X pins σ H' s' ∧ RelV x u ∧ Q x H') ∧ Slp s.gens s'.gens) (fun _ _ => False) s := by
  refine wpAny_mono (wpAny_asleep (h.run pins { s with gens := s.gens.map poison } σ H Q (inv_gens I (allBare_poison I.bare)) q)) (fun u s' z => ?_) fun e s' z => ?_
  · obtain ⟨X', ⟨x, H', I', r1, q'⟩, r, k⟩ := z
    exact ⟨⟨x, H', inv_gens' I' (r.allBare I'.bare), r1, q'⟩, k⟩
  · obtain ⟨X', z, _⟩ := z
    exact hx e _ z
end
/-- from where the generator looks whether to go on, to where it hands out or ends -/
def LoopR (tt : TT) (tas : TS) (te : TE) (Out : V → L2.St → Hp → Prop) (En : Hp → Prop) (σ : L2.St) (H : Hp) : Prop :=
  tt σ H fun b H1 => if b = true then tas { nx := fun σ1 H2 => te σ1 H2 fun x H3 => Out x σ1 H3, rt := fun _ _ => False } σ H1 else En H1
/-- what one wake comes to: handed out, with the place where it sleeps; or the end -/
def OutF (X : Cx) (pins : List (Addr × Obj)) (N : List Str) (env : Env) (n : Nat) (pn : List (Addr × Obj)) (σc : L2.St) (G : Array GenState) (Out : V → L2.St → Hp → Prop) (En : Hp → Prop) (cw cf : Code) (kont : Sem PySem.Fin) : End → Shared → Prop
  | .ret r, s' => r = .ok (.ret .none) ∧ (∃ H', Inv X (pn ++ pins) σc H' s' ∧ En H') ∧ Slp G s'.gens
  | .susp v g _ k c _ fs, s' => g = false ∧ c = cw ∧ (∃ kk p', fs = [.ret kk none false [] cf p' []] ∧ kk (.ok .next) = leafOf (.ok (.ret .none))) ∧ k (.send .none) = kont ∧
    (∃ x lo σ1 H', RelV x v ∧ Inv X ((n, lo) :: (pn ++ pins)) σc H' s' ∧ GLoc N env σ1 lo ∧ σ1.length = N.length ∧ Out x σ1 H') ∧ Slp G s'.gens
section
open GenW
variable {X : Cx} {pins : List (Addr × Obj)} {N : List Str} {qual : Str} {scope : Scope} {f : Addr} {cd : Value} {n : Nat} {pn : List (Addr × Obj)} {B : Around}
variable {test ye : Expr} {pre as bs body : List Stmt} {yp pos wpos p : Pos} {tt : TT} {tpre tas tbs : TS} {te : TE} {Out : V → L2.St → Hp → Prop} {En : Hp → Prop} {G : Array GenState} {kk : Result → Sem PySem.Fin} {σg σc : L2.St} {H : Hp} {s : Shared}
theorem sg_cons {M : Model} {A : Around} {F : End → Shared → Prop} {c : Code} {fs : List Frame} {env : Env} {K : Flow → Sem PySem.Fin} {J : Value → Sem PySem.Fin} {gd : Bool → Bool} {lv : List Value → List Value} {st : Stmt} {rest : List Stmt}
    (h : Sg1 M A F c ((exec st env).wrap (fun f => match f with | .next => (execs rest env).wrap K J gd lv | f => K f) J gd lv) fs s) : Sg1 M A F c ((execs (st :: rest) env).wrap K J gd lv) fs s := by
  rw [execs_cons_wrap]
  exact h
theorem sg_head (hkk : kk (.ok .next) = leafOf (.ok (.ret .none))) (W : Gn X pins scope n pn B) (pt : ∀ s H, PT (gcx X B N qual scope f cd n pn s H) test tt) (pas : ∀ s H, PSs (gcx X B N qual scope f cd n pn s H) as tas) (py : ∀ s H, PE (gcx X B N qual scope f cd n pn s H) ye te)
    (J : GJ X pins N qual scope f cd n pn B σg σc H s) (hG : Slp G s.gens) (h : LoopR tt tas te Out En σg H) :
    Sg1 (model X.prog X.w) B (OutF X pins N (envOfC qual scope n f cd) n pn σc G Out En (.whileLoop test (as ++ .Expr (.Yield (some ye) yp) pos :: bs) [] (envOfC qual scope n f cd)) (.func body (envOfC qual scope n f cd))
      ((execs bs (envOfC qual scope n f cd)).wrap (lpK test (as ++ .Expr (.Yield (some ye) yp) pos :: bs) (envOfC qual scope n f cd)) (lpJ (envOfC qual scope n f cd)) id id))
      (.whileLoop test (as ++ .Expr (.Yield (some ye) yp) pos :: bs) [] (envOfC qual scope n f cd)) ((model X.prog X.w).den (.whileLoop test (as ++ .Expr (.Yield (some ye) yp) pos :: bs) [] (envOfC qual scope n f cd)))
      [.ret kk none false [] (.func body (envOfC qual scope n f cd)) p []] s := by
  have over : B.over (.whileLoop test (as ++ .Expr (.Yield (some ye) yp) pos :: bs) [] (envOfC qual scope n f cd)) [.ret kk none false [] (.func body (envOfC qual scope n f cd)) p []] = B.deeper (envOfC qual scope n f cd) := (over_loop rfl rfl).trans over_func
  obtain ⟨s1, H1, I, J1⟩ := J
  rw [loop_den]
  refine sg_wrap ?_
  rw [over]
  refine wpAny_mono (pt_asleep (pt s1 H1) (fun _ _ z => z) J1 h) (fun b s' hb => ?_) fun _ _ z => z.elim
  obtain ⟨⟨H2, J2, q⟩, k2⟩ := hb
  cases b with
  | false =>
    rw [if_neg Bool.false_ne_true] at q ⊢
    refine sg_leaf (.ok .next) ?_
    rw [hkk]
    obtain ⟨lo, I2, _⟩ := GJ.back W ⟨s1, H1, I, J2⟩
    exact sg_end (.ok (.ret .none)) ⟨rfl, ⟨H2, I2.pins_of fun p hp => I2.pin p (List.mem_append_right _ (List.mem_cons_of_mem _ hp)), q⟩, hG.trans k2⟩
  | true =>
    rw [if_pos rfl] at q ⊢
    rw [execs_append_wrap]
    refine sg_wrap ?_
    rw [over]
    refine wpAny_mono (body_asleep (pas s1 H1) (fun _ _ z => z) J2 q) (fun fl s2 z => ?_) fun _ _ z => z.elim
    obtain ⟨hs, k3⟩ := z
    cases fl with
    | next =>
      obtain ⟨σ1, H3, J3, q3⟩ := hs
      refine sg_cons ?_
      refine sg_yexpr rfl rfl ?_ W.co (W.hi _ _ _ _)
      rw [over]
      refine wpAny_mono (pe_asleep (py s1 H1) (fun _ _ z => z) J3 q3) (fun v s3 z => ?_) fun _ _ z => z.elim
      obtain ⟨⟨x, H4, J4, rv, qo⟩, k4⟩ := z
      intro l k p' hk
      obtain ⟨lo, I4, gl⟩ := GJ.back W ⟨s1, H1, I, J4⟩
      exact ⟨rfl, rfl, ⟨kk, p, rfl, hkk⟩, hk, ⟨x, lo, σ1, H4, rv, I4, gl, J4.len, qo⟩, ((hG.trans k2).trans k3).trans k4⟩
    | brk => obtain ⟨_, _, _, z⟩ := hs; exact z.elim
    | cont => obtain ⟨_, _, _, z⟩ := hs; exact z.elim
    | ret u => obtain ⟨_, _, _, _, _, z⟩ := hs; exact z.elim
theorem sg_wake (hkk : kk (.ok .next) = leafOf (.ok (.ret .none))) (W : Gn X pins scope n pn B) (pt : ∀ s H, PT (gcx X B N qual scope f cd n pn s H) test tt) (pas : ∀ s H, PSs (gcx X B N qual scope f cd n pn s H) as tas) (py : ∀ s H, PE (gcx X B N qual scope f cd n pn s H) ye te)
    (pbs : ∀ s H, PSs (gcx X B N qual scope f cd n pn s H) bs tbs) (J : GJ X pins N qual scope f cd n pn B σg σc H s) (hG : Slp G s.gens) (h : tbs { nx := LoopR tt tas te Out En, rt := fun _ _ => False } σg H) :
    Sg1 (model X.prog X.w) B (OutF X pins N (envOfC qual scope n f cd) n pn σc G Out En (.whileLoop test (as ++ .Expr (.Yield (some ye) yp) pos :: bs) [] (envOfC qual scope n f cd)) (.func body (envOfC qual scope n f cd))
      ((execs bs (envOfC qual scope n f cd)).wrap (lpK test (as ++ .Expr (.Yield (some ye) yp) pos :: bs) (envOfC qual scope n f cd)) (lpJ (envOfC qual scope n f cd)) id id))
      (.whileLoop test (as ++ .Expr (.Yield (some ye) yp) pos :: bs) [] (envOfC qual scope n f cd)) ((execs bs (envOfC qual scope n f cd)).wrap (lpK test (as ++ .Expr (.Yield (some ye) yp) pos :: bs) (envOfC qual scope n f cd)) (lpJ (envOfC qual scope n f cd)) id id)
      [.ret kk none false [] (.func body (envOfC qual scope n f cd)) p []] s := by
  have over : B.over (.whileLoop test (as ++ .Expr (.Yield (some ye) yp) pos :: bs) [] (envOfC qual scope n f cd)) [.ret kk none false [] (.func body (envOfC qual scope n f cd)) p []] = B.deeper (envOfC qual scope n f cd) := (over_loop rfl rfl).trans over_func
  obtain ⟨s1, H1, I, J1⟩ := J
  refine sg_wrap ?_
  rw [over]
  refine wpAny_mono (body_asleep (pbs s1 H1) (fun _ _ z => z) J1 h) (fun fl s2 z => ?_) fun _ _ z => z.elim
  obtain ⟨hs, k3⟩ := z
  cases fl with
  | next =>
    obtain ⟨σ1, H3, J3, q3⟩ := hs
    exact sg_again rfl (sg_head hkk W pt pas py ⟨s1, H1, I, J3⟩ (hG.trans k3) q3)
  | brk => obtain ⟨_, _, _, z⟩ := hs; exact z.elim
  | cont => obtain ⟨_, _, _, z⟩ := hs; exact z.elim
  | ret u => obtain ⟨_, _, _, _, _, z⟩ := hs; exact z.elim
theorem sg_fresh (W : Gn X pins scope n pn B) (ppre : ∀ s H, PSs (gcx X B N qual scope f cd n pn s H) pre tpre) (pt : ∀ s H, PT (gcx X B N qual scope f cd n pn s H) test tt) (pas : ∀ s H, PSs (gcx X B N qual scope f cd n pn s H) as tas) (py : ∀ s H, PE (gcx X B N qual scope f cd n pn s H) ye te)
    (J : GJ X pins N qual scope f cd n pn B σg σc H s) (hG : Slp G s.gens) (h : tpre { nx := LoopR tt tas te Out En, rt := fun _ _ => False } σg H) :
    Sg1 (model X.prog X.w) B (OutF X pins N (envOfC qual scope n f cd) n pn σc G Out En (.whileLoop test (as ++ .Expr (.Yield (some ye) yp) pos :: bs) [] (envOfC qual scope n f cd)) (.func (pre ++ [.While test (as ++ .Expr (.Yield (some ye) yp) pos :: bs) [] wpos]) (envOfC qual scope n f cd))
      ((execs bs (envOfC qual scope n f cd)).wrap (lpK test (as ++ .Expr (.Yield (some ye) yp) pos :: bs) (envOfC qual scope n f cd)) (lpJ (envOfC qual scope n f cd)) id id))
      (.func (pre ++ [.While test (as ++ .Expr (.Yield (some ye) yp) pos :: bs) [] wpos]) (envOfC qual scope n f cd)) ((model X.prog X.w).den (.func (pre ++ [.While test (as ++ .Expr (.Yield (some ye) yp) pos :: bs) [] wpos]) (envOfC qual scope n f cd))) [] s := by
  obtain ⟨s1, H1, I, J1⟩ := J
  rw [func_den]
  refine sg_point ?_
  rw [execs_append_wrap]
  refine sg_wrap ?_
  rw [over_func]
  refine wpAny_mono (body_asleep (ppre s1 H1) (fun _ _ z => z) J1 h) (fun fl s2 z => ?_) fun _ _ z => z.elim
  obtain ⟨hs, k3⟩ := z
  cases fl with
  | next =>
    obtain ⟨σ1, H3, J3, q3⟩ := hs
    refine sg_cons ?_
    exact sg_at (sg_call fun p => sg_head rfl W pt pas py ⟨s1, H1, I, J3⟩ (hG.trans k3) q3)
  | brk => obtain ⟨_, _, _, z⟩ := hs; exact z.elim
  | cont => obtain ⟨_, _, _, z⟩ := hs; exact z.elim
  | ret u => obtain ⟨_, _, _, _, _, z⟩ := hs; exact z.elim
end
/-- a generator's state, woken at s -/
def Go1 (M : Model) (A : Around) (F : End → Shared → Prop) (gs : GenState) (s : Shared) : Prop := match gs with
  | .fresh c => Sg1 M A F c (M.den c) [] s
  | .suspended k _ c _ fs _ => Sg1 M A F c (k (.send .none)) fs s
  | _ => False
section
open GenW
theorem resume_sg {M : Model} {A : Around} {F : End → Shared → Prop} {E : Value → Shared → Prop} {s : Shared} {g : Nat} {gs : GenState} {l : List Value} {α : Type} {k : GenResult → Sem α} {Q : α → Shared → Prop} (hg : s.gens[g]? = some gs) (hgo : Go1 M A F gs (s.setGen g .running))
    (hq : ∀ e s', F e s' → e.quiet = true) (h : ∀ e s', F e s' → wpAny M A (k e.result) Q E (s'.setGen g e.genState)) : wpAny M A (.resume g (.send .none) l k) Q E s := by
  intro Γ p hΓ
  rw [Sem.wp_resume]
  cases gs with
  | fresh c =>
    obtain ⟨e, s', r, f⟩ := hgo (Γ.wake c p) p rfl (hΓ.wake c p)
    exact ⟨_, _, by unfold Wakes; rw [hg]; exact ⟨e, s', r, hq e s' f, rfl, rfl⟩, h e s' f Γ p hΓ⟩
  | suspended k' l' c' p' fs' cl =>
    obtain ⟨e, s', r, f⟩ := hgo (Γ.wake c' p) p' rfl (hΓ.wake c' p)
    exact ⟨_, _, by unfold Wakes; rw [hg]; exact ⟨e, s', r, hq e s' f, rfl, rfl⟩, h e s' f Γ p hΓ⟩
  | running => exact hgo.elim
  | finished => exact hgo.elim
variable {w : World} {P : Program} {s : Shared} {A : Around} {E : Value → Shared → Prop}
/-- next(g), as zip draws -/
theorem nextOf_sg {a : Addr} {g : Nat} {gs : GenState} {F : End → Shared → Prop} {Q : Value → Shared → Prop} (hh : A.handled = none) (hl : s.heap.NoLimit) (hroom : A.depth < recursionLimit) (hg : s.heap.IsGen a g) (hgs : s.gens[g]? = some gs)
    (hgo : Go1 (model P w) A.in1 F gs (s.setGen g .running)) (hq : ∀ e s', F e s' → e.quiet = true)
    (hY : ∀ v gd l k c p fs s', F (.susp v gd l k c p fs) s' → Q v (s'.setGen g (End.susp v gd l k c p fs).genState))
    (hE : ∀ r s', F (.ret r) s' → r = .ok (.ret .none) ∧ ∀ h' e, (∀ b o, s'.heap.get? b = some o → h'.get? b = some o) → (∃ o, h'.get? e = some o ∧ o.cls = .type "StopIteration") → s'.heap.get? e = none → E (.ref e) { s'.setGen g .finished with heap := h' }) :
    wpAny (model P w) A (Builtin.SmallTypes.nextOf (.ref a)) Q E s := by
  (unfold Builtin.SmallTypes.nextOf)
  refine wpAny_bind (wpAny_callSpecial?_slot (name := Str.ofString "__next__") hg.typeIs slot_gen_next (wpAny_call_entry slot_gen_next hg.typeIs entry_gen_next ?_ (args_gen_next _)))
  show (wpAny _ A.in1 (Builtin.Generator.genWake (.ref a) (.send .none)) _ _ s)
  (unfold Builtin.Generator.genWake)
  refine (wpAny_bind (wpAny_holding (wpAny_genNumber hg (wpAny_bind (wpAny_genState hgs ?_)))))
  cases gs with
  | running => exact hgo.elim
  | finished => exact hgo.elim
  | _ =>
    refine (wpAny_bind (wpAny_roomToWake hl hroom ?_))
    show (wpAny _ A.in1 (.resume g (.send .none) [] _) _ _ s)
    refine resume_sg hgs hgo hq fun e s' f => ?_
    cases e with
    | susp v gd l k c p fs => exact wpAny_pure ⟨v, rfl, wpAny_pure (hY v gd l k c p fs s' f)⟩
    | ret r =>
      obtain ⟨er, z⟩ := hE r s' f
      subst er
      show (wpAny _ A.in1 (newExc (.type "StopIteration") [] >>= _) _ _ _)
      refine wpAny_bind ?_
      simp only [newExc, newTuple]
      refine (wpAny_bind (wpAny_newObj_type ?_ (by size_fits)))
      refine (wpAny_bind (m := firstArgMember _ _) (wpAny_of_eq (a := Value.none) (by first | rfl | (simp only [firstArgMember]; rfl)) ?_))
      refine (wpAny_newObj_type ?_ (by size_fits))
      simp only [raiseNew]
      refine (wpAny_bind (wpAny_bind (wpAny_handled ?_)))
      first | rw [show A.in1.handled = none from hh] | (rw [hh])
      refine wpAny_throw ?_
      exact z _ _ (fun b o q => Heap.get?_push_of_some _ (Heap.get?_push_of_some _ q)) ⟨_, Heap.get?_push_size _ rfl, rfl⟩ (Heap.get?_none_of_le (by rw [Heap.size_push]; exact Nat.le_succ _))
end
/-! ### zip of two things that are drawn from, whatever they are -/
section
open GenW
variable {w : World} {P : Program} {s : Shared} {A : Around} {E : Value → Shared → Prop}
/-- what an exception of a draw is to the zip: a StopIteration goes on, the tuple is free again -/
def ZipEx (z TI TO : Addr) (E : Value → Shared → Prop) (e : Value) (s' : Shared) : Prop := IsZip s'.heap z TI TO .ellipsis ∧ ∀ h', Heap.SameBut z s'.heap h' → E e { s' with heap := h' }
/-- the first draw -/
theorem zipn_own {z TI TO i1 i2 : Addr} {a b : Value} {Q : Value → Shared → Prop} (hz : IsZip s.heap z TI TO .none) (hTI : IsPair s.heap TI (.ref i1) (.ref i2)) (hTO : IsPair s.heap TO a b) (TOz : TO ≠ z)
    (h : ∀ h1, IsZip h1 z TI TO .ellipsis → IsPair h1 TO a b → Heap.SameBut z s.heap h1 → wpAny (model P w) A (Builtin.SmallTypes.nextOf (.ref i1)) (fun x s2 => IsPair s2.heap TO a b ∧ ∀ h3, IsPair h3 TO x b → Heap.SameBut TO s2.heap h3 →
      wpAny (model P w) A (Builtin.SmallTypes.nextOf (.ref i2)) (fun y s4 => IsZip s4.heap z TI TO .ellipsis ∧ IsPair s4.heap TO x b ∧ ∀ h', IsZip h' z TI TO (rawInt s4.heap.objs.size) → IsPair h' TO x y → IsPair h' s4.heap.objs.size x y → h'.objs.size = s4.heap.objs.size + 1 →
        (∀ c o, c ≠ z → c ≠ TO → s4.heap.get? c = some o → h'.get? c = some o) → Q (.ref s4.heap.objs.size) { s4 with heap := h' }) (ZipEx z TI TO E) { s2 with heap := h3 }) (ZipEx z TI TO E) { s with heap := h1 }) :
    wpAny (model P w) A (Builtin.«zip.__next__» ⟨[.ref z], []⟩) (fun fin s' => ∃ v, fin = .done (.ret v) ∧ Q v s') E s := by
  have exs : ∀ {α : Type} {Q' : α → Shared → Prop} (e : Value) (s' : Shared), ZipEx z TI TO E e s' → wpAny (model P w) A (setField (.ref z) 0 .none) (fun _ s2 => E e s2) (fun _ _ => False) s' := fun {α Q'} e s' ⟨hz', q⟩ => wpAny_setField_rec hz' (by simp) fun h3 _ hs3 => q h3 hs3
  show wpAny _ _ (field (.ref z) 2 >>= fun _ => _) _ _ _
  refine (wpAny_bind (wpAny_field hz rfl (x := .bool false) rfl ?_))
  show wpAny _ _ (field (.ref z) 3 >>= fun _ => _) _ _ _
  refine wpAny_bind (wpAny_field hz rfl (x := .ref TI) rfl (wpAny_bind ?_))
  refine wpAny_seqItems hTI rfl ?_
  show wpAny _ _ (Builtin.SmallTypes.ownedTupleIsFree (.ref z) >>= fun _ => _) _ _ _
  refine wpAny_bind ?_
  (unfold Builtin.SmallTypes.ownedTupleIsFree)
  refine (wpAny_bind (wpAny_field hz rfl (x := .none) rfl (wpAny_pure ?_)))
  rw [if_pos rfl]
  refine wpAny_bind (wpAny_rule (wpAny_bind (wpAny_field hz rfl (x := .ref TO) rfl ?_)))
  refine wpAny_bind (wpAny_setField_rec hz (by simp) fun h1 hz1 hs1 => wpAny_bind ?_)
  have hz1' : IsZip h1 z TI TO .ellipsis := hz1
  (simp only [List.zipIdx_cons, List.zipIdx_nil, List.forIn_cons, List.forIn_nil])
  refine (wpAny_bind (wpAny_bind (wpAny_onRaise ?_)))
  show wpAny _ _ (Builtin.SmallTypes.nextOf (.ref i1) >>= fun _ => _) _ _ _
  refine wpAny_bind (wpAny_mono (h h1 hz1' (hs1.extBut _ _ TOz hTO) hs1) (fun x s2 q => wpAny_pure ?_) fun e s' q => ?_)
  · obtain ⟨hTO2, q⟩ := q
    refine wpAny_bind (wpAny_seqItems hTO2 rfl (wpAny_bind ?_))
    refine wpAny_updateSeq_pair hTO2 fun h3 hTO3 hs3 => ?_
    have hTO3' : IsPair h3 TO x b := hTO3
    refine wpAny_bind (wpAny_letGo (wpAny_pure (wpAny_bind (wpAny_bind (wpAny_onRaise ?_)))))
    show wpAny _ _ (Builtin.SmallTypes.nextOf (.ref i2) >>= fun _ => _) _ _ _
    refine wpAny_bind (wpAny_mono (q h3 hTO3' hs3) (fun y s4 q => wpAny_pure ?_) fun e s' q => ?_)
    · obtain ⟨hz4, hTO4, q⟩ := q
      refine wpAny_bind (wpAny_seqItems hTO4 rfl (wpAny_bind ?_))
      refine wpAny_updateSeq_pair hTO4 fun h5 hTO5 hs5 => ?_
      have hTO5' : IsPair h5 TO x y := hTO5
      refine wpAny_bind (wpAny_letGo (wpAny_pure (wpAny_pure (wpAny_bind (wpAny_seqItems hTO5' rfl ?_)))))
      refine (wpAny_bind (wpAny_newTuple ?_))
      have hz5 : IsZip h5 z TI TO .ellipsis := hs5.extBut _ _ TOz.symm hz4
      have zlt : z < h5.objs.size := Heap.lt_size hz5
      show wpAny _ _ (Builtin.SmallTypes.ownedTupleHandOut (.ref z) (.ref h5.objs.size) >>= fun _ => _) _ _ _
      refine wpAny_bind ?_
      (unfold Builtin.SmallTypes.ownedTupleHandOut)
      have hz6 : IsZip (h5.push { cls := .type "tuple", data := .seq #[x, y] }) z TI TO .ellipsis := Heap.get?_push_of_some _ hz5
      refine wpAny_bind (wpAny_setField_rec hz6 (by simp) fun h7 hz7 hs7 => ?_)
      have hz7' : IsZip h7 z TI TO (rawInt h5.objs.size) := hz7
      refine wpAny_setField_rec hz7' (by simp) fun h8 hz8 hs8 => wpAny_pure ⟨_, rfl, ?_⟩
      have hz8' : IsZip h8 z TI TO (rawInt h5.objs.size) := hz8
      have up : ∀ c o, c ≠ z → (h5.push { cls := .type "tuple", data := .seq #[x, y] }).get? c = some o → h8.get? c = some o := fun c o c1 z => hs8.extBut _ _ c1 (hs7.extBut _ _ c1 z)
      have e5 : h5.objs.size = s4.heap.objs.size := hs5.1
      have hT := up _ _ (Nat.ne_of_gt zlt) (Heap.get?_push_size h5 (o := { cls := .type "tuple", data := .seq #[x, y] }) rfl)
      have hTOe := up _ _ TOz (Heap.get?_push_of_some { cls := .type "tuple", data := .seq #[x, y] } hTO5')
      have e8 : h8.objs.size = h5.objs.size + 1 := by rw [hs8.1, hs7.1, Heap.size_push]
      show Q (.ref h5.objs.size) _
      rw [e5] at hz8' hT e8 ⊢
      exact q h8 hz8' hTOe hT e8 fun c o c1 c2 z => up c o c1 (Heap.get?_push_of_some _ (hs5.extBut _ _ c2 z))
    · exact wpAny_mono (exs (α := Unit) (Q' := fun _ _ => True) e s' q) (fun _ _ z => z) fun _ _ z => z.elim
  · exact wpAny_mono (exs (α := Unit) (Q' := fun _ _ => True) e s' q) (fun _ _ z => z) fun _ _ z => z.elim
/-- a later draw: the tuple that was handed out is still there -/
theorem zipn_held {z TI TO T i1 i2 : Addr} {f : Bool} {oT : Obj} {Q : Value → Shared → Prop} (hz : IsZipHeld s.heap z TI TO T f) (hT : s.heap.get? T = some oT) (hTI : IsPair s.heap TI (.ref i1) (.ref i2))
    (h : ∀ h1, IsZipHeld h1 z TI TO T true → Heap.SameBut z s.heap h1 → wpAny (model P w) A (Builtin.SmallTypes.nextOf (.ref i1)) (fun x s2 => wpAny (model P w) A (Builtin.SmallTypes.nextOf (.ref i2)) (fun y s4 =>
      Q (.ref s4.heap.objs.size) { s4 with heap := s4.heap.push { cls := .type "tuple", data := .seq #[x, y] } }) E s2) E { s with heap := h1 }) :
    wpAny (model P w) A (Builtin.«zip.__next__» ⟨[.ref z], []⟩) (fun fin s' => ∃ v, fin = .done (.ret v) ∧ Q v s') E s := by
  show wpAny _ _ (field (.ref z) 2 >>= fun _ => _) _ _ _
  refine (wpAny_bind (wpAny_field hz rfl (x := .bool false) rfl ?_))
  show wpAny _ _ (field (.ref z) 3 >>= fun _ => _) _ _ _
  refine wpAny_bind (wpAny_field hz rfl (x := .ref TI) rfl (wpAny_bind ?_))
  refine wpAny_seqItems hTI rfl ?_
  show wpAny _ _ (Builtin.SmallTypes.ownedTupleIsFree (.ref z) >>= fun _ => _) _ _ _
  refine wpAny_bind (wpAny_tupleHeld_zip hz hT fun h1 hz1 hs1 => ?_)
  rw [(if_neg Bool.false_ne_true)]
  refine wpAny_bind ?_
  rw [← Array.forIn_toList]
  (simp only [List.forIn_cons, List.forIn_nil])
  refine (wpAny_bind (wpAny_bind (wpAny_holding ?_)))
  show wpAny _ _ (Builtin.SmallTypes.nextOf (.ref i1) >>= fun _ => _) _ _ _
  refine wpAny_bind (wpAny_mono (h h1 hz1 hs1) (fun x s2 q => wpAny_pure (wpAny_pure ?_)) fun _ _ z => z)
  refine (wpAny_bind (wpAny_bind (wpAny_holding ?_)))
  show wpAny _ _ (Builtin.SmallTypes.nextOf (.ref i2) >>= fun _ => _) _ _ _
  refine wpAny_bind (wpAny_mono q (fun y s4 q => wpAny_pure (wpAny_pure (wpAny_pure ?_))) fun _ _ z => z)
  show wpAny _ _ (newTuple [x, y] >>= fun _ => _) _ _ _
  exact wpAny_bind (wpAny_newTuple (wpAny_pure ⟨_, rfl, q⟩))
/-- next(z): what zip.__next__ comes to -/
theorem pyNext_zip {z TI TO : Addr} {f0 f1 : Value} {Q : Option Value → Shared → Prop} (hz : s.heap.get? z = some { cls := .type "zip", dict := none, data := .fields #[f0, f1, .bool false, .ref TI, .ref TO], slots := #[] })
    (h : wpAny (model P w) A.in1 (Builtin.«zip.__next__» ⟨[.ref z], []⟩) (fun fin s' => ∃ v, fin = .done (.ret v) ∧ Q (some v) s') (fun e s' => ∃ x o, e = .ref x ∧ s'.heap.get? x = some o ∧ o.cls = .type "StopIteration" ∧ Q none s') s) :
    wpAny (model P w) A (pyNext (.ref z)) Q E s := by
  have hT : (s.TypeIs (.ref z) "zip") := ⟨_, hz, rfl⟩
  unfold pyNext
  refine wpAny_bind (wpAny_attempt (wpAny_callSpecial?_slot (name := Str.ofString "__next__") hT F.slot_zip_next (wpAny_call_entry F.slot_zip_next hT F.entry_zip_next (wpAny_mono h (fun fin s' q => ?_) fun e s' q => ?_) (F.args_zip_next_1 _))))
  · obtain ⟨v, e, q⟩ := q
    exact ⟨v, e, wpAny_pure q⟩
  · obtain ⟨x, o, e, ho, hc, q⟩ := q
    subst e
    exact wpAny_bind (wpAny_isInstance (T := "StopIteration") (b := true) ⟨o, ho, hc⟩ isSubtype_stop (wpAny_pure q))
end
/-! ### list(z) of a zip -/
theorem zip_no_len : typeLookup (.type "zip") "__len__" = pure none := am_miss_of_fast (by decide +kernel)
theorem zip_no_hint : typeLookup (.type "zip") "__length_hint__" = pure none := am_miss_of_fast (by decide +kernel)
section
open GenW
variable {P : Program} {w : World} {A : Around} {s : Shared}
/-- the loop that fills the list: J tells the state ahead of each draw -/
theorem drain_zip {S z : Addr} {res : Value} {m : Nat} {J : Nat → Shared → Prop} {R : Result → Shared → Prop}
    (step : ∀ i s, J i s → wpAny (model P w) A.in1 (pyNext (.ref z)) (fun r s1 => match r with
      | some v => i < m ∧ ∃ acc c, s1.heap.get? S = some (lstObj acc c) ∧ acc.size < sizeLine ∧ J (i + 1) { s1 with heap := s1.heap.update S (Obj.mapSeq (·.push v)) }
      | none => R (.ok (.ret res)) s1) (fun _ _ => False) s) :
    ∀ (k i : Nat) (s : Shared), i + k = m → J i s → codeAny (model P w) A (.builtin "list.extend.loop" ⟨[.ref S, .ref z, res], []⟩) R s := by
  intro k
  induction k with
  | zero =>
    intro i s hk j
    refine (codeAny_builtin F.entry_extend_loop ?_)
    rw [(Around.under_plainId F.plain_extend_loop _)]
    show wpAny _ A.in1 (pyNext (.ref z) >>= fun _ => _) _ _ s
    refine wpAny_bind (wpAny_mono (step i s j) (fun r s1 q => ?_) fun _ _ q => q.elim)
    cases r with
    | none => exact wpAny_pure q
    | some v => exact absurd q.1 (by omega)
  | succ k ih =>
    intro i s hk j
    refine (codeAny_builtin F.entry_extend_loop ?_)
    rw [(Around.under_plainId F.plain_extend_loop _)]
    show wpAny _ A.in1 (pyNext (.ref z) >>= fun _ => _) _ _ s
    refine wpAny_bind (wpAny_mono (step i s j) (fun r s1 q => ?_) fun _ _ q => q.elim)
    cases r with
    | none => exact wpAny_pure q
    | some v =>
      obtain ⟨_, acc, c, hS, hz, q⟩ := q
      show wpAny _ A.in1 (updateSeq S (·.push v) >>= fun _ => _) _ _ s1
      refine wpAny_bind (wpAny_updateSeq hS rfl (wpAny_pure ⟨plainId_quiet F.plain_extend_loop _, ?_⟩) (Nat.le_of_lt hz) (by show (acc.push v).size ≤ sizeLine + 1; rw [Array.size_push]; omega))
      exact ih (i + 1) _ (by omega) q
theorem call_list_zip {z TI TO : Addr} {f0 : Value} {Q : Value → Shared → Prop} {E : Value → Shared → Prop} (hz : IsZip s.heap z TI TO f0)
    (h : ∀ S h', s.heap.objs.size ≤ S → (∀ b o, s.heap.get? b = some o → h'.get? b = some o) → (∃ c, h'.get? S = some (lstObj #[] c)) → codeAny (model P w) A.in1 (.builtin "list.extend.loop" ⟨[.ref S, .ref z, .none], []⟩) (fun r s' => match r with
      | .ok (.ret v) => v = .none ∧ Q (.ref S) s'
      | _ => False) { s with heap := h' }) : wpAny (model P w) A (call (.type "list") [.ref z]) Q E s := by
  have hzl : (z < s.heap.objs.size) := Heap.lt_size hz
  have hSz : s.heap.objs.size ≠ z := Nat.ne_of_gt hzl
  refine callType_codes (Q₁ := fun obj s₁ => obj = .ref s.heap.objs.size ∧ s₁ = { s with heap := s.heap.push { cls := .type "list", data := .seq #[] } }) F.called_list (F.typeCall_list_1 _) F.entry_list_init (code_list_new _ ⟨rfl, rfl⟩) fun obj s₁ h₁ => ?_
  obtain ⟨rfl, rfl⟩ := h₁
  have hS : ((s.heap.push { cls := .type "list", data := .seq #[] }).get? s.heap.objs.size = some { cls := .type "list", data := .seq #[] }) := Heap.get?_push_size _ rfl
  refine (⟨⟨_, hS, rfl⟩, F.args_list_init_2 _ _, ?_⟩)
  show wpAny _ A.in1.in1 (do let old ← Builtin.List.listItems (.ref s.heap.objs.size); Builtin.List.listUpdate (.ref s.heap.objs.size) (fun _ => #[]); letGo old.toList.reverse; Builtin.List.listExtendWith (.ref s.heap.objs.size) (.ref z) .none) _ _ _
  refine wpAny_bind ?_
  unfold Builtin.List.listItems
  refine (wpAny_bind (wpAny_seqItems hS rfl (wpAny_pure ?_)))
  show wpAny _ A.in1.in1 (updateSeq s.heap.objs.size (fun _ => #[]) >>= fun _ => letGo (#[] : Array Value).toList.reverse >>= fun _ => Builtin.List.listExtendWith (.ref s.heap.objs.size) (.ref z) .none) _ _ _
  refine wpAny_bind (wpAny_updateSeq hS rfl (wpAny_bind (wpAny_letGo ?_)))
  have hS2 := (Heap.get?_update_self (Obj.mapSeq (fun _ => (#[] : Array Value))) hS rfl)
  (unfold Builtin.List.listExtendWith)
  have up : (∀ (h : Heap) (f : Obj → Obj), (∀ b o, s.heap.get? b = some o → h.get? b = some o) → ∀ b o, s.heap.get? b = some o → (h.update s.heap.objs.size f).get? b = some o) := fun h f q b o e =>
    (Heap.get?_update_other _ _ (Nat.ne_of_gt (Heap.lt_size e))).trans (q b o e)
  have k1 : (∀ b o, s.heap.get? b = some o → (s.heap.push { cls := .type "list", data := .seq #[] }).get? b = some o) := fun b o e => Heap.get?_push_of_some _ e
  have k2 := (up _ (Obj.mapSeq (fun _ => (#[] : Array Value))) k1)
  have zty : ∀ {h : Heap}, (∀ b o, s.heap.get? b = some o → h.get? b = some o) → ({ s with heap := h } : Shared).TypeIs (.ref z) "zip" := fun {h} q => ⟨_, q _ _ hz, rfl⟩
  refine wpAny_bind (wpAny_typeOf (zty k2) ?_)
  have h1 : Builtin.List.listSameRef (.ref s.heap.objs.size) (.ref z) = false := by simp [Builtin.List.listSameRef, hSz]
  have h2 : (Value.type "zip" == Value.type "list") = false := by decide
  have h3 : (Value.type "zip" == Value.type "tuple") = false := by decide
  (simp only [h1, h2, h3, Bool.or_false, Bool.false_eq_true, if_false])
  refine wpAny_bind (wpAny_pyIter_zip (s := { s with heap := _ }) (k2 _ _ hz) (wpAny_bind (wpAny_holding ?_)))
  (unfold Builtin.List.listLengthHint)
  refine wpAny_bind (wpAny_specialOf (zty k2) zip_no_len ?_)
  show wpAny _ A.in1.in1 (specialOf (Value.ref z) (Str.ofString "__length_hint__") >>= fun _ => _) _ _ _
  refine wpAny_bind (wpAny_specialOf (zty k2) zip_no_hint (wpAny_pure ?_))
  show wpAny _ _ (rule "list.extend.makes-room" >>= fun _ => Builtin.List.listTouch (.ref s.heap.objs.size) >>= fun _ => again (.builtin "list.extend.loop" ⟨[.ref s.heap.objs.size, .ref z, .none], []⟩)) _ _ _
  refine (wpAny_bind (wpAny_rule (wpAny_bind ?_)))
  show wpAny _ _ (updateSeq s.heap.objs.size (·.push .none) >>= fun _ => updateSeq s.heap.objs.size (·.pop)) _ _ _
  refine (wpAny_bind (wpAny_updateSeq hS2 rfl ?_))
  have hS3 := (Heap.get?_update_self (Obj.mapSeq (·.push Value.none)) hS2 rfl)
  refine (wpAny_updateSeq (hz := by seq_fits) hS3 rfl ?_)
  have hS4 := (Heap.get?_update_self (Obj.mapSeq (·.pop)) hS3 rfl)
  have k4 := (up _ (Obj.mapSeq (·.pop)) (up _ (Obj.mapSeq (·.push Value.none)) k2))
  refine (wpAny_pure ⟨plainId_quiet F.plain_extend_loop _, ?_⟩)
  exact codeAny_mono (h _ _ (Nat.le_refl _) k4 ⟨_, hS4⟩) fun r s' q => by
    cases r with
    | error e => exact q.elim
    | ok f => cases f <;> first | exact q | exact q.elim
end
/-! ### zip(g1, g2) of two generators, made -/
abbrev zg1 (h : Heap) (a b : Addr) : Heap := h.push { cls := .type "tuple", data := .seq #[.ref a, .ref b] }
abbrev zg2 (h : Heap) (a b : Addr) : Heap := (zg1 h a b).push { cls := .type "tuple", data := .seq #[.none, .none] }
abbrev zg3 (h : Heap) (a b : Addr) : Heap := (zg2 h a b).push { cls := .type "zip", data := .fields #[.none, .bool false, .bool false, .ref h.objs.size, .ref (zg1 h a b).objs.size] }
theorem meets_zip_gens (a b : Addr) (g k : Nat) : Meets (Builtin.«zip.__new__» ⟨[.type "zip", .ref a, .ref b], []⟩) (fun _ R s => s.heap.IsGen a g ∧ s.heap.IsGen b k ∧ R (.ok (.ret (.ref (zg2 s.heap a b).objs.size))) { s with heap := zg3 s.heap a b }) :=
  .of_wp fun pr w0 A0 R0 s0 h0 => by
    obtain ⟨hp, gn, dr, tk, os⟩ := s0
    obtain ⟨h1, h2, h⟩ := h0
    have hs := sub_zip
    have g1 : Heap.IsGen (Shared.heap ⟨hp, gn, dr, tk, os⟩) a g := h1
    have g2 : Heap.IsGen (Shared.heap ⟨hp, gn, dr, tk, os⟩) b k := h2
    wp_walk using wpAny_pyIter_gen g1, wpAny_pyIter_gen g2
    exact ⟨_, rfl, h⟩
theorem call_zip_gens {P : Program} {w : World} {A : Around} {E : Value → Shared → Prop} {s : Shared} {a b : Addr} {g k : Nat} {Q : Value → Shared → Prop} (h1 : s.heap.IsGen a g) (h2 : s.heap.IsGen b k)
    (h : ∀ h', IsZip h' (s.heap.objs.size + 2) s.heap.objs.size (s.heap.objs.size + 1) .none → IsPair h' s.heap.objs.size (.ref a) (.ref b) → IsPair h' (s.heap.objs.size + 1) .none .none → (∀ c o, s.heap.get? c = some o → h'.get? c = some o) → Q (.ref (s.heap.objs.size + 2)) { s with heap := h' }) :
    wpAny (model P w) A (call (.type "zip") [.ref a, .ref b]) Q E s := by
  refine callType_new F.called_zip (by decide) (F.typeCall_zip_2 _ _) (F.newCall_zip_2 _ _) (fun ob => F.args_object_init_3 ob _ _) F.entry_zip_new (meets_zip_gens a b g k) ⟨h1, h2, ?_⟩
  have z1 : (zg1 s.heap a b).objs.size = s.heap.objs.size + 1 := Heap.size_push ..
  have z2 : (zg2 s.heap a b).objs.size = s.heap.objs.size + 2 := by rw [Heap.size_push, z1]
  have e3 : (zg3 s.heap a b).get? (zg2 s.heap a b).objs.size = some _ := Heap.get?_push_size _ rfl
  have e2 : (zg3 s.heap a b).get? (zg1 s.heap a b).objs.size = some _ := Heap.get?_push_of_some _ (Heap.get?_push_size _ rfl)
  have e1 : (zg3 s.heap a b).get? s.heap.objs.size = some _ := Heap.get?_push_of_some _ (Heap.get?_push_of_some _ (Heap.get?_push_size _ rfl))
  show _ ∧ _
  rw [z2, z1] at e3
  rw [z1] at e2
  rw [z2]
  exact ⟨⟨_, e3, rfl⟩, h _ e3 e1 e2 fun c o x => Heap.get?_push_of_some _ (Heap.get?_push_of_some _ (Heap.get?_push_of_some _ x))⟩
/-! ### a run comes to one end only -/
theorem runs_det {M : Model} {Γ : PySem.Ctx} {p : Pos} {t : Sem PySem.Fin} {fs : List Frame} {s s' : Shared} {e : End} (h : Runs M Γ p t fs s e s') : ∀ {e2 : End} {s2 : Shared}, Runs M Γ p t fs s e2 s2 → e = e2 ∧ s' = s2 := by
  induction h with
  | done => intro e2 s2 h2; cases h2; exact ⟨rfl, rfl⟩
  | raise => intro e2 s2 h2; cases h2; exact ⟨rfl, rfl⟩
  | again q _ ih => intro e2 s2 h2; cases h2 with | again _ h => exact ih h
  | rule _ ih => intro e2 s2 h2; cases h2 with | rule h => exact ih h
  | «at» _ ih => intro e2 s2 h2; cases h2 with | «at» h => exact ih h
  | load ho _ ih => intro e2 s2 h2; cases h2 with | load ho2 h => rw [ho] at ho2; cases ho2; exact ih h
  | update ho _ ih => intro e2 s2 h2; cases h2 with | update _ h => exact ih h
  | loadIfAlive _ ih => intro e2 s2 h2; cases h2 with | loadIfAlive h => exact ih h
  | point _ ih => intro e2 s2 h2; cases h2 with | point h => exact ih h
  | alloc _ ih => intro e2 s2 h2; cases h2 with | alloc h => exact ih h
  | fresh _ ih => intro e2 s2 h2; cases h2 with | fresh h => exact ih h
  | ask _ ih => intro e2 s2 h2; cases h2 with | ask h => exact ih h
  | choose hn _ ih => intro e2 s2 h2; cases h2 with | choose _ h => exact ih h
  | os _ ih => intro e2 s2 h2; cases h2 with | os h => exact ih h
  | handled _ ih => intro e2 s2 h2; cases h2 with | handled h => exact ih h
  | genState hg _ ih => intro e2 s2 h2; cases h2 with | genState hg2 h => rw [hg] at hg2; cases hg2; exact ih h
  | stack _ ih => intro e2 s2 h2; cases h2 with | stack h => exact ih h
  | thread _ ih => intro e2 s2 h2; cases h2 with | thread h => exact ih h
  | newGen _ ih => intro e2 s2 h2; cases h2 with | newGen h => exact ih h
  | call _ _ ih1 ih2 =>
    intro e2 s2 h2
    cases h2 with
    | call a b => obtain ⟨x, rfl⟩ := ih1 a; cases x; exact ih2 b
    | callSusp a => obtain ⟨x, _⟩ := ih1 a; cases x
  | callSusp _ ih =>
    intro e2 s2 h2
    cases h2 with
    | call a b => obtain ⟨x, _⟩ := ih a; cases x
    | callSusp a => obtain ⟨x, rfl⟩ := ih a; cases x; exact ⟨rfl, rfl⟩
  | yield => intro e2 s2 h2; cases h2; exact ⟨rfl, rfl⟩
  | resumeFresh hg _ hq _ ih1 ih2 =>
    intro e2 s2 h2
    cases h2 with
    | resumeFresh hg2 a _ b => rw [hg] at hg2; cases hg2; obtain ⟨rfl, rfl⟩ := ih1 a; exact ih2 b
    | resumeSuspended hg2 => rw [hg] at hg2; cases hg2
    | resumeJustStarted _ hv => exact absurd rfl hv
    | resumeRunning hg2 => rw [hg] at hg2; cases hg2
    | resumeFinished hg2 => rw [hg] at hg2; cases hg2
  | resumeSuspended hg _ hq _ ih1 ih2 =>
    intro e2 s2 h2
    cases h2 with
    | resumeFresh hg2 => rw [hg] at hg2; cases hg2
    | resumeSuspended hg2 a _ b => rw [hg] at hg2; cases hg2; obtain ⟨rfl, rfl⟩ := ih1 a; exact ih2 b
    | resumeJustStarted hg2 => rw [hg] at hg2; cases hg2
    | resumeThrowFresh hg2 => rw [hg] at hg2; cases hg2
    | resumeRunning hg2 => rw [hg] at hg2; cases hg2
    | resumeFinished hg2 => rw [hg] at hg2; cases hg2
  | resumeJustStarted hg hv _ ih =>
    intro e2 s2 h2
    cases h2 with
    | resumeFresh => exact absurd rfl hv
    | resumeSuspended hg2 => rw [hg] at hg2; cases hg2
    | resumeJustStarted _ _ h => exact ih h
    | resumeRunning hg2 => rw [hg] at hg2; cases hg2
    | resumeFinished hg2 => rw [hg] at hg2; cases hg2
  | resumeThrowFresh hg _ ih =>
    intro e2 s2 h2
    cases h2 with
    | resumeSuspended hg2 => rw [hg] at hg2; cases hg2
    | resumeThrowFresh _ h => exact ih h
    | resumeRunning hg2 => rw [hg] at hg2; cases hg2
    | resumeFinished hg2 => rw [hg] at hg2; cases hg2
  | resumeRunning hg _ ih =>
    intro e2 s2 h2
    cases h2 with
    | resumeFresh hg2 => rw [hg] at hg2; cases hg2
    | resumeSuspended hg2 => rw [hg] at hg2; cases hg2
    | resumeJustStarted hg2 => rw [hg] at hg2; cases hg2
    | resumeThrowFresh hg2 => rw [hg] at hg2; cases hg2
    | resumeRunning _ h => exact ih h
    | resumeFinished hg2 => rw [hg] at hg2; cases hg2
  | resumeFinished hg _ ih =>
    intro e2 s2 h2
    cases h2 with
    | resumeFresh hg2 => rw [hg] at hg2; cases hg2
    | resumeSuspended hg2 => rw [hg] at hg2; cases hg2
    | resumeJustStarted hg2 => rw [hg] at hg2; cases hg2
    | resumeThrowFresh hg2 => rw [hg] at hg2; cases hg2
    | resumeRunning hg2 => rw [hg] at hg2; cases hg2
    | resumeFinished _ h => exact ih h
  | segRet _ _ ih1 ih2 =>
    intro e2 s2 h2
    cases h2 with
    | segRet a b => obtain ⟨x, rfl⟩ := ih1 a; cases x; exact ih2 b
    | segSuspOut _ a => obtain ⟨x, _⟩ := ih1 a; cases x
    | segSuspGen _ a => obtain ⟨x, _⟩ := ih1 a; cases x
  | segGen _ _ ih1 ih2 =>
    intro e2 s2 h2
    cases h2 with
    | segGen a b => obtain ⟨x, rfl⟩ := ih1 a; cases x; exact ih2 b
    | segSuspOut _ a => obtain ⟨x, _⟩ := ih1 a; cases x
    | segSuspGen _ a => obtain ⟨x, _⟩ := ih1 a; cases x
  | segSuspOut hs _ ih =>
    intro e2 s2 h2
    cases h2 with
    | segRet a => obtain ⟨x, _⟩ := ih a; cases x
    | segGen a => obtain ⟨x, _⟩ := ih a; cases x
    | segSuspOut _ a => obtain ⟨x, rfl⟩ := ih a; cases x; exact ⟨rfl, rfl⟩
    | segSuspGen hs2 => rw [hs] at hs2; cases hs2
  | segSuspGen hs _ _ _ ih1 ih2 =>
    intro e2 s2 h2
    cases h2 with
    | segRet a => obtain ⟨x, _⟩ := ih1 a; cases x
    | segGen a => obtain ⟨x, _⟩ := ih1 a; cases x
    | segSuspOut hs2 => rw [hs] at hs2; cases hs2
    | segSuspGen hs2 a _ b => rw [hs] at hs2; cases hs2; obtain ⟨x, rfl⟩ := ih1 a; cases x; exact ih2 b
theorem wakes_det {M : Model} {Γ : PySem.Ctx} {p : Pos} {g : Nat} {r : Resume} {s s1 s2 : Shared} {x1 x2 : GenResult} (h1 : Wakes M Γ p g r s x1 s1) (h2 : Wakes M Γ p g r s x2 s2) : x1 = x2 ∧ s1 = s2 := by
  unfold Wakes at h1 h2
  cases hg : s.gens[g]? with
  | none => rw [hg] at h1; exact h1.elim
  | some y =>
    rw [hg] at h1 h2
    cases y with
    | fresh c =>
      cases r with
      | send v =>
        cases v with
        | none =>
          obtain ⟨e1, t1, r1, _, rfl, rfl⟩ := h1
          obtain ⟨e2, t2, r2, _, rfl, rfl⟩ := h2
          obtain ⟨rfl, rfl⟩ := runs_det r1 r2
          exact ⟨rfl, rfl⟩
        | _ => obtain ⟨rfl, rfl⟩ := h1; obtain ⟨rfl, rfl⟩ := h2; exact ⟨rfl, rfl⟩
      | throw x => obtain ⟨rfl, rfl⟩ := h1; obtain ⟨rfl, rfl⟩ := h2; exact ⟨rfl, rfl⟩
    | suspended k l c p' fs cl =>
      obtain ⟨e1, t1, r1, _, rfl, rfl⟩ := h1
      obtain ⟨e2, t2, r2, _, rfl, rfl⟩ := h2
      obtain ⟨rfl, rfl⟩ := runs_det r1 r2
      exact ⟨rfl, rfl⟩
    | running => obtain ⟨rfl, rfl⟩ := h1; obtain ⟨rfl, rfl⟩ := h2; exact ⟨rfl, rfl⟩
    | finished => obtain ⟨rfl, rfl⟩ := h1; obtain ⟨rfl, rfl⟩ := h2; exact ⟨rfl, rfl⟩
open Sem (wp) in
theorem wp_both {α : Type} {M : Model} {Γ : PySem.Ctx} {Q1 Q2 : α → Pos → Shared → Prop} {E1 E2 : Value → Pos → Shared → Prop} (t : Sem α) : ∀ (p : Pos) (s : Shared), wp M Γ t Q1 E1 p s → wp M Γ t Q2 E2 p s → wp M Γ t (fun a p s => Q1 a p s ∧ Q2 a p s) (fun a p s => E1 a p s ∧ E2 a p s) p s := by
  induction t with
  | pure a => intro p s h1 h2; exact ⟨h1, h2⟩
  | raise e => intro p s h1 h2; exact ⟨h1, h2⟩
  | unsupported _ => intro p s h1 h2; exact h1
  | finish _ => intro p s h1 h2; exact h1
  | rule _ k ih => intro p s h1 h2; exact ih () p s h1 h2
  | «at» p' k ih => intro p s h1 h2; exact ih () p' s h1 h2
  | load a _ k ih =>
    intro p s h1 h2
    obtain ⟨o, ho, h1⟩ := h1
    obtain ⟨o2, ho2, h2⟩ := h2
    rw [ho] at ho2
    cases ho2
    exact ⟨o, ho, ih o p s h1 h2⟩
  | update a _ f k ih => intro p s h1 h2; exact ⟨h1.1, ih () p _ h1.2 h2.2⟩
  | loadIfAlive a k ih => intro p s h1 h2; exact ih _ p s h1 h2
  | point _ k ih => intro p s h1 h2; exact ih () p s h1 h2
  | register _ _ => intro p s h1 h2; exact h1
  | alloc o k ih => intro p s h1 h2; exact ih _ p _ h1 h2
  | fresh k ih => intro p s h1 h2; exact ih _ p _ h1 h2
  | ask k ih => intro p s h1 h2; exact ih _ p s h1 h2
  | choose src n k ih => intro p s h1 h2; exact ⟨h1.1, ih _ p _ h1.2 h2.2⟩
  | os q _ k ih => intro p s h1 h2; exact ih _ p _ h1 h2
  | call c h _ _ k ih =>
    intro p s h1 h2
    obtain ⟨r1, s1, a1, h1⟩ := h1
    obtain ⟨r2, s2, a2, h2⟩ := h2
    obtain ⟨x, rfl⟩ := runs_det a1 a2
    cases x
    exact ⟨r1, s1, a1, ih _ p _ h1 h2⟩
  | handled own k ih => intro p s h1 h2; exact ih _ p s h1 h2
  | genState g k ih =>
    intro p s h1 h2
    obtain ⟨o, ho, h1⟩ := h1
    obtain ⟨o2, ho2, h2⟩ := h2
    rw [ho] at ho2
    cases ho2
    exact ⟨o, ho, ih _ p s h1 h2⟩
  | newGen c k ih => intro p s h1 h2; exact ih _ p _ h1 h2
  | resume g r _ k ih =>
    intro p s h1 h2
    obtain ⟨r1, s1, a1, h1⟩ := h1
    obtain ⟨r2, s2, a2, h2⟩ := h2
    obtain ⟨rfl, rfl⟩ := wakes_det a1 a2
    exact ⟨r1, s1, a1, ih _ p _ h1 h2⟩
  | yield => intro p s h1 h2; exact h1
  | stack k ih => intro p s h1 h2; exact ih _ p s h1 h2
  | fork => intro p s h1 h2; exact h1
  | thread k ih => intro p s h1 h2; exact ih _ p s h1 h2
  | await => intro p s h1 h2; exact h1
/-- two things told of one run -/
theorem wpAny_both {α : Type} {M : Model} {A : Around} {t : Sem α} {Q1 Q2 : α → Shared → Prop} {E1 E2 : Value → Shared → Prop} {s : Shared} (h1 : wpAny M A t Q1 E1 s) (h2 : wpAny M A t Q2 E2 s) : wpAny M A t (fun a s' => Q1 a s' ∧ Q2 a s') (fun e s' => E1 e s' ∧ E2 e s') s := fun Γ p hΓ => wp_both t p s (h1 Γ p hΓ) (h2 Γ p hΓ)
/-! ### rows that leave the generators as they are -/
section
variable {X : Cx} {s : Shared} {pins : List (Addr × Obj)} {σ : L2.St} {H : Hp}
/-- a name read: nothing of the state changes -/
theorem bx_name {x : Str} {pos : Pos} {i : Nat} {v : V} {Q : Value → Shared → Prop} {E : Value → Shared → Prop} (I : Inv X pins σ H s) (hi : X.N[i]? = some x) (hv : σ[i]? = some (some v)) (hl : X.env.scope.names.lookup x = some .local) (h : ∀ u, RelV v u → Q u s)
    (hd : (x == ("__debug__" : Str)) = false := by decide) : wpAny (model X.prog X.w) X.A (eval (.Name x pos) X.env) Q E s := by
  obtain ⟨m, hn, ml⟩ := I.loc
  obtain ⟨u, r, l⟩ := ml i x v hi hv (.inl hl)
  have q := h u r
  obtain ⟨hk, hm⟩ | ⟨hk, c, hc, hcell⟩ := l
  · exact wpAny_Name (wpAny_loadName_local I.ok.kind hk hn hm q) hd
  · rcases hk with hk | hk
    · rw [show X.env.kindOf x = some .local from hl] at hk
      cases hk
    · rw [show X.env.kindOf x = some .local from hl] at hk
      cases hk
/-- while a list -/
theorem bx_truth {x : Str} {pos : Pos} {i : Nat} {l : Addr} {xs : List V} {E : Value → Shared → Prop} (I : Inv X pins σ H s) (hi : X.N[i]? = some x) (hv : σ[i]? = some (some (.ref l))) (hl : X.env.scope.names.lookup x = some .local) (e : SqL X.K H l xs)
    (he : ∀ whole, isTrue (.Name x pos) X.env whole = (do let v ← whole; standAt (Expr.Name x pos).pos; holding [v] (truthy v)) := by intro _; rfl) (hd : (x == ("__debug__" : Str)) = false := by decide) :
    wpAny (model X.prog X.w) X.A (isTrue (.Name x pos) X.env (eval (.Name x pos) X.env)) (fun _ s' => s'.gens = s.gens) E s := by
  refine isTrue_plain (bx_name I hi hv hl (fun u r => ?_) hd) (he _)
  cases r
  obtain ⟨its, r, pl, hz⟩ := I.list e
  have hlen := r.length
  have hl := line63
  have hs : (sizeLine = 16777216) := sizeLine_eq
  exact wpAny_truthy_list pl.isList (by simp only [List.size_toArray]; omega) rfl
/-- (a, b, c) of names -/
theorem bx_tup3 {x y z : Str} {px py pz pos : Pos} {k i j l : Nat} {v1 v2 v3 : V} {E : Value → Shared → Prop} (I : Inv X pins σ H s) (hi : X.N[i]? = some x) (hj : X.N[j]? = some y) (hl : X.N[l]? = some z) (h1 : σ[i]? = some (some v1)) (h2 : σ[j]? = some (some v2)) (h3 : σ[l]? = some (some v3))
    (l1 : X.env.scope.names.lookup x = some .local) (l2 : X.env.scope.names.lookup y = some .local) (l3 : X.env.scope.names.lookup z = some .local) (d1 : (x == ("__debug__" : Str)) = false := by decide) (d2 : (y == ("__debug__" : Str)) = false := by decide) (d3 : (z == ("__debug__" : Str)) = false := by decide) :
    wpAny (model X.prog X.w) X.A (eval (.Tuple [.Name x px, .Name y py, .Name z pz] k pos) X.env) (fun _ s' => s'.gens = s.gens) E s := by
  refine wpAny_Tuple_spliced ?_
  show wpAny _ _ (spliced [(false, eval (.Name x px) X.env), (false, eval (.Name y py) X.env), (false, eval (.Name z pz) X.env)]) _ _ _
  exact Calls.spliced_cons (bx_name I hi h1 l1 (fun _ _ => Calls.spliced_cons (bx_name I hj h2 l2 (fun _ _ => Calls.spliced_cons (bx_name I hl h3 l3 (fun _ _ => Calls.spliced_nil ⟨by show 3 ≤ sizeLine; decide, rfl⟩) d3)) d2)) d1)
/-- l.pop() -/
theorem bx_pop {x : Str} {px apos cpos : Pos} {i : Nat} {l : Addr} {xs : List V} {y : V} {E : Value → Shared → Prop} (I : Inv X pins σ H s) (hi : X.N[i]? = some x) (hv : σ[i]? = some (some (.ref l))) (hl : X.env.scope.names.lookup x = some .local) (e : H l = some (.lst xs)) (hy : xs[xs.length - 1]? = some y)
    (hbase : attributeBase (.Name x px) "pop" X.env (eval (.Name x px) X.env) = eval (.Name x px) X.env := by rfl) (hline : (apos.endLine == cpos.line) = true := by rfl) (hd : (x == ("__debug__" : Str)) = false := by decide) :
    wpAny (model X.prog X.w) X.A (eval (.Call (.Attribute (.Name x px) "pop" apos) [] [] cpos) X.env) (fun _ s' => s'.gens = s.gens) E s := by
  refine wpAny_Call_method0_late hbase hline (bx_name I hi hv hl (fun u r => ?_) hd)
  cases r
  obtain ⟨z, its, n, r, hlen, e2⟩ := I.lstM e
  rcases r.get hy with ⟨u, hu, ru⟩
  have hy' : (its.toArray[its.toArray.size - 1]? = some u) := by
    rw [List.size_toArray, ← Array.getElem?_toList, ← hlen]
    exact hu
  exact ⟨"list", "list.pop", PySem.F.plainAttrs_list, PySem.F.slot_list_pop, PySem.F.type_list_pop, ⟨_, e2, rfl⟩, (fun a ea => by cases ea; exact ⟨_, e2, rfl⟩), Calls.callWith_builtin rfl (PySem.evalArgs_none
    (call_meets F.slot_list_pop ⟨_, e2, rfl⟩ F.entry_list_pop (F.args_list_pop_1 _) (MeetsSeq.list_pop_last l its.toArray n u hy' (by rw [List.size_toArray]; omega)) ⟨e2, rfl⟩))⟩
/-- a, b = a tuple of two -/
theorem bx_two {x y : Str} {px py tp : Pos} {k : Nat} {a : Addr} {u v : V} {E : Value → Shared → Prop} (I : Inv X pins σ H s) (hc : X.calm = true) (e : SqT X.K H a [u, v]) (l1 : X.env.scope.names.lookup x = some .local) (l2 : X.env.scope.names.lookup y = some .local) :
    wpAny (model X.prog X.w) X.A (assign (.Tuple [.Name x px, .Name y py] k tp) X.env (.ref a)) (fun _ s' => s'.gens = s.gens) E s := by
  obtain ⟨its, rv, ht, hz⟩ := I.tuple e
  obtain ⟨w1, w2, rfl⟩ : ∃ w1 w2, its = [w1, w2] := by
    cases rv with
    | cons _ r => cases r with
      | cons _ r => cases r; exact ⟨_, _, rfl⟩
  refine assign_Tuple_tuple (I.ok.hd hc) ht rfl rfl fun h' hx => ?_
  have I1 : (Inv X pins σ H { s with heap := h' }) := I.kept (t' := s.toks) fun b o e => hx b o (Nat.ne_of_lt (Heap.lt_size e)) e
  obtain ⟨m, hn, _⟩ := I1.loc
  have hcls : ((X.env.scope.kind == .class || (X.env.scope.kind == .module && X.env.locals != X.env.globals)) = false) := by rw [I.ok.kind]; rfl
  show wpAny _ _ (assignInOrder [assign (.Name x px) X.env, assign (.Name y py) X.env] [w1, w2]) _ _ _
  refine assignInOrder_cons (wpAny_assign_Name (wpAny_storeName_local l1 hn (fun h2 hn2 _ => ?_) hcls))
  exact assignInOrder_cons (wpAny_assign_Name (wpAny_storeName_local l2 hn2 (fun h3 hn3 _ => assignInOrder_nil rfl) hcls))
/-- a name = a whole number -/
theorem bx_setI {y : Str} {py cp pos : Pos} {k : Nat} {i : Int} {m : Str → Option Value} {E : Value → Shared → Prop} (hk : X.env.scope.kind = .function) (hn : s.heap.Ns X.env.locals m) (hl : X.env.scope.names.lookup y = some .local) : wpAny (model X.prog X.w) X.A (exec (.Assign [.Name y py] (.Constant (.int i) k cp) pos) X.env) (fun f s' => f = .next ∧ s'.gens = s.gens) E s := by
  have hcls : (X.env.scope.kind == .class || (X.env.scope.kind == .module && X.env.locals != X.env.globals)) = false := by rw [hk]; rfl
  exact wpAny_Assign_Name (wpAny_Constant_int (wpAny_storeName_local hl hn (fun h2 hn2 _ => ⟨rfl, rfl⟩) hcls))
end
/-! ### xs = [(0, y) for y in t[::-1]], the generators as they are -/
theorem ns_at {h h' : Heap} {a : Addr} {m : Str → Option Value} (n : h.Ns a m) (k : ∀ o, h.get? a = some o → h'.get? a = some o) : h'.Ns a m := let ⟨o, es, ep, e, r⟩ := n; ⟨o, es, ep, k o e, r⟩
section
variable {X : Cx} {s : Shared} {pins : List (Addr × Obj)} {σ : L2.St} {H : Hp}
theorem bx_rev {x : Str} {px p1 p2 p3 pos : Pos} {i k : Nat} {a : Addr} {xs : List V} {Q : Value → Shared → Prop} {E : Value → Shared → Prop} (I : Inv X pins σ H s) (hi : X.N[i]? = some x) (hv : σ[i]? = some (some (.ref a))) (hl : X.env.scope.names.lookup x = some .local) (e : SqT X.K H a xs)
    (h : ∀ (p : Addr) (its : List Value) (h' : Heap) (tk : Nat), (∀ b o, s.heap.get? b = some o → h'.get? b = some o) → IsTup h' p its.toArray → its.length ≤ sizeLine → Q (.ref p) { s with heap := h', toks := tk }) (hd : (x == ("__debug__" : Str)) = false := by decide) :
    wpAny (model X.prog X.w) X.A (eval (.Subscript (.Name x px) (.Slice none none (some (.UnaryOp .USub (.Constant (.int 1) k p1) p2)) p3) pos) X.env) Q E s := by
  refine Subscript_ (bx_name I hi hv hl (fun u r => ?_) hd)
  cases r
  refine wpAny_Slice ?_
  rw [evalPart_none]
  refine (wpAny_pure (wpAny_pure ?_))
  rw [evalPart_some]
  refine UnaryOp_ (wpAny_Constant_int (PySem.P.neg_int ?_))
  obtain ⟨its, r, ht, hz⟩ := I.tuple e
  have hlen := r.length
  have kp : ∀ b o, s.heap.get? b = some o → (s.heap.push { cls := .type "slice", data := .fields #[.none, .none, .int (-1) (s.toks + 1)] }).get? b = some o := fun b o z => Heap.get?_push_of_some _ z
  have ht2 : IsTup (s.heap.push { cls := .type "slice", data := .fields #[.none, .none, .int (-1) (s.toks + 1)] }) a its.toArray := (I.kept (t' := s.toks) kp).tuple e |>.choose_spec.2.1 |> fun _ => by
    obtain ⟨o, e1, r1⟩ := ht
    exact ⟨o, kp a o e1, r1⟩
  refine tail_any (ops := [.ref a, .ref s.heap.objs.size]) ht2.typeIs PyProof.Rows.slot_tuple_getitem.lookup ?_ (by with_unfolding_all rfl)
  refine getItem_tuple_back ht2 (Heap.IsSliceOf.new _ .none .none (.int (-1) (s.toks + 1))) .none .none (.int _ _) ?_ (by rw [List.size_toArray]; omega)
  exact h _ its.reverse _ _ (fun b o z => Heap.get?_push_of_some _ (kp b o z)) (IsTup.new _ _) (by rw [List.length_reverse]; omega)
end
section
variable {X : Cx} {s : Shared} {pins : List (Addr × Obj)} {σ : L2.St} {H : Hp}
theorem bx_lc {x y z : Str} {px py zp tp c0 tpos p1 p2 p3 ipos pos spos : Pos} {i k k0 kt : Nat} {a : Addr} {xs : List V} {j : Int} {scope : Scope} {E : Value → Shared → Prop} (I : Inv X pins σ H s) (hc : X.calm = true) (hi : X.N[i]? = some x) (hv : σ[i]? = some (some (.ref a))) (hl : X.env.scope.names.lookup x = some .local) (e : SqT X.K H a xs)
    (hly : X.env.scope.names.lookup y = some .local) (hlz : scope.names.lookup z = some .local) (hcell : ∀ z ∈ scope.names, z.2 ≠ .cell) (hfree : ∀ z ∈ scope.names, z.2 ≠ .free) (hkind : scope.kind = .function) (hnames : ∀ z ∈ scope.names, z.2 = .local → scope.names.lookup z.1 = some .local)
    (hsw : swapsWith (.ListComp (.Tuple [.Constant (.int j) k0 c0, .Name z zp] kt tpos) [⟨.Name z tp, .Subscript (.Name x px) (.Slice none none (some (.UnaryOp .USub (.Constant (.int 1) k p1) p2)) p3) ipos, [], 0⟩] scope pos) (some (.Name y py)) spos.line X.env = pure true)
    (hs : ∀ v, foldedSetIterable (.Subscript (.Name x px) (.Slice none none (some (.UnaryOp .USub (.Constant (.int 1) k p1) p2)) p3) ipos) X.env v = pure v := by intro _; rfl) (hd : (x == ("__debug__" : Str)) = false := by decide) (hdz : (z == ("__debug__" : Str)) = false := by decide) :
    wpAny (model X.prog X.w) X.A (exec (.Assign [.Name y py] (.ListComp (.Tuple [.Constant (.int j) k0 c0, .Name z zp] kt tpos) [⟨.Name z tp, .Subscript (.Name x px) (.Slice none none (some (.UnaryOp .USub (.Constant (.int 1) k p1) p2)) p3) ipos, [], 0⟩] scope pos) spos) X.env)
      (fun f s' => f = .next ∧ s'.gens = s.gens ∧ ∃ m, s'.heap.Ns X.env.locals m) E s := by
  obtain ⟨mL, hL, _⟩ := I.loc
  have hcls : ((X.env.scope.kind == .class || (X.env.scope.kind == .module && X.env.locals != X.env.globals)) = false) := by rw [I.ok.kind]; rfl
  refine Assign_ListComp_goes (cl := cloFrom X.env.cells scope.names []) hsw (closure_ok fun q hq eq => absurd eq (hfree q hq)) hcell hkind hnames ?_ hs
  refine bx_rev I hi hv hl e (fun p its h' tk kp ht hz => ?_) hd
  refine wpAny_pyIter_tuple ht ?_
  have hp : @LT.lt Nat _ p h'.objs.size := by obtain ⟨o, eo, _⟩ := ht; exact Heap.lt_size eo
  have hL1 : h'.Ns X.env.locals mL := ns_at hL fun o z => kp _ o z
  have kI : ∀ b o, h'.get? b = some o → (h'.push { cls := .type "tuple_iterator", data := .fields #[.ref p, .int 0 0] }).get? b = some o := fun b o z => Heap.get?_push_of_some _ z
  have hsz : (h'.push { cls := .type "tuple_iterator", data := .fields #[.ref p, .int 0 0] }).objs.size = h'.objs.size + 1 := Heap.size_push _ _
  have ne : p ≠ h'.objs.size := Nat.ne_of_lt hp
  refine ⟨h'.objs.size, [h'.objs.size, p], [h'.objs.size], its.toArray.size, _, _, rfl, Goes.tuple (I.ok.hd hc) h'.objs.size p ne its.toArray, by rw [List.size_toArray]; exact hz, ⟨⟨_, Heap.get?_push_size _ rfl, rfl, rfl⟩, by obtain ⟨o, eo, r⟩ := ht; exact ⟨o, kI _ _ eo, r⟩⟩, fun b hb => ?_, fun D C s3 B => ?_⟩
  · have e1 : b = h'.objs.size ∨ b = p := by simpa using hb
    show @LT.lt Nat _ b (h'.push { cls := .type "tuple_iterator", data := .fields #[.ref p, .int 0 0] }).objs.size
    rw [hsz]
    rcases e1 with rfl | rfl
    · exact Nat.lt_succ_self _
    · exact Nat.lt_succ_of_lt hp
  obtain ⟨hb, tb, e3⟩ := B.only
  have nD : h'.objs.size < D := by have := B.newD; rw [show ({ s with heap := h'.push { cls := .type "tuple_iterator", data := .fields #[.ref p, .int 0 0] }, toks := tk } : Shared).heap.objs.size = h'.objs.size + 1 from hsz] at this; omega
  have nC : h'.objs.size < C := by have := B.newC; rw [show ({ s with heap := h'.push { cls := .type "tuple_iterator", data := .fields #[.ref p, .int 0 0] }, toks := tk } : Shared).heap.objs.size = h'.objs.size + 1 from hsz] at this; omega
  have lL : @LT.lt Nat _ X.env.locals h'.objs.size := hL1.lt
  have hkC : (compEnvC scope (cloFrom X.env.cells scope.names []) C X.env).scope.kind = .function := hkind
  have hkz : (compEnvC scope (cloFrom X.env.cells scope.names []) C X.env).kindOf z = some .local := lookup_relabel_local hlz
  have hclC : ((compEnvC scope (cloFrom X.env.cells scope.names []) C X.env).scope.kind == .class || ((compEnvC scope (cloFrom X.env.cells scope.names []) C X.env).scope.kind == .module && (compEnvC scope (cloFrom X.env.cells scope.names []) C X.env).locals != (compEnvC scope (cloFrom X.env.cells scope.names []) C X.env).globals)) = false := by rw [hkC]; rfl
  refine ⟨fun _ _ s1 => s1.gens = s.gens ∧ (∃ m, s1.heap.Ns C m) ∧ ∃ m, s1.heap.Ns X.env.locals m, ⟨by rw [e3], ⟨_, B.names⟩, _, ns_at hL1 fun o z => B.old _ o (kI _ o z)⟩, fun i ys s1 h2 tk2 g k2 _ => ?_, fun i v ys s1 hlt _ st g hD => ?_, fun ys s1 g hD => ?_⟩
  · obtain ⟨g1, ⟨m1, g2⟩, m2, g3⟩ := g
    exact ⟨g1, ⟨m1, ns_at g2 fun o z => k2 _ o (by simp only [List.mem_cons, List.not_mem_nil, or_false]; rintro (q | q); exact B.ne q.symm; exact absurd q (Nat.ne_of_gt nC)) z⟩, m2, ns_at g3 fun o z => k2 _ o (by simp only [List.mem_cons, List.not_mem_nil, or_false]; rintro (q | q); exact absurd q (Nat.ne_of_lt (Nat.lt_trans lL nD)); exact absurd q (Nat.ne_of_lt lL)) z⟩
  · obtain ⟨g1, ⟨m1, g2⟩, m2, g3⟩ := g
    refine wpAny_assign_Name (wpAny_storeName_local hkz (show s1.heap.Ns (compEnvC scope (cloFrom X.env.cells scope.names []) C X.env).locals m1 from g2) (fun h2 n2 sb => ?_) hclC)
    refine wpAny_pure ?_
    rw [if_pos rfl]
    refine wpAny_Tuple_spliced ?_
    show wpAny _ _ (spliced [(false, eval (.Constant (.int j) k0 c0) _), (false, eval (.Name z zp) _)]) _ _ _
    refine Calls.spliced_cons (wpAny_Constant_int (Calls.spliced_cons (wpAny_Name (wpAny_loadName_local (v := v) hkC hkz n2 (if_pos rfl) (Calls.spliced_nil ⟨by show 2 ≤ sizeLine; decide, ?_⟩)) hdz)))
    have old : ∀ b o, b ≠ C → s1.heap.get? b = some o → (h2.push { cls := .type "tuple", data := .seq #[.int j (s1.toks + 1), v] }).get? b = some o := fun b o n z => Heap.get?_push_of_some _ (sb.extBut b o n z)
    refine ⟨⟨g1, ⟨_, ns_at n2 fun o z => Heap.get?_push_of_some _ z⟩, m2, ns_at g3 fun o z => old _ o (Nat.ne_of_lt (Nat.lt_trans lL nC)) z⟩, ?_, hD.at fun o z => old _ o B.ne z⟩
    exact (Goes.tuple (prog := X.prog) (w := X.w) (target := .Name z tp) (I.ok.hd hc) h'.objs.size p ne its.toArray).frame _ _ _ st fun b hb o z => old b o (by
      have e1 : b = h'.objs.size ∨ b = p := by simpa using hb
      rcases e1 with rfl | rfl
      · exact Nat.ne_of_lt nC
      · exact Nat.ne_of_lt (Nat.lt_trans hp nC)) z
  · obtain ⟨g1, ⟨m1, g2⟩, m2, g3⟩ := g
    exact compEnds_store (Q := fun f s' => f = .next ∧ s'.gens = s.gens ∧ ∃ m, s'.heap.Ns X.env.locals m) hly hcls g3 g2 (Nat.ne_of_lt (Nat.lt_trans lL nC)) fun h2 tk2 n2 _ => ⟨rfl, g1, _, n2⟩
end
/-! ### each_statement woken: what one wake comes to -/
/-- asleep behind its row i -/
def AtE (b : Bk) (a D : Addr) (H : Hp) (i : Nat) (σ : L2.St) : Prop := ∃ (d : Int) (st : St) (x : V) (ws : List (Int × St)) (o5 o6 : Option V), σ = [some (.ref a), some (.ref D), some (.int (i : Nat)), some (.int d), some x, o5, o6] ∧ Stk H D ws ∧ Tp H x st.d ∧
  stkRws (kidsOf st.blks (d + 1) ++ ws) ((i + 1 : Nat) : Int) = (b.rws 0 0).drop (i + 1) ∧ i + (st.sz + stkSz ws) = b.sz
def OutA (b : Bk) (a : Addr) (H : Hp) (x : V) (σ1 : L2.St) (H' : Hp) : Prop := ∃ D r, H D = none ∧ Sx [] H H' ∧ (b.rws 0 0)[0]? = some r ∧ Tp H' x (rwD r) ∧ AtE b a D H' 0 σ1
def EndA (b : Bk) (H H' : Hp) : Prop := Sx [] H H' ∧ b.rws 0 0 = []
def OutB (b : Bk) (a D : Addr) (H : Hp) (i : Nat) (x : V) (σ1 : L2.St) (H' : Hp) : Prop := ∃ r, Sx [D] H H' ∧ (b.rws 0 0)[i + 1]? = some r ∧ Tp H' x (rwD r) ∧ AtE b a D H' (i + 1) σ1
def EndB (b : Bk) (D : Addr) (H : Hp) (i : Nat) (H' : Hp) : Prop := Sx [D] H H' ∧ (b.rws 0 0).length = i + 1
section
variable {K : PySem.W.Frag} {a D : Addr} {H : Hp} {b : Bk} {i : Nat} {σ : L2.St}
/-- from where it looks whether to go on -/
theorem loop_E {H1 : Hp} {ws : List (Int × St)} {o3 o4 o5 o6 : Option V} {k : Nat} {Out : V → L2.St → Hp → Prop} {En : Hp → Prop} (hs : Stk H1 D ws) (hr : stkRws ws (k : Int) = (b.rws 0 0).drop k) (hz : k + stkSz ws = b.sz)
    (qe : (b.rws 0 0).length ≤ k → En H1) (q : ∀ u σ' H' r, Sx [D] H1 H' → (b.rws 0 0)[k]? = some r → Tp H' u (rwD r) → AtE b a D H' k σ' → Out u σ' H') : LoopR (reTest K) (reAs K) reYe Out En [some (.ref a), some (.ref D), some (.int (k : Nat)), o3, o4, o5, o6] H1 := by
  unfold LoopR
  cases ws with
  | nil =>
    refine each_end hs (iteF (qe ?_))
    have e : (b.rws 0 0).drop k = [] := hr.symm
    exact List.drop_eq_nil_iff.mp e
  | cons y ws =>
    obtain ⟨d, st⟩ := y
    have rowE : stkRws ((d, st) :: ws) (k : Int) = ((k : Int), d, st) :: (stkRws (kidsOf st.blks (d + 1)) ((k : Int) + 1) ++ stkRws ws (k + st.sz)) := by
      show st.rws d k ++ stkRws ws _ = _
      rw [st.rws_kids, List.cons_append]
    rw [rowE] at hr
    have hget : (b.rws 0 0)[k]? = some ((k : Int), d, st) := by
      have z := congrArg (·[0]?) hr
      rw [List.getElem?_drop] at z
      exact z.symm
    refine each_more hs (iteT (each_take hs fun x H2 sD hs2 tx => each_give fun u hu => ?_))
    have e8 : Tp (upd H2 u (.tup [.int k, .int d, x])) x st.d := tx.new hu
    refine q _ _ _ ((k : Int), d, st) (sD.new hu) hget (.tup upd_same (.cons (.int _) (.cons (.int _) (.cons e8 .nil)))) ⟨d, st, x, ws, _, _, rfl, hs2.keep (Sx.n0 hu), e8, ?_, hz⟩
    have e9 : ((k + 1 : Nat) : Int) = (k : Int) + 1 := by omega
    have z := congrArg (List.drop 1) hr
    rw [List.drop_drop, List.drop_one, List.tail_cons] at z
    rw [← z, stk_append, e9, kidsSz]
    congr 2
    rw [st.sz_blks]
    omega
theorem pre_E (t : Tp H (.ref a) (.tuple b.ds)) (hz : b.sz < 16777216) {Nx : L2.St → Hp → Prop} (q : ∀ D H' o3 o4 o5 o6, H D = none → Sx [] H H' → Stk H' D (b.stk 0) → stkRws (b.stk 0) ((0 : Nat) : Int) = (b.rws 0 0).drop 0 → 0 + stkSz (b.stk 0) = b.sz → Nx [some (.ref a), some (.ref D), some (.int (0 : Nat)), o3, o4, o5, o6] H') :
    rePre K { nx := Nx, rt := fun _ _ => False } (start nPEachStatement [.ref a]) H := each_first t hz fun D H' o3 o4 o5 o6 hD s1 hs => q D H' o3 o4 o5 o6 hD s1 hs (stk_bk b 0 0) (by rw [stkSz_bk]; omega)
theorem next_E (hA : AtE b a D H i σ) (hz : b.sz < 16777216) : reBs K { nx := LoopR (reTest K) (reAs K) reYe (OutB b a D H i) (EndB b D H i), rt := fun _ _ => False } σ H := by
  obtain ⟨d, st, x, ws, o5, o6, rfl, hs, t, hr, hk⟩ := hA
  have stp := st.sz_pos
  refine each_back hs t (by omega) fun H6 o5 o6 s6 hs6 => ?_
  have szE : stkSz (kidsOf st.blks (d + 1) ++ ws) + 1 = st.sz + stkSz ws := by
    rw [stkSz_append, kidsSz, st.sz_blks]
    omega
  have lenR : (b.rws 0 0).length = b.sz := Bk.rws_len b 0 0
  refine loop_E (b := b) hs6 hr (by omega) (fun h => ⟨s6, ?_⟩) fun u σ' H' r s7 hg tu hA => ⟨r, s6.trans s7, hg, tu, hA⟩
  omega
end
/-- what one wake comes to; GR: what of the generators is told -/
def OutX (X : Cx) (pins : List (Addr × Obj)) (N : List Str) (env : Env) (n : Nat) (pn : List (Addr × Obj)) (σc : L2.St) (GR : Array GenState → Prop) (Out : V → L2.St → Hp → Prop) (En : Hp → Prop) (cw cf : Code) (kont : Sem PySem.Fin) : End → Shared → Prop
  | .ret r, s' => r = .ok (.ret .none) ∧ (∃ H', Inv X (pn ++ pins) σc H' s' ∧ En H') ∧ GR s'.gens
  | .susp v g _ k c _ fs, s' => g = false ∧ c = cw ∧ (∃ kk p', fs = [.ret kk none false [] cf p' []] ∧ kk (.ok .next) = leafOf (.ok (.ret .none))) ∧ k (.send .none) = kont ∧
    (∃ x lo σ1 H', RelV x v ∧ Inv X ((n, lo) :: (pn ++ pins)) σc H' s' ∧ GLoc N env σ1 lo ∧ σ1.length = N.length ∧ Out x σ1 H') ∧ GR s'.gens
theorem OutF.toX {X : Cx} {pins : List (Addr × Obj)} {N : List Str} {env : Env} {n : Nat} {pn : List (Addr × Obj)} {σc : L2.St} {G : Array GenState} {Out : V → L2.St → Hp → Prop} {En : Hp → Prop} {cw cf : Code} {kont : Sem PySem.Fin} {e : End} {s : Shared} (h : OutF X pins N env n pn σc G Out En cw cf kont e s) :
    OutX X pins N env n pn σc (Slp G) Out En cw cf kont e s := by
  cases e with
  | ret r => exact h
  | susp => exact h
theorem Sg1.mono {M : Model} {A : Around} {F F' : End → Shared → Prop} {c : Code} {t : Sem PySem.Fin} {fs : List Frame} {s : Shared} (h : Sg1 M A F c t fs s) (k : ∀ e s', F e s' → F' e s') : Sg1 M A F' c t fs s := fun Γ p e w => by
  obtain ⟨x, s', r, f⟩ := h Γ p e w
  exact ⟨x, s', r, k x s' f⟩
section
variable {X : Cx} {s : Shared} {H : Hp} {σ : L2.St}
theorem gx_pre {a : Addr} {xs : List V} {o1 o2 o3 o4 o5 o6 : Option V} {pins : List (Addr × Obj)} (hN : X.N = nPEachStatement) (hs : X.env.scope = defScope sPEachStatement) (hc : X.calm = true) (I : Inv X pins [some (.ref a), o1, o2, o3, o4, o5, o6] H s) (e : SqT X.K H a xs) :
    wpAny (model X.prog X.w) X.A (execs ((defBody sPEachStatement).take 2) X.env) (fun _ s' => s'.gens = s.gens) (fun _ _ => True) s := by
  refine wpAny_execs_cons (wpAny_mono (bx_lc (i := 0) (z := "statement") I hc (by rw [hN]; rfl) rfl (by rw [hs]; rfl) e (by rw [hs]; rfl) (by rfl) (by decide +kernel) (by decide +kernel) rfl (by decide +kernel) (sw_true (by rw [hs]; rfl) (by rw [hs]; rfl) rfl (by decide +kernel))) (fun f s1 q => ?_) fun _ _ z => z)
  obtain ⟨rfl, g1, m, hn⟩ := q
  refine wpAny_execs_cons (wpAny_mono (bx_setI (by rw [hs]; rfl) hn (by rw [hs]; rfl)) (fun f s2 q => ?_) fun _ _ z => z)
  obtain ⟨rfl, g2⟩ := q
  exact wpAny_execs_nil (g2.trans g1)
theorem gx_test {D : Addr} {ys : List V} {o0 o2 o3 o4 o5 o6 : Option V} {pins : List (Addr × Obj)} (hN : X.N = nPEachStatement) (hs : X.env.scope = defScope sPEachStatement) (I : Inv X pins [o0, some (.ref D), o2, o3, o4, o5, o6] H s) (e : SqL X.K H D ys) :
    wpAny (model X.prog X.w) X.A (isTrue (gWT sPEachStatement) X.env (eval (gWT sPEachStatement) X.env)) (fun _ s' => s'.gens = s.gens) (fun _ _ => True) s :=
  bx_truth (i := 1) I (by rw [hN]; rfl) rfl (by rw [hs]; rfl) e (fun _ => rfl)
theorem gx_give {v2 v3 v4 : V} {o0 o1 o5 o6 : Option V} {pins : List (Addr × Obj)} (hN : X.N = nPEachStatement) (hs : X.env.scope = defScope sPEachStatement) (I : Inv X pins [o0, o1, some v2, some v3, some v4, o5, o6] H s) :
    wpAny (model X.prog X.w) X.A (eval (gYe sPEachStatement 1) X.env) (fun _ s' => s'.gens = s.gens) (fun _ _ => True) s :=
  bx_tup3 (i := 2) (j := 3) (l := 4) I (by rw [hN]; rfl) (by rw [hN]; rfl) (by rw [hN]; rfl) rfl rfl rfl (by rw [hs]; rfl) (by rw [hs]; rfl) (by rw [hs]; rfl)
end
section
variable {X : Cx} {s : Shared} {H : Hp}
theorem gx_take {D t : Addr} {ys : List V} {u v : V} {o0 o2 o3 o4 o5 o6 : Option V} {pins : List (Addr × Obj)} (hN : X.N = nPEachStatement) (hs : X.env.scope = defScope sPEachStatement) (hc : X.calm = true) (hx : ∀ e s', ¬ X.xe e s') (I : Inv X pins [o0, some (.ref D), o2, o3, o4, o5, o6] H s) (e : H D = some (.lst ys)) (hy : ys[ys.length - 1]? = some (.ref t)) (ht : H t = some (.tup [u, v])) :
    wpAny (model X.prog X.w) X.A (execs ((gWB sPEachStatement).take 1) X.env) (fun _ s' => s'.gens = s.gens) (fun _ _ => True) s := by
  have n1 : X.N[1]? = some ("waiting" : Str) := by rw [hN]; rfl
  have l1 : X.env.scope.names.lookup ("waiting" : Str) = some .local := by rw [hs]; rfl
  have tD : t ≠ D := fun z => by rw [z, e] at ht; cases ht
  refine wpAny_execs_cons (wpAny_mono (wpAny_Assign_stores (Q := fun f s' => f = .next ∧ s'.gens = s.gens) ?_ (by rfl) (by rfl)) (fun f s1 q => ?_) fun _ _ z => z)
  · refine wpAny_mono (wpAny_both ((pe_bm0 PySem.F.plainAttrs_list PySem.F.slot_list_pop PySem.F.type_list_pop mt_pop (pe_var (i := 1) n1 (.inl l1))).run pins s [o0, some (.ref D), o2, o3, o4, o5, o6] H (fun x H1 => x = .ref t ∧ H1 t = some (.tup [u, v])) I ⟨_, rfl, .inl ⟨rfl, _, SqL.of e⟩, D, _, _, rfl, rfl, e, hy, rfl, by rw [upd_ne tD]; exact ht⟩) (bx_pop (E := fun _ _ => True) I n1 rfl l1 e hy)) (fun w s1 z => ?_) fun e s' z => absurd z.1 (hx e s')
    obtain ⟨⟨x, H1, I1, r1, rfl, h1⟩, g1⟩ := z
    cases r1
    exact wpAny_mono (bx_two (k := 0) I1 hc (SqT.of h1) (by rw [hs]; rfl) (by rw [hs]; rfl)) (fun _ s2 q => ⟨rfl, q.trans g1⟩) fun _ _ z => z
  · obtain ⟨rfl, g⟩ := q
    exact wpAny_execs_nil g
end
section
open GenW
variable {X : Cx} {pins : List (Addr × Obj)} {f : Addr} {cd : Value} {n : Nat} {pn : List (Addr × Obj)} {B : Around} {σc : L2.St} {H : Hp} {s : Shared} {a : Addr} {b : Bk}
abbrev envE (n : Nat) (f : Addr) (cd : Value) : Env := envOfC "each_statement" (defScope sPEachStatement) n f cd
abbrev wpE : Pos := match gW sPEachStatement with
  | .While _ _ _ p => p
  | _ => ⟨0, 0, 0, 0⟩
abbrev ypE : Pos × Pos := match (gWB sPEachStatement).getD 1 (.Pass ⟨0, 0, 0, 0⟩) with
  | .Expr (.Yield _ y) p => (y, p)
  | _ => (⟨0, 0, 0, 0⟩, ⟨0, 0, 0, 0⟩)
abbrev bdE : List Stmt := (gWB sPEachStatement).take 1 ++ .Expr (.Yield (some (gYe sPEachStatement 1)) ypE.1) ypE.2 :: (gWB sPEachStatement).drop 2
abbrev cwE (n : Nat) (f : Addr) (cd : Value) : Code := .whileLoop (gWT sPEachStatement) bdE [] (envE n f cd)
abbrev cfE (n : Nat) (f : Addr) (cd : Value) : Code := .func ((defBody sPEachStatement).take 2 ++ [.While (gWT sPEachStatement) bdE [] wpE]) (envE n f cd)
abbrev knE (n : Nat) (f : Addr) (cd : Value) : Sem PySem.Fin := (execs ((gWB sPEachStatement).drop 2) (envE n f cd)).wrap (lpK (gWT sPEachStatement) bdE (envE n f cd)) (lpJ (envE n f cd)) id id
theorem shapeE : defBody sPEachStatement = (defBody sPEachStatement).take 2 ++ [.While (gWT sPEachStatement) bdE [] wpE] := by rfl
/-- the rules of its rows, wherever it is woken -/
structure RulesE (X : Cx) (B : Around) (f : Addr) (n : Nat) (cd : Value) (pn : List (Addr × Obj)) (s : Shared) (H : Hp) : Prop where
  pre : PSs (gcx X B nPEachStatement "each_statement" (defScope sPEachStatement) f cd n pn s H) ((defBody sPEachStatement).take 2) (rePre X.K)
  test : PT (gcx X B nPEachStatement "each_statement" (defScope sPEachStatement) f cd n pn s H) (gWT sPEachStatement) (reTest X.K)
  as : PSs (gcx X B nPEachStatement "each_statement" (defScope sPEachStatement) f cd n pn s H) ((gWB sPEachStatement).take 1) (reAs X.K)
  ye : PE (gcx X B nPEachStatement "each_statement" (defScope sPEachStatement) f cd n pn s H) (gYe sPEachStatement 1) reYe
  bs : PSs (gcx X B nPEachStatement "each_statement" (defScope sPEachStatement) f cd n pn s H) ((gWB sPEachStatement).drop 2) (reBs X.K)
theorem noX {Y : Cx} {N : List Str} {qual : Str} {scope : Scope} {s : Shared} {H : Hp} : ∀ e s', ¬ (gcx Y B N qual scope f cd n pn s H).xe e s' := fun _ _ z => z
/-- from where it looks whether to go on, the other generators as they are -/
theorem sg_headX {G : Array GenState} {kk : Result → Sem PySem.Fin} {p : Pos} {D : Addr} {ws : List (Int × St)} {o3 o4 o5 o6 : Option V} {H0 : Hp} (hkk : kk (.ok .next) = leafOf (.ok (.ret .none))) (W : Gn X pins (defScope sPEachStatement) n pn B) (R : ∀ s H, RulesE X B f n cd pn s H)
    (J : GJ X pins nPEachStatement "each_statement" (defScope sPEachStatement) f cd n pn B [some (.ref a), some (.ref D), some (.int (0 : Nat)), o3, o4, o5, o6] σc H s) (hG : s.gens = G) (hD : H0 D = none) (s0 : Sx [] H0 H) (hst : Stk H D ws) (hr : stkRws ws ((0 : Nat) : Int) = (b.rws 0 0).drop 0) (hk : 0 + stkSz ws = b.sz) :
    Sg1 (model X.prog X.w) B (OutX X pins nPEachStatement (envE n f cd) n pn σc (fun G' => G' = G) (OutA b a H0) (EndA b H0) (cwE n f cd) (cfE n f cd) (knE n f cd)) (cwE n f cd) ((model X.prog X.w).den (cwE n f cd)) [.ret kk none false [] (cfE n f cd) p []] s := by
  have over : B.over (cwE n f cd) [.ret kk none false [] (cfE n f cd) p []] = B.deeper (envE n f cd) := (over_loop rfl rfl).trans over_func
  obtain ⟨s1, H1, I, J1⟩ := J
  obtain ⟨vals, hv, tv⟩ := id hst
  rw [loop_den]
  refine sg_wrap ?_
  rw [over]
  cases ws with
  | nil =>
    refine wpAny_mono (wpAny_both ((R s1 H1).test.run [] s _ H (fun b H' => b = false ∧ H' = H) J1 (each_end hst ⟨rfl, rfl⟩)) (gx_test (X := gcx X B nPEachStatement "each_statement" (defScope sPEachStatement) f cd n pn s1 H1) rfl rfl J1 (SqL.of hv))) (fun b2 s' hb => ?_) fun e s' z => (noX e s' z.1).elim
    obtain ⟨⟨H2, J2, rfl, rfl⟩, g2⟩ := hb
    rw [(if_neg Bool.false_ne_true)]
    refine sg_leaf (.ok .next) ?_
    rw [hkk]
    obtain ⟨lo, I2, _⟩ := GJ.back W ⟨s1, H1, I, J2⟩
    have e : (b.rws 0 0).drop 0 = [] := hr.symm
    exact sg_end (.ok (.ret .none)) ⟨rfl, ⟨H2, I2.pins_of fun p hp => I2.pin p (List.mem_append_right _ (List.mem_cons_of_mem _ hp)), s0, e⟩, g2.trans hG⟩
  | cons y ws =>
    obtain ⟨d, st⟩ := y
    have rowE : stkRws ((d, st) :: ws) ((0 : Nat) : Int) = (((0 : Nat) : Int), d, st) :: (stkRws (kidsOf st.blks (d + 1)) (((0 : Nat) : Int) + 1) ++ stkRws ws (((0 : Nat) : Int) + st.sz)) := by
      show st.rws d ((0 : Nat) : Int) ++ stkRws ws _ = _
      rw [st.rws_kids, List.cons_append]
    have hr0 := hr
    rw [rowE] at hr
    have hget : (b.rws 0 0)[0]? = some (((0 : Nat) : Int), d, st) := by
      have z := congrArg (·[0]?) hr
      rw [List.drop_zero] at z
      exact z.symm
    refine wpAny_mono (wpAny_both ((R s1 H1).test.run [] s _ H (fun b H' => b = true ∧ H' = H) J1 (each_more hst ⟨rfl, rfl⟩)) (gx_test (X := gcx X B nPEachStatement "each_statement" (defScope sPEachStatement) f cd n pn s1 H1) rfl rfl J1 (SqL.of hv))) (fun b2 s' hb => ?_) fun e s' z => (noX e s' z.1).elim
    obtain ⟨⟨H2, J2, rfl, rfl⟩, g2⟩ := hb
    rw [if_pos rfl]
    rw [execs_append_wrap]
    refine sg_wrap ?_
    rw [over]
    obtain ⟨acc, c, x, e1, e2, e3, e4, e5, e6⟩ := hst.pop
    refine wpAny_mono (wpAny_both ((R s1 H1).as.run [] s' _ H2 { nx := fun σ' H' => ∃ x, σ' = [some (.ref a), some (.ref D), some (.int (0 : Nat)), some (.int d), some x, o5, o6] ∧ Sx [D] H2 H' ∧ Stk H' D ws ∧ Tp H' x st.d, rt := fun _ _ => False } J2 (each_take hst fun x H3 sD hs2 tx => ⟨x, rfl, sD, hs2, tx⟩))
      (gx_take (X := gcx X B nPEachStatement "each_statement" (defScope sPEachStatement) f cd n pn s1 H1) rfl rfl rfl noX J2 e1 e2 e3)) (fun fl s2 z => ?_) fun e s' z => (noX e s' z.1).elim
    obtain ⟨hs, g3⟩ := z
    cases fl with
    | brk => obtain ⟨_, _, _, z⟩ := hs; exact z.elim
    | cont => obtain ⟨_, _, _, z⟩ := hs; exact z.elim
    | ret u => obtain ⟨_, _, _, _, _, z⟩ := hs; exact z.elim
    | next =>
    obtain ⟨_, H3, J3, x3, rfl, sD, hs2, tx⟩ := hs
    refine sg_cons ?_
    refine sg_yexpr rfl rfl ?_ W.co (W.hi _ _ _ _)
    rw [over]
    refine wpAny_mono (wpAny_both ((R s1 H1).ye.run [] s2 _ H3 (fun x H' => ∃ u, x = .ref u ∧ H3 u = none ∧ H' = upd H3 u (.tup [.int (0 : Nat), .int d, x3])) J3 (each_give fun u hu => ⟨u, rfl, hu, rfl⟩))
      (gx_give (X := gcx X B nPEachStatement "each_statement" (defScope sPEachStatement) f cd n pn s1 H1) rfl rfl J3)) (fun v s3 z => ?_) fun e s' z => (noX e s' z.1).elim
    obtain ⟨⟨_, H4, J4, rv, u, rfl, hu, rfl⟩, g4⟩ := z
    intro l k p' hk2
    obtain ⟨lo, I4, gl⟩ := GJ.back W ⟨s1, H1, I, J4⟩
    have e8 : Tp (upd H3 u (.tup [.int (0 : Nat), .int d, x3])) x3 st.d := tx.new hu
    refine ⟨rfl, rfl, ⟨kk, p, rfl, hkk⟩, hk2, ⟨.ref u, lo, _, _, rv, I4, gl, J4.len, D, _, hD, ?_, hget, .tup upd_same (.cons (.int _) (.cons (.int _) (.cons e8 .nil))), d, st, x3, ws, _, _, rfl, hs2.keep (Sx.n0 hu), e8, ?_, hk⟩, ((g4.trans g3).trans g2).trans hG⟩
    · exact (s0.step sD fun x hx => by rw [List.mem_singleton.mp hx]; exact .inr hD).new hu
    · have e9 : ((0 + 1 : Nat) : Int) = ((0 : Nat) : Int) + 1 := by omega
      have z := congrArg (List.drop 1) hr
      rw [List.drop_drop, List.drop_one, List.tail_cons] at z
      rw [Nat.zero_add] at z ⊢
      rw [← z, stk_append, e9, kidsSz]
      congr 2
      rw [st.sz_blks]
      omega
/-- the first wake, and the other generators as they are -/
theorem sg_first (W : Gn X pins (defScope sPEachStatement) n pn B) (R : ∀ s H, RulesE X B f n cd pn s H) (J : GJ X pins nPEachStatement "each_statement" (defScope sPEachStatement) f cd n pn B (start nPEachStatement [.ref a]) σc H s) (t : Tp H (.ref a) (.tuple b.ds)) (hz : b.sz < 16777216) :
    Sg1 (model X.prog X.w) B (OutX X pins nPEachStatement (envE n f cd) n pn σc (fun G => G = s.gens) (OutA b a H) (EndA b H) (cwE n f cd) (cfE n f cd) (knE n f cd)) (cfE n f cd) ((model X.prog X.w).den (cfE n f cd)) [] s := by
  obtain ⟨s1, H1, I, J1⟩ := J
  obtain ⟨a', xs, ea, ha, hx⟩ := t.tuple
  cases ea
  rw [func_den]
  refine sg_point ?_
  rw [execs_append_wrap]
  refine sg_wrap ?_
  rw [over_func]
  refine wpAny_mono (wpAny_both ((R s1 H1).pre.run [] s _ H { nx := fun σ H' => ∃ D o3 o4 o5 o6, σ = [some (.ref a), some (.ref D), some (.int (0 : Nat)), o3, o4, o5, o6] ∧ H D = none ∧ Sx [] H H' ∧ Stk H' D (b.stk 0) ∧ stkRws (b.stk 0) ((0 : Nat) : Int) = (b.rws 0 0).drop 0 ∧ 0 + stkSz (b.stk 0) = b.sz, rt := fun _ _ => False } J1
    (pre_E t hz fun D H' o3 o4 o5 o6 hD s1 hs h1 h2 => ⟨D, o3, o4, o5, o6, rfl, hD, s1, hs, h1, h2⟩)) (gx_pre (X := gcx X B nPEachStatement "each_statement" (defScope sPEachStatement) f cd n pn s1 H1) rfl rfl rfl J1 (SqT.of ha))) (fun fl s2 z => ?_) fun e s' z => (noX e s' z.1).elim
  obtain ⟨hs, g2⟩ := z
  cases fl with
  | brk => obtain ⟨_, _, _, z⟩ := hs; exact z.elim
  | cont => obtain ⟨_, _, _, z⟩ := hs; exact z.elim
  | ret u => obtain ⟨_, _, _, _, _, z⟩ := hs; exact z.elim
  | next =>
  obtain ⟨_, H2, J2, D, o3, o4, o5, o6, rfl, hD, s02, hst, hr, hk⟩ := hs
  exact sg_cons (sg_at (sg_call fun p => sg_headX rfl W R ⟨s1, H1, I, J2⟩ g2 hD s02 hst hr hk))
end
/-! ### next(g) of a walk, as zip draws -/
def SuAt (G : Array GenState) (gi n : Nat) (f : Addr) (cd : Value) : Prop := ∃ (k : Resume → Sem PySem.Fin) (l : List Value) (p p' : Pos) (kk : Result → Sem PySem.Fin) (cl : Bool), G[gi]? = some (.suspended k l (cwE n f cd) p [.ret kk none false [] (cfE n f cd) p' []] cl) ∧ kk (.ok .next) = leafOf (.ok (.ret .none)) ∧ k (.send .none) = knE n f cd
section
open GenW
variable {X : Cx} {pins : List (Addr × Obj)} {f ga : Addr} {cd : Value} {n gi : Nat} {pn : List (Addr × Obj)} {A : Around} {σ σg : L2.St} {H : Hp} {s : Shared} {a D : Addr} {b : Bk} {go lo : Obj} {i : Nat}
theorem startE_len {v : V} : (start nPEachStatement [v]).length = nPEachStatement.length := rfl
theorem setGen_ne {s : Shared} {g j : Nat} {x : GenState} (h : j ≠ g) : (s.setGen g x).gens[j]? = s.gens[j]? := by
  show (s.gens.setIfInBounds g x)[j]? = _
  rw [Array.getElem?_setIfInBounds_ne (Ne.symm h)]
theorem nx_first (hh : A.handled = none) (hroom : A.depth < recursionLimit) (W : Gn X pins (defScope sPEachStatement) n pn A.in1) (R : ∀ s H, RulesE X A.in1 f n cd pn s H) (I : Inv X ((n, lo) :: (pn ++ pins)) σ H s) (gl : GLoc nPEachStatement (envE n f cd) (start nPEachStatement [.ref a]) lo)
    (hga : (ga, go) ∈ pn) (hgo : ∀ h : Heap, h.get? ga = some go → h.IsGen ga gi) (hgs : s.gens[gi]? = some (.fresh (cfE n f cd))) (t : Tp H (.ref a) (.tuple b.ds)) (hz : b.sz < 16777216) :
    wpAny (model X.prog X.w) A (Builtin.SmallTypes.nextOf (.ref ga)) (fun v s2 => ∃ x lo' σ1 H', RelV x v ∧ Inv X ((n, lo') :: (pn ++ pins)) σ H' s2 ∧ GLoc nPEachStatement (envE n f cd) σ1 lo' ∧ σ1.length = nPEachStatement.length ∧ OutA b a H x σ1 H' ∧ SuAt s2.gens gi n f cd ∧ ∀ j, j ≠ gi → s2.gens[j]? = s.gens[j]?)
      (fun e s2 => ∃ e0, e = .ref e0 ∧ (∃ o, s2.heap.get? e0 = some o ∧ o.cls = .type "StopIteration") ∧ ∃ H', Inv X (pn ++ pins) σ H' s2 ∧ EndA b H H') s := by
  have pa := (I.pin (ga, go) (List.mem_append_right _ (List.mem_cons_of_mem _ (List.mem_append_left _ hga)))).1
  have lt : gi < s.gens.size := by
    by_cases z : gi < s.gens.size
    · exact z
    · rw [Array.getElem?_eq_none (by omega)] at hgs; cases hgs
  have I2 : Inv X ((n, lo) :: (pn ++ pins)) σ H (s.setGen gi .running) := inv_gens I (allBare_setGen I.bare rfl)
  refine nextOf_sg hh I.nolimit hroom (hgo _ pa) hgs (show Go1 _ _ _ (.fresh (cfE n f cd)) _ from sg_first W R (GJ.wake W I2 gl startE_len) t hz) (fun e s' q => ?_) (fun v gd l k c p fs s' q => ?_) (fun r s' q => ?_)
  · cases e with
    | ret r => rfl
    | susp v g l k c p fs =>
      obtain ⟨rfl, _, ⟨kk, p', rfl, _⟩, _⟩ := q
      rfl
  · obtain ⟨rfl, rfl, ⟨kk, p', rfl, hkk⟩, hk, ⟨x, lo', σ1, H', rv, I3, gl3, hl3, qo⟩, g3⟩ := q
    have sz : gi < s'.gens.size := by rw [g3, setGen_size]; exact lt
    refine ⟨x, lo', σ1, H', rv, inv_gens I3 (allBare_setGen I3.bare rfl), gl3, hl3, qo, ⟨k, l, p, p', kk, _, setGen_at sz, hkk, hk⟩, fun j hj => ?_⟩
    rw [setGen_ne hj, g3, setGen_ne hj]
  · obtain ⟨er, ⟨H', I3, qe⟩, g3⟩ := q
    refine ⟨er, fun h' e k1 h1 h2 => ⟨e, rfl, h1, H', ?_, qe⟩⟩
    have I4 : Inv X (pn ++ pins) σ H' (s'.setGen gi .finished) := inv_gens I3 (allBare_setGen I3.bare rfl)
    exact I4.kept (t' := s'.toks) k1
theorem nx_next (hh : A.handled = none) (hroom : A.depth < recursionLimit) (W : Gn X pins (defScope sPEachStatement) n pn A.in1) (R : ∀ s H, RulesE X A.in1 f n cd pn s H) (I : Inv X ((n, lo) :: (pn ++ pins)) σ H s) (gl : GLoc nPEachStatement (envE n f cd) σg lo) (hl : σg.length = nPEachStatement.length)
    (hga : (ga, go) ∈ pn) (hgo : ∀ h : Heap, h.get? ga = some go → h.IsGen ga gi) (hgs : SuAt s.gens gi n f cd) (hA : AtE b a D H i σg) (hz : b.sz < 16777216) :
    wpAny (model X.prog X.w) A (Builtin.SmallTypes.nextOf (.ref ga)) (fun v s2 => ∃ x lo' σ1 H', RelV x v ∧ Inv X ((n, lo') :: (pn ++ pins)) σ H' s2 ∧ GLoc nPEachStatement (envE n f cd) σ1 lo' ∧ σ1.length = nPEachStatement.length ∧ OutB b a D H i x σ1 H' ∧ SuAt s2.gens gi n f cd ∧ ∀ j, j ≠ gi → ∀ y, s.gens[j]? = some y → y.status = .suspended → s2.gens[j]? = some y)
      (fun e s2 => ∃ e0, e = .ref e0 ∧ (∃ o, s2.heap.get? e0 = some o ∧ o.cls = .type "StopIteration") ∧ ∃ H', Inv X (pn ++ pins) σ H' s2 ∧ EndB b D H i H') s := by
  have pa := (I.pin (ga, go) (List.mem_append_right _ (List.mem_cons_of_mem _ (List.mem_append_left _ hga)))).1
  obtain ⟨k0, l0, p0, p1, kk0, cl0, hgs, hkk0, hk0⟩ := hgs
  have lt : gi < s.gens.size := by
    by_cases z : gi < s.gens.size
    · exact z
    · rw [Array.getElem?_eq_none (by omega)] at hgs; cases hgs
  have I2 : Inv X ((n, lo) :: (pn ++ pins)) σ H (s.setGen gi .running) := inv_gens I (allBare_setGen I.bare rfl)
  have go1 : Go1 (model X.prog X.w) A.in1 (OutX X pins nPEachStatement (envE n f cd) n pn σ (Slp (s.setGen gi .running).gens) (OutB b a D H i) (EndB b D H i) (cwE n f cd) (cfE n f cd) (knE n f cd)) (.suspended k0 l0 (cwE n f cd) p0 [.ret kk0 none false [] (cfE n f cd) p1 []] cl0) (s.setGen gi .running) := by
    show Sg1 _ _ _ _ (k0 (.send .none)) _ _
    rw [hk0]
    exact (sg_wake hkk0 W (fun s H => (R s H).test) (fun s H => (R s H).as) (fun s H => (R s H).ye) (fun s H => (R s H).bs) (GJ.wake W I2 gl hl) (Slp.refl _) (next_E hA hz)).mono fun e s' q => q.toX
  refine nextOf_sg hh I.nolimit hroom (hgo _ pa) hgs go1 (fun e s' q => ?_) (fun v gd l k c p fs s' q => ?_) (fun r s' q => ?_)
  · cases e with
    | ret r => rfl
    | susp v g l k c p fs =>
      obtain ⟨rfl, _, ⟨kk, p', rfl, _⟩, _⟩ := q
      rfl
  · obtain ⟨rfl, rfl, ⟨kk, p', rfl, hkk⟩, hk, ⟨x, lo', σ1, H', rv, I3, gl3, hl3, qo⟩, g3⟩ := q
    have sz : gi < s'.gens.size := by
      have z := g3 gi .running (setGen_at lt) (.inr rfl)
      by_cases w : gi < s'.gens.size
      · exact w
      · rw [Array.getElem?_eq_none (by omega)] at z; cases z
    refine ⟨x, lo', σ1, H', rv, inv_gens I3 (allBare_setGen I3.bare rfl), gl3, hl3, qo, ⟨k, l, p, p', kk, _, setGen_at sz, hkk, hk⟩, fun j hj y hy hys => ?_⟩
    rw [setGen_ne hj]
    exact g3 j y (by rw [setGen_ne hj]; exact hy) (.inl hys)
  · obtain ⟨er, ⟨H', I3, qe⟩, g3⟩ := q
    refine ⟨er, fun h' e k1 h1 h2 => ⟨e, rfl, h1, H', ?_, qe⟩⟩
    have I4 : Inv X (pn ++ pins) σ H' (s'.setGen gi .finished) := inv_gens I3 (allBare_setGen I3.bare rfl)
    exact I4.kept (t' := s'.toks) k1
end
section
variable {X : Cx} {pins : List (Addr × Obj)}
/-- a call of a generator's def makes a generator that has not begun -/
theorem gen_madeX {x qual : Str} {st : Stmt} {f : Addr} {fd : FuncData} {N ps : List Str} {k : Nat} {σ : L2.St} {H : Hp} {s : Shared} {us : List Value} {vs : List V} (F : Fun X.K x qual st f fd) (S : GScope N ps (defScope st)) (nc : NoCells (defScope st)) (hr : Room (k + 1) X.A) (I : Inv X pins σ H s)
    (hb : BindsTo s fd ⟨us, []⟩ (ps.zip us)) (r : Vals vs us) (hl : vs.length = ps.length) :
    codeAny (model X.prog X.w) X.A (.call (.ref f) ⟨us, []⟩) (fun rs s' => match rs with
      | .ok (.ret u) => ∃ (a : Addr) (gi : Nat) (go lo : Obj) (cd : Value), u = .ref a ∧ (∀ h : Heap, h.get? a = some go → h.IsGen a gi) ∧ s.heap.objs.size < a ∧ gi = s.gens.size ∧ s'.gens = s.gens.push (.fresh (.func (defBody st) (envOfC qual (defScope st) s.heap.objs.size f cd))) ∧
          Inv X ((s.heap.objs.size, lo) :: ([(a, go)] ++ pins)) σ H s' ∧ GLoc N (envOfC qual (defScope st) s.heap.objs.size f cd) (start N vs) lo
      | _ => False) s := by
  obtain ⟨o1, o2, k0, dc0, pm0, an0, cdv, ct0, sl0, rfl, lk, hcd⟩ := F.ex
  have KX : X.K.In s.heap := I.kIn
  have lim : s.heap.NoLimit := I.nolimit
  have hkind : ∀ y ∈ ps.zip us, (defScope st).names.lookup y.1 = some .local ∨ ((defScope st).names.lookup y.1 = some .cell ∧ ((cellsFrom (s.heap.objs.size + 1) (defScope st).names []).lookup y.1).isSome = true) := by
    rintro ⟨m, v⟩ hy
    exact (S.par m (List.of_mem_zip hy).1).imp id fun q => ⟨q, PySem.W.cellsFrom_some _ _ _ (.inl q)⟩
  refine codeAny_call_generator hr.depth (KX _ _ lk) rfl S.co S.gen rfl (PySem.W.codeRec_of KX hcd) (hb _ _ _ _ (wpAny_newFunctionEnv_cells S.kind hkind fun env he s1 x => ?_))
  subst he
  refine ⟨lim.keeps x.toInCall.keep, ?_⟩
  obtain ⟨hh1, tk1, es1, hk1⟩ := x.done
  have same_os : s1.os = s.os := by rw [es1]
  have same_gens : s1.gens = s.gens := by rw [es1]
  have grown : s.heap.objs.size < s1.heap.objs.size := x.toInCall.ns.lt
  have kept1 : ∀ b o, s.heap.get? b = some o → s1.heap.get? b = some o := x.toInCall.keep
  have I1 := inv_startG (E := E0) S hr.hd I.env0 hl r x
  obtain ⟨m, ⟨lo, es, ep, ho, hd, hsk, hm⟩, look⟩ := I1.loc
  have ho' : s1.heap.get? s.heap.objs.size = some lo := ho
  have born : ∀ (go : Obj) (n1 n2 : Value) (tk2 : Nat), go.cls = .type "generator" → go.data = .fields #[.int s1.gens.size 0, n1, n2] → go.slots = #[] → (∀ h : Heap, (h.push go).get? h.objs.size = some go) →
      ∃ (a : Addr) (gi : Nat) (go' lo : Obj) (cd : Value), Value.ref s1.heap.objs.size = .ref a ∧ (∀ h : Heap, h.get? a = some go' → h.IsGen a gi) ∧ s.heap.objs.size < a ∧ gi = s.gens.size ∧ s1.gens.push (.fresh (.func (defBody st) (envOfC qual (defScope st) s.heap.objs.size f cdv))) = s.gens.push (.fresh (.func (defBody st) (envOfC qual (defScope st) s.heap.objs.size f cd))) ∧
        Inv X ((s.heap.objs.size, lo) :: ([(a, go')] ++ pins)) σ H { s1 with gens := s1.gens.push (.fresh (.func (defBody st) (envOfC qual (defScope st) s.heap.objs.size f cdv))), toks := tk2, heap := s1.heap.push go } ∧ GLoc N (envOfC qual (defScope st) s.heap.objs.size f cd) (start N vs) lo := by
    intro go n1 n2 tk2 hgc hgd hgs hgp
    have kp2 : ∀ b o, s.heap.get? b = some o → (s1.heap.push go).get? b = some o := fun b o e => Heap.get?_push_of_some _ (kept1 b o e)
    have I2 : Inv X pins σ H { s1 with gens := s1.gens.push (.fresh (.func (defBody st) (envOfC qual (defScope st) s.heap.objs.size f cdv))), toks := tk2, heap := s1.heap.push go } :=
      I.call' (ch := []) same_os (Un.kept kp2) (I.hok.kept kp2) (AllBare.push (by rw [same_gens]; exact I.bare) rfl) fun b z => by simp at z
    refine ⟨s1.heap.objs.size, s1.gens.size, go, lo, cdv, rfl, fun h e => ⟨go, n1, n2, e, hgc, hgd, hgs⟩, grown, (by rw [same_gens]), (by rw [same_gens]), I2.pins_of fun p hp => ?_, fun h e => ⟨m, ⟨lo, es, ep, e, hd, hsk, hm⟩, fun i y v a1 a2 a3 => ?_⟩⟩
    · rcases List.mem_cons.1 hp with rfl | hp
      · exact ⟨Heap.get?_push_of_some _ ho', I1.free, fun e => Nat.lt_irrefl _ (e ▸ I.lt), I.nofs (Nat.le_refl _), fun v q => by rw [hd] at q; cases q⟩
      · rcases List.mem_append.1 hp with hp | hp
        · rw [(List.mem_singleton.mp hp)]
          exact ⟨hgp _, I1.hok.fresh (Nat.le_refl _), fun e => (by
          have e' : s1.heap.objs.size = X.env.locals := e
          have l := I.lt
          rw [← e'] at l
          exact Nat.lt_asymm grown l), I.nofs (Nat.le_of_lt grown), fun v q => by rw [hgd] at q; cases q⟩
        · exact I2.pin p (List.mem_append_right _ hp)
    · obtain ⟨u, ru, lk⟩ := look i y v a1 a2 a3
      refine ⟨u, ru, lk.imp (fun z => z) fun ⟨z1, c, z2, z3⟩ => ?_⟩
      have z4 : (cellsFrom (s.heap.objs.size + 1) (defScope st).names []).lookup y = some c := z2
      rw [nc.cl] at z4
      cases z4
  exact born _ _ _ _ rfl rfl rfl (fun _ => Heap.get?_push_size _ rfl)
end
/-! ### pinned things written -/
section
variable {X : Cx} {L L' : List (Addr × Obj)} {σ : L2.St} {H : Hp} {s : Shared} {q z TO T : Addr} {h' : Heap}
theorem pin_fp {p : Addr × Obj} (fp : FpOk X [] H p.1) (e : s.heap.get? p.1 = some p.2) (nc : ∀ v, p.2.data ≠ .cell v) : s.heap.get? p.1 = some p.2 ∧ H p.1 = none ∧ p.1 ≠ X.env.locals ∧ p.1 ∉ X.fs ∧ ∀ v, p.2.data ≠ .cell v := ⟨e, fp.1, fp.2.1, fp.2.2.1, nc⟩
theorem fp_flt (fp : FpOk X [] H q) (P : Addr × Obj → Bool) (h : ∀ p : Addr × Obj, P p = true → p.1 ≠ q) : FpOk X (L.filter P) H q := ⟨fp.1, fp.2.1, fp.2.2.1, fp.2.2.2.1, fp.2.2.2.2.1, fun p hp => (List.mem_append.1 hp).elim (fun w => fp.2.2.2.2.2 p (List.mem_append_left _ w)) fun w => h p (List.mem_filter.mp w).2⟩
/-- one pinned thing written -/
theorem repin {o' : Obj} {t' : Nat} (I : Inv X L σ H s) (fp : FpOk X [] H q) (k : ∀ b o, b ≠ q → s.heap.get? b = some o → h'.get? b = some o) (e : h'.get? q = some o') (nc : ∀ v, o'.data ≠ .cell v) (hL : ∀ p ∈ L', p = (q, o') ∨ (p ∈ L ∧ p.1 ≠ q)) : Inv X L' σ H { s with heap := h', toks := t' } := by
  have I1 : Inv X (L.filter fun p => decide (p.1 ≠ q)) σ H s := I.pins_of fun p hp => I.pin p (List.mem_append_right _ (List.mem_filter.mp hp).1)
  have F := fp_flt (L := L) fp (fun p => decide (p.1 ≠ q)) fun p hp => of_decide_eq_true hp
  refine (I1.turned (t' := t') k F.1 F.2.1 F.2.2.2.1 F.2.2.2.2.1 F.2.2.2.2.2).pins_of fun p hp => ?_
  rcases hL p hp with rfl | ⟨w1, w2⟩
  · exact pin_fp (s := { s with heap := h', toks := t' }) fp e nc
  · obtain ⟨x1, x2⟩ := I.pin p (List.mem_append_right _ w1)
    exact ⟨k _ _ w2 x1, x2⟩
/-- two pinned things written, a tuple laid -/
theorem repin2 {oz oO : Obj} {t' : Nat} {xs : List V} (I : Inv X L σ H s) (fz : FpOk X [] H z) (fO : FpOk X [] H TO) (k : ∀ b o, b ≠ z → b ≠ TO → s.heap.get? b = some o → h'.get? b = some o) (ez : h'.get? z = some oz) (eO : h'.get? TO = some oO) (ncz : ∀ v, oz.data ≠ .cell v) (ncO : ∀ v, oO.data ≠ .cell v)
    (hT : s.heap.objs.size ≤ T) (nz : z ≠ T) (nO : TO ≠ T) (new : ObjOk X.prog X.w (upd H T (.tup xs)) h' T (.tup xs)) (hL : ∀ p ∈ L', p = (z, oz) ∨ p = (TO, oO) ∨ (p ∈ L ∧ p.1 ≠ z ∧ p.1 ≠ TO)) : Inv X L' σ (upd H T (.tup xs)) { s with heap := h', toks := t' } := by
  have I1 : Inv X (L.filter fun p => decide (p.1 ≠ z ∧ p.1 ≠ TO)) σ H s := I.pins_of fun p hp => I.pin p (List.mem_append_right _ (List.mem_filter.mp hp).1)
  have Fz := fp_flt (L := L) fz (fun p => decide (p.1 ≠ z ∧ p.1 ≠ TO)) fun p hp => (of_decide_eq_true hp).1
  have FO := fp_flt (L := L) fO (fun p => decide (p.1 ≠ z ∧ p.1 ≠ TO)) fun p hp => (of_decide_eq_true hp).2
  have up : ∀ {q : Addr}, q ≠ T → FpOk X [] H q → FpOk X [] (upd H T (.tup xs)) q := fun n F => ⟨by rw [upd_ne n]; exact F.1, F.2⟩
  refine (I1.turnedNew (t' := t') (ch := [z, TO]) (ob := .tup xs) (fun b o hb e => k b o (fun w => hb (by rw [w]; simp)) (fun w => hb (by rw [w]; simp)) e) (fun b hb => ?_) hT new).pins_of fun p hp => ?_
  · rcases List.mem_cons.1 hb with rfl | hb
    · exact Fz
    · rw [List.mem_singleton.mp hb]; exact FO
  · rcases hL p hp with rfl | rfl | ⟨w1, w2, w3⟩
    · exact pin_fp (s := { s with heap := h', toks := t' }) (up nz fz) ez ncz
    · exact pin_fp (s := { s with heap := h', toks := t' }) (up nO fO) eO ncO
    · obtain ⟨x1, x2, x3⟩ := I.pin p (List.mem_append_right _ w1)
      exact ⟨k _ _ w2 w3 x1, by rw [upd_ne (show p.1 ≠ T from fun w => Nat.lt_irrefl T (Nat.lt_of_lt_of_le (by rw [← w]; exact Heap.lt_size x1) hT))]; exact x2, x3⟩
end
/-! ### list(zip(g1, g2)): what is pinned meanwhile -/
abbrev prO (a b : Value) : Obj := { cls := .type "tuple", data := .seq #[a, b] }
abbrev zpO (TI TO : Addr) (f0 : Value) (f : Bool) : Obj := { cls := .type "zip", dict := none, data := .fields #[f0, .bool f, .bool false, .ref TI, .ref TO], slots := #[] }
/-- places: the two generators' names, the generators, the zip's two tuples, the zip -/
structure Zl where
  n1 : Nat
  g1 : Nat
  n2 : Nat
  g2 : Nat
  TI : Nat
  TO : Nat
  z : Nat
  o1 : Obj
  o2 : Obj
structure Zl.Ok (l : Zl) (pins : List (Addr × Obj)) : Prop where
  a : l.n1 < l.g1
  b : l.g1 < l.n2
  c : l.n2 < l.g2
  d : l.g2 < l.TI
  e : l.TI < l.TO
  f : l.TO < l.z
  p : ∀ p ∈ pins, @LT.lt Nat _ p.1 l.n1
def Zl.pn1 (l : Zl) (lo2 oO oz : Obj) : List (Addr × Obj) := [(l.g1, l.o1), (l.n2, lo2), (l.g2, l.o2), (l.TI, prO (.ref l.g1) (.ref l.g2)), (l.TO, oO), (l.z, oz)]
def Zl.pn2 (l : Zl) (oO oz : Obj) : List (Addr × Obj) := [(l.g2, l.o2), (l.TI, prO (.ref l.g1) (.ref l.g2)), (l.TO, oO), (l.z, oz)]
def Zl.ps (l : Zl) (pins : List (Addr × Obj)) (lo1 lo2 oO oz : Obj) : List (Addr × Obj) := (l.n1, lo1) :: (l.pn1 lo2 oO oz ++ pins)
def Zl.pn2p (l : Zl) (pins : List (Addr × Obj)) (lo1 : Obj) : List (Addr × Obj) := (l.n1, lo1) :: (l.g1, l.o1) :: pins
section
variable {X : Cx} {pins : List (Addr × Obj)} {σ : L2.St} {H : Hp} {s : Shared} {l : Zl} {lo1 lo2 oO oz oO' oz' : Obj} {h' : Heap}
theorem Zl.mem {p : Addr × Obj} : p ∈ l.ps pins lo1 lo2 oO oz ↔ p = (l.n1, lo1) ∨ p = (l.g1, l.o1) ∨ p = (l.n2, lo2) ∨ p = (l.g2, l.o2) ∨ p = (l.TI, prO (.ref l.g1) (.ref l.g2)) ∨ p = (l.TO, oO) ∨ p = (l.z, oz) ∨ p ∈ pins := by
  simp only [Zl.ps, Zl.pn1, List.cons_append, List.nil_append, List.mem_cons]
theorem Zl.mem2 {p : Addr × Obj} : p ∈ (l.n2, lo2) :: (l.pn2 oO oz ++ l.pn2p pins lo1) ↔ p = (l.n2, lo2) ∨ p = (l.g2, l.o2) ∨ p = (l.TI, prO (.ref l.g1) (.ref l.g2)) ∨ p = (l.TO, oO) ∨ p = (l.z, oz) ∨ p = (l.n1, lo1) ∨ p = (l.g1, l.o1) ∨ p ∈ pins := by
  simp only [Zl.pn2, Zl.pn2p, List.cons_append, List.nil_append, List.mem_cons]
theorem Zl.to2 (I : Inv X (l.ps pins lo1 lo2 oO oz) σ H s) : Inv X ((l.n2, lo2) :: (l.pn2 oO oz ++ l.pn2p pins lo1)) σ H s := I.pins_of fun p hp => I.pin p (List.mem_append_right _ (Zl.mem.mpr (by
  rcases Zl.mem2.mp hp with h | h | h | h | h | h | h | h
  · exact .inr (.inr (.inl h))
  · exact .inr (.inr (.inr (.inl h)))
  · exact .inr (.inr (.inr (.inr (.inl h))))
  · exact .inr (.inr (.inr (.inr (.inr (.inl h)))))
  · exact .inr (.inr (.inr (.inr (.inr (.inr (.inl h))))))
  · exact .inl h
  · exact .inr (.inl h)
  · exact .inr (.inr (.inr (.inr (.inr (.inr (.inr h)))))))))
theorem Zl.of2 (I : Inv X ((l.n2, lo2) :: (l.pn2 oO oz ++ l.pn2p pins lo1)) σ H s) : Inv X (l.ps pins lo1 lo2 oO oz) σ H s := I.pins_of fun p hp => I.pin p (List.mem_append_right _ (Zl.mem2.mpr (by
  rcases Zl.mem.mp hp with h | h | h | h | h | h | h | h
  · exact .inr (.inr (.inr (.inr (.inr (.inl h)))))
  · exact .inr (.inr (.inr (.inr (.inr (.inr (.inl h))))))
  · exact .inl h
  · exact .inr (.inl h)
  · exact .inr (.inr (.inl h))
  · exact .inr (.inr (.inr (.inl h)))
  · exact .inr (.inr (.inr (.inr (.inl h))))
  · exact .inr (.inr (.inr (.inr (.inr (.inr (.inr h)))))))))
theorem Zl.atz (I : Inv X (l.ps pins lo1 lo2 oO oz) σ H s) : s.heap.get? l.z = some oz ∧ H l.z = none := have h := I.pin (l.z, oz) (List.mem_append_right _ (Zl.mem.mpr (.inr (.inr (.inr (.inr (.inr (.inr (.inl rfl))))))))); ⟨h.1, h.2.1⟩
theorem Zl.atO (I : Inv X (l.ps pins lo1 lo2 oO oz) σ H s) : s.heap.get? l.TO = some oO ∧ H l.TO = none := have h := I.pin (l.TO, oO) (List.mem_append_right _ (Zl.mem.mpr (.inr (.inr (.inr (.inr (.inr (.inl rfl)))))))); ⟨h.1, h.2.1⟩
theorem Zl.atI (I : Inv X (l.ps pins lo1 lo2 oO oz) σ H s) : IsPair s.heap l.TI (.ref l.g1) (.ref l.g2) := (I.pin (l.TI, prO (.ref l.g1) (.ref l.g2)) (List.mem_append_right _ (Zl.mem.mpr (.inr (.inr (.inr (.inr (.inl rfl)))))))).1
theorem Zl.rz {t' : Nat} (k : l.Ok pins) (I : Inv X (l.ps pins lo1 lo2 oO oz) σ H s) (fp : FpOk X [] H l.z) (sb : ∀ b o, b ≠ l.z → s.heap.get? b = some o → h'.get? b = some o) (e : h'.get? l.z = some oz') (nc : ∀ v, oz'.data ≠ .cell v) : Inv X (l.ps pins lo1 lo2 oO oz') σ H { s with heap := h', toks := t' } := by
  obtain ⟨a, b, c, d, e1, f, p⟩ := k
  refine repin I fp sb e nc fun q hq => ?_
  rcases Zl.mem.mp hq with rfl | rfl | rfl | rfl | rfl | rfl | rfl | hq
  · exact .inr ⟨Zl.mem.mpr (.inl rfl), Nat.ne_of_lt (by show l.n1 < l.z; omega)⟩
  · exact .inr ⟨Zl.mem.mpr (.inr (.inl rfl)), Nat.ne_of_lt (by show l.g1 < l.z; omega)⟩
  · exact .inr ⟨Zl.mem.mpr (.inr (.inr (.inl rfl))), Nat.ne_of_lt (by show l.n2 < l.z; omega)⟩
  · exact .inr ⟨Zl.mem.mpr (.inr (.inr (.inr (.inl rfl)))), Nat.ne_of_lt (by show l.g2 < l.z; omega)⟩
  · exact .inr ⟨Zl.mem.mpr (.inr (.inr (.inr (.inr (.inl rfl))))), Nat.ne_of_lt (by show l.TI < l.z; omega)⟩
  · exact .inr ⟨Zl.mem.mpr (.inr (.inr (.inr (.inr (.inr (.inl rfl)))))), Nat.ne_of_lt (by show l.TO < l.z; omega)⟩
  · exact .inl rfl
  · exact .inr ⟨Zl.mem.mpr (.inr (.inr (.inr (.inr (.inr (.inr (.inr hq))))))), Nat.ne_of_lt (by have := p q hq; omega)⟩
theorem Zl.rO {t' : Nat} (k : l.Ok pins) (I : Inv X (l.ps pins lo1 lo2 oO oz) σ H s) (fp : FpOk X [] H l.TO) (sb : ∀ b o, b ≠ l.TO → s.heap.get? b = some o → h'.get? b = some o) (e : h'.get? l.TO = some oO') (nc : ∀ v, oO'.data ≠ .cell v) : Inv X (l.ps pins lo1 lo2 oO' oz) σ H { s with heap := h', toks := t' } := by
  obtain ⟨a, b, c, d, e1, f, p⟩ := k
  refine repin I fp sb e nc fun q hq => ?_
  rcases Zl.mem.mp hq with rfl | rfl | rfl | rfl | rfl | rfl | rfl | hq
  · exact .inr ⟨Zl.mem.mpr (.inl rfl), Nat.ne_of_lt (by show l.n1 < l.TO; omega)⟩
  · exact .inr ⟨Zl.mem.mpr (.inr (.inl rfl)), Nat.ne_of_lt (by show l.g1 < l.TO; omega)⟩
  · exact .inr ⟨Zl.mem.mpr (.inr (.inr (.inl rfl))), Nat.ne_of_lt (by show l.n2 < l.TO; omega)⟩
  · exact .inr ⟨Zl.mem.mpr (.inr (.inr (.inr (.inl rfl)))), Nat.ne_of_lt (by show l.g2 < l.TO; omega)⟩
  · exact .inr ⟨Zl.mem.mpr (.inr (.inr (.inr (.inr (.inl rfl))))), Nat.ne_of_lt (by show l.TI < l.TO; omega)⟩
  · exact .inl rfl
  · exact .inr ⟨Zl.mem.mpr (.inr (.inr (.inr (.inr (.inr (.inr (.inl rfl))))))), Nat.ne_of_gt (by show l.TO < l.z; omega)⟩
  · exact .inr ⟨Zl.mem.mpr (.inr (.inr (.inr (.inr (.inr (.inr (.inr hq))))))), Nat.ne_of_lt (by have := p q hq; omega)⟩
theorem Zl.rT {t' : Nat} {T : Addr} {xs : List V} (k : l.Ok pins) (I : Inv X (l.ps pins lo1 lo2 oO oz) σ H s) (fz : FpOk X [] H l.z) (fO : FpOk X [] H l.TO) (sb : ∀ b o, b ≠ l.z → b ≠ l.TO → s.heap.get? b = some o → h'.get? b = some o) (ez : h'.get? l.z = some oz') (eO : h'.get? l.TO = some oO') (ncz : ∀ v, oz'.data ≠ .cell v) (ncO : ∀ v, oO'.data ≠ .cell v)
    (hT : s.heap.objs.size ≤ T) (new : ObjOk X.prog X.w (upd H T (.tup xs)) h' T (.tup xs)) : Inv X (l.ps pins lo1 lo2 oO' oz') σ (upd H T (.tup xs)) { s with heap := h', toks := t' } := by
  have nz : l.z ≠ T := Nat.ne_of_lt (Nat.lt_of_lt_of_le (Heap.lt_size (Zl.atz I).1) hT)
  have nO : l.TO ≠ T := Nat.ne_of_lt (Nat.lt_of_lt_of_le (Heap.lt_size (Zl.atO I).1) hT)
  obtain ⟨a, b, c, d, e1, f, p⟩ := k
  refine repin2 I fz fO sb ez eO ncz ncO hT nz nO new fun q hq => ?_
  rcases Zl.mem.mp hq with rfl | rfl | rfl | rfl | rfl | rfl | rfl | hq
  · exact .inr (.inr ⟨Zl.mem.mpr (.inl rfl), Nat.ne_of_lt (by show l.n1 < l.z; omega), Nat.ne_of_lt (by show l.n1 < l.TO; omega)⟩)
  · exact .inr (.inr ⟨Zl.mem.mpr (.inr (.inl rfl)), Nat.ne_of_lt (by show l.g1 < l.z; omega), Nat.ne_of_lt (by show l.g1 < l.TO; omega)⟩)
  · exact .inr (.inr ⟨Zl.mem.mpr (.inr (.inr (.inl rfl))), Nat.ne_of_lt (by show l.n2 < l.z; omega), Nat.ne_of_lt (by show l.n2 < l.TO; omega)⟩)
  · exact .inr (.inr ⟨Zl.mem.mpr (.inr (.inr (.inr (.inl rfl)))), Nat.ne_of_lt (by show l.g2 < l.z; omega), Nat.ne_of_lt (by show l.g2 < l.TO; omega)⟩)
  · exact .inr (.inr ⟨Zl.mem.mpr (.inr (.inr (.inr (.inr (.inl rfl))))), Nat.ne_of_lt (by show l.TI < l.z; omega), Nat.ne_of_lt (by show l.TI < l.TO; omega)⟩)
  · exact .inr (.inl rfl)
  · exact .inl rfl
  · exact .inr (.inr ⟨Zl.mem.mpr (.inr (.inr (.inr (.inr (.inr (.inr (.inr hq))))))), Nat.ne_of_lt (by have := p q hq; omega), Nat.ne_of_lt (by have := p q hq; omega)⟩)
/-- all let go but what was there -/
theorem Zl.fin {t' : Nat} {L : List (Addr × Obj)} (k : l.Ok pins) (I : Inv X L σ H s) (hL : ∀ p ∈ pins, p ∈ L) (fp : FpOk X [] H l.z) (sb : ∀ b o, b ≠ l.z → s.heap.get? b = some o → h'.get? b = some o) : Inv X pins σ H { s with heap := h', toks := t' } := by
  obtain ⟨a, b, c, d, e1, f, p⟩ := k
  have I1 : Inv X pins σ H s := I.pins_of fun q hq => I.pin q (List.mem_append_right _ (hL q hq))
  refine I1.turned (t' := t') sb fp.1 fp.2.1 fp.2.2.2.1 fp.2.2.2.2.1 fun q hq => ?_
  rcases List.mem_append.1 hq with w | w
  · exact fp.2.2.2.2.2 q (List.mem_append_left _ w)
  · exact Nat.ne_of_lt (by have := p q w; omega)
end
/-! ### list(zip(g1, g2)): draw by draw -/
def prs (b1 b2 : Bk) : List PyData := ((b1.rws 0 0).zip (b2.rws 0 0)).map fun p => .tuple [rwD p.1, rwD p.2]
theorem prs_take {b1 b2 : Bk} {i : Nat} {r1 r2 : Rw} (h1 : (b1.rws 0 0)[i]? = some r1) (h2 : (b2.rws 0 0)[i]? = some r2) : (prs b1 b2).take (i + 1) = (prs b1 b2).take i ++ [.tuple [rwD r1, rwD r2]] := by
  have e : ((b1.rws 0 0).zip (b2.rws 0 0))[i]? = some (r1, r2) := List.getElem?_zip_eq_some.mpr ⟨h1, h2⟩
  rw [List.take_add_one]
  unfold prs
  rw [List.getElem?_map, e]
  rfl
theorem prs_len (b1 b2 : Bk) : (prs b1 b2).length = min (b1.rws 0 0).length (b2.rws 0 0).length := by
  unfold prs
  rw [List.length_map, List.length_zip]
theorem AtE.keep {b : Bk} {a D : Addr} {H H' : Hp} {i : Nat} {σ : L2.St} (h : AtE b a D H i σ) (k : Tk H H') (e : ∀ xs, H D = some (.lst xs) → H' D = some (.lst xs)) : AtE b a D H' i σ := by
  obtain ⟨d, st, x, ws, o5, o6, rfl, ⟨vals, h1, h2⟩, t, hr, hk⟩ := h
  exact ⟨d, st, x, ws, o5, o6, rfl, ⟨vals, e _ h1, h2.keep k⟩, t.keep k, hr, hk⟩
theorem AtE.lst {b : Bk} {a D : Addr} {H : Hp} {i : Nat} {σ : L2.St} (h : AtE b a D H i σ) : ∃ xs, H D = some (.lst xs) := by
  obtain ⟨d, st, x, ws, o5, o6, rfl, ⟨vals, h1, h2⟩, t, hr, hk⟩ := h
  exact ⟨_, h1⟩
theorem rws_lt {b : Bk} {i : Nat} {r : Rw} (h : (b.rws 0 0)[i]? = some r) : i < b.sz := by
  have e := Bk.rws_len b 0 0
  have z := (List.getElem?_eq_some_iff.mp h).1
  omega
structure ZW (X : Cx) (pins : List (Addr × Obj)) (A : Around) (f : Addr) (cd1 cd2 : Value) (l : Zl) (gi1 gi2 : Nat) (S : Addr) (b1 b2 : Bk) (H0 : Hp) : Prop where
  ok : l.Ok pins
  W1 : ∀ lo2 oO oz, Gn X pins (defScope sPEachStatement) l.n1 (l.pn1 lo2 oO oz) A.in1
  W2 : ∀ lo1 oO oz, Gn X (l.pn2p pins lo1) (defScope sPEachStatement) l.n2 (l.pn2 oO oz) A.in1
  R1 : ∀ pn s H, RulesE X A.in1 f l.n1 cd1 pn s H
  R2 : ∀ pn s H, RulesE X A.in1 f l.n2 cd2 pn s H
  G1 : ∀ h : Heap, h.get? l.g1 = some l.o1 → h.IsGen l.g1 gi1
  G2 : ∀ h : Heap, h.get? l.g2 = some l.o2 → h.IsGen l.g2 gi2
  hh : A.handled = none
  room : A.depth < recursionLimit
  ne : gi1 ≠ gi2
  fz : ∀ H' : Hp, H' l.z = none → FpOk X [] H' l.z
  fO : ∀ H' : Hp, H' l.TO = none → FpOk X [] H' l.TO
  z1 : b1.sz < 16777216
  z2 : b2.sz < 16777216
  S0 : H0 S = none
section
variable {X : Cx} {pins : List (Addr × Obj)} {σ : L2.St} {A : Around} {f : Addr} {cd1 cd2 : Value} {l : Zl} {gi1 gi2 : Nat} {S p1 p2 : Addr} {b1 b2 : Bk} {H0 : Hp} {s : Shared}
def ZJ (X : Cx) (pins : List (Addr × Obj)) (σ : L2.St) (f : Addr) (cd1 cd2 : Value) (l : Zl) (gi1 gi2 : Nat) (S p1 p2 : Addr) (b1 b2 : Bk) (H0 : Hp) : Nat → Shared → Prop
  | 0, s => ∃ lo1 lo2 H', Inv X (l.ps pins lo1 lo2 (prO .none .none) (zpO l.TI l.TO .none false)) σ H' s ∧ GLoc nPEachStatement (envE l.n1 f cd1) (start nPEachStatement [.ref p1]) lo1 ∧ GLoc nPEachStatement (envE l.n2 f cd2) (start nPEachStatement [.ref p2]) lo2 ∧
    H' S = some (.lst []) ∧ Sx [] H0 H' ∧ Tp H' (.ref p1) (.tuple b1.ds) ∧ Tp H' (.ref p2) (.tuple b2.ds) ∧ s.gens[gi1]? = some (.fresh (cfE l.n1 f cd1)) ∧ s.gens[gi2]? = some (.fresh (cfE l.n2 f cd2))
  | i + 1, s => ∃ (lo1 lo2 : Obj) (x y : Value) (fl : Bool) (T0 D1 D2 : Addr) (σ1 σ2 : L2.St) (H' : Hp) (vals : List V), Inv X (l.ps pins lo1 lo2 (prO x y) (zpO l.TI l.TO (rawInt T0) fl)) σ H' s ∧ GLoc nPEachStatement (envE l.n1 f cd1) σ1 lo1 ∧ σ1.length = nPEachStatement.length ∧ GLoc nPEachStatement (envE l.n2 f cd2) σ2 lo2 ∧ σ2.length = nPEachStatement.length ∧
    AtE b1 p1 D1 H' i σ1 ∧ AtE b2 p2 D2 H' i σ2 ∧ D1 ≠ D2 ∧ S ≠ D1 ∧ S ≠ D2 ∧ H0 D1 = none ∧ H0 D2 = none ∧ H' S = some (.lst vals) ∧ TpAll H' vals ((prs b1 b2).take (i + 1)) ∧ vals.length = i + 1 ∧ Sx [] H0 H' ∧ (∃ xs, H' T0 = some (.tup xs)) ∧ SuAt s.gens gi1 l.n1 f cd1 ∧ SuAt s.gens gi2 l.n2 f cd2
def FinZ (X : Cx) (pins : List (Addr × Obj)) (σ : L2.St) (S : Addr) (b1 b2 : Bk) (H0 : Hp) (s : Shared) : Prop := ∃ H' vals, Inv X pins σ H' s ∧ Sx [] H0 H' ∧ H' S = some (.lst vals) ∧ TpAll H' vals (prs b1 b2)
theorem zput {L : List (Addr × Obj)} {H5 : Hp} {vals : List V} {x : V} {v : Value} (I : Inv X L σ H5 s) (hS : H5 S = some (.lst vals)) (hl : vals.length < 16777216) (r : RelV x v) :
    ∃ acc c, s.heap.get? S = some (lstObj acc c) ∧ acc.size < sizeLine ∧ Inv X L σ (upd H5 S (.lst (vals ++ [x]))) { s with heap := s.heap.update S (Obj.mapSeq (·.push v)) } := by
  obtain ⟨z, its, n, rr, hlen, e⟩ := I.lstM hS
  have se : sizeLine = 16777216 := sizeLine_eq
  refine ⟨its.toArray, n, e, by rw [List.size_toArray]; omega, I.lset (its' := its ++ [v]) (t' := s.toks) hS e (by simp) (rr.append (.cons r .nil)) (by rw [List.length_append, List.length_singleton]; omega)⟩
/-- what stands behind a draw: the pair laid, the list longer -/
theorem zlaid {H4 : Hp} {s4 : Shared} {h' : Heap} {lo1 lo2 oO oz : Obj} {x y : V} {u v : Value} {vals : List V} (Z : ZW X pins A f cd1 cd2 l gi1 gi2 S b1 b2 H0) (I4 : Inv X (l.ps pins lo1 lo2 oO oz) σ H4 s4) {fl : Bool} {f0 : Value} (ru : RelV x u) (rv : RelV y v) (hz : h'.get? l.z = some (zpO l.TI l.TO f0 fl)) {p q : Value} (hO : h'.get? l.TO = some (prO p q)) (hT : IsPair h' s4.heap.objs.size u v)
    (kp : ∀ c o, c ≠ l.z → c ≠ l.TO → s4.heap.get? c = some o → h'.get? c = some o) (hS : H4 S = some (.lst vals)) (hl : vals.length < 16777216) :
    H4 s4.heap.objs.size = none ∧ ∃ acc c, h'.get? S = some (lstObj acc c) ∧ acc.size < sizeLine ∧ Inv X (l.ps pins lo1 lo2 (prO p q) (zpO l.TI l.TO f0 fl)) σ (upd (upd H4 s4.heap.objs.size (.tup [x, y])) S (.lst (vals ++ [.ref s4.heap.objs.size]))) { s4 with heap := h'.update S (Obj.mapSeq (·.push (.ref s4.heap.objs.size))) } := by
  have fr : H4 s4.heap.objs.size = none := I4.hok.fresh (Nat.le_refl _)
  have I5 : Inv X (l.ps pins lo1 lo2 (prO p q) (zpO l.TI l.TO f0 fl)) σ (upd H4 s4.heap.objs.size (.tup [x, y])) { s4 with heap := h' } := Zl.rT (t' := s4.toks) Z.ok I4 (Z.fz H4 (Zl.atz I4).2) (Z.fO H4 (Zl.atO I4).2) kp hz hO (fun _ z => nomatch z) (fun _ z => nomatch z) (Nat.le_refl _) ⟨by show 2 ≤ sizeLine; decide, [u, v], .cons ru (.cons rv .nil), ⟨_, hT, rfl, _, rfl⟩⟩
  have hS5 : (upd H4 s4.heap.objs.size (.tup [x, y])) S = some (.lst vals) := by rw [upd_ne (fun e => by rw [e, fr] at hS; cases hS)]; exact hS
  exact ⟨fr, zput I5 hS5 hl rfl⟩
end
theorem SuAt.of {G G' : Array GenState} {gi n : Nat} {f : Addr} {cd : Value} (h : SuAt G gi n f cd) (e : ∀ y, G[gi]? = some y → y.status = .suspended → G'[gi]? = some y) : SuAt G' gi n f cd := by
  obtain ⟨k, l, p, p', kk, cl, h1, h2, h3⟩ := h
  exact ⟨k, l, p, p', kk, cl, e _ h1 rfl, h2, h3⟩
theorem up2 {H4 : Hp} {T S D : Addr} {xs : List V} {o o' : HO} (e : H4 D = some (.lst xs)) (fr : H4 T = none) (n : D ≠ S) : (upd (upd H4 T o) S o') D = some (.lst xs) := by
  rw [upd_ne n, upd_ne (fun z => by rw [z, fr] at e; cases e)]
  exact e
theorem stop_ne {h : Heap} {z e0 TI TO : Addr} {f0 : Value} {fl : Bool} {o : Obj} (hz : h.get? z = some (zpO TI TO f0 fl)) (ho : h.get? e0 = some o) (hc : o.cls = .type "StopIteration") : e0 ≠ z := fun e => by
  rw [e, hz] at ho
  cases ho
  exact absurd (show Value.type "zip" = Value.type "StopIteration" from hc) (by decide)
section
variable {X : Cx} {pins : List (Addr × Obj)} {σ : L2.St} {A1 : Around} {f : Addr} {cd1 cd2 : Value} {l : Zl} {gi1 gi2 : Nat} {S p1 p2 : Addr} {b1 b2 : Bk} {H0 : Hp} {s : Shared}
theorem zstep0 (Z : ZW X pins A1.in1 f cd1 cd2 l gi1 gi2 S b1 b2 H0) (J : ZJ X pins σ f cd1 cd2 l gi1 gi2 S p1 p2 b1 b2 H0 0 s) :
    wpAny (model X.prog X.w) A1 (pyNext (.ref l.z)) (fun r s1 => match r with
      | some v => 0 < (prs b1 b2).length ∧ ∃ acc c, s1.heap.get? S = some (lstObj acc c) ∧ acc.size < sizeLine ∧ ZJ X pins σ f cd1 cd2 l gi1 gi2 S p1 p2 b1 b2 H0 (0 + 1) { s1 with heap := s1.heap.update S (Obj.mapSeq (·.push v)) }
      | none => FinZ X pins σ S b1 b2 H0 s1) (fun _ _ => False) s := by
  obtain ⟨lo1, lo2, H1, I, gl1, gl2, hS, s0, t1, t2, e1, e2⟩ := J
  have hz := (Zl.atz I).1
  refine pyNext_zip hz (zipn_own (i1 := l.g1) (i2 := l.g2) hz (Zl.atI I) (Zl.atO I).1 (Nat.ne_of_lt Z.ok.f) fun h1 hz1 hO1 sb1 => ?_)
  have IA : Inv X (l.ps pins lo1 lo2 (prO .none .none) (zpO l.TI l.TO .ellipsis false)) σ H1 { s with heap := h1 } := Zl.rz (t' := s.toks) Z.ok I (Z.fz H1 (Zl.atz I).2) (fun b o n e => sb1.extBut b o n e) hz1 (fun _ z => nomatch z)
  refine wpAny_mono (nx_first Z.hh Z.room (Z.W1 _ _ _) (Z.R1 _) IA gl1 (by simp [Zl.pn1]) Z.G1 e1 t1 Z.z1) (fun v s2 q => ?_) (fun e s2 q => ?_)
  · obtain ⟨x, lo1', σ1, H2, rx, I2, g1', hl1, ⟨D1, r1, hD1, s12, hr1, tx, at1⟩, su1, oth⟩ := q
    have I2 : Inv X (l.ps pins lo1' lo2 (prO .none .none) (zpO l.TI l.TO .ellipsis false)) σ H2 s2 := I2
    refine ⟨(Zl.atO I2).1, fun h3 hO3 sb3 => ?_⟩
    have I3 : Inv X (l.ps pins lo1' lo2 (prO v .none) (zpO l.TI l.TO .ellipsis false)) σ H2 { s2 with heap := h3 } := Zl.rO (t' := s2.toks) Z.ok I2 (Z.fO H2 (Zl.atO I2).2) (fun b o n e => sb3.extBut b o n e) hO3 (fun _ z => nomatch z)
    refine wpAny_mono (nx_first Z.hh Z.room (Z.W2 _ _ _) (Z.R2 _) (Zl.to2 I3) gl2 (by simp [Zl.pn2]) Z.G2 ((oth gi2 (Ne.symm Z.ne)).trans e2) (t2.keep s12.tk0) Z.z2) (fun w s4 q => ?_) (fun e s4 q => ?_)
    · obtain ⟨y, lo2', σ2, H4, ry, I4, g2', hl2, ⟨D2, r2, hD2, s34, hr2, ty, at2⟩, su2, oth2⟩ := q
      have I4 := Zl.of2 I4
      refine ⟨(Zl.atz I4).1, (Zl.atO I4).1, fun h' hz' hO' hT' sz' kp' => ?_⟩
      have hS2 : H2 S = some (.lst []) := s12 _ _ (by simp) hS
      have hS4 : H4 S = some (.lst []) := s34 _ _ (by simp) hS2
      obtain ⟨fr, acc, c, a1, a2, I6⟩ := zlaid Z I4 rx ry hz' hO' hT' kp' hS4 (by decide)
      have nST : s4.heap.objs.size ≠ S := fun e => by rw [e, hS4] at fr; cases fr
      have tk : Tk H4 (upd (upd H4 s4.heap.objs.size (.tup [x, y])) S (.lst ([] ++ [.ref s4.heap.objs.size]))) := (Sx.n0 fr).tk0.trans (Tk.lst (by rw [upd_ne (Ne.symm nST)]; exact hS4))
      have nD1 : S ≠ D1 := fun e => by rw [← e, hS] at hD1; cases hD1
      have nD2 : S ≠ D2 := fun e => by rw [← e, hS2] at hD2; cases hD2
      obtain ⟨q1, hq1⟩ := at1.lst
      obtain ⟨q2, hq2⟩ := at2.lst
      have nD : D1 ≠ D2 := fun e => by rw [← e, hq1] at hD2; cases hD2
      refine ⟨?_, acc, c, a1, a2, lo1', lo2', v, w, false, s4.heap.objs.size, D1, D2, σ1, σ2, _, _, I6, g1', hl1, g2', hl2, at1.keep (s34.tk0.trans tk) fun xs e => up2 (s34 _ _ (by simp) e) fr nD1.symm, at2.keep tk fun xs e => up2 e fr nD2.symm, nD, nD1, nD2, s0.free (by simp) hD1, (s0.trans s12).free (by simp) hD2, upd_same, ?_, rfl,
        (((s0.trans s12).trans s34).new fr).own Z.S0, ⟨_, by rw [upd_ne nST, upd_same]⟩, su1.of fun y h1 _ => (oth2 gi1 Z.ne).trans h1, su2⟩
      · have a := (List.getElem?_eq_some_iff.mp hr1).1
        have b := (List.getElem?_eq_some_iff.mp hr2).1
        rw [prs_len]
        omega
      · rw [prs_take hr1 hr2]
        exact .cons (.tup (by rw [upd_ne nST, upd_same]) (.cons (tx.keep (s34.tk0.trans tk)) (.cons (ty.keep tk) .nil))) .nil
    · obtain ⟨e0, rfl, ⟨o, ho, hc⟩, H4, I4, s34, hr⟩ := q
      have pz := I4.pin (l.z, zpO l.TI l.TO .ellipsis false) (List.mem_append_right _ (by simp [Zl.pn2]))
      refine ⟨pz.1, fun h' sb => ⟨e0, o, rfl, sb.extBut e0 o (stop_ne pz.1 ho hc) ho, hc, H4, [], Zl.fin (t' := s4.toks) Z.ok I4 (fun p hp => by simp [Zl.pn2, Zl.pn2p, hp]) (Z.fz H4 pz.2.1) (fun b o n e => sb.extBut b o n e), (s0.trans s12).trans s34, s34 _ _ (by simp) (s12 _ _ (by simp) hS), ?_⟩⟩
      have e : prs b1 b2 = [] := List.length_eq_zero_iff.mp (by rw [prs_len, hr]; simp)
      rw [e]
      exact .nil
  · obtain ⟨e0, rfl, ⟨o, ho, hc⟩, H2, I2, s12, hr⟩ := q
    have pz := I2.pin (l.z, zpO l.TI l.TO .ellipsis false) (List.mem_append_right _ (by simp [Zl.pn1]))
    refine ⟨pz.1, fun h' sb => ⟨e0, o, rfl, sb.extBut e0 o (stop_ne pz.1 ho hc) ho, hc, H2, [], Zl.fin (t' := s2.toks) Z.ok I2 (fun p hp => by simp [Zl.pn1, hp]) (Z.fz H2 pz.2.1) (fun b o n e => sb.extBut b o n e), s0.trans s12, s12 _ _ (by simp) hS, ?_⟩⟩
    have e : prs b1 b2 = [] := List.length_eq_zero_iff.mp (by rw [prs_len, hr]; simp)
    rw [e]
    exact .nil
end
section
variable {X : Cx} {pins : List (Addr × Obj)} {σ : L2.St} {A1 : Around} {f : Addr} {cd1 cd2 : Value} {l : Zl} {gi1 gi2 : Nat} {S p1 p2 : Addr} {b1 b2 : Bk} {H0 : Hp} {s : Shared} {i : Nat}
theorem zstepS (Z : ZW X pins A1.in1 f cd1 cd2 l gi1 gi2 S b1 b2 H0) (J : ZJ X pins σ f cd1 cd2 l gi1 gi2 S p1 p2 b1 b2 H0 (i + 1) s) :
    wpAny (model X.prog X.w) A1 (pyNext (.ref l.z)) (fun r s1 => match r with
      | some v => i + 1 < (prs b1 b2).length ∧ ∃ acc c, s1.heap.get? S = some (lstObj acc c) ∧ acc.size < sizeLine ∧ ZJ X pins σ f cd1 cd2 l gi1 gi2 S p1 p2 b1 b2 H0 (i + 1 + 1) { s1 with heap := s1.heap.update S (Obj.mapSeq (·.push v)) }
      | none => FinZ X pins σ S b1 b2 H0 s1) (fun _ _ => False) s := by
  obtain ⟨lo1, lo2, x0, y0, fl, T0, D1, D2, σ1, σ2, H1, vals, I, g1, hl1, g2, hl2, at1, at2, D12, SD1, SD2, HD1, HD2, hS, tv, lv, s0, ⟨xs0, hT0⟩, su1, su2⟩ := J
  have hz := (Zl.atz I).1
  obtain ⟨q1, hq1⟩ := at1.lst
  obtain ⟨q2, hq2⟩ := at2.lst
  obtain ⟨its0, rv0, ⟨oT, hoT, _⟩, _⟩ := I.tuple (SqT.of hT0)
  refine pyNext_zip hz (zipn_held (T := T0) (f := fl) (i1 := l.g1) (i2 := l.g2) hz hoT (Zl.atI I) fun h1 hz1 sb1 => ?_)
  have IA : Inv X (l.ps pins lo1 lo2 (prO x0 y0) (zpO l.TI l.TO (rawInt T0) true)) σ H1 { s with heap := h1 } := Zl.rz (t' := s.toks) Z.ok I (Z.fz H1 (Zl.atz I).2) (fun b o n e => sb1.extBut b o n e) hz1 (fun _ z => nomatch z)
  refine wpAny_mono (nx_next Z.hh Z.room (Z.W1 _ _ _) (Z.R1 _) IA g1 hl1 (by simp [Zl.pn1]) Z.G1 su1 at1 Z.z1) (fun v s2 q => ?_) (fun e s2 q => ?_)
  · obtain ⟨x, lo1', σ1', H2, rx, I2, g1', hl1', ⟨r1, s12, hr1, tx, at1'⟩, su1', oth⟩ := q
    have I2 : Inv X (l.ps pins lo1' lo2 (prO x0 y0) (zpO l.TI l.TO (rawInt T0) true)) σ H2 s2 := I2
    have k12 : Tk H1 H2 := s12.tk fun b hb => by rw [List.mem_singleton.mp hb]; exact ⟨_, hq1⟩
    have at2' : AtE b2 p2 D2 H2 i σ2 := at2.keep k12 fun xs e => s12 _ _ (by simp [D12.symm]) e
    refine wpAny_mono (nx_next Z.hh Z.room (Z.W2 _ _ _) (Z.R2 _) (Zl.to2 I2) g2 hl2 (by simp [Zl.pn2]) Z.G2 (su2.of fun y h1 h2 => oth gi2 (Ne.symm Z.ne) y h1 h2) at2' Z.z2) (fun w s4 q => ?_) (fun e s4 q => ?_)
    · obtain ⟨y, lo2', σ2', H4, ry, I4, g2', hl2', ⟨r2, s34, hr2, ty, at2''⟩, su2', oth2⟩ := q
      have I4 := Zl.of2 I4
      have hS2 : H2 S = some (.lst vals) := s12 _ _ (by simp [SD1]) hS
      have hS4 : H4 S = some (.lst vals) := s34 _ _ (by simp [SD2]) hS2
      obtain ⟨q22, hq22⟩ := at2'.lst
      have k24 : Tk H2 H4 := s34.tk fun b hb => by rw [List.mem_singleton.mp hb]; exact ⟨_, hq22⟩
      have lt1 := rws_lt hr1
      have z1 := Z.z1
      obtain ⟨fr, acc, c, a1, a2, I6⟩ := zlaid Z I4 rx ry (h' := s4.heap.push { cls := .type "tuple", data := .seq #[v, w] }) (Heap.get?_push_of_some _ (Zl.atz I4).1) (Heap.get?_push_of_some _ (Zl.atO I4).1) (Heap.get?_push_size _ rfl) (fun b o _ _ e => Heap.get?_push_of_some _ e) hS4 (by omega)
      have nST : s4.heap.objs.size ≠ S := fun e => by rw [e, hS4] at fr; cases fr
      have tk : Tk H4 (upd (upd H4 s4.heap.objs.size (.tup [x, y])) S (.lst (vals ++ [.ref s4.heap.objs.size]))) := (Sx.n0 fr).tk0.trans (Tk.lst (by rw [upd_ne (Ne.symm nST)]; exact hS4))
      refine ⟨?_, acc, c, a1, a2, lo1', lo2', x0, y0, true, T0, D1, D2, σ1', σ2', _, _, I6, g1', hl1', g2', hl2', at1'.keep (k24.trans tk) fun xs e => up2 (s34 _ _ (by simp [D12]) e) fr SD1.symm, at2''.keep tk fun xs e => up2 e fr SD2.symm, D12, SD1, SD2, HD1, HD2, upd_same, ?_, by rw [List.length_append, lv]; rfl,
        (((s0.step s12 fun x hx => by rw [List.mem_singleton.mp hx]; exact .inr HD1).step s34 fun x hx => by rw [List.mem_singleton.mp hx]; exact .inr HD2).new fr).own Z.S0, ⟨xs0, (k12.trans (k24.trans tk)) _ _ hT0⟩, su1'.of fun y h1 h2 => oth2 gi1 Z.ne y h1 h2, su2'⟩
      · have a := (List.getElem?_eq_some_iff.mp hr1).1
        have b := (List.getElem?_eq_some_iff.mp hr2).1
        rw [prs_len]
        omega
      · rw [prs_take hr1 hr2]
        exact (tv.keep (k12.trans (k24.trans tk))).append (.cons (.tup (by rw [upd_ne nST, upd_same]) (.cons (tx.keep (k24.trans tk)) (.cons (ty.keep tk) .nil))) .nil)
    · obtain ⟨e0, rfl, ⟨o, ho, hc⟩, H4, I4, s34, hr⟩ := q
      obtain ⟨q22, hq22⟩ := at2'.lst
      have k24 : Tk H2 H4 := s34.tk fun b hb => by rw [List.mem_singleton.mp hb]; exact ⟨_, hq22⟩
      refine ⟨e0, o, rfl, ho, hc, H4, vals, I4.pins_of fun p hp => I4.pin p (List.mem_append_right _ (by simp [Zl.pn2, Zl.pn2p, hp])), (s0.step s12 fun x hx => by rw [List.mem_singleton.mp hx]; exact .inr HD1).step s34 fun x hx => by rw [List.mem_singleton.mp hx]; exact .inr HD2, s34 _ _ (by simp [SD2]) (s12 _ _ (by simp [SD1]) hS), ?_⟩
      have e : (prs b1 b2).take (i + 1) = prs b1 b2 := List.take_of_length_le (by rw [prs_len, hr]; omega)
      rw [e] at tv
      exact tv.keep (k12.trans k24)
  · obtain ⟨e0, rfl, ⟨o, ho, hc⟩, H2, I2, s12, hr⟩ := q
    have k12 : Tk H1 H2 := s12.tk fun b hb => by rw [List.mem_singleton.mp hb]; exact ⟨_, hq1⟩
    refine ⟨e0, o, rfl, ho, hc, H2, vals, I2.pins_of fun p hp => I2.pin p (List.mem_append_right _ (by simp [Zl.pn1, hp])), s0.step s12 fun x hx => by rw [List.mem_singleton.mp hx]; exact .inr HD1, s12 _ _ (by simp [SD1]) hS, ?_⟩
    have e : (prs b1 b2).take (i + 1) = prs b1 b2 := List.take_of_length_le (by rw [prs_len, hr]; omega)
    rw [e] at tv
    exact tv.keep k12
/-- the whole draining -/
theorem zdrain {A0 : Around} (Z : ZW X pins A0.in1.in1 f cd1 cd2 l gi1 gi2 S b1 b2 H0) (J : ZJ X pins σ f cd1 cd2 l gi1 gi2 S p1 p2 b1 b2 H0 0 s) :
    codeAny (model X.prog X.w) A0 (.builtin "list.extend.loop" ⟨[.ref S, .ref l.z, .none], []⟩) (fun r s' => r = .ok (.ret .none) ∧ FinZ X pins σ S b1 b2 H0 s') s := by
  refine drain_zip (m := (prs b1 b2).length) (J := ZJ X pins σ f cd1 cd2 l gi1 gi2 S p1 p2 b1 b2 H0) (fun i s j => ?_) (prs b1 b2).length 0 s (Nat.zero_add _) J
  cases i with
  | zero => exact wpAny_mono (zstep0 Z j) (fun r s1 q => by cases r with | none => exact ⟨rfl, q⟩ | some v => exact q) fun _ _ z => z
  | succ i => exact wpAny_mono (zstepS Z j) (fun r s1 q => by cases r with | none => exact ⟨rfl, q⟩ | some v => exact q) fun _ _ z => z
end
/-! ### the rule: list(zip(walk, walk)) -/
theorem rowsE4 {P : Program} {w : World} {K : PySem.W.Frag} {mg : Str → Option Value} {base : Heap} {f fE fB : Addr} {fdB : FuncData} {N0 : List Str} {q0 : Str} {sc0 : Scope} (F_pblocks_of : Fun K "blocks_of" "blocks_of" sPBlocksOf fB fdB) (G_pblocks_of : FnOk P w K mg base CX0 1 fB fdB ["statement"] spBlocks) (b_pblocks_of : Binds K fdB ["statement"] []) (m_pblocks_of : mg "blocks_of" = some (.ref fB)) (cdv : Value) (A : Around) (outer : List Env) (s0 : Shared) (H0 : Hp) (E : XK) (B : Around) (n : Addr) (cd : Value) (pn : List (Addr × Obj)) (s : Shared) (H : Hp)
    (hr : Room 1 (B.deeper (envOfC "each_statement" (defScope sPEachStatement) n fE cd))) : RulesE (cxOf CX0 P w K mg base N0 q0 sc0 f cdv A outer s0 H0 E).nox B fE n cd pn s H := ⟨(pss_cons (ps_setLc (i := 1) (own := [("statement", 4)]) (g := gName 4) (tt := tYes) rfl scPEachStatement.nd rfl rfl (sw_true rfl rfl rfl (by decide +kernel)) (pi_tup (pe_revT (pv 0))) (blkOk_by (N := nPEachStatement) (sc := defScope sPEachStatement) (by decide +kernel)) (fun _ _ _ _ _ => (pg_name (i := 4) scPEachStatement.nd rfl (by first | exact Or.inl rfl | exact Or.inr rfl))) (fun _ _ _ _ _ => pts_nil) (fun _ _ _ _ _ => (pe_tup (pa_cons pe_int (pa_cons (pv 4) pa_nil)))))
      (pss_one (ps_set (i := 2) scPEachStatement.nd rfl (by first | exact Or.inl rfl | exact Or.inr rfl) pe_int))), (pt_truth (pv 1) (fun _ => rfl)), (pss_one (ps_asg (pe_bm0 PySem.F.plainAttrs_list PySem.F.slot_list_pop PySem.F.type_list_pop mt_pop (pv 1)) (pg_tup rfl (pgs_cons (pg_name (i := 3) scPEachStatement.nd rfl (by first | exact Or.inl rfl | exact Or.inr rfl)) (pgs_cons (pg_name (i := 4) scPEachStatement.nd rfl (by first | exact Or.inl rfl | exact Or.inr rfl)) pgs_nil))))), (pe_tup (pa_cons (pv 2) (pa_cons (pv 3) (pa_cons (pv 4) pa_nil)))), (pss_cons (ps_aug (i := 2) scPEachStatement.nd rfl (.inl rfl) pe_int ip_add)
      (pss_one (ps_for PassesOwn.never rfl (pi_tup (pe_revT (pe_call G_pblocks_of (hr.mono (by omega)) (by rfl) m_pblocks_of F_pblocks_of.kp b_pblocks_of .nil pass0 (pa_cons (pv 4) pa_nil)))) (pg_name (i := 5) scPEachStatement.nd rfl (by first | exact Or.inl rfl | exact Or.inr rfl)) (pss_one (ps_for PassesOwn.never rfl (pi_tup (pe_revT (pv 5))) (pg_name (i := 6) scPEachStatement.nd rfl (by first | exact Or.inl rfl | exact Or.inr rfl)) (pss_one (ps_expr (pe_bm PySem.F.plainAttrs_list PySem.F.slot_list_append PySem.F.type_list_append mt_append (pv 1) (pa_cons (pe_tup (pa_cons (pe_op op_add (pv 3) pe_int) (pa_cons (pv 6) pa_nil))) pa_nil)))))))))⟩
def tLZ (i1 i2 : Nat) : TE := fun σ H Q => ∃ p1 p2 b1 b2, σ[i1]? = some (some (.ref p1)) ∧ σ[i2]? = some (some (.ref p2)) ∧ Tp H (.ref p1) (.tuple b1.ds) ∧ Tp H (.ref p2) (.tuple b2.ds) ∧ b1.sz < 16777216 ∧ b2.sz < 16777216 ∧ ∀ S H' vals, Sx [] H H' → H S = none → H' S = some (.lst vals) → TpAll H' vals (prs b1 b2) → Q (.ref S) H'
section
variable {X : Cx}
/-- a name that stands in a slot, of whatever kind, read without a change -/
theorem bx_var {pins : List (Addr × Obj)} {σ : L2.St} {H : Hp} {s : Shared} {x : Str} {pos : Pos} {i : Nat} {v : V} {Q : Value → Shared → Prop} {E : Value → Shared → Prop} (I : Inv X pins σ H s) (hi : X.N[i]? = some x) (hv : σ[i]? = some (some v)) (hl : Vis X.env.scope x) (h : ∀ u, RelV v u → Q u s)
    (hd : (x == ("__debug__" : Str)) = false) (hcd : (x == ("__classdict__" : Str)) = false) : wpAny (model X.prog X.w) X.A (eval (.Name x pos) X.env) Q E s := by
  obtain ⟨m, hn, ml⟩ := I.loc
  obtain ⟨u, r, l⟩ := ml i x v hi hv hl
  have q := h u r
  rcases l with ⟨hk, hm⟩ | ⟨hk | hk, c, hc, hcell⟩
  · exact wpAny_Name (wpAny_loadName_local I.ok.kind hk hn hm q) hd
  · exact wpAny_Name (wpAny_loadName_cell I.ok.kind hk hc hcell q) hd
  · exact wpAny_Name (wpAny_loadName_free I.ok.kind hk hc hcell q hcd) hd
/-- a call of the walk -/
theorem ez_gen {pins : List (Addr × Obj)} {σ : L2.St} {H : Hp} {s : Shared} {f p : Addr} {fd : FuncData} {x : Str} {i : Nat} {px pf pos : Pos} {Q : Value → Shared → Prop} {E : Value → Shared → Prop} (F : Fun X.K "each_statement" "each_statement" sPEachStatement f fd) (hr : Room 2 X.A) (hg : Gl X "each_statement") (hm : X.mg "each_statement" = some (.ref f)) (hb : Binds X.K fd ["program"] [])
    (hi : X.N[i]? = some x) (hl : Vis X.env.scope x) (I : Inv X pins σ H s) (hv : σ[i]? = some (some (.ref p))) (hst : starEach [.Name x px] X.env = (false, eval (.Name x px) X.env) :: starEach [] X.env) (hd : (x == ("__debug__" : Str)) = false) (hcd : (x == ("__classdict__" : Str)) = false)
    (h : ∀ (g gi : Nat) (go lo : Obj) (cd : Value) (s' : Shared), (∀ h : Heap, h.get? g = some go → h.IsGen g gi) → @LT.lt Nat _ s.heap.objs.size g → gi = s.gens.size → s'.gens = s.gens.push (.fresh (.func (defBody sPEachStatement) (envE s.heap.objs.size f cd))) → Inv X ((s.heap.objs.size, lo) :: ([(g, go)] ++ pins)) σ H s' → GLoc nPEachStatement (envE s.heap.objs.size f cd) (start nPEachStatement [.ref p]) lo → Q (.ref g) s') :
    wpAny (model X.prog X.w) X.A (eval (.Call (.Name "each_statement" pf) [.Name x px] [] pos) X.env) Q E s := by
  refine wpAny_Call_Name_kw (ld_glob I hg hm ?_)
  refine PySem.W.callWith_K (h₀ := X.base) I.ok.mod.kin F.kp ?_ hst
  rw [hst]
  show wpAny _ _ (spliced [(false, eval (.Name x px) X.env)]) _ _ _
  refine Calls.spliced_cons (bx_var I hi hv hl (fun u r => Calls.spliced_nil ⟨I.kIn, ?_⟩) hd hcd)
  cases r
  have hb1 : BindsTo s fd ⟨[.ref p], []⟩ ((["program"] : List Str).zip [.ref p]) := by
    have z := hb s [.ref p] I.kIn rfl
    rw [List.append_nil] at z
    exact z
  refine wpAny_call (codeAny_mono (gen_madeX (k := 1) (vs := [.ref p]) F scPEachStatement ncEach hr I hb1 (.cons rfl .nil) rfl) fun rs s' hq => ?_)
  match rs, hq with
  | .ok (.ret u), ⟨a, gi, go, lo, cd, eu, hgo, lta, eg, hgs, I2, gl⟩ =>
    subst eu
    exact h a gi go lo cd s' hgo lta eg hgs I2 gl
theorem fp_wk {pins : List (Addr × Obj)} {H : Hp} {q : Addr} (h : FpOk X pins H q) : FpOk X [] H q := ⟨h.1, h.2.1, h.2.2.1, h.2.2.2.1, h.2.2.2.2.1, fun p hp => h.2.2.2.2.2 p (List.mem_append_left _ (by simpa using hp))⟩
end
section
variable {X : Cx}
theorem gn_of {pins pn : List (Addr × Obj)} {pins0 : List (Addr × Obj)} {σ : L2.St} {H : Hp} {s : Shared} {n : Nat} {B : Around} (I : Inv X pins0 σ H s) (hn : n = s.heap.objs.size) (hd : B.handled = none) (hfr : B.frames = some X.stack) (hp : ∀ p ∈ pins, @LT.lt Nat _ p.1 n) (hpn : ∀ p ∈ pn, @LT.lt Nat _ n p.1) : Gn X pins (defScope sPEachStatement) n pn B := by
  subst hn
  exact ⟨scPEachStatement.kind, scPEachStatement.co, (by intro _ _ _ _; rfl), ncEach, hd, hfr, I.lt, I.sz, fun z c e => (by obtain ⟨v, o, ho, _⟩ := I.cell z c e; exact Heap.lt_size ho), fun p h => (List.mem_append.1 h).elim (fun w => Heap.lt_size (I.pin p (List.mem_append_left _ w)).1) (hp p), hpn⟩
theorem pe_lz {f : Addr} {fd : FuncData} {x1 x2 : Str} {i1 i2 : Nat} {pl pz pe1 pe2 q1 q2 c1 c2 cz cl : Pos} (F : Fun X.K "each_statement" "each_statement" sPEachStatement f fd) (hr : Room 7 X.A) (hg : Gl X "each_statement") (hm : X.mg "each_statement" = some (.ref f)) (hb : Binds X.K fd ["program"] [])
    (gL : Gl X "list") (zL : X.mg "list" = none) (gZ : Gl X "zip") (zZ : X.mg "zip" = none) (hi1 : X.N[i1]? = some x1) (hi2 : X.N[i2]? = some x2) (l1 : Vis X.env.scope x1) (l2 : Vis X.env.scope x2)
    (R : ∀ n cd pn s H, Room 1 (X.A.in1.in1.in1.in1.deeper (envOfC "each_statement" (defScope sPEachStatement) n f cd)) → RulesE X X.A.in1.in1.in1.in1 f n cd pn s H)
    (hst1 : starEach [.Name x1 q1] X.env = (false, eval (.Name x1 q1) X.env) :: starEach [] X.env := by rfl) (hst2 : starEach [.Name x2 q2] X.env = (false, eval (.Name x2 q2) X.env) :: starEach [] X.env := by rfl) (hd1 : (x1 == ("__debug__" : Str)) = false := by decide) (hd2 : (x2 == ("__debug__" : Str)) = false := by decide) (hc1 : (x1 == ("__classdict__" : Str)) = false := by decide) (hc2 : (x2 == ("__classdict__" : Str)) = false := by decide) :
    PE X (.Call (.Name "list" pl) [.Call (.Name "zip" pz) [.Call (.Name "each_statement" pe1) [.Name x1 q1] [] c1, .Call (.Name "each_statement" pe2) [.Name x2 q2] [] c2] [] cz] [] cl) (tLZ i1 i2) := by
  refine (⟨fun pins s σ H Q I h => ?_⟩)
  obtain ⟨p1, p2, b1, b2, hv1, hv2, t1, t2, z1, z2, q⟩ := h
  refine wpAny_Call_Name_kw (ld_blt I gL zL boot_list ?_)
  refine PyProof.Rows.callWith_type1 ?_
  show wpAny _ _ (spliced [(false, eval (.Call (.Name "zip" pz) [.Call (.Name "each_statement" pe1) [.Name x1 q1] [] c1, .Call (.Name "each_statement" pe2) [.Name x2 q2] [] c2] [] cz) X.env)]) _ _ _
  refine Calls.spliced_cons (wpAny_Call_Name_kw (ld_blt I gZ zZ boot_zip ?_))
  refine PyProof.Rows.callWith_type1 ?_
  show wpAny _ _ (spliced [(false, eval (.Call (.Name "each_statement" pe1) [.Name x1 q1] [] c1) X.env), (false, eval (.Call (.Name "each_statement" pe2) [.Name x2 q2] [] c2) X.env)]) _ _ _
  refine Calls.spliced_cons (ez_gen F (hr.mono (by omega)) hg hm hb hi1 l1 I hv1 hst1 hd1 hc1 fun g1 gi1 o1 lo1 cd1 s1 G1 lt1 eg1 gs1 I1 gl1 => ?_)
  refine Calls.spliced_cons (ez_gen F (hr.mono (by omega)) hg hm hb hi2 l2 I1 hv2 hst2 hd2 hc2 fun g2 gi2 o2 lo2 cd2 s2 G2 lt2 eg2 gs2 I2 gl2 => ?_)
  refine Calls.spliced_nil ?_
  have pg1 := I1.pin (g1, o1) (List.mem_append_right _ (by simp))
  have qg1 := I2.pin (g1, o1) (List.mem_append_right _ (by simp))
  have qg2 := I2.pin (g2, o2) (List.mem_append_right _ (by simp))
  refine call_zip_gens (G1 _ qg1.1) (G2 _ qg2.1) fun h3 hz hTI hTO k3 => ?_
  refine Calls.spliced_nil ?_
  have sz3 : ({ s2 with heap := h3 } : Shared).heap.objs.size = h3.objs.size := rfl
  refine call_list_zip (s := { s2 with heap := h3 }) hz fun S h4 hS k4 eS => ?_
  obtain ⟨c4, eS⟩ := eS
  have lg1 : @LT.lt Nat _ g1 s1.heap.objs.size := Heap.lt_size pg1.1
  have lg2 : @LT.lt Nat _ g2 s2.heap.objs.size := Heap.lt_size qg2.1
  have I3 : Inv X ((s1.heap.objs.size, lo2) :: ([(g2, o2)] ++ ((s.heap.objs.size, lo1) :: ([(g1, o1)] ++ pins)))) σ H { s2 with heap := h3 } := I2.kept (t' := s2.toks) k3
  have fTI := fp_wk (I2.fpOk (H' := H) (b := s2.heap.objs.size) (Nat.le_refl _) (I2.hok.fresh (Nat.le_refl _)))
  have fTO := fp_wk (I2.fpOk (H' := H) (b := s2.heap.objs.size + 1) (Nat.le_succ _) (I2.hok.fresh (Nat.le_succ _)))
  have fz := fp_wk (I2.fpOk (H' := H) (b := s2.heap.objs.size + 2) (by omega) (I2.hok.fresh (by omega)))
  have ok : (Zl.mk s.heap.objs.size g1 s1.heap.objs.size g2 s2.heap.objs.size (s2.heap.objs.size + 1) (s2.heap.objs.size + 2) o1 o2).Ok pins := ⟨lt1, lg1, lt2, lg2, Nat.lt_succ_self _, Nat.lt_succ_self _, fun p hp => Heap.lt_size (I.pin p (List.mem_append_right _ hp)).1⟩
  obtain ⟨l, hl⟩ : ∃ l : Zl, l = Zl.mk s.heap.objs.size g1 s1.heap.objs.size g2 s2.heap.objs.size (s2.heap.objs.size + 1) (s2.heap.objs.size + 2) o1 o2 := ⟨_, rfl⟩
  have I5 : Inv X (l.ps pins lo1 lo2 (prO .none .none) (zpO l.TI l.TO .none false)) σ H { s2 with heap := h3 } := I3.pins_of fun p hp => by
    subst hl
    rcases Zl.mem.mp hp with rfl | rfl | rfl | rfl | rfl | rfl | rfl | hp
    · exact I3.pin _ (List.mem_append_right _ (by simp))
    · exact I3.pin _ (List.mem_append_right _ (by simp))
    · exact I3.pin _ (List.mem_append_right _ (by simp))
    · exact I3.pin _ (List.mem_append_right _ (by simp))
    · exact pin_fp (s := { s2 with heap := h3 }) fTI hTI (fun _ z => nomatch z)
    · exact pin_fp (s := { s2 with heap := h3 }) fTO hTO (fun _ z => nomatch z)
    · exact pin_fp (s := { s2 with heap := h3 }) fz hz (fun _ z => nomatch z)
    · exact I3.pin _ (List.mem_append_right _ (by simp [hp]))
  have frS : H S = none := I3.hok.fresh hS
  have I6 : Inv X (l.ps pins lo1 lo2 (prO .none .none) (zpO l.TI l.TO .none false)) σ (upd H S (.lst [])) { s2 with heap := h4 } := I5.laid (t' := s2.toks) k4 hS ⟨Nat.zero_le _, [], c4, .nil, eS⟩
  have hfr : X.A.in1.in1.in1.in1.frames = some X.stack := I.ok.frames
  have hd4 : X.A.in1.in1.in1.in1.handled = none := hr.hd
  have hp2 : ∀ lo1 : Obj, ∀ p ∈ l.pn2p pins lo1, @LT.lt Nat _ p.1 s1.heap.objs.size := fun lo1 p hp => by
    subst hl
    rcases List.mem_cons.1 hp with rfl | hp
    · exact Nat.lt_trans lt1 lg1
    rcases List.mem_cons.1 hp with rfl | hp
    · exact lg1
    · exact Nat.lt_trans (ok.p p hp) (Nat.lt_trans lt1 lg1)
  have Z : ZW X pins X.A.in1.in1.in1 f cd1 cd2 l gi1 gi2 S b1 b2 H := by
    have hr1 : Room 3 X.A.in1.in1.in1.in1 := ((hr.in1.in1).in1).in1
    refine ⟨by rw [hl]; exact ok, fun lo2 oO oz => gn_of I (by rw [hl]) hd4 hfr (by rw [hl]; exact ok.p) ?_, fun lo1 oO oz => gn_of I1 (by rw [hl]) hd4 hfr (by rw [show l.n2 = s1.heap.objs.size by rw [hl]]; exact hp2 lo1) ?_, fun pn s H => ?_, fun pn s H => ?_, by rw [hl]; exact G1, by rw [hl]; exact G2, hr.hd, by have := hr.dp; show X.A.depth < recursionLimit; omega, ?_, fun H' e => ?_, fun H' e => ?_, z1, z2, frS⟩
    · subst hl
      intro p hp
      obtain ⟨a, b, c, d, e, f, _⟩ := ok
      simp only [Zl.pn1, List.mem_cons, List.not_mem_nil, or_false] at hp
      dsimp only at a b c d e f
      rcases hp with rfl | rfl | rfl | rfl | rfl | rfl <;> dsimp only <;> omega
    · subst hl
      intro p hp
      obtain ⟨a, b, c, d, e, f, _⟩ := ok
      simp only [Zl.pn2, List.mem_cons, List.not_mem_nil, or_false] at hp
      dsimp only at a b c d e f
      rcases hp with rfl | rfl | rfl | rfl <;> dsimp only <;> omega
    · exact R _ _ _ _ _ ((hr1.mono (by omega : 2 ≤ 3)).deeper _)
    · exact R _ _ _ _ _ ((hr1.mono (by omega : 2 ≤ 3)).deeper _)
    · rw [eg1, eg2, gs1, Array.size_push]; omega
    · subst hl; exact fp_wk (I2.fpOk (H' := H') (b := s2.heap.objs.size + 2) (by omega) e)
    · subst hl; exact fp_wk (I2.fpOk (H' := H') (b := s2.heap.objs.size + 1) (Nat.le_succ _) e)
  have sS : Sx [] H (upd H S (.lst [])) := Sx.n0 frS
  have J : ZJ X pins σ f cd1 cd2 l gi1 gi2 S p1 p2 b1 b2 H 0 { s2 with heap := h4 } := by
    refine ⟨lo1, lo2, _, I6, by rw [hl]; exact gl1, by rw [hl]; exact gl2, upd_same, sS, t1.new frS, t2.new frS, ?_, ?_⟩
    · subst hl
      show s2.gens[gi1]? = _
      rw [gs2, gs1, eg1, Array.getElem?_push, if_neg (by rw [Array.size_push]; omega), Array.getElem?_push_size]
      rfl
    · subst hl
      show s2.gens[gi2]? = _
      rw [gs2, eg2, Array.getElem?_push_size]
      rfl
  have ez : l.z = s2.heap.objs.size + 2 := by rw [hl]
  rw [← ez]
  refine codeAny_mono (zdrain Z J) fun r s' hq => ?_
  obtain ⟨rfl, H', vals, I7, s7, e7, t7⟩ := hq
  exact ⟨rfl, .ref S, H', I7, rfl, q S H' vals s7 frS e7 t7⟩
end
/-! ### list(zip(list, list)) -/
def prD2 (ds es : List PyData) : List PyData := (ds.zip es).map fun p => .tuple [p.1, p.2]
theorem prD2_take {ds es : List PyData} {i : Nat} {d e : PyData} (h1 : ds[i]? = some d) (h2 : es[i]? = some e) : (prD2 ds es).take (i + 1) = (prD2 ds es).take i ++ [.tuple [d, e]] := by
  have q : (ds.zip es)[i]? = some (d, e) := List.getElem?_zip_eq_some.mpr ⟨h1, h2⟩
  rw [List.take_add_one]
  unfold prD2
  rw [List.getElem?_map, q]
  rfl
theorem prD2_len (ds es : List PyData) : (prD2 ds es).length = min ds.length es.length := by
  unfold prD2
  rw [List.length_map, List.length_zip]
theorem prs_eq (b1 b2 : Bk) : prs b1 b2 = prD2 ((b1.rws 0 0).map rwD) ((b2.rws 0 0).map rwD) := by
  unfold prs prD2
  rw [List.zip_map, List.map_map]
  rfl
structure Li where
  i1 : Nat
  i2 : Nat
  TI : Nat
  TO : Nat
  z : Nat
  la : Addr
  lb : Addr
structure Li.Ok (X : Cx) (pins : List (Addr × Obj)) (l : Li) : Prop where
  D : ZipApart l.z l.TI l.TO l.i1 l.i2 l.la l.lb
  fp : ∀ b : Addr, (b = l.z ∨ b = l.TO ∨ b = l.i1 ∨ b = l.i2) → ∀ H : Hp, H b = none → FpOk X pins H b
section
variable {X : Cx} {pins : List (Addr × Obj)} {σ : L2.St} {A1 : Around} {l : Li} {S : Addr} {xs ys : List V} {ds es : List PyData} {H0 : Hp} {s : Shared} {i : Nat}
def LJ (X : Cx) (pins : List (Addr × Obj)) (σ : L2.St) (l : Li) (S : Addr) (xs ys : List V) (ds es : List PyData) (H0 : Hp) (i : Nat) (s : Shared) : Prop := ∃ (H' : Hp) (vals : List V), Inv X pins σ H' s ∧ Sx [] H0 H' ∧ H' S = some (.lst vals) ∧ TpAll H' vals ((prD2 ds es).take i) ∧ vals.length = i ∧ SqL X.K H' l.la xs ∧ SqL X.K H' l.lb ys ∧ TpAll H' xs ds ∧ TpAll H' ys es ∧
  (H' l.z = none ∧ H' l.TO = none ∧ H' l.TI = none ∧ H' l.i1 = none ∧ H' l.i2 = none) ∧ IsPair s.heap l.TI (.ref l.i1) (.ref l.i2) ∧ s.heap.IsListIter l.i1 l.la i ∧ s.heap.IsListIter l.i2 l.lb i ∧ (∃ oO, s.heap.get? l.TO = some oO) ∧
  ((i = 0 ∧ IsZip s.heap l.z l.TI l.TO .none ∧ IsPair s.heap l.TO .none .none) ∨ ∃ (T0 : Addr) (fl : Bool) (xs0 : List V), IsZipHeld s.heap l.z l.TI l.TO T0 fl ∧ H' T0 = some (.tup xs0))
def FinL (X : Cx) (pins : List (Addr × Obj)) (σ : L2.St) (S : Addr) (ds es : List PyData) (H0 : Hp) (s : Shared) : Prop := ∃ H' vals, Inv X pins σ H' s ∧ Sx [] H0 H' ∧ H' S = some (.lst vals) ∧ TpAll H' vals (prD2 ds es)
theorem lstep (hh : A1.handled = none) (k : l.Ok X pins) (S0 : H0 S = none) (nla : S ≠ l.la) (nlb : S ≠ l.lb) (hsz : ds.length < 16777216) (J : LJ X pins σ l S xs ys ds es H0 i s) :
    wpAny (model X.prog X.w) A1 (pyNext (.ref l.z)) (fun r s1 => match r with
      | some v => i < (prD2 ds es).length ∧ ∃ acc c, s1.heap.get? S = some (lstObj acc c) ∧ acc.size < sizeLine ∧ LJ X pins σ l S xs ys ds es H0 (i + 1) { s1 with heap := s1.heap.update S (Obj.mapSeq (·.push v)) }
      | none => FinL X pins σ S ds es H0 s1) (fun _ _ => False) s := by
  obtain ⟨H', vals, I, s0, hS, tv, lv, hla, hlb, tx, ty, ⟨nz, nTO, nTI, n1, n2⟩, pTI, it1, it2, ⟨oO, eO⟩, zs⟩ := J
  obtain ⟨its, rv, pa, hza⟩ := I.list hla
  obtain ⟨jts, rw', pb, hzb⟩ := I.list hlb
  have la := rv.length
  have lb := rw'.length
  have lx := tx.len
  have ly := ty.len
  have fps : ∀ b ∈ ([l.z, l.TO, l.i1, l.i2] : List Addr), FpOk X pins H' b := fun b hb => by
    simp only [List.not_mem_nil, List.mem_cons, or_false] at hb
    exact k.fp b hb H' (by rcases hb with rfl | rfl | rfl | rfl <;> assumption)
  by_cases c : i < its.length ∧ i < jts.length
  · obtain ⟨c1, c2⟩ := c
    have cx : i < xs.length := by omega
    have cy : i < ys.length := by omega
    have hx : its.toArray[i]? = some its[i] := by rw [List.getElem?_toArray, List.getElem?_eq_getElem c1]
    have hy : jts.toArray[i]? = some jts[i] := by rw [List.getElem?_toArray, List.getElem?_eq_getElem c2]
    obtain ⟨ux, hux, rux⟩ := rv.get (List.getElem?_eq_getElem cx)
    obtain ⟨uy, huy, ruy⟩ := rw'.get (List.getElem?_eq_getElem cy)
    rw [List.getElem?_eq_getElem c1] at hux
    rw [List.getElem?_eq_getElem c2] at huy
    cases hux
    cases huy
    obtain ⟨dx, hdx, tdx⟩ := tx.get (List.getElem?_eq_getElem cx)
    obtain ⟨dy, hdy, tdy⟩ := ty.get (List.getElem?_eq_getElem cy)
    have key : ∀ (h' : Heap) (T1 : Addr) (fl : Bool), IsZipHeld h' l.z l.TI l.TO T1 fl → ((∃ xs0, H' T1 = some (.tup xs0)) ∨ T1 = s.heap.objs.size) → h'.IsListIter l.i1 l.la (i + 1) → h'.IsListIter l.i2 l.lb (i + 1) → IsPair h' s.heap.objs.size its[i] jts[i] → (∃ oO, h'.get? l.TO = some oO) → (∀ c o, c ≠ l.z → c ≠ l.TO → c ≠ l.i1 → c ≠ l.i2 → s.heap.get? c = some o → h'.get? c = some o) →
        i < (prD2 ds es).length ∧ ∃ acc c, h'.get? S = some (lstObj acc c) ∧ acc.size < sizeLine ∧ LJ X pins σ l S xs ys ds es H0 (i + 1) { s with heap := h'.update S (Obj.mapSeq (·.push (.ref s.heap.objs.size))) } := by
      intro h' T1 fl hz' hT1 a3 a4 a5 aO kp
      have fr : H' s.heap.objs.size = none := I.hok.fresh (Nat.le_refl _)
      have I5 : Inv X pins σ (upd H' s.heap.objs.size (.tup [xs[i], ys[i]])) { s with heap := h' } := I.turnedNew (t' := s.toks) (ch := [l.z, l.TO, l.i1, l.i2]) (ob := .tup [xs[i], ys[i]]) (fun b o hb e => by
        simp only [List.mem_cons, List.not_mem_nil, or_false, not_or] at hb
        exact kp b o hb.1 hb.2.1 hb.2.2.1 hb.2.2.2 e) fps (Nat.le_refl _) ⟨by show 2 ≤ sizeLine; decide, [its[i], jts[i]], .cons rux (.cons ruy .nil), ⟨_, a5, rfl, _, rfl⟩⟩
      have hS5 : (upd H' s.heap.objs.size (.tup [xs[i], ys[i]])) S = some (.lst vals) := by rw [upd_ne (fun e => by rw [e, fr] at hS; cases hS)]; exact hS
      obtain ⟨acc, c, b1, b2, I6⟩ := zput I5 hS5 (by omega) (x := .ref s.heap.objs.size) (v := .ref s.heap.objs.size) rfl
      have nST : s.heap.objs.size ≠ S := fun e => by rw [e, hS] at fr; cases fr
      have tk : Tk H' (upd (upd H' s.heap.objs.size (.tup [xs[i], ys[i]])) S (.lst (vals ++ [.ref s.heap.objs.size]))) := (Sx.n0 fr).tk0.trans (Tk.lst hS5)
      have sq : ∀ {L : Addr} {zs : List V}, S ≠ L → SqL X.K H' L zs → SqL X.K (upd (upd H' s.heap.objs.size (.tup [xs[i], ys[i]])) S (.lst (vals ++ [.ref s.heap.objs.size]))) L zs := fun {L zs} n h => by
        have s6 : Sx [S] H' (upd (upd H' s.heap.objs.size (.tup [xs[i], ys[i]])) S (.lst (vals ++ [.ref s.heap.objs.size]))) := ((Sx.n0 fr).nil).put (by simp)
        exact s6.seqL (by simp [n.symm]) h
      have up : ∀ b : Addr, H' b = none → b ≠ s.heap.objs.size → (upd (upd H' s.heap.objs.size (.tup [xs[i], ys[i]])) S (.lst (vals ++ [.ref s.heap.objs.size]))) b = none := fun b e n => by
        rw [upd_ne (fun q => by rw [q, hS] at e; cases e), upd_ne n]
        exact e
      have lt : ∀ {b : Addr} {o : Obj}, s.heap.get? b = some o → b ≠ s.heap.objs.size := fun e => Nat.ne_of_lt (Heap.lt_size e)
      have oth : ∀ (b : Addr) (o : Obj), H' b = none → h'.get? b = some o → (h'.update S (Obj.mapSeq (·.push (.ref s.heap.objs.size)))).get? b = some o := fun b o e q => by
        rw [Heap.get?_update_other _ _ (fun w => by rw [← w, hS] at e; cases e)]
        exact q
      obtain ⟨oi1, ei1, ri1⟩ := it1
      obtain ⟨oi2, ei2, ri2⟩ := it2
      obtain ⟨oz, ez⟩ : ∃ oz, s.heap.get? l.z = some oz := by
        rcases zs with ⟨_, q, _⟩ | ⟨T0, fl0, xs0, q, _⟩
        · exact ⟨_, q⟩
        · exact ⟨_, q⟩
      refine ⟨by rw [prD2_len]; omega, acc, c, b1, b2, _, _, I6, (s0.new fr).own S0, upd_same, ?_, by rw [List.length_append, lv]; rfl, sq nla hla, sq nlb hlb, tx.keep tk, ty.keep tk, ⟨up _ nz (lt ez), up _ nTO (lt eO), up _ nTI (lt pTI), up _ n1 (lt ei1), up _ n2 (lt ei2)⟩, oth _ _ nTI (kp _ _ k.D.TIz k.D.TITO k.D.TIi1 k.D.TIi2 pTI), ?_, ?_, ?_, .inr ?_⟩
      · rw [prD2_take hdx hdy]
        exact (tv.keep tk).append (.cons (.tup (by rw [upd_ne nST, upd_same]) (.cons (tdx.keep tk) (.cons (tdy.keep tk) .nil))) .nil)
      · obtain ⟨o, e, r⟩ := a3
        exact ⟨o, oth _ _ n1 e, r⟩
      · obtain ⟨o, e, r⟩ := a4
        exact ⟨o, oth _ _ n2 e, r⟩
      · obtain ⟨o, e⟩ := aO
        exact ⟨o, oth _ _ nTO e⟩
      · refine ⟨T1, fl, ?_⟩
        rcases hT1 with ⟨xs0, q⟩ | rfl
        · exact ⟨xs0, oth _ _ nz hz', tk _ _ q⟩
        · exact ⟨_, oth _ _ nz hz', by rw [upd_ne nST, upd_same]⟩
    rcases zs with ⟨rfl, hz, hTO⟩ | ⟨T0, fl, xs0, hz, hT0⟩
    · exact wpAny_pyNext_zip_item k.D hz pTI hTO it1 it2 pa.isList pb.isList hx hy fun h' a1 a2 a3 a4 a5 a6 a7 => key h' _ false a1 (.inr rfl) a3 a4 a5 ⟨_, a2⟩ a7
    · obtain ⟨its0, _, ⟨oT, hoT, _⟩, _⟩ := I.tuple (SqT.of hT0)
      exact wpAny_pyNext_zip_item_held k.D hz hoT pTI it1 it2 pa.isList pb.isList hx hy fun h' a1 a3 a4 a5 a6 a7 => key h' T0 true a1 (.inl ⟨xs0, hT0⟩) a3 a4 a5 ⟨oO, a7 _ _ k.D.TOz k.D.TOi1 k.D.TOi2 eO⟩ fun c o c1 c2 c3 c4 e => a7 c o c1 c3 c4 e
  · have hend : its.toArray[i]? = none ∨ jts.toArray[i]? = none := by
      rw [List.getElem?_toArray, List.getElem?_toArray, List.getElem?_eq_none_iff, List.getElem?_eq_none_iff]
      omega
    have e : (prD2 ds es).take i = prD2 ds es := List.take_of_length_le (by rw [prD2_len]; omega)
    rw [e] at tv
    have fin : ∀ h' : Heap, (∀ c o, c ≠ l.z → c ≠ l.TO → c ≠ l.i1 → c ≠ l.i2 → s.heap.get? c = some o → h'.get? c = some o) → FinL X pins σ S ds es H0 { s with heap := h' } := fun h' kp =>
      ⟨H', vals, I.turnedL (t' := s.toks) (ch := [l.z, l.TO, l.i1, l.i2]) (fun b o hb e => by
        simp only [List.mem_cons, List.not_mem_nil, or_false, not_or] at hb
        exact kp b o hb.1 hb.2.1 hb.2.2.1 hb.2.2.2 e) fps, s0, hS, tv⟩
    rcases zs with ⟨rfl, hz, hTO⟩ | ⟨T0, fl, xs0, hz, hT0⟩
    · exact wpAny_pyNext_zip_end hh k.D hz pTI hTO it1 it2 pa.isList pb.isList hend fin
    · obtain ⟨its0, _, ⟨oT, hoT, _⟩, _⟩ := I.tuple (SqT.of hT0)
      exact wpAny_pyNext_zip_end_held hh k.D hz hoT pTI it1 it2 pa.isList pb.isList hend fun h' a => fin h' fun c o c1 c2 c3 c4 e => a c o c1 c3 c4 e
end
def tLL (K : PySem.W.Frag) (ta : TA) : TE := fun σ H Q => ta σ H fun vs H1 => ∃ a b xs ys ds es, vs = [.ref a, .ref b] ∧ SqL K H1 a xs ∧ SqL K H1 b ys ∧ TpAll H1 xs ds ∧ TpAll H1 ys es ∧ ds.length < 16777216 ∧ ∀ S H' vals, Sx [] H1 H' → H1 S = none → H' S = some (.lst vals) → TpAll H' vals (prD2 ds es) → Q (.ref S) H'
section
variable {X : Cx}
theorem pe_ll {e1 e2 : Expr} {ta : TA} {pl pz cz cl : Pos} (hr : Room 3 X.A) (gL : Gl X "list") (zL : X.mg "list" = none) (gZ : Gl X "zip") (zZ : X.mg "zip" = none) (ha : PA X [e1, e2] ta) (hst : starEach [e1, e2] X.env = (false, eval e1 X.env) :: starEach [e2] X.env := by rfl) (hpl : (backTo cz (starEach [e2] X.env)).any (·.1) = false := by rfl) :
    PE X (.Call (.Name "list" pl) [.Call (.Name "zip" pz) [e1, e2] [] cz] [] cl) (tLL X.K ta) := by
  refine (⟨fun pins s σ H Q I h => ?_⟩)
  refine wpAny_Call_Name_kw (ld_blt I gL zL boot_list ?_)
  refine PyProof.Rows.callWith_type1 ?_
  show wpAny _ _ (spliced [(false, eval (.Call (.Name "zip" pz) [e1, e2] [] cz) X.env)]) _ _ _
  refine Calls.spliced_cons (wpAny_Call_Name_kw (ld_blt I gZ zZ boot_zip ?_))
  refine PyProof.Rows.callWith_type1 (thn (ha.run cz pins s σ H _ I h) fun us s1 hh => ?_) hst hpl
  obtain ⟨vs, H1, I1, r1, a, b, xs, ys, ds, es, rfl, hla, hlb, tx, ty, hsz, q⟩ := hh
  cases r1 with
  | cons ra rr =>
  cases rr with
  | cons rb rr =>
  cases rr
  cases ra
  cases rb
  obtain ⟨its, rv, pa, hza⟩ := I1.list hla
  obtain ⟨jts, rw', pb, hzb⟩ := I1.list hlb
  have lta : @LT.lt Nat _ a s1.heap.objs.size := by obtain ⟨o, e, _⟩ := pa.isList; exact Heap.lt_size e
  have ltb : @LT.lt Nat _ b s1.heap.objs.size := by obtain ⟨o, e, _⟩ := pb.isList; exact Heap.lt_size e
  refine call_zip_2 pa.isList pb.isList fun h3 hz hTI hTO it1 it2 sz k3 => ?_
  refine Calls.spliced_nil ?_
  refine call_list_zip (s := { s1 with heap := h3 }) hz fun S h4 hS k4 eS => ?_
  obtain ⟨c4, eS⟩ := eS
  have hS : @LE.le Nat _ h3.objs.size S := hS
  rw [sz] at hS
  have I3 : Inv X pins σ H1 { s1 with heap := h3 } := I1.kept (t' := s1.toks) k3
  have frS : H1 S = none := I1.hok.fresh (by show @LE.le Nat _ s1.heap.objs.size S; omega)
  have I6 : Inv X pins σ (upd H1 S (.lst [])) { s1 with heap := h4 } := I3.laid (t' := s1.toks) k4 (by show @LE.le Nat _ h3.objs.size S; omega) ⟨Nat.zero_le _, [], c4, .nil, eS⟩
  have free : ∀ b : Nat, s1.heap.objs.size ≤ b → b < s1.heap.objs.size + 5 → (upd H1 S (.lst [])) b = none := fun b hb hb2 => by
    rw [upd_ne (Nat.ne_of_lt (by omega))]
    exact I1.hok.fresh hb
  have D : ZipApart (s1.heap.objs.size + 4) (s1.heap.objs.size + 2) (s1.heap.objs.size + 3) s1.heap.objs.size (s1.heap.objs.size + 1) a b := by
    constructor <;> first | exact Nat.ne_of_lt (by omega) | exact Nat.ne_of_gt (by omega)
  obtain ⟨l, hl⟩ : ∃ l : Li, l = Li.mk s1.heap.objs.size (s1.heap.objs.size + 1) (s1.heap.objs.size + 2) (s1.heap.objs.size + 3) (s1.heap.objs.size + 4) a b := ⟨_, rfl⟩
  have k : l.Ok X pins := by
    subst hl
    refine ⟨D, fun b hb H h => ?_⟩
    · refine I1.fpOk (H' := H) (b := b) ?_ h
      obtain rfl | rfl | rfl | rfl := hb
      · show @LE.le Nat _ s1.heap.objs.size (s1.heap.objs.size + 4); omega
      · show @LE.le Nat _ s1.heap.objs.size (s1.heap.objs.size + 3); omega
      · exact Nat.le_refl _
      · show @LE.le Nat _ s1.heap.objs.size (s1.heap.objs.size + 1); omega
  have nSa : S ≠ a := Nat.ne_of_gt (by omega)
  have nSb : S ≠ b := Nat.ne_of_gt (by omega)
  have sS : Sx [] H1 (upd H1 S (.lst [])) := Sx.n0 frS
  have J : LJ X pins σ l S xs ys ds es H1 0 { s1 with heap := h4 } := by
    subst hl
    obtain ⟨o1, e1, r1⟩ := it1
    obtain ⟨o2, e2, r2⟩ := it2
    exact ⟨_, _, I6, sS, upd_same, .nil, rfl, sS.seqL (by simp) hla, sS.seqL (by simp) hlb, tx.keep sS.tk0, ty.keep sS.tk0, ⟨free (s1.heap.objs.size + 4) (by omega) (by omega), free (s1.heap.objs.size + 3) (by omega) (by omega), free (s1.heap.objs.size + 2) (by omega) (by omega), free (s1.heap.objs.size + 0) (by omega) (by omega), free (s1.heap.objs.size + 1) (by omega) (by omega)⟩, k4 _ _ hTI, ⟨o1, k4 _ _ e1, r1⟩, ⟨o2, k4 _ _ e2, r2⟩, ⟨_, k4 _ _ hTO⟩, .inl ⟨rfl, k4 _ _ hz, k4 _ _ hTO⟩⟩
  have ez : l.z = s1.heap.objs.size + 4 := by rw [hl]
  have ela : l.la = a := by rw [hl]
  have elb : l.lb = b := by rw [hl]
  rw [← ez]
  refine codeAny_mono (drain_zip (R := fun r s' => r = .ok (.ret .none) ∧ FinL X pins σ S ds es H1 s') (m := (prD2 ds es).length) (J := LJ X pins σ l S xs ys ds es H1) (fun i s j => wpAny_mono (lstep (A1 := X.A.in1.in1) hr.hd k frS (by rw [ela]; exact nSa) (by rw [elb]; exact nSb) hsz j) (fun r s1 q => by cases r with | none => exact ⟨rfl, q⟩ | some v => exact q) fun _ _ z => z) (prD2 ds es).length 0 _ (Nat.zero_add _) J) fun r s' hq => ?_
  obtain ⟨rfl, H', vals, I7, s7, e7, t7⟩ := hq
  exact ⟨rfl, .ref S, H', I7, rfl, q S H' vals s7 frS e7 t7⟩
end
/-! ### bounds of the rows that a program's walk gives -/
mutual
theorem St.rws_bd {ns : List Str} : ∀ (s : St) (n : Nat) (d p : Int), s.ok ns n → ∀ r ∈ s.rws d p, (∃ m, m ≤ n ∧ r.2.2.ok ns m) ∧ r.2.2.sz ≤ s.sz ∧ d ≤ r.2.1 ∧ r.2.1 ≤ d + n + 1
  | .set z e, n, d, p, h, r, hr => by
    rw [List.mem_singleton.mp hr]
    exact ⟨⟨n, Nat.le_refl _, h⟩, Nat.le_refl _, Int.le_refl _, by show d ≤ _; omega⟩
  | .pay e, n, d, p, h, r, hr => by
    rw [List.mem_singleton.mp hr]
    exact ⟨⟨n, Nat.le_refl _, h⟩, Nat.le_refl _, Int.le_refl _, by show d ≤ _; omega⟩
  | .stop, n, d, p, h, r, hr => by
    rw [List.mem_singleton.mp hr]
    exact ⟨⟨n, Nat.le_refl _, h⟩, Nat.le_refl _, Int.le_refl _, by show d ≤ _; omega⟩
  | .ite t y z, n, d, p, h, r, hr => by
    have e : (St.ite t y z).sz = 1 + (y.sz + z.sz) := by rw [St.sz_blks]; simp [St.blks]
    rw [e]
    rcases List.mem_cons.1 hr with rfl | hr
    · exact ⟨⟨n, Nat.le_refl _, h⟩, by show (St.ite t y z).sz ≤ _; omega, Int.le_refl _, by show d ≤ _; omega⟩
    · rcases List.mem_append.1 hr with hr | hr
      · obtain ⟨⟨m, h1, h2⟩, h3, h4, h5⟩ := Bk.rws_bd y n _ _ h.2.1 r hr
        exact ⟨⟨m, by omega, h2⟩, by omega, by omega, by omega⟩
      · obtain ⟨⟨m, h1, h2⟩, h3, h4, h5⟩ := Bk.rws_bd z n _ _ h.2.2 r hr
        exact ⟨⟨m, by omega, h2⟩, by omega, by omega, by omega⟩
  | .rep k y, n, d, p, h, r, hr => by
    have e : (St.rep k y).sz = 1 + y.sz := by rw [St.sz_blks]; simp [St.blks]
    rw [e]
    rcases List.mem_cons.1 hr with rfl | hr
    · exact ⟨⟨n, Nat.le_refl _, h⟩, by show (St.rep k y).sz ≤ _; omega, Int.le_refl _, by show d ≤ _; omega⟩
    · obtain ⟨⟨m, h1, h2⟩, h3, h4, h5⟩ := Bk.rws_bd y n _ _ h.2.2 r hr
      exact ⟨⟨m, by omega, h2⟩, by omega, by omega, by omega⟩
theorem Bk.rws_bd {ns : List Str} : ∀ (b : Bk) (n : Nat) (d p : Int), b.ok ns n → ∀ r ∈ b.rws d p, (∃ m, m + 1 ≤ n ∧ r.2.2.ok ns m) ∧ r.2.2.sz ≤ b.sz ∧ d ≤ r.2.1 ∧ r.2.1 ≤ d + n
  | .nil, _, _, _, _, r, hr => by cases hr
  | .cons s b, n, d, p, h, r, hr => by
    obtain ⟨h1, hs, hb⟩ := h
    have e : (Bk.cons s b).sz = s.sz + b.sz := by rw [Bk.sz]
    rw [e]
    rcases List.mem_append.1 hr with hr | hr
    · obtain ⟨⟨m, h2, h3⟩, h4, h5, h6⟩ := St.rws_bd s _ d p hs r hr
      exact ⟨⟨m, by omega, h3⟩, by omega, by omega, by omega⟩
    · obtain ⟨⟨m, h2, h3⟩, h4, h5, h6⟩ := Bk.rws_bd b _ d _ hb r hr
      exact ⟨⟨m, by omega, h3⟩, by omega, by omega, by omega⟩
end
namespace Sw
theorem lst {B k n : Nat} {ds : List PyData} (h : SwA B k n ds) : Sw B (k + 1) n (.list ds) :=
  ⟨by simp only [PyData.showable]; exact h.s, by simp only [PyData.hasDict]; exact h.h, by simp only [PyData.leavesShort]; exact h.l, by simp only [PyData.depth]; have := h.dp; omega, by simp only [PyData.weight]; exact h.w⟩
end Sw
abbrev rowsD (b : Bk) : List PyData := (b.rws 0 0).map rwD
theorem st_sw {ns : List Str} (hn : ∀ z ∈ ns, NmOk z) {b : Bk} (ho : b.ok ns 4) (hz : b.sz ≤ 24) {r : Rw} (hr : r ∈ b.rws 0 0) : Sw 13 15 7200 r.2.2.d := by
  obtain ⟨⟨m, h1, h2⟩, h3, h4, h5⟩ := Bk.rws_bd b 4 0 0 ho r hr
  exact (St.sw hn r.2.2 m (St.M_ok h2)).mono (by omega) (by omega)
theorem row_sw {ns : List Str} (hn : ∀ z ∈ ns, NmOk z) {b : Bk} (ho : b.ok ns 4) (hz : b.sz ≤ 24) {r : Rw} (hr : r ∈ b.rws 0 0) : Sw 13 16 7300 (rwD r) := by
  obtain ⟨_, h3, h4, h5⟩ := Bk.rws_bd b 4 0 0 ho r hr
  obtain ⟨p1, p2⟩ := Bk.rws_pl b 0 0 r hr
  exact (Sw.tup (.cons (Sw.sm (by omega) (by omega) 15) (.cons (Sw.sm (by omega) (by omega) 15) (.cons (st_sw hn ho hz hr) (.nil _ 15 0))))).mono (by decide) (by decide)
theorem rows_sw {ns : List Str} (hn : ∀ z ∈ ns, NmOk z) {b : Bk} (ho : b.ok ns 4) (hz : b.sz ≤ 24) : Sw 13 17 180000 (.list (rowsD b)) := by
  refine (Sw.lst (SwA.all (n := 7300) fun d hd => ?_)).mono (Nat.le_refl _) ?_
  · obtain ⟨r, hr, rfl⟩ := List.mem_map.mp hd
    exact row_sw hn ho hz hr
  · rw [List.length_map, Bk.rws_len]
    omega
theorem two_sw {ns : List Str} (hn : ∀ z ∈ ns, NmOk z) {b : Bk} (ho : b.ok ns 4) (hz : b.sz ≤ 24) : Sw 13 18 400000 (.list [.list (rowsD b), .list (rowsD b)]) :=
  (Sw.lst (.cons (rows_sw hn ho hz) (.cons (rows_sw hn ho hz) (.nil _ 17 0)))).mono (Nat.le_refl _) (by decide)
theorem prs_sw {ns : List Str} (hn : ∀ z ∈ ns, NmOk z) {b1 b2 : Bk} (h1 : b1.ok ns 4) (z1 : b1.sz ≤ 24) (h2 : b2.ok ns 4) (z2 : b2.sz ≤ 24) : Sw 13 18 400000 (.list (prs b1 b2)) := by
  rw [prs_eq]
  refine (Sw.lst (SwA.all (k := 17) (n := 14602) fun d hd => ?_)).mono (Nat.le_refl _) ?_
  · obtain ⟨p, hp, rfl⟩ := List.mem_map.mp hd
    obtain ⟨ha, hb⟩ := List.of_mem_zip hp
    obtain ⟨r, hr, e1⟩ := List.mem_map.mp ha
    obtain ⟨r', hr', e2⟩ := List.mem_map.mp hb
    rw [← e1, ← e2]
    exact (Sw.tup (.cons (row_sw hn h1 z1 hr) (.cons (row_sw hn h2 z2 hr') (.nil _ 16 0)))).mono (Nat.le_refl _) (by decide)
  · rw [prD2_len, List.length_map, Bk.rws_len]
    omega
abbrev stsD (b : Bk) : List PyData := (b.rws 0 0).map fun r => r.2.2.d
theorem sts_sw {ns : List Str} (hn : ∀ z ∈ ns, NmOk z) {b : Bk} (ho : b.ok ns 4) (hz : b.sz ≤ 24) : Sw 13 16 180000 (.list (stsD b)) := by
  refine (Sw.lst (SwA.all (n := 7200) fun d hd => ?_)).mono (Nat.le_refl _) ?_
  · obtain ⟨r, hr, rfl⟩ := List.mem_map.mp hd
    exact st_sw hn ho hz hr
  · rw [List.length_map, Bk.rws_len]
    omega
mutual
theorem St.rws_at : ∀ (s : St) (d p : Int) (i : Nat) (r : Rw), (s.rws d p)[i]? = some r → r.1 = p + i
  | .set _ _, d, p, i, r, h => by
    match i, h with
    | 0, h => cases h; show p = p + 0; omega
  | .pay _, d, p, i, r, h => by
    match i, h with
    | 0, h => cases h; show p = p + 0; omega
  | .stop, d, p, i, r, h => by
    match i, h with
    | 0, h => cases h; show p = p + 0; omega
  | .ite t y n, d, p, i, r, h => by
    match i, h with
    | 0, h => cases h; show p = p + 0; omega
    | i + 1, h =>
      have h : (y.rws (d + 1) (p + 1) ++ n.rws (d + 1) (p + 1 + y.sz))[i]? = some r := h
      by_cases hi : i < y.sz
      · rw [List.getElem?_append_left (by rw [Bk.rws_len]; exact hi)] at h
        have := Bk.rws_at y _ _ i r h
        omega
      · rw [List.getElem?_append_right (by rw [Bk.rws_len]; omega), Bk.rws_len] at h
        have := Bk.rws_at n _ _ _ r h
        omega
  | .rep k y, d, p, i, r, h => by
    match i, h with
    | 0, h => cases h; show p = p + 0; omega
    | i + 1, h =>
      have h : (y.rws (d + 1) (p + 1))[i]? = some r := h
      have := Bk.rws_at y _ _ i r h
      omega
theorem Bk.rws_at : ∀ (b : Bk) (d p : Int) (i : Nat) (r : Rw), (b.rws d p)[i]? = some r → r.1 = p + i
  | .nil, d, p, i, r, h => by simp [Bk.rws] at h
  | .cons s b, d, p, i, r, h => by
    have h : (s.rws d p ++ b.rws d (p + s.sz))[i]? = some r := h
    by_cases hi : i < s.sz
    · rw [List.getElem?_append_left (by rw [St.rws_len]; exact hi)] at h
      exact St.rws_at s _ _ i r h
    · rw [List.getElem?_append_right (by rw [St.rws_len]; omega), St.rws_len] at h
      have := Bk.rws_at b _ _ _ r h
      omega
end
mutual
theorem St.sum_wt {ns : List Str} : ∀ (s : St) (n : Nat), s.ok ns n → s.sumO (fun _ => 1) = (s.wt : Int)
  | .set _ _, _, _ => rfl
  | .pay _, _, _ => rfl
  | .stop, _, _ => rfl
  | .ite t y z, n, h => by rw [St.sumO, St.wt, Bk.sum_wt y n h.2.1, Bk.sum_wt z n h.2.2]; omega
  | .rep k y, n, h => by
    rw [St.sumO, St.wt, Bk.sum_wt y n h.2.2, Int.natCast_add, Int.natCast_mul, Int.toNat_of_nonneg (by have := h.1; omega)]; rfl
theorem Bk.sum_wt {ns : List Str} : ∀ (b : Bk) (n : Nat), b.ok ns n → b.sumO (fun _ => 1) = (b.wt : Int)
  | .nil, _, _ => rfl
  | .cons s b, n, h => by rw [Bk.sumO, Bk.wt, St.sum_wt s _ h.2.1, Bk.sum_wt b n h.2.2]; omega
end
abbrev sRight : Stmt := topS 25
abbrev nRight : List Str := ["_law_program_here", "_law_other", "_law_rows_here", "_law_pairs", "_law_k", "_law_row_here"]
theorem scRight : FnScope nRight ["_law_program_here", "_law_other"] (defScope sRight) := ⟨rfl, rfl, rfl, by decide +kernel, rfl, by decide +kernel, by decide +kernel⟩
theorem ix_tupK {X : Cx} {K : PySem.W.Frag} (h : X.K = K) : IxR X (rIxT K) := h ▸ ix_tup
/-- the walk, the rows, the statements and the weight come out right -/
def spRight (PW : Addr) : Sp := fun vs H Q _ => ∃ (v1 v2 : V) (b1 b2 : Bk) (ns : List Str), vs = [v1, v2] ∧ Tp H v1 (.tuple b1.ds) ∧ Tp H v2 (.tuple b2.ds) ∧ b1.ok ns 4 ∧ b2.ok ns 4 ∧ (∀ z ∈ ns, NmOk z) ∧ b1.sz ≤ 24 ∧ b2.sz ≤ 24 ∧ b1.wt ≤ 30 ∧ LamX.Tabs (TLw PW) H ∧ ∀ H', Sx [PW] H H' → LamX.Tabs (TLw PW) H' → Q (.bl true) H'
section
variable {w : World} {P : Program} {K : PySem.W.Frag} {mg : Str → Option Value} {base : Heap}
set_option maxHeartbeats 4000001 in
theorem ok_right {f fA fB fC fD fE fF : Addr} {fd fdA fdB fdC fdD fdE fdF : FuncData} {C PW : Addr} (F_right : Fun K "_law_right" "_law_right" sRight f fd)
    (F_rows : Fun K "_law_rows" "_law_rows" sRows fA fdA) (F_weight : Fun K "_law_weight" "_law_weight" sWeight fB fdB) (F_peach_statement : Fun K "each_statement" "each_statement" sPEachStatement fC fdC) (F_pblocks_of : Fun K "blocks_of" "blocks_of" sPBlocksOf fD fdD) (F_pstatement_at : Fun K "statement_at" "statement_at" sPStatementAt fE fdE) (F_pweight : Fun K "weight" "weight" sPWeight fF fdF)
    (G_rows : FnOk P w K mg base CX0 6 fA fdA ["_law_block_here", "_law_place", "_law_depth"] (spLRows 5)) (G_weight : FnOk P w K mg base CX0 7 fB fdB ["_law_block_here"] (spLW 5)) (G_peach_statement : GFn P w K mg base 2 fC fdC ["program"] spEach) (G_pblocks_of : FnOk P w K mg base CX0 1 fD fdD ["statement"] spBlocks)
    (G_pstatement_at : FnOk P w K mg base (L2.CX P w) 6 fE fdE ["program", "place"] (spStAt C)) (G_pweight : FnOk P w K mg base CX0 11 fF fdF ["program"] (spWeight PW 5))
    (b_rows : Binds K fdA ["_law_block_here", "_law_place", "_law_depth"] []) (b_weight : Binds K fdB ["_law_block_here"] []) (b_peach_statement : Binds K fdC ["program"] []) (b_pblocks_of : Binds K fdD ["statement"] []) (b_pstatement_at : Binds K fdE ["program", "place"] []) (b_pweight : Binds K fdF ["program"] [])
    (m_rows : mg "_law_rows" = some (.ref fA)) (m_weight : mg "_law_weight" = some (.ref fB)) (m_peach_statement : mg "each_statement" = some (.ref fC)) (m_pblocks_of : mg "blocks_of" = some (.ref fD)) (m_pstatement_at : mg "statement_at" = some (.ref fE)) (m_pweight : mg "weight" = some (.ref fF))
    (z_repr : mg "repr" = none) (z_range : mg "range" = none) (z_list : mg "list" = none) (z_zip : mg "zip" = none) : FnG P w K mg base 12 f fd ["_law_program_here", "_law_other"] (spRight PW) := by
  refine Fun.okG F_right scRight (fun vs H Q E h => ?_) (fun cdv A outer s H vs Q E hr hgd h => ?_)
  · obtain ⟨_, _, _, _, _, rfl, _⟩ := h
    rfl
  · obtain ⟨v1, v2, b1, b2, ns, rfl, t1, t2, o1, o2, hn, z1, z2, zw, hT, q⟩ := h
    have hu := hr.units
    refine ⟨_, (pss_cons (ps_set (i := 2) scRight.nd rfl (by first | exact Or.inl rfl | exact Or.inr rfl) (pe_call G_rows (hr.mono (by omega)) (by rfl) m_rows F_rows.kp b_rows .nil pass0 (pa_cons (pv 0) (pa_cons pe_int (pa_cons pe_int pa_nil)))))
      (pss_cons (ps_if (pt_cmpR op_ne (pe_callB (call_reprA hgd hu) (by rfl) z_repr boot_repr (pa_cons (pe_lc (own := [("_law_k", 4)]) (g := gName 4) (tt := tYes) rfl scRight.nd (pi_range1 (by rfl) z_range (pa_cons pe_int pa_nil)) (blkOk_by (N := nRight) (sc := defScope sRight) (by decide +kernel)) (fun _ _ _ _ _ => (pg_name (i := 4) scRight.nd rfl (by first | exact Or.inl rfl | exact Or.inr rfl))) (fun _ _ _ _ _ => pts_nil) (fun _ _ _ _ _ => (pe_listG (pgen_call G_peach_statement (hr.mono (by omega)) (by rfl) m_peach_statement F_peach_statement.kp b_peach_statement .nil (pa_cons (pv 0) pa_nil)) passCX0 noStop0 (hr.mono (by omega)) (by rfl) z_list (by decide +kernel)))) pa_nil)) (pe_callB (call_reprA hgd hu) (by rfl) z_repr boot_repr (pa_cons (pe_lst (pa_cons (pv 2) (pa_cons (pv 2) pa_nil))) pa_nil)) (nomark _)) (pss_one (ps_ret pe_bl)) pss_nil)
      (pss_cons (ps_set (i := 3) scRight.nd rfl (by first | exact Or.inl rfl | exact Or.inr rfl) (pe_lz (i1 := 0) (i2 := 1) F_peach_statement (hr.mono (by omega)) (by rfl) m_peach_statement b_peach_statement (by rfl) z_list (by rfl) z_zip rfl rfl (by first | exact Or.inl rfl | exact Or.inr (Or.inl rfl)) (by first | exact Or.inl rfl | exact Or.inr (Or.inl rfl)) (fun n cd pn s H hr => rowsE4 F_pblocks_of G_pblocks_of b_pblocks_of m_pblocks_of cdv A outer _ _ E _ n cd pn s H hr)))
      (pss_cons (ps_if (pt_cmpR op_ne (pe_callB (call_reprA hgd hu) (by rfl) z_repr boot_repr (pa_cons (pv 3) pa_nil)) (pe_callB (call_reprA hgd hu) (by rfl) z_repr boot_repr (pa_cons (pe_ll (hr.mono (by omega)) (by rfl) z_list (by rfl) z_zip (pa_cons (pv 2) (pa_cons (pe_call G_rows (hr.mono (by omega)) (by rfl) m_rows F_rows.kp b_rows .nil pass0 (pa_cons (pv 1) (pa_cons pe_int (pa_cons pe_int pa_nil)))) pa_nil))) pa_nil)) (nomark _)) (pss_one (ps_ret pe_bl)) pss_nil)
      (pss_cons (ps_if (pt_cmpR op_ne (pe_callB (call_reprA hgd hu) (by rfl) z_repr boot_repr (pa_cons (pe_lc (own := [("_law_row_here", 5)]) (g := gName 5) (tt := tYes) rfl scRight.nd (pi_list (pv 2)) (blkOk_by (N := nRight) (sc := defScope sRight) (by decide +kernel)) (fun _ _ _ _ _ => (pg_name (i := 5) scRight.nd rfl (by first | exact Or.inl rfl | exact Or.inr rfl))) (fun _ _ _ _ _ => pts_nil) (fun _ _ _ _ _ => (pe_call G_pstatement_at (hr.mono (by omega)) (by rfl) m_pstatement_at F_pstatement_at.kp b_pstatement_at .nil passL (pa_cons (pv 0) (pa_cons (pe_ix (ix_tupK (K := K) rfl) (pv 5) pe_int (fun _ _ => rfl)) pa_nil))))) pa_nil)) (pe_callB (call_reprA hgd hu) (by rfl) z_repr boot_repr (pa_cons (pe_lc (own := [("_law_row_here", 5)]) (g := gName 5) (tt := tYes) rfl scRight.nd (pi_list (pv 2)) (blkOk_by (N := nRight) (sc := defScope sRight) (by decide +kernel)) (fun _ _ _ _ _ => (pg_name (i := 5) scRight.nd rfl (by first | exact Or.inl rfl | exact Or.inr rfl))) (fun _ _ _ _ _ => pts_nil) (fun _ _ _ _ _ => (pe_ix (ix_tupK (K := K) rfl) (pv 5) pe_int (fun _ _ => rfl)))) pa_nil)) (nomark _)) (pss_one (ps_ret pe_bl)) pss_nil)
      (pss_one (ps_ret (pe_cmpR op_eq (pe_callB (call_reprA hgd hu) (by rfl) z_repr boot_repr (pa_cons (pe_call G_pweight (hr.mono (by omega)) (by rfl) m_pweight F_pweight.kp b_pweight .nil pass0 (pa_cons (pv 0) pa_nil)) pa_nil)) (pe_callB (call_reprA hgd hu) (by rfl) z_repr boot_repr (pa_cons (pe_call G_weight (hr.mono (by omega)) (by rfl) m_weight F_weight.kp b_weight .nil pass0 (pa_cons (pv 0) pa_nil)) pa_nil)) (nomark _))))))))), ?_⟩
    -- the law's own rows
    refine ⟨_, rfl, v1, b1, ns, 0, 0, rfl, t1, o1, by decide, by omega, fun H1 L ys s1 nL eL ty => ?_⟩
    have t11 := t1.keep s1.tk0
    have t21 := t2.keep s1.tk0
    have hT1 := Tabs.sx hT s1
    have yl : ys.length = b1.sz := by rw [ty.len, List.length_map, Bk.rws_len]
    -- the walk, twice
    refine ⟨2, rfl, by decide, by decide, fun Z hZ => lc_range (lo := 0) (n := 2) (fun i H' => Sx [] H1 H' ∧ ∃ vals, H' Z = some (.lst vals) ∧ vals.length = i ∧ ∀ x ∈ vals, ∃ p ws, x = .ref p ∧ H' p = some (.lst ws) ∧ p ≠ Z ∧ TpAll H' ws (rowsD b1)) ?_ (fun i H' hi p => ?_) (fun H' p => ?_)⟩
    · exact ⟨Sx.n0 hZ, [], upd_same, rfl, fun x hx => by cases hx⟩
    · obtain ⟨sA, vals, eZ, vlen, vv⟩ := p
      refine ⟨rfl, ?_⟩
      refine ⟨_, rfl, v1, b1, rfl, t11.keep sA.tk0, by omega, fun ws H2 s2 tw p hp => ?_⟩
      have eZ2 := s2 _ _ (by simp) eZ
      have pz : p ≠ Z := fun e => by rw [e, eZ2] at hp; cases hp
      have s3 : Sx [] H2 (upd H2 p (.lst ws)) := Sx.n0 hp
      have eZ3 := s3 _ _ (by simp) eZ2
      refine ⟨vals, eZ3, lt_line (by omega), ((sA.trans s2).trans s3).own hZ, _, upd_same, by rw [List.length_append, vlen]; rfl, fun x hx => ?_⟩
      have kZ : Tk (upd H2 p (.lst ws)) (upd (upd H2 p (.lst ws)) Z (.lst (vals ++ [.ref p]))) := Tk.lst eZ3
      rcases List.mem_append.1 hx with hx | hx
      · obtain ⟨p', ws', rfl, e', ne', t'⟩ := vv x hx
        exact ⟨p', ws', rfl, by rw [upd_ne ne']; exact s3 _ _ (by simp) (s2 _ _ (by simp) e'), ne', ((t'.keep s2.tk0).keep s3.tk0).keep kZ⟩
      · rw [List.mem_singleton.mp hx]
        exact ⟨p, ws, rfl, by rw [upd_ne pz]; exact upd_same, pz, (tw.keep s3.tk0).keep kZ⟩
    · obtain ⟨sA, vals, eZ, vlen, vv⟩ := p
      have D2 : ∀ {H2 : Hp}, Sx [] H' H2 → Dp K H2 (.ref Z) (.list [.list (rowsD b1), .list (rowsD b1)]) := fun {H2} sx => by
        match vals, vlen, vv, eZ with
        | [x, y], _, vv, eZ =>
          obtain ⟨p1, ws1, rfl, e1, _, u1⟩ := vv x (List.mem_cons_self ..)
          obtain ⟨p2, ws2, rfl, e2, _, u2⟩ := vv y (List.mem_cons_of_mem _ (List.mem_cons_self ..))
          exact .lst (SqL.of (sx _ _ (by simp) eZ)) (.cons (.lst (SqL.of (sx _ _ (by simp) e1)) (u1.keep sx.tk0).dp) (.cons (.lst (SqL.of (sx _ _ (by simp) e2)) (u2.keep sx.tk0).dp) .nil))
      refine ⟨_, _, rfl, RpA.sw (D2 (Sx.refl _)) (two_sw hn o1 z1) (by decide) (by decide), ?_⟩
      have eL2 := sA _ _ (by simp) eL
      have ty2 := ty.keep sA.tk0
      refine ⟨_, rfl, _, rfl, by show 2 ≤ sizeLine; decide, fun l hl => ?_⟩
      have s2 : Sx [] H' (upd H' l (.lst [.ref L, .ref L])) := Sx.n0 hl
      have eL3 := s2 _ _ (by simp) eL2
      have ty3 := ty2.keep s2.tk0
      refine ⟨_, _, rfl, RpA.sw (.lst (SqL.of upd_same) (.cons (.lst (SqL.of eL3) ty3.dp) (.cons (.lst (SqL.of eL3) ty3.dp) .nil))) (two_sw hn o1 z1) (by decide) (by decide), rfl, _, rfl, iteNS rfl ?_⟩
      -- two walks in step
      have sB : Sx [] H1 (upd H' l (.lst [.ref L, .ref L])) := sA.trans s2
      have t12 := t11.keep sB.tk0
      have t22 := t21.keep sB.tk0
      have hT2 := Tabs.sx hT1 sB
      clear D2 vv eZ eL2 ty2
      generalize upd H' l (.lst [.ref L, .ref L]) = H3 at sB eL3 ty3 t12 t22 hT2 ⊢
      obtain ⟨a1, xs1, rfl, ha1, hx1⟩ := t12.tuple
      obtain ⟨a2, xs2, rfl, ha2, hx2⟩ := t22.tuple
      refine ⟨a1, a2, b1, b2, rfl, rfl, t12, t22, by omega, by omega, fun S H4 pv s4 nS eS tp => gnm ?_⟩
      have eL4 := s4 _ _ (by simp) eL3
      have ty4 := ty3.keep s4.tk0
      have t14 := t12.keep s4.tk0
      have t24 := t22.keep s4.tk0
      have hT4 := Tabs.sx hT2 s4
      have pw := prs_sw hn o1 z1 o2 z2
      refine ⟨_, rfl, _, _, rfl, RpA.sw (.lst (SqL.of eS) tp.dp) pw (by decide) (by decide), ?_⟩
      refine ⟨_, rfl, _, rfl, _, b2, ns, 0, 0, rfl, t24, o2, by decide, by omega, fun H5 L5 ys5 s5 nL5 eL5 ty5 => ?_⟩
      have eL45 := s5 _ _ (by simp) eL4
      refine ⟨L, L5, ys, ys5, _, _, rfl, SqL.of eL45, SqL.of eL5, ty4.keep s5.tk0, ty5, by rw [List.length_map, Bk.rws_len]; omega, fun S6 H6 vals6 s6 nS6 eS6 ty6 => ?_⟩
      rw [← prs_eq] at ty6
      refine ⟨_, _, rfl, RpA.sw (.lst (SqL.of eS6) ty6.dp) pw (by decide) (by decide), rfl, _, rfl, iteNS rfl ?_⟩
      have s46 : Sx [] H4 H6 := s5.trans s6
      have eL6 := s6 _ _ (by simp) eL45
      have ty6 := ty4.keep s46.tk0
      have t16 := t14.keep s46.tk0
      have hT6 := Tabs.sx hT4 s46
      have sC : Sx [] H H6 := ((s1.trans sB).trans s4).trans s46
      have rowAt : ∀ (j : Nat) (y : V) (H' : Hp), ys[j]? = some y → Sx [] H6 H' → ∃ (ar : Addr) (x2 : V) (r : Rw), y = .ref ar ∧ H' ar = some (.tup [.int j, .int r.2.1, x2]) ∧ Tp H' x2 r.2.2.d ∧ (b1.rws 0 0)[j]? = some r ∧ r.1 = j := fun j y H' hj sx => by
        obtain ⟨d, hd, td⟩ := ty6.get hj
        rw [List.getElem?_map] at hd
        cases hr2 : (b1.rws 0 0)[j]? with
        | none => rw [hr2] at hd; cases hd
        | some r =>
          rw [hr2] at hd
          cases hd
          have e1 : r.1 = j := by have := Bk.rws_at b1 0 0 j r hr2; omega
          obtain ⟨a', p1, p2, p3, ea, hA, q1, q2, q3⟩ := tp3 (td.keep sx.tk0)
          cases ea
          obtain rfl := tpI q1
          obtain rfl := tpI q2
          rw [e1] at hA
          exact ⟨_, _, r, rfl, hA, q3, rfl, e1⟩
      have stsAt : ∀ {j : Nat} {r : Rw}, (b1.rws 0 0)[j]? = some r → (stsD b1).take (j + 1) = (stsD b1).take j ++ [r.2.2.d] := fun {j r} h => by
        rw [List.take_add_one, List.getElem?_map, h]
        rfl
      have sl : (stsD b1).length = ys.length := by rw [List.length_map, Bk.rws_len, yl]
      have sw5 := sts_sw hn o1 z1
      refine ⟨_, rfl, L, rfl, ⟨ys, SqL.of eL6⟩, fun Z hZ => lc_list (xs := ys) (fun j H' => Sx [] H6 H' ∧ ∃ vals, H' Z = some (.lst vals) ∧ vals.length = j ∧ TpAll H' vals ((stsD b1).take j)) ⟨Sx.n0 hZ, [], upd_same, rfl, .nil⟩ (fun j H' _ p => SqL.of (p.1 _ _ (by simp) eL6)) (fun j y H' hj p => ?_) (fun H' p => ?_)⟩
      · obtain ⟨sA, vals, eZ, vlen, tv⟩ := p
        obtain ⟨ar, x2, r, rfl, hA, tx, hr2, er⟩ := rowAt j y H' hj sA
        have jlt : j < b1.sz := by rw [← yl]; exact (List.getElem?_eq_some_iff.mp hj).1
        refine ⟨rfl, ?_⟩
        refine ⟨_, rfl, _, rfl, ar, _, _, _, rfl, rfl, SqT.of hA, rfl, ?_⟩
        refine ⟨[], _, .int j, b1, .int j, rfl, t16.keep sA.tk0, by omega, .int _, fun i' dp st e hget H7 x s7 t7 => ?_, fun h => absurd (h j rfl) (by omega)⟩
        have e' : i' = j := by cases e; rfl
        subst e'
        rw [hr2] at hget
        cases hget
        have eZ7 := s7 _ _ (by simp) eZ
        refine ⟨vals, eZ7, lt_line (by omega), (sA.trans s7).own hZ, _, upd_same, by rw [List.length_append, vlen]; rfl, ?_⟩
        rw [stsAt hr2]
        exact ((tv.keep s7.tk0).append (.cons t7 .nil)).keep (Tk.lst eZ7)
      · obtain ⟨sA, vals, eZ, vlen, tv⟩ := p
        rw [← sl, List.take_length] at tv
        refine ⟨_, _, rfl, RpA.sw (.lst (SqL.of eZ) tv.dp) sw5 (by decide) (by decide), ?_⟩
        have eL7 := sA _ _ (by simp) eL6
        refine ⟨_, rfl, L, rfl, ⟨ys, SqL.of eL7⟩, fun Y hY => lc_list (xs := ys) (fun j H7 => Sx [] H' H7 ∧ ∃ vals, H7 Y = some (.lst vals) ∧ vals.length = j ∧ TpAll H7 vals ((stsD b1).take j)) ⟨Sx.n0 hY, [], upd_same, rfl, .nil⟩ (fun j H7 _ p => SqL.of (p.1 _ _ (by simp) eL7)) (fun j y H7 hj p => ?_) (fun H7 p => ?_)⟩
        · obtain ⟨sC, vals, eY, wlen, tw⟩ := p
          obtain ⟨ar, x2, r, rfl, hA, tx, hr2, er⟩ := rowAt j y H7 hj (sA.trans sC)
          have jlt : j < b1.sz := by rw [← yl]; exact (List.getElem?_eq_some_iff.mp hj).1
          refine ⟨rfl, ?_⟩
          refine ⟨_, rfl, ar, _, _, _, rfl, rfl, SqT.of hA, rfl, ?_⟩
          refine ⟨vals, eY, lt_line (by omega), sC.own hY, _, upd_same, by rw [List.length_append, wlen]; rfl, ?_⟩
          rw [stsAt hr2]
          exact (tw.append (.cons tx .nil)).keep (Tk.lst eY)
        · obtain ⟨sD, ws, eY, wlen, tw⟩ := p
          rw [← sl, List.take_length] at tw
          refine ⟨_, _, rfl, RpA.sw (.lst (SqL.of eY) tw.dp) sw5 (by decide) (by decide), rfl, _, rfl, iteNS rfl ?_⟩
          -- the weight
          have s67 : Sx [] H6 H7 := sA.trans sD
          have t17 := t16.keep s67.tk0
          have hT7 := Tabs.sx hT6 s67
          have fc := Bk.fac_M 4 b1 (Bk.M_ok o1) (by omega)
          have wsw : Sw 13 1 7 (.int (b1.sumO fun _ => 1)) := by
            rw [Bk.sum_wt b1 4 o1]
            exact Sw.sm (by omega) (by omega) 1
          refine ⟨_, rfl, _, b1, rfl, t17, fc, hT7, fun H8 s8 hT8 => ⟨_, _, rfl, RpA.sw (.int _) wsw (by decide) (by decide), ?_⟩⟩
          refine ⟨_, rfl, _, b1, rfl, t17.keep (tabs_tkw hT7 s8), fc, fun H9 s9 => ⟨_, _, rfl, RpA.sw (.int _) wsw (by decide) (by decide), ?_⟩⟩
          refine ⟨rfl, ?_⟩
          rw [decide_eq_true rfl]
          exact q H9 (((((sC.trans s67).mono (by simp)).trans s8).trans (s9.mono (by simp)))) (Tabs.sx hT8 s9)
end
/-! ### odd values, bent ones -/
/-- lists of one's own, the deck's among them -/
structure NOk (N : List Addr) (H : Hp) (a c : Addr) : Prop where
  ma : a ∈ N
  mc : c ∈ N
  nn : ∀ b ∈ N, H b ≠ none
theorem NOk.sx {N : List Addr} {H H' : Hp} {a c : Addr} {cs : List Int} {k : Int} (h : NOk N H a c) (s : Sx [a, c] H H') (D : Dk H' a c cs k) : NOk N H' a c := ⟨h.ma, h.mc, fun b hb => by
  by_cases e : b ∈ [a, c]
  · obtain ⟨ys, e⟩ := D.lst b e
    rw [e]
    simp
  · cases e2 : H b with
    | none => exact absurd e2 (h.nn b hb)
    | some o =>
      rw [s b o e e2]
      simp⟩
theorem NOk.kp {N : List Addr} {H H' : Hp} {a c : Addr} {cs : List Int} {k : Int} (h : NOk N H a c) (D : Dk H a c cs k) (s : Sx [a, c] H H') : Kp N H H' := s.kp fun b hb => ⟨by
  rcases List.mem_cons.1 hb with rfl | hb
  · exact h.ma
  · rw [List.mem_singleton.mp hb]; exact h.mc, D.lst b hb⟩
theorem NOk.s0 {N : List Addr} {H H' : Hp} {a c : Addr} (h : NOk N H a c) (s : Sx [] H H') : NOk N H' a c := ⟨h.ma, h.mc, fun b hb => by
  cases e2 : H b with
  | none => exact absurd e2 (h.nn b hb)
  | some o =>
    rw [s b o (by simp) e2]
    simp⟩
theorem NOk.of {H : Hp} {a c : Addr} {cs : List Int} {k : Int} (D : Dk H a c cs k) : NOk [a, c] H a c := ⟨by simp, by simp, fun b hb => by
  obtain ⟨ys, e⟩ := D.lst b hb
  rw [e]
  simp⟩
theorem NOk.cons {N : List Addr} {H : Hp} {a c l : Addr} {o : HO} (h : NOk N H a c) (e : H l = some o) : NOk (l :: N) H a c := ⟨List.mem_cons_of_mem _ h.ma, List.mem_cons_of_mem _ h.mc, fun b hb => by
  rcases List.mem_cons.1 hb with rfl | hb
  · rw [e]; simp
  · exact h.nn b hb⟩
abbrev sPLaw : Stmt := topS 26
abbrev nPLaw : List Str := ["_law_script", "_law_deck_here", "_law_turn", "_law_names_here", "_law_program_here", "_law_other", "_law_many", "_law_odd", "_law_place"]
theorem scPLaw : FnScope nPLaw ["_law_script"] (defScope sPLaw) := ⟨rfl, rfl, rfl, by decide +kernel, rfl, by decide +kernel, by decide +kernel⟩
def spLaw24 (K : PySem.W.Frag) (PW : Addr) : Sp := fun vs H Q _ => ∃ (a : Addr) (ns : List Int), vs = [.ref a] ∧ SqL K H a (ns.map V.int) ∧ ns.length ≤ 63 ∧ LamX.Tabs (TLw PW) H ∧ ∀ H', Q (.bl true) H'
theorem deck_tabw {PW D c : Addr} {H H' : Hp} {cs : List Int} {k : Int} (DK : Dk H D c cs k) (hT : LamX.Tabs (TLw PW) H) (s : Sx [PW] H H') : Dk H' D c cs k :=
  DK.sx s (fun h => deck_w DK hT _ (List.mem_cons_self ..) (List.mem_singleton.mp h)) (fun h => deck_w DK hT _ (List.mem_cons_of_mem _ (List.mem_cons_self ..)) (List.mem_singleton.mp h))
/-- an odd place of a program -/
def OddP (N : List Addr) (b : Bk) (H : Hp) (x : V) : Prop := ∃ d, Gd N H x d ∧ ShG 60 80000 d ∧ ∀ i : Nat, d = .int i → b.sz ≤ i
theorem OddP.keep {N : List Addr} {b : Bk} {H H' : Hp} {x : V} (h : OddP N b H x) (s : Kp N H H') : OddP N b H' x := by
  obtain ⟨d, g, z⟩ := h
  exact ⟨d, g.keep s, z⟩
theorem OddP.int {N : List Addr} {b : Bk} {H : Hp} {i : Int} (h : i.natAbs < 2 ^ 200) (h2 : ∀ j : Nat, i = j → b.sz ≤ j) : OddP N b H (.int i) :=
  ⟨.int i, .int i, (ShG.int h (by decide) (by decide) 60).mono (Nat.le_refl _) (by decide), fun j e => h2 j (by cases e; rfl)⟩
section
variable {w : World} {P : Program} {K : PySem.W.Frag} {mg : Str → Option Value} {base : Heap}
set_option maxHeartbeats 8000001 in
theorem ok_law24 {f fA fB fC fD fE fF fG fH fI : Addr} {fd fdA fdB fdC fdD fdE fdF fdG fdH fdI : FuncData} {PW : Addr} (F_law : Fun K "law" "law" sPLaw f fd)
    (F_deck : Fun K "_law_deck" "_law_deck" sDeck fA fdA) (F_names : Fun K "_law_names" "_law_names" sNames fB fdB) (F_program : Fun K "_law_program" "_law_program" sProgram fC fdC) (F_right : Fun K "_law_right" "_law_right" sRight fD fdD) (F_refused : Fun K "_law_refused" "_law_refused" sRefused fE fdE) (F_rows : Fun K "_law_rows" "_law_rows" sRows fF fdF) (F_draw : Fun K "_law_draw" "_law_draw" sDraw fG fdG) (F_peach_statement : Fun K "each_statement" "each_statement" sPEachStatement fH fdH) (F_pweight : Fun K "weight" "weight" sPWeight fI fdI)
    (G_deck : FnOk P w K mg base CX0 1 fA fdA ["_law_script"] (spDeck K)) (G_names : FnOk P w K mg base CX0 3 fB fdB ["_law_deck_here"] (spNames K)) (G_program : FnOk P w K mg base CX0 15 fC fdC ["_law_deck_here", "_law_names_here"] (spProgram K))
    (G_right : FnG P w K mg base 12 fD fdD ["_law_program_here", "_law_other"] (spRight PW)) (G_refused : FnG P w K mg base 8 fE fdE ["_law_program_here", "_law_place"] spRef) (G_rows : FnOk P w K mg base CX0 6 fF fdF ["_law_block_here", "_law_place", "_law_depth"] (spLRows 5)) (G_draw : FnOk P w K mg base CX0 1 fG fdG ["_law_deck_here", "_law_many"] spDraw)
    (G_peach_statement : GFn P w K mg base 2 fH fdH ["program"] spEach) (G_pweight : FnOk P w K mg base CX0 11 fI fdI ["program"] (spWeight PW 5))
    (b_deck : Binds K fdA ["_law_script"] []) (b_names : Binds K fdB ["_law_deck_here"] []) (b_program : Binds K fdC ["_law_deck_here", "_law_names_here"] []) (b_right : Binds K fdD ["_law_program_here", "_law_other"] []) (b_refused : Binds K fdE ["_law_program_here", "_law_place"] []) (b_rows : Binds K fdF ["_law_block_here", "_law_place", "_law_depth"] []) (b_draw : Binds K fdG ["_law_deck_here", "_law_many"] []) (b_peach_statement : Binds K fdH ["program"] []) (b_pweight : Binds K fdI ["program"] [])
    (m_deck : mg "_law_deck" = some (.ref fA)) (m_names : mg "_law_names" = some (.ref fB)) (m_program : mg "_law_program" = some (.ref fC)) (m_right : mg "_law_right" = some (.ref fD)) (m_refused : mg "_law_refused" = some (.ref fE)) (m_rows : mg "_law_rows" = some (.ref fF)) (m_draw : mg "_law_draw" = some (.ref fG)) (m_peach_statement : mg "each_statement" = some (.ref fH)) (m_pweight : mg "weight" = some (.ref fI))
    (z_repr : mg "repr" = none) (z_range : mg "range" = none) (z_list : mg "list" = none) (z_len : mg "len" = none) : FnG P w K mg base 20 f fd ["_law_script"] (spLaw24 K PW) := by
  refine Fun.okG F_law scPLaw (fun vs H Q E h => ?_) (fun cdv A outer s H vs Q E hr hgd h => ?_)
  · obtain ⟨_, _, rfl, _⟩ := h
    rfl
  · obtain ⟨a, ns, rfl, hS, hlen, hT, q⟩ := h
    have hu := hr.units
    have KBe : KB = 1099511627776 := rfl
    have cPe : cP = 700000 := rfl
    refine ⟨_, (pss_cons (ps_set (i := 1) scPLaw.nd rfl (by first | exact Or.inl rfl | exact Or.inr rfl) (pe_call G_deck (hr.mono (by omega)) (by rfl) m_deck F_deck.kp b_deck .nil pass0 (pa_cons (pv 0) pa_nil)))
      (C8.pss_cut (ps_for PassesOwn.never rfl (pi_range1 (by rfl) z_range (pa_cons pe_int pa_nil)) (pg_name (i := 2) scPLaw.nd rfl (by first | exact Or.inl rfl | exact Or.inr rfl)) (pss_cons (ps_set (i := 3) scPLaw.nd rfl (by first | exact Or.inl rfl | exact Or.inr rfl) (pe_call G_names (hr.mono (by omega)) (by rfl) m_names F_names.kp b_names .nil pass0 (pa_cons (pv 1) pa_nil)))
      (pss_cons (ps_par (i := 4) (j := 5) (by rfl) scPLaw.nd rfl rfl (by decide) rfl rfl (pa_cons (pe_call G_program (hr.mono (by omega)) (by rfl) m_program F_program.kp b_program .nil pass0 (pa_cons (pv 1) (pa_cons (pv 3) pa_nil))) (pa_cons (pe_call G_program (hr.mono (by omega)) (by rfl) m_program F_program.kp b_program .nil pass0 (pa_cons (pv 1) (pa_cons (pv 3) pa_nil))) pa_nil)) (by rfl))
      (pss_cons (ps_if (pt_not (pt_val (pe_callG G_right (hr.mono (by omega)) hgd (by rfl) m_right F_right.kp b_right .nil (pa_cons (pv 4) (pa_cons (pv 5) pa_nil))))) (pss_one (ps_ret pe_bl)) pss_nil)
      (pss_cons (ps_set (i := 6) scPLaw.nd rfl (by first | exact Or.inl rfl | exact Or.inr rfl) (pe_callB call_len_seq (by rfl) z_len boot_len (pa_cons (pe_call G_rows (hr.mono (by omega)) (by rfl) m_rows F_rows.kp b_rows .nil pass0 (pa_cons (pv 4) (pa_cons pe_int (pa_cons pe_int pa_nil)))) pa_nil)))
      (pss_cons (ps_set (i := 7) scPLaw.nd rfl (by first | exact Or.inl rfl | exact Or.inr rfl) (pe_lst (pa_cons (pv 6) (pa_cons (pe_un un_neg pe_int) (pa_cons (pe_op op_sub (pe_op op_sub pe_int (pv 6)) pe_int) (pa_cons (pe_op op_pow pe_int pe_int) (pa_cons pe_bl (pa_cons pe_bl (pa_cons pe_non (pa_cons pe_str (pa_cons (pe_tup (pa_cons pe_int pa_nil)) (pa_cons (pe_lstB (pa_cons pe_int pa_nil)) (pa_cons pe_dnewK (pa_cons (pe_op op_add (pv 6) (pe_call G_draw (hr.mono (by omega)) (by rfl) m_draw F_draw.kp b_draw .nil pass0 (pa_cons (pv 1) (pa_cons pe_int pa_nil)))) pa_nil))))))))))))))
      (pss_one (ps_for PassesOwn.never rfl (pi_list (pv 7)) (pg_name (i := 8) scPLaw.nd rfl (by first | exact Or.inl rfl | exact Or.inr rfl)) (pss_one (ps_if (pt_not (pt_val (pe_callG G_refused (hr.mono (by omega)) hgd (by rfl) m_refused F_refused.kp b_refused .nil (pa_cons (pv 4) (pa_cons (pv 8) pa_nil))))) (pss_one (ps_ret pe_bl)) pss_nil))))))))))
      (pss_one (ps_ret (pe_cmpR op_eq (pe_callB (call_reprA hgd hu) (by rfl) z_repr boot_repr (pa_cons (pe_lst (pa_cons (pe_listG (pgen_call G_peach_statement (hr.mono (by omega)) (by rfl) m_peach_statement F_peach_statement.kp b_peach_statement .nil (pa_cons (pe_tup pa_nil) pa_nil)) passCX0 noStop0 (hr.mono (by omega)) (by rfl) z_list (by decide +kernel)) (pa_cons (pe_call G_pweight (hr.mono (by omega)) (by rfl) m_pweight F_pweight.kp b_pweight .nil pass0 (pa_cons (pe_tup pa_nil) pa_nil)) pa_nil))) pa_nil)) pe_str (nomark _)))))), ?_⟩
    refine ⟨_, rfl, a, ns, rfl, hS, hlen, fun H1 D c cs s1 _ _ DK => ?_⟩
    have hT1 := Tabs.sx hT s1
    refine ⟨fun _ H' => LamX.Tabs (TLw PW) H', ?_, ?_⟩
    · refine ⟨6, rfl, by decide, by decide, for_range (n := 6) (fun i σ' H' => ∃ o2 o3 o4 o5 o6 o7 o8, σ' = [some (.ref a), some (.ref D), o2, o3, o4, o5, o6, o7, o8] ∧ LamX.Tabs (TLw PW) H' ∧ ∃ cs k, Dk H' D c cs k ∧ k ≤ (i : Int) * 1500000)
        ⟨_, _, _, _, _, _, _, rfl, hT1, _, _, DK, by omega⟩ (fun i σ' H' hi h => ?_) (fun σ' H' h => by obtain ⟨_, _, _, _, _, _, _, _, h, _⟩ := h; exact h)⟩
      obtain ⟨o2, o3, o4, o5, o6, o7, o8, rfl, hT2, cs1, k1, DK1, hk1⟩ := h
      refine gnm ?_
      refine ⟨_, rfl, D, c, cs1, k1, rfl, DK1, by omega, fun H3 cs3 k3 p nms s3 DK3 k3a k3b _ pa pc NM => ?_⟩
      have hT3 := tabs_lst hT2 s3 DK1.lst
      refine ⟨_, rfl, _, rfl, D, c, cs3, k3, p, nms, rfl, DK3, NM, pa, pc, by omega, fun H4 cs4 k4 v es n w' r' cc s4 DK4 k4a k4b T4 bk hn hw _ _ => ?_⟩
      have hT4 := tabs_lst hT3 s4 DK3.lst
      have NM4 : Nms K H4 p nms := NM.keep s4 (by simp [pa, pc])
      refine ⟨_, rfl, _, rfl, D, c, cs4, k4, p, nms, rfl, DK4, NM4, pa, pc, by omega, fun H5 cs5 k5 v5 es5 n5 w5 r5 cc5 s5 DK5 k5a k5b T5 bk5 hn5 hw5 _ _ => ?_⟩
      have hT5 := tabs_lst hT4 s5 DK4.lst
      have T45 := T4.keep (s5.tk DK4.lst)
      obtain ⟨b, rfl, bo, bsz, bwt, _, _⟩ := Bk.of bk
      obtain ⟨b5, rfl, bo5, bsz5, bwt5, _, _⟩ := Bk.of bk5
      have hsz : b.sz ≤ 24 := by omega
      have hsz5 : b5.sz ≤ 24 := by omega
      refine ⟨_, _, rfl, ?_⟩
      refine ⟨_, rfl, _, rfl, v, v5, b, b5, nms, rfl, T45, T5, bo, bo5, NM.ok, hsz, hsz5, by omega, hT5, fun H6 s6 hT6 => ⟨_, rfl, iteF ?_⟩⟩
      have T6 := T45.keep (tabs_tkw hT5 s6)
      have DK6 := deck_tabw DK5 hT5 s6
      clear T4 T5 T45 NM4
      refine ⟨_, rfl, v, b, nms, 0, 0, rfl, T6, bo, by decide, by omega, fun H7 L ys s7 nL eL ty => ⟨L, ys, rfl, .inl (SqL.of eL), gnm ?_⟩⟩
      have yl : ys.length = b.sz := by rw [ty.len, List.length_map, Bk.rws_len]
      rw [yl]
      have T7 := T6.keep s7.tk0
      have DK7 := DK6.same s7
      have hT7 := Tabs.sx hT6 s7
      clear ty eL T6
      refine ⟨_, rfl, 1, rfl, _, rfl, _, _, rfl, rfl, _, _, rfl, rfl, _, _, rfl, rfl, (by unfold CPow; decide), ?_⟩
      refine ⟨by show 1 ≤ sizeLine; decide, fun u1 h1 => ⟨by show 1 ≤ sizeLine; decide, fun u2 h2 n2 u3 h3 => ?_⟩⟩
      have sa := Sx.n0 (o := .tup [.int 0]) h1
      have sb := Sx.n0 (o := .lst [.int 0]) h2
      have sc := Sx.n0 (o := .dK []) h3
      have DKc := ((DK7.same sa).same sb).same sc
      have NK7 : NOk [D, c] H7 D c := NOk.of DK7
      refine ⟨_, rfl, _, rfl, D, c, cs5, k5, 20, rfl, DKc, by decide, by decide, by omega, fun H8 cs8 r s8 DK8 r0 r1 => ⟨_, _, rfl, rfl, by show 12 ≤ sizeLine; decide, fun Lo hLo => gnm ?_⟩⟩
      have kp8 : Kp [D, c] (upd (upd (upd H7 u1 (.tup [.int 0])) u2 (.lst [.int 0])) u3 (.dK [])) H8 := (NOk.of DKc).kp DKc s8
      have g1 : OddP [D, c] b H8 (.ref u1) := ⟨.tuple [.int 0], (((Gd.tup upd_same (.cons (.int 0) .nil)).keep sb.kp0).keep sc.kp0).keep kp8, (ShG.tup (.cons (smG (by decide) (by decide) 1) (.nil 1 0))).mono (by decide) (by decide), fun i e => nomatch e⟩
      have g2 : OddP [D, c] b H8 (.ref u2) := ⟨.list [.int 0], ((Gd.lst upd_same (notin_new NK7.nn sa h2) n2 (.cons (.int 0) .nil)).keep sc.kp0).keep kp8, (ShG.lst (.cons (smG (by decide) (by decide) 1) (.nil 1 0))).mono (by decide) (by decide), fun i e => nomatch e⟩
      have g3 : OddP [D, c] b H8 (.ref u3) := ⟨.dict [], (Gd.dic [] upd_same (notin_new NK7.nn (sa.trans sb) h3)).keep kp8, ShG.dic0, fun i e => nomatch e⟩
      have T8 := ((((T7.new h1).new h2).new h3).keep (s8.tk DKc.lst)).new (o := .lst [.int b.sz, .int (-1), .int (0 - b.sz - 1), .int (10 ^ (40 : Int).toNat), .bl true, .bl false, .non, .str "0", .ref u1, .ref u2, .ref u3, .int (b.sz + r)]) hLo
      have hT8 := tabs_lst (Tabs.sx (Tabs.sx (Tabs.sx hT7 sa) sb) sc) s8 DKc.lst
      have e40 : (10 : Int) ^ (40 : Int).toNat = 10000000000000000000000000000000000000000 := by decide
      have all : ∀ x ∈ [V.int b.sz, .int (-1), .int (0 - b.sz - 1), .int (10 ^ (40 : Int).toNat), .bl true, .bl false, .non, .str "0", .ref u1, .ref u2, .ref u3, .int (b.sz + r)], OddP [D, c] b H8 x := by
        intro x hx
        simp only [List.not_mem_nil, List.mem_cons, or_false] at hx
        have p200 : (2 : Nat) ^ 200 = 1606938044258990275541962092341162602522202993782792835301376 := by decide
        rcases hx with rfl | rfl | rfl | rfl | rfl | rfl | rfl | rfl | rfl | rfl | rfl | rfl
        · exact .int (by rw [p200]; omega) fun j e => by omega
        · exact .int (by rw [p200]; omega) fun j e => by omega
        · exact .int (by rw [p200]; omega) fun j e => by omega
        · rw [e40]
          exact .int (by rw [p200]; omega) fun j e => by omega
        · exact ⟨.bool true, .bl true, ShG.bl true 60 80000, fun i e => nomatch e⟩
        · exact ⟨.bool false, .bl false, ShG.bl false 60 80000, fun i e => nomatch e⟩
        · exact ⟨.none, .non, ShG.non 60 80000, fun i e => nomatch e⟩
        · exact ⟨.str "0", .str "0", ShG.str (by decide +kernel) 60 80000 (by decide +kernel), fun i e => nomatch e⟩
        · exact g1
        · exact g2
        · exact g3
        · exact .int (by rw [p200]; omega) fun j e => by omega
      generalize hxs : [V.int b.sz, .int (-1), .int (0 - b.sz - 1), .int (10 ^ (40 : Int).toNat), .bl true, .bl false, .non, .str "0", .ref u1, .ref u2, .ref u3, .int (b.sz + r)] = xs at all T8 ⊢
      have s9 : Sx [] H8 (upd H8 Lo (.lst xs)) := Sx.n0 hLo
      have eLo : (upd H8 Lo (.lst xs)) Lo = some (.lst xs) := upd_same
      have all9 : ∀ x ∈ xs, OddP [D, c] b (upd H8 Lo (.lst xs)) x := fun x hx => (all x hx).keep s9.kp0
      have hT9 := Tabs.sx hT8 s9
      have DK9 := DK8.same s9
      clear g1 g2 g3 all hxs
      generalize upd H8 Lo (.lst xs) = H9 at s9 eLo all9 hT9 DK9 T8 ⊢
      refine ⟨_, rfl, Lo, rfl, ⟨xs, SqL.of eLo⟩, for_list (xs := xs) (fun j σ' H' => ∃ o8, σ' = [some (.ref a), some (.ref D), some (.int (0 + (i : Int))), some (.ref p), some v, some v5, some (.int b.sz), some (.ref Lo), o8] ∧ Sx [] H9 H')
        ⟨_, rfl, Sx.refl _⟩ (fun j σ' H' _ h => by obtain ⟨_, _, h⟩ := h; exact SqL.of (h _ _ (by simp) eLo)) (fun j x σ' H' hx h => ?_) (fun σ' H' h => ?_)⟩
      · obtain ⟨o8, rfl, sB⟩ := h
        obtain ⟨d, g, sh, hno⟩ := (all9 x (List.mem_of_getElem? hx)).keep sB.kp0
        refine gnm ?_
        refine ⟨_, rfl, _, rfl, [D, c], v, x, b, d, rfl, T8.keep sB.tk0, by omega, g, sh, hno, fun H10 s10 => ⟨_, rfl, iteF ?_⟩⟩
        exact ⟨_, rfl, sB.trans s10⟩
      · obtain ⟨o8, rfl, sB⟩ := h
        exact ⟨_, _, _, _, _, _, _, rfl, Tabs.sx hT9 sB, _, _, DK9.same sB, by omega⟩
    · rintro σ H3 hT3
      refine ⟨by show 0 ≤ sizeLine; decide, fun t1 h1 => ?_⟩
      have s1 : Sx [] H3 (upd H3 t1 (.tup [])) := Sx.n0 h1
      have e1 : Tp (upd H3 t1 (.tup [])) (.ref t1) (.tuple Bk.nil.ds) := .tup upd_same .nil
      refine ⟨_, .nil, rfl, e1, by decide, fun ws H4 s4 tw p hp => ?_⟩
      have s5 : Sx [] H4 (upd H4 p (.lst ws)) := Sx.n0 hp
      cases tw
      refine ⟨by show 0 ≤ sizeLine; decide, fun t2 h2 => ?_⟩
      have s6 : Sx [] (upd H4 p (.lst [])) (upd (upd H4 p (.lst [])) t2 (.tup [])) := Sx.n0 h2
      have hT6 := Tabs.sx (Tabs.sx (Tabs.sx (Tabs.sx hT3 s1) s4) s5) s6
      have ep : (upd (upd H4 p (.lst [])) t2 (.tup [])) p = some (.lst []) := s6 _ _ (by simp) upd_same
      refine ⟨_, .nil, rfl, .tup upd_same .nil, ⟨by decide, fun s hs => by cases hs⟩, hT6, fun H7 s7 hT7 => ⟨by show 2 ≤ sizeLine; decide, fun l hl => ?_⟩⟩
      have npw : p ≠ PW := fun e => by
        obtain ⟨ps, e2⟩ := tab_w hT6
        rw [← e] at e2
        rw [ep] at e2
        cases e2
      have ep7 := s7 _ _ (by simp [npw]) ep
      have npl : p ≠ l := ne_of_none ep7 hl
      refine ⟨_, _, rfl, RpA.sw (.lst (SqL.of upd_same) (.cons (.lst (SqL.of (by rw [upd_ne npl]; exact ep7)) .nil) (.cons (.int _) .nil))) (k := 3) (n := 100) ?_ (by decide) (by decide), ?_⟩
      · exact (Sw.lst (.cons (Sw.lst (.nil 13 1 0)) (.cons (Sw.sm (by decide) (by decide) 2) (.nil _ 2 0)))).mono (by decide) (by decide)
      · have es : (PyData.list [.list [], .int (Bk.nil.sumO fun _ => 1)]).shown = "[[], 0]" := by decide +kernel
        rw [es]
        refine ⟨rfl, ?_⟩
        rw [decide_eq_true rfl]
        exact q _
end
/-! ### what the text says of NoPlace -/
def xcB (K : PySem.W.Frag) (C : Addr) : Bool :=
  decide (PySem.W.findIn K (.ref C) "__class__" = some (some (.builtin "object.__class__"))) && (decide (PySem.W.specialIn K (.builtin "object.__class__") "__get__" = some (some (.builtin "getset_descriptor.__get__"))) && (decide (PySem.W.takesIn K (.builtin "object.__class__") = some true) && decide (PySem.W.mroIn K C (.type "object") = some true)))
theorem xcB_ok {K : PySem.W.Frag} {C : Addr} (h : xcB K C = true) (x : XfC K C) : ExcC K C := by
  unfold xcB at h
  simp only [decide_eq_true_eq, Bool.and_eq_true] at h
  exact ⟨x.ga, x.gg, x.exC, x.hdC, h.1, h.2.1, h.2.2.1, h.2.2.2⟩
def npB (K : PySem.W.Frag) (C : Addr) : Bool :=
  exGB K C leBase "LookupError.__new__" && (xfB K C && (xcB K C && (decide (PySem.W.findIn K (.ref C) "place" = some none) && (decide (PySem.W.findIn K (.ref C) "__init__" = some (some (.ref (He.ma K C "__init__")))) && (decide (PySem.W.typeIn K (.ref (He.ma K C "__init__")) = some (.type "function")) &&
    (decide (PySem.W.exmOne K (.ref C) (.ref C) = some true) && (decide (PySem.W.kitOne K (.ref C) (.type "LookupError") = some true) && decide (PySem.W.kitOne K (.ref C) (.type "ValueError") = some false))))))))
theorem npB_ok {K : PySem.W.Frag} {C : Addr} (h : npB K C = true) : NpC K C (He.ma K C "__init__") ∧ NpR K C := by
  unfold npB at h
  rcases Bool.and_eq_true_iff.mp h with ⟨h1, h⟩
  rcases Bool.and_eq_true_iff.mp h with ⟨h2, h⟩
  obtain ⟨h3, h⟩ := Bool.and_eq_true_iff.mp h
  obtain ⟨h4, h⟩ := Bool.and_eq_true_iff.mp h
  obtain ⟨h5, h⟩ := Bool.and_eq_true_iff.mp h
  obtain ⟨h6, h⟩ := Bool.and_eq_true_iff.mp h
  obtain ⟨h7, h⟩ := Bool.and_eq_true_iff.mp h
  obtain ⟨h8, h9⟩ := Bool.and_eq_true_iff.mp h
  exact ⟨⟨exGB_ok h1, of_decide_eq_true h4, of_decide_eq_true h5, of_decide_eq_true h6⟩, ⟨xcB_ok h3 (xfB_ok h2), xfB_ok h2, of_decide_eq_true h7, of_decide_eq_true h8, of_decide_eq_true h9⟩⟩
def exK (K : PySem.W.Frag) : Bool := npB K (He.ga K "NoPlace")
/-! ### the end where code objects are made within defs -/
/-- an empty table of code objects -/
abbrev tabNil : Obj := { cls := .none, data := .fields #[] }
theorem law_callGT {P : Program} {w : World} {K : PySem.W.Frag} {mg mb : Str → Option Value} {k : Nat} {fa a : Addr} {cs : List (Addr × Addr)} {fd : FuncData} {x : Str} {sp : Sp} {s : Shared} {vs : List Value} {ns : List Int}
    (KX : K.In s.heap) (h1 : s.heap.Ns mainGlobals mg) (h2 : s.heap.Ns builtinsNs mb) (h3 : ∀ x : Str, x ≠ "__name__" → mb x = bootBuiltins x) (h4 : s.heap.NoLimit) (h5 : s.gens = #[])
    (tE : ∀ p ∈ cs, s.heap.get? p.2 = some tabNil) (tO : ∀ p ∈ cs, K.lookup p.2 = none) (tC : ∀ p ∈ cs, PySem.W.CodeHd s.heap p.1 p.2)
    (tM : ∃ (bm : Addr) (o : Obj), mg "__builtins__" = some (.ref bm) ∧ bm ≠ builtinsNs ∧ s.heap.get? bm = some o ∧ o.cls = .type "module" ∧ o.dict = some builtinsNs ∧ o.data = .plain)
    (ha : s.heap.get? a = some { cls := .type "list", data := .seq vs.toArray }) (hi : IntsAre vs ns) (hl : ns.length ≤ sizeLine) (hr : Room k callerA)
    (F : ∀ base : Heap, K.In base → base.Ns mainGlobals mg → (∀ p ∈ cs, LamX.TabB base mg p.1 p.2) → FnG P w K mg base k fa fd [x] sp) (hb : ∀ (s : Shared) (u : Value), BindsTo s fd ⟨[u], []⟩ [(x, u)])
    (hsp : ∀ H : Hp, (∀ p ∈ cs, H p.2 = some (.tbl #[])) → SqL K H a (ns.map V.int) → sp [.ref a] H (fun v _ => v = .bl true) E0) :
    codeAny (model P w) callerA (.call (.ref fa) ⟨[.ref a], []⟩) (fun r s' => r = .ok (.ret (.bool true)) ∧ OldK s.heap s'.heap ∧ s'.os = s.os ∧ AllBare s'.gens) s := by
  obtain ⟨H0, hO, hS0, hok0, hA, hK⟩ := script_hp (P := P) (w := w) KX ha hi hl
  obtain ⟨T, eT⟩ : ∃ T : List Addr, T = cs.map Prod.snd := ⟨_, rfl⟩
  have inT : ∀ p ∈ cs, p.2 ∈ T := fun p hp => by rw [eT]; exact List.mem_map_of_mem hp
  have ofT : ∀ b ∈ T, ∃ p ∈ cs, p.2 = b := fun b h => by rw [eT] at h; exact List.mem_map.mp h
  have atT : ∀ b ∈ T, s.heap.get? b = some tabNil := fun b h => by
    obtain ⟨p, hp, e⟩ := ofT b h
    exact e ▸ tE p hp
  have aT : a ∉ T := fun z => by
    have e := (atT a z).symm.trans ha
    have e2 : Data.fields #[] = Data.seq vs.toArray _ := congrArg Obj.data (Option.some.inj e)
    cases e2
  obtain ⟨H, Hin, Hout⟩ : ∃ H : Hp, (∀ b ∈ T, H b = some (.tbl #[])) ∧ ∀ b, b ∉ T → H b = H0 b := ⟨fun b => if b ∈ T then some (.tbl #[]) else H0 b, fun b h => if_pos h, fun b h => if_neg h⟩
  have hS : SqL K H a (ns.map V.int) := hS0.imp (fun z => z.imp (fun z => (Hout a aT).trans z) fun ⟨o, z⟩ => ⟨o, (Hout a aT).trans z⟩) id
  have hok : HOk P w H s.heap := fun b u z => by
    by_cases h : b ∈ T
    · have e := (Hin b h).symm.trans z
      cases e
      exact atT b h
    · have z2 := (Hout b h).symm.trans z
      obtain z3 | ⟨ob, xs, z3⟩ := hO b
      · rw [z3] at z2; cases z2
      · have z4 := z3.symm.trans z2
        cases z4
        exact (show ObjOk P w H s.heap b (.frz ob (.lst xs)) from hok0 b _ z3)
  have far : ∀ {b : Addr} {o : Obj}, s.heap.get? b = some o → (∀ us n, o.data ≠ .seq us n) → o.data ≠ .fields #[] → H b = none := fun {b o} e n1 n2 => by
    have hbT : b ∉ T := fun z => by
      have q := (atT b z).symm.trans e
      cases q
      exact n2 rfl
    rw [Hout b hbT]
    cases q : H0 b with
    | none => rfl
    | some u =>
      have z := hA b (by simp [q])
      rw [z] at e
      have q2 := ha.symm.trans e
      cases q2
      exact absurd rfl (n1 _ _)
  have keepB : ∀ {b : Addr} {o : Obj}, s.heap.get? b = some o → H b = none → (hidT s.heap H).get? b = some o := fun e n => hidT_get e n
  have nsB : ∀ {b : Addr} {m : Str → Option Value}, s.heap.Ns b m → (hidT s.heap H).Ns b m := fun {b m} ⟨o, es, ep, e, d, r⟩ => ⟨o, es, ep, keepB e (far e (fun us n z => by rw [d] at z; cases z) fun z => by rw [d] at z; cases z), d, r⟩
  have inB : K.In (hidT s.heap H) := fun b o e => by
    refine keepB (KX b o e) ?_
    by_cases h : b ∈ T
    · obtain ⟨p, hp, rfl⟩ := ofT b h
      rw [tO p hp] at e
      cases e
    · rw [Hout b h]
      cases q : H0 b with
      | none => rfl
      | some u =>
        have z := hA b (by simp [q])
        rw [z] at e q
        rw [hK (by simp [q])] at e
        cases e
  have md : Mod K mg (hidT s.heap H) := ⟨inB, nsB h1, ⟨mb, nsB h2, h3⟩, let ⟨mc, y1, y2⟩ := h4; ⟨mc, nsB y1, y2⟩⟩
  have tabs : ∀ p ∈ cs, LamX.TabB (hidT s.heap H) mg p.1 p.2 := fun p hp => by
    refine ⟨?_, ?_, fun z => ?_⟩
    · rcases tC p hp with ⟨o, us, file, tf, fl, tg, inF, txt, tt, e1, q1, q2, q3, q4⟩
      refine ⟨o, us, file, tf, fl, tg, inF, txt, tt, keepB e1 (far e1 (fun us' n z => by rw [q2] at z; cases z) fun z => ?_), q1, q2, q3, q4⟩
      rw [q2] at z
      cases z
      simp at q3
    · rcases tM with ⟨bm, o, m1, m2, m3, m4, m5, m6⟩
      refine ⟨bm, o, m1, m2, fun z => ?_, fun z => ?_, keepB m3 (far m3 (fun us n z => by rw [m6] at z; cases z) fun z => by rw [m6] at z; cases z), m4, m5, m6⟩
      · rcases h1 with ⟨o1, es, ep, e, d, _⟩
        have q := (z ▸ m3 : s.heap.get? mainGlobals = some o).symm.trans e
        cases q
        rw [m6] at d
        cases d
      · have q := (z ▸ m3 : s.heap.get? p.2 = some o).symm.trans (tE p hp)
        cases q
        cases m6
    · rcases h1 with ⟨o1, es, ep, e, d, _⟩
      have q := (z ▸ tE p hp : s.heap.get? mainGlobals = some tabNil).symm.trans e
      cases q
      cases d
  have e0 : Env0 P w K mg (hidT s.heap H) callerA [] s H := ⟨rfl, md, fun b o e => of_hidT e, Nat.le_of_eq (hidT_size _ _), trivial, (fun b z => absurd (show b ∈ ([] : List Addr) from z) (List.not_mem_nil (a := b))), hok, .of_eq h5⟩
  refine codeAny_mono ((F _ inB (nsB h1) tabs).go callerA [] s H ⟨[.ref a], []⟩ [.ref a] [.ref a] _ hr rfl e0 (hb s (.ref a)) (.cons rfl .nil) (hsp H (fun p hp => Hin _ (inT p hp)) hS)) fun r s' h => ?_
  match r, h with
  | .ok (.ret u), h =>
    rcases h with ⟨v, H', os, bare, un, hok', r', q⟩
    have q' : v = .bl true := q
    subst q'
    have eu : u = Value.bool true := r'
    subst eu
    have old : ∀ b o, b ∉ T → s.heap.get? b = some o → s'.heap.get? b = some o := fun b o hbT e => by
      cases q2 : H b with
      | none => exact un.keep b o e q2 (fun z => absurd (show b ∈ ([] : List Addr) from z) (List.not_mem_nil (a := b))) (by simp)
      | some u =>
        have q3 := (Hout b hbT).symm.trans q2
        obtain z | ⟨ob, xs, z⟩ := hO b
        · rw [z] at q3; cases q3
        · have z' := (Hout b hbT).trans z
          obtain ⟨e1, _⟩ := hok b _ z'
          obtain ⟨e2, _⟩ := hok' b _ (un.frzs b ob _ z')
          have e3 := e.symm.trans e1
          cases e3
          exact e2
    have grow : ∀ p ∈ cs, ∃ us : Array Value, s'.heap.get? p.2 = some { cls := .none, data := .fields us } := fun p hp => by
      obtain ⟨us, z⟩ := un.tbls p.2 #[] (Hin _ (inT p hp))
      exact ⟨_, hok' p.2 _ z⟩
    refine (⟨rfl, ⟨fun b o e => ?_, fun b o e => ?_⟩, os, bare⟩)
    · by_cases h : b ∈ T
      · obtain ⟨p, hp, rfl⟩ := ofT b h
        obtain ⟨us, z⟩ := grow p hp
        have e2 := (tE p hp).symm.trans e
        cases e2
        exact .inr (.inl ⟨((tC p hp).tab (tE p hp)).isCodeTable, rfl, #[], us, rfl, z.trans (by simp)⟩)
      · exact .inl (old b o h e)
    · by_cases h : b ∈ T
      · obtain ⟨p, hp, rfl⟩ := ofT b h
        obtain ⟨us, z⟩ := grow p hp
        exact ⟨_, z⟩
      · exact ⟨o, old b o h e⟩
theorem walk_ofEGT {l : PySem.W.OpenLaw} {n k : Nat} {q : Program} {loose : List Str} {XP : (Str → Option Value) → Heap → Prop} {YP : World → Heap → Prop} {d : DefRec} {x : Str}
    (hn : l.most = some n) (hn2 : n ≤ sizeLine) (hr : Room k callerA) (hdf : d.params.defaults = [])
    (F : ∀ (w : World) (mg : Str → Option Value) (fa : Addr) (h : PySem.Heap), YP w h → h.Ns mainGlobals mg → mg d.name = some (.ref fa) →
      ∃ (K : PySem.W.Frag) (cs : List (Addr × Addr)) (fd : FuncData) (sp : Sp), K.In h ∧ (∀ p ∈ cs, h.get? p.2 = some tabNil) ∧ (∀ p ∈ cs, K.lookup p.2 = none) ∧ (∀ p ∈ cs, PySem.W.CodeHd h p.1 p.2) ∧ (∀ (s : Shared) (u : Value), BindsTo s fd ⟨[u], []⟩ [(x, u)]) ∧
        (∀ (H : Hp) (a : Addr) (ns : List Int), ns.length ≤ n → (∀ p ∈ cs, H p.2 = some (.tbl #[])) → SqL K H a (ns.map V.int) → sp [.ref a] H (fun v _ => v = .bl true) E0) ∧ ∀ base : Heap, K.In base → base.Ns mainGlobals mg → (∀ p ∈ cs, LamX.TabB base mg p.1 p.2) → FnG l.prog w K mg base k fa fd [x] sp) :
    PySem.W.WalkO q loose XP YP l.row.toRowW d [] (fun g us => PySem.call g us) := by
  refine Att.attach_call hn hdf fun w s₀ s₁ mg mb fa o pm cd doc a vs ns G Y _ _ _ hmg hobj hints hlen hg => ?_
  obtain ⟨K, cs, fd, sp, KX, tE, tO, tC, hb, hsp, hF⟩ := F w mg fa _ Y G.T.g hmg
  exact law_callGT KX G.T.g G.T.b G.T.builtins G.T.nolimit hg tE tO tC G.T.bmain hobj hints (Nat.le_trans hlen hn2) hr hF hb fun H hH hS => hsp H a ns hlen hH hS
/-! ### the head, with code objects made within defs -/
theorem Fun.of {K : PySem.W.Frag} {x qual : Str} {st : Stmt} {kws : List (Str × V)} {f : Addr} {fd : FuncData} (F : FunD K x qual (defArgs st) (defBody st) (defScope st) [] kws f fd) : Fun K x qual st f fd := by
  rcases F.ex with ⟨oc, od, dV, kV, doc, pm, an, cdv, ct, osl, rfl, lk, hcd, hD, hK⟩
  obtain ⟨_, rfl⟩ | ⟨e, _⟩ := hD
  · exact ⟨⟨oc, od, kV, doc, pm, an, cdv, ct, osl, rfl, lk, hcd⟩, F.kp⟩
  · exact absurd rfl e
theorem FunC.of {K : PySem.W.Frag} {x qual : Str} {st : Stmt} {kws : List (Str × V)} {p : He.Defn} {fd : FuncData} (F : FunD K x qual (defArgs st) (defBody st) (defScope st) [] kws (He.fAd K p) fd) : FunC K x qual st (He.fAd K p) fd (He.cT K p).1 := by
  rcases F.ex with ⟨oc, od, dV, kV, doc, pm, an, cdv, ct, osl, efd, lk, hcd, hD, hK⟩
  rcases hD with ⟨_, e0⟩ | ⟨e, _⟩
  · obtain ⟨c, ec⟩ := He.codeIn_ref hcd
    subst ec e0 efd
    have e2 : (He.cT K p).1 = c := He.codeOf_eq lk rfl
    exact e2.symm ▸ ⟨⟨oc, od, kV, doc, pm, an, ct, osl, rfl, lk, hcd⟩, F.kp⟩
  · exact absurd rfl e
def dPIsInteger : He.DefD := ⟨("is_integer", none), "is_integer", "is_integer", defArgs sPIsInteger, defBody sPIsInteger, defScope sPIsInteger, [], []⟩
def dPBlocksOf : He.DefD := ⟨("blocks_of", none), "blocks_of", "blocks_of", defArgs sPBlocksOf, defBody sPBlocksOf, defScope sPBlocksOf, [], []⟩
def dPEachStatement : He.DefD := ⟨("each_statement", none), "each_statement", "each_statement", defArgs sPEachStatement, defBody sPEachStatement, defScope sPEachStatement, [], []⟩
def dPStatementAt : He.DefD := ⟨("statement_at", none), "statement_at", "statement_at", defArgs sPStatementAt, defBody sPStatementAt, defScope sPStatementAt, [], []⟩
def dPWeight : He.DefD := ⟨("weight", none), "weight", "weight", defArgs sPWeight, defBody sPWeight, defScope sPWeight, [], []⟩
def dPSumOver : He.DefD := ⟨("sum_over", none), "sum_over", "sum_over", defArgs sPSumOver, defBody sPSumOver, defScope sPSumOver, [], []⟩
def dDeck : He.DefD := ⟨("_law_deck", none), "_law_deck", "_law_deck", defArgs sDeck, defBody sDeck, defScope sDeck, [], []⟩
def dDraw : He.DefD := ⟨("_law_draw", none), "_law_draw", "_law_draw", defArgs sDraw, defBody sDraw, defScope sDraw, [], []⟩
def dOne : He.DefD := ⟨("_law_one", none), "_law_one", "_law_one", defArgs sOne, defBody sOne, defScope sOne, [], []⟩
def dNames : He.DefD := ⟨("_law_names", none), "_law_names", "_law_names", defArgs sNames, defBody sNames, defScope sNames, [], []⟩
def dExpression : He.DefD := ⟨("_law_expression", none), "_law_expression", "_law_expression", defArgs sExpression, defBody sExpression, defScope sExpression, [], []⟩
def dTest : He.DefD := ⟨("_law_test", none), "_law_test", "_law_test", defArgs sTest, defBody sTest, defScope sTest, [], []⟩
def dPlain : He.DefD := ⟨("_law_plain", none), "_law_plain", "_law_plain", defArgs sPlain, defBody sPlain, defScope sPlain, [], []⟩
def dRow : He.DefD := ⟨("_law_row", none), "_law_row", "_law_row", defArgs sRow, defBody sRow, defScope sRow, [], []⟩
def dBlock : He.DefD := ⟨("_law_block", none), "_law_block", "_law_block", defArgs sBlock, defBody sBlock, defScope sBlock, [], []⟩
def dProgram : He.DefD := ⟨("_law_program", none), "_law_program", "_law_program", defArgs sProgram, defBody sProgram, defScope sProgram, [], []⟩
def dParts : He.DefD := ⟨("_law_parts", none), "_law_parts", "_law_parts", defArgs sParts, defBody sParts, defScope sParts, [], []⟩
def dRows : He.DefD := ⟨("_law_rows", none), "_law_rows", "_law_rows", defArgs sRows, defBody sRows, defScope sRows, [], []⟩
def dWeight : He.DefD := ⟨("_law_weight", none), "_law_weight", "_law_weight", defArgs sWeight, defBody sWeight, defScope sWeight, [], []⟩
def dRefused : He.DefD := ⟨("_law_refused", none), "_law_refused", "_law_refused", defArgs sRefused, defBody sRefused, defScope sRefused, [], []⟩
def dRight : He.DefD := ⟨("_law_right", none), "_law_right", "_law_right", defArgs sRight, defBody sRight, defScope sRight, [], []⟩
def dPLaw : He.DefD := ⟨("law", none), "law", "law", defArgs sPLaw, defBody sPLaw, defScope sPLaw, [], []⟩
def dINoPlace : He.DefD := ⟨("NoPlace", some "__init__"), "__init__", "NoPlace.__init__", defArgs sNpInit, defBody sNpInit, defScope sNpInit, [], []⟩
def fn0 : List He.DefD := [dPIsInteger, dPBlocksOf, dPEachStatement, dPStatementAt, dPWeight, dPSumOver, dDeck, dDraw, dOne, dNames, dExpression, dTest]
def fn1 : List He.DefD := [dPlain, dRow, dBlock, dProgram, dParts, dRows, dWeight, dRefused, dRight, dPLaw, dINoPlace]
def fn : List He.DefD := fn0 ++ fn1
def fa0 : List He.Fa := [.glo "is_integer", .glo "blocks_of", .glo "each_statement", .glo "statement_at", .glo "weight", .glo "sum_over", .glo "_law_deck", .glo "_law_draw", .glo "_law_one", .glo "_law_names", .glo "_law_expression", .glo "_law_test", .glo "_law_plain", .glo "_law_row", .glo "_law_block", .glo "_law_program", .glo "_law_parts", .glo "_law_rows", .glo "_law_weight", .glo "_law_refused"]
def fa1 : List He.Fa := [.glo "_law_right", .glo "law", .free "abs", .free "bool", .free "int", .free "isinstance", .free "len", .free "list", .free "max", .free "range", .free "repr", .free "sum", .free "tuple", .free "zip", .free "LookupError", .free "ValueError", .glo "NoPlace"]
def fa : List He.Fa := fa0 ++ fa1
def loose0 : List PySem.Str := ["is_integer", "blocks_of", "each_statement", "statement_at", "weight", "sum_over", "_law_deck", "_law_draw", "_law_one", "_law_names", "_law_expression", "_law_test", "_law_plain", "_law_row", "_law_block", "_law_program", "_law_parts", "_law_rows", "_law_weight", "_law_refused"]
def loose1 : List PySem.Str := ["_law_right", "NoPlace"]
def looseN : List PySem.Str := loose0 ++ loose1
def dW : He.Defn := ("weight", none)
abbrev R : PySem.W.OpenRow := PySem.W.OpenLaw.row PySem.Challenge.rw_whichheld_k24_places_told
abbrev hookH : PySem.W.Hook := He.hookX 4 fa fn [] [dW] exK
def obsH (s : PySem.W.SharedT) : He.AlX := He.obsX 4 fa fn [] [dW] exK (HandSHeadRun.getT s)
theorem obsH_eq (s : PySem.W.SharedT) : obsH s = hookH.obs s.abs := He.obsX_eq (HandSHeadRun.getT_eq s)
set_option maxHeartbeats 0 in
theorem run_head (w : World) : HandSHeadRun.RunEq R (PySem.W.view R.prog [26]) hookH obsH 9000 looseN w := by
  intro os; kernel_rfl
def csK (K : PySem.W.Frag) : List (Addr × Addr) := [He.cT K dW]
set_option maxHeartbeats 0 in
theorem facts {w : World} {P : Program} {K : PySem.W.Frag} {h : Heap} {mg : Str → Option Value} {f : Addr} (X : K.In h) (G : h.Ns mainGlobals mg) (hfa : mg ("law" : Str) = some (.ref f)) (cX : He.SaysX fa fn [] [dW] exK w h K) :
    ∃ fd : FuncData, (∀ (s : Shared) (v : Value), BindsTo s fd ⟨[v], []⟩ [("_law_script", v)]) ∧ ∀ base : Heap, K.In base → base.Ns mainGlobals mg → (∀ p ∈ csK K, LamX.TabB base mg p.1 p.2) → FnG P w K mg base 20 f fd ["_law_script"] (spLaw24 K (He.cT K dW).2) := by
  have c := cX.t.d
  obtain ⟨NP, NR⟩ := npB_ok (show npB K (He.ga K "NoPlace") = true from cX.more)
  obtain ⟨fd_pis_integer, D_pis_integer⟩ := c.def_ 0 (d := dPIsInteger) rfl
  obtain ⟨fd_pblocks_of, D_pblocks_of⟩ := c.def_ 1 (d := dPBlocksOf) rfl
  obtain ⟨fd_peach_statement, D_peach_statement⟩ := c.def_ 2 (d := dPEachStatement) rfl
  obtain ⟨fd_pstatement_at, D_pstatement_at⟩ := c.def_ 3 (d := dPStatementAt) rfl
  obtain ⟨fd_pweight, D_pweight⟩ := c.def_ 4 (d := dPWeight) rfl
  obtain ⟨fd_psum_over, D_psum_over⟩ := c.def_ 5 (d := dPSumOver) rfl
  obtain ⟨fd_deck, D_deck⟩ := c.def_ 6 (d := dDeck) rfl
  obtain ⟨fd_draw, D_draw⟩ := c.def_ 7 (d := dDraw) rfl
  obtain ⟨fd_one, D_one⟩ := c.def_ 8 (d := dOne) rfl
  obtain ⟨fd_names, D_names⟩ := c.def_ 9 (d := dNames) rfl
  obtain ⟨fd_expression, D_expression⟩ := c.def_ 10 (d := dExpression) rfl
  obtain ⟨fd_test, D_test⟩ := c.def_ 11 (d := dTest) rfl
  obtain ⟨fd_plain, D_plain⟩ := c.def_ 12 (d := dPlain) rfl
  obtain ⟨fd_row, D_row⟩ := c.def_ 13 (d := dRow) rfl
  obtain ⟨fd_block, D_block⟩ := c.def_ 14 (d := dBlock) rfl
  obtain ⟨fd_program, D_program⟩ := c.def_ 15 (d := dProgram) rfl
  obtain ⟨fd_parts, D_parts⟩ := c.def_ 16 (d := dParts) rfl
  obtain ⟨fd_rows, D_rows⟩ := c.def_ 17 (d := dRows) rfl
  obtain ⟨fd_weight, D_weight⟩ := c.def_ 18 (d := dWeight) rfl
  obtain ⟨fd_refused, D_refused⟩ := c.def_ 19 (d := dRefused) rfl
  obtain ⟨fd_right, D_right⟩ := c.def_ 20 (d := dRight) rfl
  obtain ⟨fd_law, D_law⟩ := c.def_ 21 (d := dPLaw) rfl
  obtain ⟨fd_INoPlace, D_INoPlace⟩ := c.def_ 22 (d := dINoPlace) rfl
  have e := hfa.symm.trans (He.glo_ok X G (c.fact 21 (f := .glo "law") rfl))
  cases e
  have bl := FunD.bindsA (ps := ["_law_script"]) D_law fun _ _ _ _ _ _ us hl => match us, hl with | [_], _ => rfl
  refine ⟨fd_law, fun s v => bl s [v] rfl, fun base _ _ TB => ?_⟩
  have TB1 : LamX.TabB base mg (He.cT K dW).1 (He.cT K dW).2 := TB _ (List.mem_cons_self ..)
  have F_INoPlace : Fun K "__init__" "NoPlace.__init__" sNpInit (He.ma K (He.ga K "NoPlace") "__init__") fd_INoPlace := Fun.of D_INoPlace
  have b_INoPlace : Binds K fd_INoPlace ["self", "place"] [] := F_INoPlace.binds (ps := ["self", "place"]) fun _ _ _ _ _ _ us hl => match us, hl with | [_, _], _ => rfl
  have F_pis_integer : Fun K "is_integer" "is_integer" sPIsInteger (He.ga K "is_integer") fd_pis_integer := Fun.of D_pis_integer
  have b_pis_integer : Binds K fd_pis_integer ["value"] [] := F_pis_integer.binds (ps := ["value"]) fun _ _ _ _ _ _ us hl => match us, hl with | [_], _ => rfl
  have F_pblocks_of : Fun K "blocks_of" "blocks_of" sPBlocksOf (He.ga K "blocks_of") fd_pblocks_of := Fun.of D_pblocks_of
  have b_pblocks_of : Binds K fd_pblocks_of ["statement"] [] := F_pblocks_of.binds (ps := ["statement"]) fun _ _ _ _ _ _ us hl => match us, hl with | [_], _ => rfl
  have F_peach_statement : Fun K "each_statement" "each_statement" sPEachStatement (He.ga K "each_statement") fd_peach_statement := Fun.of D_peach_statement
  have b_peach_statement : Binds K fd_peach_statement ["program"] [] := F_peach_statement.binds (ps := ["program"]) fun _ _ _ _ _ _ us hl => match us, hl with | [_], _ => rfl
  have F_pstatement_at : Fun K "statement_at" "statement_at" sPStatementAt (He.ga K "statement_at") fd_pstatement_at := Fun.of D_pstatement_at
  have b_pstatement_at : Binds K fd_pstatement_at ["program", "place"] [] := F_pstatement_at.binds (ps := ["program", "place"]) fun _ _ _ _ _ _ us hl => match us, hl with | [_, _], _ => rfl
  have F_pweight : Fun K "weight" "weight" sPWeight (He.ga K "weight") fd_pweight := Fun.of D_pweight
  have C_pweight : FunC K "weight" "weight" sPWeight (He.ga K "weight") fd_pweight (He.cT K dW).1 := FunC.of (p := dW) D_pweight
  have b_pweight : Binds K fd_pweight ["program"] [] := F_pweight.binds (ps := ["program"]) fun _ _ _ _ _ _ us hl => match us, hl with | [_], _ => rfl
  have F_psum_over : Fun K "sum_over" "sum_over" sPSumOver (He.ga K "sum_over") fd_psum_over := Fun.of D_psum_over
  have b_psum_over : Binds K fd_psum_over ["block", "own"] [] := F_psum_over.binds (ps := ["block", "own"]) fun _ _ _ _ _ _ us hl => match us, hl with | [_, _], _ => rfl
  have F_deck : Fun K "_law_deck" "_law_deck" sDeck (He.ga K "_law_deck") fd_deck := Fun.of D_deck
  have b_deck : Binds K fd_deck ["_law_script"] [] := F_deck.binds (ps := ["_law_script"]) fun _ _ _ _ _ _ us hl => match us, hl with | [_], _ => rfl
  have F_draw : Fun K "_law_draw" "_law_draw" sDraw (He.ga K "_law_draw") fd_draw := Fun.of D_draw
  have b_draw : Binds K fd_draw ["_law_deck_here", "_law_many"] [] := F_draw.binds (ps := ["_law_deck_here", "_law_many"]) fun _ _ _ _ _ _ us hl => match us, hl with | [_, _], _ => rfl
  have F_one : Fun K "_law_one" "_law_one" sOne (He.ga K "_law_one") fd_one := Fun.of D_one
  have b_one : Binds K fd_one ["_law_deck_here", "_law_items"] [] := F_one.binds (ps := ["_law_deck_here", "_law_items"]) fun _ _ _ _ _ _ us hl => match us, hl with | [_, _], _ => rfl
  have F_names : Fun K "_law_names" "_law_names" sNames (He.ga K "_law_names") fd_names := Fun.of D_names
  have b_names : Binds K fd_names ["_law_deck_here"] [] := F_names.binds (ps := ["_law_deck_here"]) fun _ _ _ _ _ _ us hl => match us, hl with | [_], _ => rfl
  have F_expression : Fun K "_law_expression" "_law_expression" sExpression (He.ga K "_law_expression") fd_expression := Fun.of D_expression
  have b_expression : Binds K fd_expression ["_law_deck_here", "_law_names_here", "_law_deep"] [] := F_expression.binds (ps := ["_law_deck_here", "_law_names_here", "_law_deep"]) fun _ _ _ _ _ _ us hl => match us, hl with | [_, _, _], _ => rfl
  have F_test : Fun K "_law_test" "_law_test" sTest (He.ga K "_law_test") fd_test := Fun.of D_test
  have b_test : Binds K fd_test ["_law_deck_here", "_law_names_here", "_law_room", "_law_times"] [] := F_test.binds (ps := ["_law_deck_here", "_law_names_here", "_law_room", "_law_times"]) fun _ _ _ _ _ _ us hl => match us, hl with | [_, _, _, _], _ => rfl
  have F_plain : Fun K "_law_plain" "_law_plain" sPlain (He.ga K "_law_plain") fd_plain := Fun.of D_plain
  have b_plain : Binds K fd_plain ["_law_deck_here", "_law_names_here"] [] := F_plain.binds (ps := ["_law_deck_here", "_law_names_here"]) fun _ _ _ _ _ _ us hl => match us, hl with | [_, _], _ => rfl
  have F_row : Fun K "_law_row" "_law_row" sRow (He.ga K "_law_row") fd_row := Fun.of D_row
  have b_row : Binds K fd_row ["_law_deck_here", "_law_names_here", "_law_room", "_law_times", "_law_depth"] [] := F_row.binds (ps := ["_law_deck_here", "_law_names_here", "_law_room", "_law_times", "_law_depth"]) fun _ _ _ _ _ _ us hl => match us, hl with | [_, _, _, _, _], _ => rfl
  have F_block : Fun K "_law_block" "_law_block" sBlock (He.ga K "_law_block") fd_block := Fun.of D_block
  have b_block : Binds K fd_block ["_law_deck_here", "_law_names_here", "_law_room", "_law_times", "_law_depth"] [] := F_block.binds (ps := ["_law_deck_here", "_law_names_here", "_law_room", "_law_times", "_law_depth"]) fun _ _ _ _ _ _ us hl => match us, hl with | [_, _, _, _, _], _ => rfl
  have F_program : Fun K "_law_program" "_law_program" sProgram (He.ga K "_law_program") fd_program := Fun.of D_program
  have b_program : Binds K fd_program ["_law_deck_here", "_law_names_here"] [] := F_program.binds (ps := ["_law_deck_here", "_law_names_here"]) fun _ _ _ _ _ _ us hl => match us, hl with | [_, _], _ => rfl
  have F_parts : Fun K "_law_parts" "_law_parts" sParts (He.ga K "_law_parts") fd_parts := Fun.of D_parts
  have b_parts : Binds K fd_parts ["_law_row_here"] [] := F_parts.binds (ps := ["_law_row_here"]) fun _ _ _ _ _ _ us hl => match us, hl with | [_], _ => rfl
  have F_rows : Fun K "_law_rows" "_law_rows" sRows (He.ga K "_law_rows") fd_rows := Fun.of D_rows
  have b_rows : Binds K fd_rows ["_law_block_here", "_law_place", "_law_depth"] [] := F_rows.binds (ps := ["_law_block_here", "_law_place", "_law_depth"]) fun _ _ _ _ _ _ us hl => match us, hl with | [_, _, _], _ => rfl
  have F_weight : Fun K "_law_weight" "_law_weight" sWeight (He.ga K "_law_weight") fd_weight := Fun.of D_weight
  have b_weight : Binds K fd_weight ["_law_block_here"] [] := F_weight.binds (ps := ["_law_block_here"]) fun _ _ _ _ _ _ us hl => match us, hl with | [_], _ => rfl
  have F_refused : Fun K "_law_refused" "_law_refused" sRefused (He.ga K "_law_refused") fd_refused := Fun.of D_refused
  have b_refused : Binds K fd_refused ["_law_program_here", "_law_place"] [] := F_refused.binds (ps := ["_law_program_here", "_law_place"]) fun _ _ _ _ _ _ us hl => match us, hl with | [_, _], _ => rfl
  have F_right : Fun K "_law_right" "_law_right" sRight (He.ga K "_law_right") fd_right := Fun.of D_right
  have b_right : Binds K fd_right ["_law_program_here", "_law_other"] [] := F_right.binds (ps := ["_law_program_here", "_law_other"]) fun _ _ _ _ _ _ us hl => match us, hl with | [_, _], _ => rfl
  have F_law : Fun K "law" "law" sPLaw (He.ga K "law") fd_law := Fun.of D_law
  have m_pis_integer : mg "is_integer" = some (.ref (He.ga K "is_integer")) := He.glo_ok X G (c.fact 0 (f := .glo "is_integer") rfl)
  have m_pblocks_of : mg "blocks_of" = some (.ref (He.ga K "blocks_of")) := He.glo_ok X G (c.fact 1 (f := .glo "blocks_of") rfl)
  have m_peach_statement : mg "each_statement" = some (.ref (He.ga K "each_statement")) := He.glo_ok X G (c.fact 2 (f := .glo "each_statement") rfl)
  have m_pstatement_at : mg "statement_at" = some (.ref (He.ga K "statement_at")) := He.glo_ok X G (c.fact 3 (f := .glo "statement_at") rfl)
  have m_pweight : mg "weight" = some (.ref (He.ga K "weight")) := He.glo_ok X G (c.fact 4 (f := .glo "weight") rfl)
  have m_psum_over : mg "sum_over" = some (.ref (He.ga K "sum_over")) := He.glo_ok X G (c.fact 5 (f := .glo "sum_over") rfl)
  have m_deck : mg "_law_deck" = some (.ref (He.ga K "_law_deck")) := He.glo_ok X G (c.fact 6 (f := .glo "_law_deck") rfl)
  have m_draw : mg "_law_draw" = some (.ref (He.ga K "_law_draw")) := He.glo_ok X G (c.fact 7 (f := .glo "_law_draw") rfl)
  have m_one : mg "_law_one" = some (.ref (He.ga K "_law_one")) := He.glo_ok X G (c.fact 8 (f := .glo "_law_one") rfl)
  have m_names : mg "_law_names" = some (.ref (He.ga K "_law_names")) := He.glo_ok X G (c.fact 9 (f := .glo "_law_names") rfl)
  have m_expression : mg "_law_expression" = some (.ref (He.ga K "_law_expression")) := He.glo_ok X G (c.fact 10 (f := .glo "_law_expression") rfl)
  have m_test : mg "_law_test" = some (.ref (He.ga K "_law_test")) := He.glo_ok X G (c.fact 11 (f := .glo "_law_test") rfl)
  have m_plain : mg "_law_plain" = some (.ref (He.ga K "_law_plain")) := He.glo_ok X G (c.fact 12 (f := .glo "_law_plain") rfl)
  have m_row : mg "_law_row" = some (.ref (He.ga K "_law_row")) := He.glo_ok X G (c.fact 13 (f := .glo "_law_row") rfl)
  have m_block : mg "_law_block" = some (.ref (He.ga K "_law_block")) := He.glo_ok X G (c.fact 14 (f := .glo "_law_block") rfl)
  have m_program : mg "_law_program" = some (.ref (He.ga K "_law_program")) := He.glo_ok X G (c.fact 15 (f := .glo "_law_program") rfl)
  have m_parts : mg "_law_parts" = some (.ref (He.ga K "_law_parts")) := He.glo_ok X G (c.fact 16 (f := .glo "_law_parts") rfl)
  have m_rows : mg "_law_rows" = some (.ref (He.ga K "_law_rows")) := He.glo_ok X G (c.fact 17 (f := .glo "_law_rows") rfl)
  have m_weight : mg "_law_weight" = some (.ref (He.ga K "_law_weight")) := He.glo_ok X G (c.fact 18 (f := .glo "_law_weight") rfl)
  have m_refused : mg "_law_refused" = some (.ref (He.ga K "_law_refused")) := He.glo_ok X G (c.fact 19 (f := .glo "_law_refused") rfl)
  have m_right : mg "_law_right" = some (.ref (He.ga K "_law_right")) := He.glo_ok X G (c.fact 20 (f := .glo "_law_right") rfl)
  have z_abs : mg "abs" = none := He.free_ok X G (c.fact 22 (f := .free "abs") rfl)
  have z_bool : mg "bool" = none := He.free_ok X G (c.fact 23 (f := .free "bool") rfl)
  have z_int : mg "int" = none := He.free_ok X G (c.fact 24 (f := .free "int") rfl)
  have z_isinstance : mg "isinstance" = none := He.free_ok X G (c.fact 25 (f := .free "isinstance") rfl)
  have z_len : mg "len" = none := He.free_ok X G (c.fact 26 (f := .free "len") rfl)
  have z_list : mg "list" = none := He.free_ok X G (c.fact 27 (f := .free "list") rfl)
  have z_max : mg "max" = none := He.free_ok X G (c.fact 28 (f := .free "max") rfl)
  have z_range : mg "range" = none := He.free_ok X G (c.fact 29 (f := .free "range") rfl)
  have z_repr : mg "repr" = none := He.free_ok X G (c.fact 30 (f := .free "repr") rfl)
  have z_sum : mg "sum" = none := He.free_ok X G (c.fact 31 (f := .free "sum") rfl)
  have z_tuple : mg "tuple" = none := He.free_ok X G (c.fact 32 (f := .free "tuple") rfl)
  have z_zip : mg "zip" = none := He.free_ok X G (c.fact 33 (f := .free "zip") rfl)
  have z_LookupError : mg "LookupError" = none := He.free_ok X G (c.fact 34 (f := .free "LookupError") rfl)
  have z_ValueError : mg "ValueError" = none := He.free_ok X G (c.fact 35 (f := .free "ValueError") rfl)
  have m_NoPlace : mg "NoPlace" = some (.ref (He.ga K "NoPlace")) := He.glo_ok X G (c.fact 36 (f := .glo "NoPlace") rfl)
  have G_deck : FnOk P w K mg base CX0 1 (He.ga K "_law_deck") fd_deck ["_law_script"] (spDeck K) := by apply ok_deck (k := 0) <;> assumption
  have G_draw : FnOk P w K mg base CX0 1 (He.ga K "_law_draw") fd_draw ["_law_deck_here", "_law_many"] spDraw := by apply ok_draw (k := 0) <;> assumption
  have G_one : FnOk P w K mg base CX0 2 (He.ga K "_law_one") fd_one ["_law_deck_here", "_law_items"] (spOne K) := by apply ok_one (k := 0) <;> assumption
  have G_expr : ∀ d : Nat, FnOk P w K mg base CX0 (d + 2) (He.ga K "_law_expression") fd_expression ["_law_deck_here", "_law_names_here", "_law_deep"] (spExpr K d) := by apply ok_expr <;> assumption
  have G_expr3 : FnOk P w K mg base CX0 5 (He.ga K "_law_expression") fd_expression ["_law_deck_here", "_law_names_here", "_law_deep"] (spExpr K 3) := G_expr 3
  have G_expr2 : FnOk P w K mg base CX0 4 (He.ga K "_law_expression") fd_expression ["_law_deck_here", "_law_names_here", "_law_deep"] (spExpr K 2) := G_expr 2
  have G_test : FnOk P w K mg base CX0 6 (He.ga K "_law_test") fd_test ["_law_deck_here", "_law_names_here", "_law_room", "_law_times"] (spTest K) := by apply ok_test <;> assumption
  have G_plain : FnOk P w K mg base CX0 6 (He.ga K "_law_plain") fd_plain ["_law_deck_here", "_law_names_here"] (spPlain K) := by apply ok_plain <;> assumption
  have G_block : ∀ d : Nat, d ≤ 4 → FnOk P w K mg base CX0 (6 + 2 * d) (He.ga K "_law_block") fd_block ["_law_deck_here", "_law_names_here", "_law_room", "_law_times", "_law_depth"] (spBlock K d) := by
    intro d
    induction d with
    | zero => exact fun _ => ok_block0 (k := 5) F_block
    | succ d ih =>
      intro hd
      have G_block := ih (by omega)
      have G_row : FnOk P w K mg base CX0 (6 + 2 * d + 1) (He.ga K "_law_row") fd_row ["_law_deck_here", "_law_names_here", "_law_room", "_law_times", "_law_depth"] (spRow K d) := by apply ok_row <;> assumption
      have hd3 : d ≤ 3 := by omega
      exact (show FnOk P w K mg base CX0 (6 + 2 * d + 1 + 1) (He.ga K "_law_block") fd_block _ (spBlock K (d + 1)) by apply ok_block hd3 <;> assumption)
  have G_block4 : FnOk P w K mg base CX0 14 (He.ga K "_law_block") fd_block ["_law_deck_here", "_law_names_here", "_law_room", "_law_times", "_law_depth"] (spBlock K 4) := G_block 4 (by omega)
  have G_program : FnOk P w K mg base CX0 15 (He.ga K "_law_program") fd_program ["_law_deck_here", "_law_names_here"] (spProgram K) := by apply ok_program <;> assumption
  have G_names : FnOk P w K mg base CX0 3 (He.ga K "_law_names") fd_names ["_law_deck_here"] (spNames K) := by apply ok_names (k := 0) <;> assumption
  have G_parts : FnOk P w K mg base CX0 1 (He.ga K "_law_parts") fd_parts ["_law_row_here"] spParts := ok_parts (k := 0) F_parts
  have G_pblocks_of : FnOk P w K mg base CX0 1 (He.ga K "blocks_of") fd_pblocks_of ["statement"] spBlocks := ok_pblocks_of (k := 0) F_pblocks_of
  have G_peach : GFn P w K mg base 2 (He.ga K "each_statement") fd_peach_statement ["program"] spEach := ok_peach F_peach_statement F_pblocks_of G_pblocks_of b_pblocks_of m_pblocks_of
  have G_sum : ∀ (T : Addr → Hp → Prop) (own : St → Int), HeldL P w K mg base 4 T (spOwn own) → ∀ d : Nat, FnOk P w K mg base CX0 (d + 5) (He.ga K "sum_over") fd_psum_over ["block", "own"] (spSum T own d) := fun T own hh => ok_psum F_psum_over F_pblocks_of G_pblocks_of b_psum_over b_pblocks_of m_psum_over m_pblocks_of z_sum hh
  have G_pis_integer : FnOk P w K mg base CX0 1 (He.ga K "is_integer") fd_pis_integer ["value"] spIsIntG := ok_gint (k := 0) F_pis_integer z_isinstance z_int z_bool
  have G_pweight : FnOk P w K mg base CX0 11 (He.ga K "weight") fd_pweight ["program"] (spWeight (He.cT K dW).2 5) := ok_pweight (D := 5) C_pweight F_psum_over TB1 G_sum b_psum_over m_psum_over
  have G_init : FnOk P w K mg base CX0 1 (He.ma K (He.ga K "NoPlace") "__init__") fd_INoPlace ["self", "place"] (spNpI K) := ok_npI F_INoPlace
  have G_pstatement_at : FnOk P w K mg base (L2.CX P w) 6 (He.ga K "statement_at") fd_pstatement_at ["program", "place"] (spStAt (He.ga K "NoPlace")) := ok_stAt NP m_NoPlace G_init b_INoPlace F_pstatement_at F_peach_statement F_pblocks_of F_pis_integer G_pblocks_of G_pis_integer b_peach_statement b_pblocks_of b_pis_integer m_peach_statement m_pblocks_of m_pis_integer
  have G_refused : FnG P w K mg base 8 (He.ga K "_law_refused") fd_refused ["_law_program_here", "_law_place"] spRef := ok_refused NP NR m_NoPlace F_refused F_pstatement_at G_pstatement_at b_pstatement_at m_pstatement_at z_isinstance z_LookupError z_ValueError z_repr
  have G_rows : FnOk P w K mg base CX0 6 (He.ga K "_law_rows") fd_rows ["_law_block_here", "_law_place", "_law_depth"] (spLRows 5) := ok_lrows F_rows F_parts G_parts b_rows b_parts m_rows m_parts z_len 5
  have G_weight : FnOk P w K mg base CX0 7 (He.ga K "_law_weight") fd_weight ["_law_block_here"] (spLW 5) := ok_lweight F_weight F_parts G_parts b_weight b_parts m_weight m_parts z_sum 5
  have G_right : FnG P w K mg base 12 (He.ga K "_law_right") fd_right ["_law_program_here", "_law_other"] (spRight (He.cT K dW).2) := ok_right F_right F_rows F_weight F_peach_statement F_pblocks_of F_pstatement_at F_pweight G_rows G_weight G_peach G_pblocks_of G_pstatement_at G_pweight b_rows b_weight b_peach_statement b_pblocks_of b_pstatement_at b_pweight m_rows m_weight m_peach_statement m_pblocks_of m_pstatement_at m_pweight z_repr z_range z_list z_zip
  exact ok_law24 F_law F_deck F_names F_program F_right F_refused F_rows F_draw F_peach_statement F_pweight G_deck G_names G_program G_right G_refused G_rows G_draw G_peach G_pweight b_deck b_names b_program b_right b_refused b_rows b_draw b_peach_statement b_pweight m_deck m_names m_program m_right m_refused m_rows m_draw m_peach_statement m_pweight z_repr z_range z_list z_len
end GA
open PyProof.Rows PySem PySem.W PySem.Calls
set_option maxHeartbeats 0 in
set_option maxRecDepth 200000 in
theorem PySem.Challenge.cw_whichheld_k24_places_told_holds : PySem.Challenge.rw_whichheld_k24_places_told.Holds := by
  w_on; o_law
  refine HandSHeadRun.head_any (r := GA.R) (q := view GA.R.prog [26]) (H := GA.hookH) (ob := GA.obsH) (M := 9000) (loose := GA.looseN) (d := HandSHeadRun.topDef GA.R.prog 26) (kwd := []) GA.obsH_eq
    (by kernel_rfl) (fun s => by kernel_rfl) GA.run_head (by kernel_rfl) (by kernel_rfl) (by kernel_rfl) (by rfl) (by first | assumption | decide +kernel) (by decide +kernel) ⟨rfl, rfl, rfl, rfl, rfl, by decide +kernel⟩ ?hw ?hc
  case hw => w_witness2
  case hc =>
    refine GA.walk_ofEGT (l := PySem.Challenge.rw_whichheld_k24_places_told) (n := 63) (k := 20) (x := "_law_script") rfl (by decide) ⟨rfl, by decide, by decide⟩ (by kernel_rfl) ?F
    intro w mg fa h Y G hmg0; obtain ⟨K, KX, c⟩ := Y
    have hmg : mg ("law" : PySem.Str) = some (.ref fa) := (show (HandSHeadRun.topDef GA.R.prog 26).name = ("law" : PySem.Str) by kernel_rfl) ▸ hmg0
    obtain ⟨fd, hb, hF⟩ := GA.facts (P := (PySem.Challenge.rw_whichheld_k24_places_told).prog) (w := w) KX G hmg c
    have two : ∀ {A : PySem.Addr × PySem.Addr → Prop}, (∀ p ∈ [GA.dW], A (He.cT K p)) → ∀ p ∈ GA.csK K, A p := fun {A} z p hp => by
      rw [List.mem_singleton.1 hp]; exact z _ (List.mem_cons_self ..)
    refine ⟨K, GA.csK K, fd, GA.spLaw24 K (He.cT K GA.dW).2, KX, two c.empty, two c.out, two fun p hp => codeHd_of_K KX (c.hd p hp), hb, fun H a ns hl hT hS => ⟨a, ns, rfl, hS, hl, fun p hp => ?_, fun _ => rfl⟩, hF⟩
    rw [List.mem_singleton.1 hp]; exact LamX.TabS.nil (hT _ (List.mem_cons_self ..))
