import PyProof.Rows.All
import Wide.All
import OpenK.AllK
import Wide.FinOn
import KE.KStateDown
import HandS.ForMost
import HandS.Wide
import HandS.TupAny
import HandS.Codes
import HandS.IsInst
import HandS.Style
import HandS.GenList
import HandS.GenYield
import HandS.Nested
import HandS.Lambda
import HandS.Defaults
import HandS.Walk
import HandS.TupMul
import HandS.EndTab
import HandS.HeadWalk
import HandS.HeadEnd
import HandS.Head0
import HandS.Head1
import HandS.Head2
import HandS.HeadHook1
import HandS.HeadHook2
import HandS.HeadHook3
import HandS.HeadHook4
import PySem.Challenge.RW_whichheld_k23_bounds_of_programs
set_option Elab.async false
set_option linter.all false
set_option maxRecDepth 100000
namespace GA
open L2 PySem PySem.Spec PyProof.Rows
def topS (i : Nat) : Stmt := PySem.Challenge.pw_whichheld_k23_bounds_of_programs.main.body.getD i (.Pass ⟨0, 0, 0, 0⟩)
abbrev sDeck : Stmt := topS 36
abbrev nDeck : List Str := ["_law_script", "_law_cell"]
theorem scDeck : FnScope nDeck ["_law_script"] (defScope sDeck) := ⟨rfl, rfl, rfl, by decide +kernel, rfl, by decide +kernel, by decide +kernel⟩
abbrev sDraw : Stmt := topS 37
abbrev nDraw : List Str := ["_law_deck_here", "_law_many", "_law_cell", "_law_at", "_law_mixed"]
theorem scDraw : FnScope nDraw ["_law_deck_here", "_law_many"] (defScope sDraw) := ⟨rfl, rfl, rfl, by decide +kernel, rfl, by decide +kernel, by decide +kernel⟩
abbrev sOne : Stmt := topS 38
abbrev nOne : List Str := ["_law_deck_here", "_law_items"]
theorem scOne : FnScope nOne ["_law_deck_here", "_law_items"] (defScope sOne) := ⟨rfl, rfl, rfl, by decide +kernel, rfl, by decide +kernel, by decide +kernel⟩
/-! ### heaps: all but some stand as they stood -/
def Sx (ex : List Addr) (H H' : Hp) : Prop := ∀ b o, b ∉ ex → H b = some o → H' b = some o
theorem Sx.refl {ex : List Addr} (H : Hp) : Sx ex H H := fun _ _ _ h => h
theorem Sx.trans {ex : List Addr} {H H1 H2 : Hp} (a : Sx ex H H1) (b : Sx ex H1 H2) : Sx ex H H2 := fun x o n h => b x o n (a x o n h)
theorem Sx.mono {ex fx : List Addr} {H H' : Hp} (a : Sx ex H H') (h : ∀ b ∈ ex, b ∈ fx) : Sx fx H H' := fun x o n e => a x o (fun z => n (h x z)) e
theorem Sx.nil {ex : List Addr} {H H' : Hp} (a : Sx [] H H') : Sx ex H H' := a.mono (fun _ z => by cases z)
theorem Sx.put {ex : List Addr} {H H' : Hp} {p : Addr} {o : HO} (a : Sx ex H H') (h : p ∈ ex) : Sx ex H (upd H' p o) := fun x u n e => by
  rw [upd_ne (fun z => n (by rw [z]; exact h))]
  exact a x u n e
/-- what was not there ahead may change -/
theorem Sx.own {ex : List Addr} {H H' : Hp} {p : Addr} {o : HO} (a : Sx ex H H') (h : H p = none) : Sx ex H (upd H' p o) := fun x u n e => by
  rw [upd_ne (ne_of_none e h)]
  exact a x u n e
theorem Sx.new {ex : List Addr} {H H' : Hp} {p : Addr} {o : HO} (a : Sx ex H H') (h : H' p = none) : Sx ex H (upd H' p o) := fun x u n e => by
  rw [upd_ne (ne_of_none (a x u n e) h)]
  exact a x u n e
theorem Sx.same {H H' : Hp} (a : Sx [] H H') : Same H H' := fun b o e => a b o (fun z => by cases z) e
theorem Sx.of {ex : List Addr} {H H' : Hp} (a : Same H H') : Sx ex H H' := fun b o _ e => a b o e
/-- free behind is free ahead, but for what may go -/
theorem Sx.free {ex : List Addr} {H H' : Hp} {p : Addr} (a : Sx ex H H') (hx : p ∉ ex) (h : H' p = none) : H p = none := by
  cases e : H p with
  | none => rfl
  | some o => rw [a p o hx e] at h; cases h
/-! ### the deck -/
/-- the deck at a: its cells at c, k numbers drawn -/
structure Dk (H : Hp) (a c : Addr) (cs : List Int) (k : Int) : Prop where
  ha : H a = some (.lst [.ref c, .int k])
  hc : H c = some (.lst (cs.map V.int))
  pos : ∀ x ∈ cs, 0 ≤ x
  len : cs.length ≤ 63
  k0 : 0 ≤ k
theorem Dk.ne {H : Hp} {a c : Addr} {cs : List Int} {k : Int} (D : Dk H a c cs k) : a ≠ c := fun e => by
  have h1 := D.ha
  rw [e, D.hc] at h1
  match cs, h1 with
  | [x, y], h1 => simp at h1
theorem Dk.sx {H H' : Hp} {a c : Addr} {cs : List Int} {k : Int} {ex : List Addr} (D : Dk H a c cs k) (s : Sx ex H H') (h1 : a ∉ ex) (h2 : c ∉ ex) : Dk H' a c cs k := ⟨s _ _ h1 D.ha, s _ _ h2 D.hc, D.pos, D.len, D.k0⟩
theorem Dk.same {H H' : Hp} {a c : Addr} {cs : List Int} {k : Int} (D : Dk H a c cs k) (s : Sx [] H H') : Dk H' a c cs k := D.sx s (by simp) (by simp)
/-- so many numbers may be drawn in all -/
abbrev KB : Int := 1099511627776
/-- go on from any heap of which as much is known -/
theorem gh {R F : Hp → Prop} {H1 : Hp} (f : F H1) (h : ∀ H2, F H2 → R H2) : R H1 := h H1 f
theorem lt_line {n : Nat} (h : n < 16777216) : n < sizeLine := h
theorem le_line {n : Nat} (h : n ≤ 16777216) : n ≤ sizeLine := h
theorem ixN_of {n j : Nat} {i : Int} (e : i = (j : Int)) (hj : j < n) : ixN n i = some j := by
  subst e
  unfold ixN
  rw [if_pos (by omega)]; rw [if_pos (by omega)]; simp
theorem Sx.rd {ex : List Addr} {H H' : Hp} {p : Addr} {u : HO} (a : Sx ex H H') (h : p ∉ ex) (r : Rd H p u) : Rd H' p u := by
  rcases r with r | ⟨o, r⟩
  · exact .inl (a _ _ h r)
  · exact .inr ⟨o, a _ _ h r⟩
theorem Sx.seqL {ex : List Addr} {H H' : Hp} {K : PySem.W.Frag} {p : Addr} {xs : List V} (a : Sx ex H H') (h : p ∉ ex) (r : SqL K H p xs) : SqL K H' p xs := r.imp (a.rd h) id
theorem Sx.seqT {ex : List Addr} {H H' : Hp} {K : PySem.W.Frag} {p : Addr} {xs : List V} (a : Sx ex H H') (h : p ∉ ex) (r : SqT K H p xs) : SqT K H' p xs := r.imp (a.rd h) id
theorem ix_or {X : Cx} {r r' : R2} (h : IxR X r) (h' : IxR X r') : IxR X (fun x y H Q => r x y H Q ∨ r' x y H Q) := by
  intro e1 e2 pins s σ H x y v u Q I rx ry q hs
  rcases q with q | q
  · exact h e1 e2 pins s σ H x y v u Q I rx ry q hs
  · exact h' e1 e2 pins s σ H x y v u Q I rx ry q hs
theorem cr_or {X : Cx} {f : Value} {r r' : List V → Hp → VK → Prop} (h : CallR X f r) (h' : CallR X f r') : CallR X f (fun x H Q => r x H Q ∨ r' x H Q) := by
  intro pins s σ H xs us Q I rx q
  rcases q with q | q
  · exact h pins s σ H xs us Q I rx q
  · exact h' pins s σ H xs us Q I rx q
/-! ### data of tuples -/
mutual
/-- v is the data d, tuples of ints and texts within one another -/
inductive Tp (H : Hp) : V → PyData → Prop where
  | non : Tp H .non .none
  | bl (b : Bool) : Tp H (.bl b) (.bool b)
  | int (i : Int) : Tp H (.int i) (.int i)
  | str (x : Str) : Tp H (.str x) (.str x)
  | tup {a : Addr} {xs : List V} {ds : List PyData} : H a = some (.tup xs) → TpAll H xs ds → Tp H (.ref a) (.tuple ds)
inductive TpAll (H : Hp) : List V → List PyData → Prop where
  | nil : TpAll H [] []
  | cons {v : V} {vs : List V} {d : PyData} {ds : List PyData} : Tp H v d → TpAll H vs ds → TpAll H (v :: vs) (d :: ds)
end
/-- the tuples stand as they stood -/
def Tk (H H' : Hp) : Prop := ∀ b xs, H b = some (.tup xs) → H' b = some (.tup xs)
theorem Tk.refl (H : Hp) : Tk H H := fun _ _ h => h
theorem Tk.trans {H H1 H2 : Hp} (a : Tk H H1) (b : Tk H1 H2) : Tk H H2 := fun x o h => b x o (a x o h)
theorem Sx.tk {ex : List Addr} {H H' : Hp} (s : Sx ex H H') (h : ∀ b ∈ ex, ∃ ys, H b = some (.lst ys)) : Tk H H' := fun b xs e => s b _ (fun hb => by
  obtain ⟨ys, e'⟩ := h b hb
  rw [e] at e'
  cases e') e
theorem Sx.tk0 {H H' : Hp} (s : Sx [] H H') : Tk H H' := s.tk (fun _ z => by cases z)
mutual
theorem Tp.keep {H H' : Hp} (s : Tk H H') : ∀ {v : V} {d : PyData}, Tp H v d → Tp H' v d
  | _, _, .non => .non
  | _, _, .bl b => .bl b
  | _, _, .int i => .int i
  | _, _, .str x => .str x
  | _, _, .tup h a => .tup (s _ _ h) (TpAll.keep s a)
theorem TpAll.keep {H H' : Hp} (s : Tk H H') : ∀ {vs : List V} {ds : List PyData}, TpAll H vs ds → TpAll H' vs ds
  | _, _, .nil => .nil
  | _, _, .cons a b => .cons (Tp.keep s a) (TpAll.keep s b)
end
mutual
theorem Tp.dp {K : PySem.W.Frag} {H : Hp} : ∀ {v : V} {d : PyData}, Tp H v d → Dp K H v d
  | _, _, .non => .non
  | _, _, .bl b => .bl b
  | _, _, .int i => .int i
  | _, _, .str x => .str x
  | _, _, .tup h a => .tup (SqT.of h) (TpAll.dp a)
theorem TpAll.dp {K : PySem.W.Frag} {H : Hp} : ∀ {vs : List V} {ds : List PyData}, TpAll H vs ds → DpAll K H vs ds
  | _, _, .nil => .nil
  | _, _, .cons a b => .cons (Tp.dp a) (TpAll.dp b)
end
theorem TpAll.len {H : Hp} : ∀ {vs : List V} {ds : List PyData}, TpAll H vs ds → vs.length = ds.length
  | _, _, .nil => rfl
  | _, _, .cons _ b => by rw [List.length_cons, List.length_cons, TpAll.len b]
theorem TpAll.get {H : Hp} : ∀ {vs : List V} {ds : List PyData} {i : Nat} {v : V}, TpAll H vs ds → vs[i]? = some v → ∃ d, ds[i]? = some d ∧ Tp H v d
  | _, _, 0, _, .cons a _, e => ⟨_, rfl, by cases e; exact a⟩
  | _, _, i + 1, _, .cons _ b, e => TpAll.get (i := i) b e
theorem TpAll.append {H : Hp} : ∀ {vs ws : List V} {ds es : List PyData}, TpAll H vs ds → TpAll H ws es → TpAll H (vs ++ ws) (ds ++ es)
  | _, _, _, _, .nil, h => h
  | _, _, _, _, .cons a b, h => .cons a (TpAll.append b h)
theorem Tp.tuple {H : Hp} {v : V} {ds : List PyData} (h : Tp H v (.tuple ds)) : ∃ a xs, v = .ref a ∧ H a = some (.tup xs) ∧ TpAll H xs ds := by
  cases h with
  | tup h a => exact ⟨_, _, rfl, h, a⟩
theorem Tp.new {H : Hp} {v : V} {d : PyData} {p : Addr} {o : HO} (h : Tp H v d) (n : H p = none) : Tp (upd H p o) v d := h.keep ((Sx.refl _).new n).tk0
theorem TpAll.new {H : Hp} {vs : List V} {ds : List PyData} {p : Addr} {o : HO} (h : TpAll H vs ds) (n : H p = none) : TpAll (upd H p o) vs ds := h.keep ((Sx.refl _).new n).tk0
theorem Dk.new {H : Hp} {a c p : Addr} {cs : List Int} {k : Int} {o : HO} (D : Dk H a c cs k) (n : H p = none) : Dk (upd H p o) a c cs k := D.same ((Sx.refl _).new n)
/-- what is shown once and used on several ways -/
theorem share {B G : Prop} (hB : B) (h : B → G) : G := h hB
theorem Sx.step {ex fx : List Addr} {H H1 H2 : Hp} (a : Sx ex H H1) (b : Sx fx H1 H2) (h : ∀ x ∈ fx, x ∈ ex ∨ H x = none) : Sx ex H H2 := fun x o n e =>
  b x o (fun z => (h x z).elim n (fun y => by rw [e] at y; cases y)) (a x o n e)
theorem gnm {i : Nat} {v : V} {σ : L2.St} {H : Hp} {Qf : L2.St → Hp → Prop} (h : Qf (σ.set i (some v)) H) : gName i v σ H Qf := h
/-! ### what the generator makes -/
/-- expressions over the names, at most so many in one another -/
inductive ExD (ns : List Str) : Nat → PyData → Prop where
  | int {d : Nat} (i : Int) : -99 ≤ i → i ≤ 99 → ExD ns (d + 1) (.int i)
  | name {d : Nat} (z : Str) : z ∈ ns → ExD ns (d + 1) (.str z)
  | plus {d : Nat} {x y : PyData} : ExD ns d x → ExD ns d y → ExD ns (d + 1) (.tuple [.str "plus", x, y])
  | minus {d : Nat} {x y : PyData} : ExD ns d x → ExD ns d y → ExD ns (d + 1) (.tuple [.str "minus", x, y])
  | times {d : Nat} {x : PyData} (f : Int) : -9 ≤ f → f ≤ 9 → ExD ns d x → ExD ns (d + 1) (.tuple [.str "times", .int f, x])
/-- so many draws at most -/
def cE : Nat → Int
  | 0 => 0
  | d + 1 => 2 * cE d + 3
theorem cE_pos : ∀ d, 0 ≤ cE d
  | 0 => Int.le_refl _
  | d + 1 => by have := cE_pos d; show 0 ≤ 2 * cE d + 3; omega
theorem cE_one (d : Nat) : cE (d + 1) = 2 * cE d + 3 := rfl
/-- a name: one to eight small letters and digits, none of the words -/
def WordsK : List Str := ["box", "set", "pay", "stop", "if", "else", "repeat", "pass", "rest", "of", "not", "program"]
structure NmOk (z : Str) : Prop where
  lo : 1 ≤ z.length
  hi : z.length ≤ 8
  sgn : ∀ x ∈ z.cps.toList, (97 ≤ x ∧ x ≤ 122) ∨ (48 ≤ x ∧ x ≤ 57)
  hd : ∀ x, z.cps.toList[0]? = some x → 97 ≤ x
  kw : z ∉ WordsK
theorem NmOk.ok {z : Str} (h : NmOk z) : PyData.strOk z = true := by
  unfold PyData.strOk
  rw [Array.all_eq_true']
  intro x hx
  have := h.sgn x (Array.mem_toList_iff.mpr hx)
  refine decide_eq_true ?_; omega
/-- names at nm -/
structure Nms (K : PySem.W.Frag) (H : Hp) (nm : Addr) (ns : List Str) : Prop where
  tr : H nm = some (.lst (ns.map V.str))
  ne : ns ≠ []
  len : ns.length ≤ 1000
  ok : ∀ z ∈ ns, NmOk z
theorem Nms.keep {K : PySem.W.Frag} {H H' : Hp} {nm : Addr} {ns : List Str} {ex : List Addr} (N : Nms K H nm ns) (s : Sx ex H H') (h : nm ∉ ex) : Nms K H' nm ns := ⟨s _ _ h N.tr, N.ne, N.len, N.ok⟩
theorem Nms.at_ {K : PySem.W.Frag} {H : Hp} {nm : Addr} {ns : List Str} (N : Nms K H nm ns) : SqL K H nm (ns.map V.str) := .inl (.inl N.tr)
theorem Nms.nw {K : PySem.W.Frag} {H : Hp} {nm p : Addr} {ns : List Str} (N : Nms K H nm ns) (h : H p = none) : nm ≠ p := fun z => (by rw [← z, N.tr] at h; cases h)
theorem Dk.lst {H : Hp} {a c : Addr} {cs : List Int} {k : Int} (D : Dk H a c cs k) : ∀ b ∈ [a, c], ∃ ys, H b = some (.lst ys) := fun b hb => by
  rcases List.mem_cons.1 hb with rfl | hb
  · exact ⟨_, D.ha⟩
  · rw [List.mem_singleton.mp hb]; exact ⟨_, D.hc⟩
theorem Dk.tk {H H' : Hp} {a c : Addr} {cs : List Int} {k : Int} (D : Dk H a c cs k) (s : Sx [a, c] H H') : Tk H H' := s.tk D.lst
/-- a new object is none of the deck's -/
theorem Dk.nw {H : Hp} {a c p : Addr} {cs : List Int} {k : Int} (D : Dk H a c cs k) (h : H p = none) : p ≠ a ∧ p ≠ c :=
  ⟨fun e => (by rw [e, D.ha] at h; cases h), fun e => (by rw [e, D.hc] at h; cases h)⟩
/-- tests with at most so many "not"; true: of a rest -/
inductive TsD (ns : List Str) : Nat → Bool → PyData → Prop where
  | rest {n : Nat} {x : PyData} (b r : Int) : ExD ns 3 x → 2 ≤ b → b ≤ 6 → 0 ≤ r → r < b → TsD ns n true (.tuple [.str "rest", x, .int b, .int r])
  | less {n : Nat} {x y : PyData} : ExD ns 3 x → ExD ns 3 y → TsD ns n false (.tuple [.str "less", x, y])
  | not {n : Nat} {b : Bool} {t : PyData} : TsD ns n b t → TsD ns (n + 1) b (.tuple [.str "not", t])
def bI (b : Bool) : Int := if b then 1 else 0
mutual
/-- statements whose blocks lie at most so deep: with its places, weight, rests, comparings -/
inductive StD (ns : List Str) : Nat → Int → Int → Int → Int → PyData → Prop where
  | set {d : Nat} {e : PyData} (z : Str) : z ∈ ns → ExD ns 3 e → StD ns d 1 1 0 0 (.tuple [.str "set", .str z, e])
  | pay {d : Nat} {e : PyData} : ExD ns 3 e → StD ns d 1 1 0 0 (.tuple [.str "pay", e])
  | stop {d : Nat} : StD ns d 1 1 0 0 (.tuple [.str "stop"])
  | ite {d : Nat} {t : PyData} {b : Bool} {n1 w1 r1 c1 n2 w2 r2 c2 : Int} {ys zs : List PyData} : TsD ns 2 b t → BkD ns d n1 w1 r1 c1 ys → BkD ns d n2 w2 r2 c2 zs →
      StD ns d (1 + n1 + n2) (1 + w1 + w2) (bI b + r1 + r2) (bI (!b) + c1 + c2) (.tuple [.str "if", t, .tuple ys, .tuple zs])
  | rep {d : Nat} {n1 w1 r1 c1 : Int} {ys : List PyData} (k : Int) : 1 ≤ k → k ≤ 8 → BkD ns d n1 w1 r1 c1 ys → StD ns d (1 + n1) (1 + k * w1) (k * r1) (k * c1) (.tuple [.str "repeat", .int k, .tuple ys])
inductive BkD (ns : List Str) : Nat → Int → Int → Int → Int → List PyData → Prop where
  | nil {d : Nat} : BkD ns d 0 0 0 0 []
  | cons {d : Nat} {n1 w1 r1 c1 n2 w2 r2 c2 : Int} {s : PyData} {ss : List PyData} : StD ns d n1 w1 r1 c1 s → BkD ns (d + 1) n2 w2 r2 c2 ss → BkD ns (d + 1) (n1 + n2) (w1 + w2) (r1 + r2) (c1 + c2) (s :: ss)
end
/-! ### such data may be compared -/
def Sh (n : Nat) (e : PyData) : Prop := e.canLay0 = true ∧ e.depth ≤ n
def ShA (n : Nat) (es : List PyData) : Prop := PyData.canLayAll0 es = true ∧ PyData.depthAll es ≤ n
theorem ShA.nil {n : Nat} : ShA n [] := ⟨by simp only [PyData.canLayAll0], by simp only [PyData.depthAll]; omega⟩
theorem ShA.cons {n : Nat} {e : PyData} {es : List PyData} (h : Sh n e) (hs : ShA n es) : ShA n (e :: es) :=
  ⟨by simp only [PyData.canLayAll0, h.1, hs.1, Bool.and_self], by simp only [PyData.depthAll]; have := h.2; have := hs.2; omega⟩
theorem Sh.tup {n : Nat} {es : List PyData} (h : ShA n es) : Sh (n + 1) (.tuple es) := ⟨by simp only [PyData.canLay0, h.1], by simp only [PyData.depth]; have := h.2; omega⟩
theorem Sh.int {n : Nat} (i : Int) : Sh n (.int i) := ⟨by simp only [PyData.canLay0], by simp only [PyData.depth]; omega⟩
theorem Sh.str {n : Nat} {z : Str} (h : PyData.strOk z = true) : Sh n (.str z) := ⟨by simp only [PyData.canLay0, h], by simp only [PyData.depth]; omega⟩
theorem Sh.mono {n m : Nat} {e : PyData} (h : Sh n e) (l : n ≤ m) : Sh m e := ⟨h.1, Nat.le_trans h.2 l⟩
theorem ShA.mono {n m : Nat} {e : List PyData} (h : ShA n e) (l : n ≤ m) : ShA m e := ⟨h.1, Nat.le_trans h.2 l⟩
theorem Sh.shaped {n : Nat} {e : PyData} (h : Sh n e) (l : n ≤ 64) : SeqAt.shaped e = true := by
  unfold SeqAt.shaped
  rw [h.1, decide_eq_true (Nat.le_trans h.2 l)]
  rfl
theorem ExD.sh {ns : List Str} (hn : ∀ z ∈ ns, NmOk z) {d : Nat} {e : PyData} (h : ExD ns d e) : Sh d e := by
  induction h with
  | int i _ _ => exact .int i
  | name z hz => exact .str (hn z hz).ok
  | plus _ _ h1 h2 => exact .tup (.cons (.str (by decide +kernel)) (.cons h1 (.cons h2 .nil)))
  | minus _ _ h1 h2 => exact .tup (.cons (.str (by decide +kernel)) (.cons h1 (.cons h2 .nil)))
  | times f _ _ _ h1 => exact .tup (.cons (.str (by decide +kernel)) (.cons (.int f) (.cons h1 .nil)))
theorem TsD.sh {ns : List Str} (hn : ∀ z ∈ ns, NmOk z) {n : Nat} {b : Bool} {e : PyData} (h : TsD ns n b e) : Sh (n + 4) e := by
  induction h with
  | rest b r hx _ _ _ _ => exact (Sh.tup (.cons (.str (by decide +kernel)) (.cons (hx.sh hn) (.cons (.int b) (.cons (.int r) .nil))))).mono (by omega)
  | less hx hy => exact (Sh.tup (.cons (.str (by decide +kernel)) (.cons (hx.sh hn) (.cons (hy.sh hn) .nil)))).mono (by omega)
  | not _ ih => exact .tup (.cons (.str (by decide +kernel)) (.cons ih .nil))
theorem TsD.up {ns : List Str} {n m : Nat} {b : Bool} {e : PyData} (h : TsD ns n b e) (l : n ≤ m) : TsD ns m b e := by
  induction h generalizing m with
  | rest b r h1 h2 h3 h4 h5 => exact .rest b r h1 h2 h3 h4 h5
  | less h1 h2 => exact .less h1 h2
  | not _ ih =>
    obtain ⟨j, rfl⟩ : ∃ j, m = j + 1 := ⟨m - 1, by omega⟩
    exact .not (ih (by omega))
mutual
theorem StD.sh {ns : List Str} (hn : ∀ z ∈ ns, NmOk z) : ∀ {d : Nat} {n w r c : Int} {e : PyData}, StD ns d n w r c e → Sh (2 * d + 9) e
  | _, _, _, _, _, _, .set z hz hx => (Sh.tup (.cons (.str (by decide +kernel)) (.cons (.str (hn z hz).ok) (.cons (hx.sh hn) .nil)))).mono (by omega)
  | _, _, _, _, _, _, .pay hx => (Sh.tup (.cons (.str (by decide +kernel)) (.cons (hx.sh hn) .nil))).mono (by omega)
  | _, _, _, _, _, _, .stop => (Sh.tup (n := 0) (.cons (.str (by decide +kernel)) .nil)).mono (by omega)
  | d, _, _, _, _, _, .ite ht hy hz => (Sh.tup (n := 2 * d + 8) (.cons (.str (by decide +kernel)) (.cons ((ht.sh hn).mono (by omega)) (.cons ((Sh.tup (BkD.sh hn hy)).mono (by omega)) (.cons ((Sh.tup (BkD.sh hn hz)).mono (by omega)) .nil))))).mono (by omega)
  | d, _, _, _, _, _, .rep k _ _ hy => (Sh.tup (n := 2 * d + 8) (.cons (.str (by decide +kernel)) (.cons (.int k) (.cons ((Sh.tup (BkD.sh hn hy)).mono (by omega)) .nil)))).mono (by omega)
theorem BkD.sh {ns : List Str} (hn : ∀ z ∈ ns, NmOk z) : ∀ {d : Nat} {n w r c : Int} {es : List PyData}, BkD ns d n w r c es → ShA (2 * d + 7) es
  | _, _, _, _, _, _, .nil => .nil
  | _, _, _, _, _, _, .cons h hs => .cons ((StD.sh hn h).mono (by omega)) (BkD.sh hn hs)
end
/-- the room at rm -/
structure Rm (H : Hp) (rm : Addr) (r0 r1 r2 r3 : Int) : Prop where
  at_ : H rm = some (.lst [.int r0, .int r1, .int r2, .int r3])
  p0 : 0 ≤ r0
  p1 : 0 ≤ r1
  p2 : 0 ≤ r2
  p3 : 0 ≤ r3
theorem Rm.sx {H H' : Hp} {rm : Addr} {r0 r1 r2 r3 : Int} {ex : List Addr} (R : Rm H rm r0 r1 r2 r3) (s : Sx ex H H') (h : rm ∉ ex) : Rm H' rm r0 r1 r2 r3 := ⟨s _ _ h R.at_, R.p0, R.p1, R.p2, R.p3⟩
theorem Rm.new {H : Hp} {rm p : Addr} {r0 r1 r2 r3 : Int} {o : HO} (R : Rm H rm r0 r1 r2 r3) (n : H p = none) : Rm (upd H p o) rm r0 r1 r2 r3 := R.sx ((Sx.refl (ex := []) _).new n) (by simp)
theorem Rm.nw {H : Hp} {rm p : Addr} {r0 r1 r2 r3 : Int} (R : Rm H rm r0 r1 r2 r3) (n : H p = none) : p ≠ rm := fun e => (by rw [e, R.at_] at n; cases n)
theorem lst3 {H : Hp} {a c rm : Addr} {cs : List Int} {k r0 r1 r2 r3 : Int} (D : Dk H a c cs k) (R : Rm H rm r0 r1 r2 r3) : ∀ b ∈ [a, c, rm], ∃ ys, H b = some (.lst ys) := fun b hb => by
  simp only [List.not_mem_nil, List.mem_cons, or_false] at hb
  obtain rfl | rfl | rfl := hb
  · exact ⟨_, D.ha⟩
  · exact ⟨_, D.hc⟩
  · exact ⟨_, R.at_⟩
theorem Rm.cast {H : Hp} {rm : Addr} {r0 r1 r2 r3 q0 q1 q2 q3 : Int} (R : Rm H rm r0 r1 r2 r3) (e0 : r0 = q0) (e1 : r1 = q1) (e2 : r2 = q2) (e3 : r3 = q3) : Rm H rm q0 q1 q2 q3 := by
  subst e0 e1 e2 e3
  exact R
theorem BkD.snoc {ns : List Str} {d : Nat} {n2 w2 r2 c2 : Int} {s : PyData} (hs : StD ns d n2 w2 r2 c2 s) : ∀ (xs : List PyData) {n w r c : Int}, BkD ns (d + 1) n w r c xs → BkD ns (d + 1) (n + n2) (w + w2) (r + r2) (c + c2) (xs ++ [s])
  | [], _, _, _, _, .nil => by
    have h : BkD ns (d + 1) (n2 + 0) (w2 + 0) (r2 + 0) (c2 + 0) [s] := .cons hs .nil
    have e : ∀ x : Int, x + 0 = 0 + x := fun x => Int.add_comm _ _
    rw [e, e, e, e] at h
    exact h
  | x :: xs, _, _, _, _, .cons (n1 := n1) (w1 := w1) (r1 := r1) (c1 := c1) (n2 := n3) (w2 := w3) (r2 := r3) (c2 := c3) hx hxs => by
    have h := BkD.cons hx (BkD.snoc hs xs hxs)
    rw [← Int.add_assoc, ← Int.add_assoc, ← Int.add_assoc, ← Int.add_assoc] at h
    exact h
/-- not () -/
def ne0 (e : PyData) : Bool := !PyData.eqv e (.tuple [])
theorem StD.ne0 {ns : List Str} {d : Nat} {n w r c : Int} {e : PyData} (h : StD ns d n w r c e) : GA.ne0 e = true := by
  cases h <;> rfl
theorem ne0_nil : ne0 (.tuple []) = false := rfl
theorem ExD.up {ns : List Str} {n m : Nat} {e : PyData} (h : ExD ns n e) (l : n ≤ m) : ExD ns m e := by
  induction h generalizing m with
  | int i h1 h2 => obtain ⟨j, rfl⟩ : ∃ j, m = j + 1 := ⟨m - 1, by omega⟩; exact .int i h1 h2
  | name z h1 => obtain ⟨j, rfl⟩ : ∃ j, m = j + 1 := ⟨m - 1, by omega⟩; exact .name z h1
  | plus _ _ h1 h2 => obtain ⟨j, rfl⟩ : ∃ j, m = j + 1 := ⟨m - 1, by omega⟩; exact .plus (h1 (by omega)) (h2 (by omega))
  | minus _ _ h1 h2 => obtain ⟨j, rfl⟩ : ∃ j, m = j + 1 := ⟨m - 1, by omega⟩; exact .minus (h1 (by omega)) (h2 (by omega))
  | times f a b _ h1 => obtain ⟨j, rfl⟩ : ∃ j, m = j + 1 := ⟨m - 1, by omega⟩; exact .times f a b (h1 (by omega))
theorem bI_nn (b : Bool) : 0 ≤ bI b := by cases b <;> decide
mutual
theorem StD.pos {ns : List Str} : ∀ {d : Nat} {n w r c : Int} {e : PyData}, StD ns d n w r c e → 1 ≤ n ∧ 1 ≤ w ∧ 0 ≤ r ∧ 0 ≤ c
  | _, _, _, _, _, _, .set z hz hx => by omega
  | _, _, _, _, _, _, .pay hx => by omega
  | _, _, _, _, _, _, .stop => by omega
  | _, _, _, _, _, _, .ite (b := b) ht hy hz => by
    have h1 := BkD.pos hy
    have h2 := BkD.pos hz
    have h3 := bI_nn b
    have h4 := bI_nn (!b)
    omega
  | _, _, _, _, _, _, .rep (w1 := w1) (r1 := r1) (c1 := c1) k hk _ hy => by
    have h1 := BkD.pos hy
    have h2 : 0 ≤ k * w1 := Int.mul_nonneg (by omega) (by omega)
    have h3 : 0 ≤ k * r1 := Int.mul_nonneg (by omega) (by omega)
    have h4 : 0 ≤ k * c1 := Int.mul_nonneg (by omega) (by omega)
    omega
theorem BkD.pos {ns : List Str} : ∀ {d : Nat} {n w r c : Int} {es : List PyData}, BkD ns d n w r c es → (es.length : Int) ≤ n ∧ (es.length : Int) ≤ w ∧ 0 ≤ r ∧ 0 ≤ c
  | _, _, _, _, _, _, .nil => by simp
  | _, _, _, _, _, _, .cons h hs => by
    have h1 := StD.pos h
    have h2 := BkD.pos hs
    rw [List.length_cons]
    omega
end
theorem BkD.append {ns : List Str} {d : Nat} {n2 w2 r2 c2 : Int} {ys : List PyData} (hy : BkD ns (d + 1) n2 w2 r2 c2 ys) : ∀ (xs : List PyData) {n w r c : Int}, BkD ns (d + 1) n w r c xs → BkD ns (d + 1) (n + n2) (w + w2) (r + r2) (c + c2) (xs ++ ys)
  | [], _, _, _, _, .nil => by
    rw [Int.zero_add, Int.zero_add, Int.zero_add, Int.zero_add]
    exact hy
  | x :: xs, _, _, _, _, .cons hx hxs => by
    have h := BkD.cons hx (BkD.append hy xs hxs)
    rw [← Int.add_assoc, ← Int.add_assoc, ← Int.add_assoc, ← Int.add_assoc] at h
    exact h
/-- a tuple and a tuple -/
theorem cat_tp {K : PySem.W.Frag} {H : Hp} {v u : V} {ds es : List PyData} {Q : VK} (h1 : Tp H v (.tuple ds)) (h2 : Tp H u (.tuple es)) (hl : ds.length + es.length ≤ 16777216)
    (q : ∀ H' z, Sx [] H H' → (∀ b, H' b = none → H b = none) → Tp H' z (.tuple (ds ++ es)) → Q z H') : rCatA K v u H Q := by
  obtain ⟨a, xs, rfl, ha, hx⟩ := h1.tuple
  obtain ⟨b, ys, rfl, hb, hy⟩ := h2.tuple
  refine ⟨a, b, xs, ys, rfl, rfl, .inl (.inl ha), .inl (.inl hb), by rw [hx.len, hy.len]; exact hl, fun e => ?_, fun _ e => ?_, fun _ _ p hp => ?_⟩
  · subst e
    cases hx
    exact q H _ (Sx.refl _) (fun _ h => h) (.tup hb hy)
  · subst e
    cases hy
    rw [List.append_nil] at q
    exact q H _ (Sx.refl _) (fun _ h => h) (.tup ha hx)
  · refine q _ _ ((Sx.refl _).new hp) (fun z hz => ?_) (.tup upd_same ((hx.append hy).new hp))
    by_cases e : z = p
    · rw [e]; exact hp
    · rw [upd_ne e] at hz; exact hz
def cP : Int := 700000
def spProgram (K : PySem.W.Frag) : Sp := fun vs H Q _ => ∃ (a c : Addr) (cs : List Int) (k : Int) (nm : Addr) (ns : List Str), vs = [.ref a, .ref nm] ∧ Dk H a c cs k ∧ Nms K H nm ns ∧ nm ≠ a ∧ nm ≠ c ∧ k + cP ≤ KB ∧
  ∀ H' cs' k' v es n w r cc, Sx [a, c] H H' → Dk H' a c cs' k' → k ≤ k' → k' ≤ k + cP → Tp H' v (.tuple es) → BkD ns 4 n w r cc es → n ≤ 24 → w ≤ 30 → r ≤ 2 → cc ≤ 2 → Q v H'
def cB : Nat → Int
  | 0 => 0
  | d + 1 => 1 + 4 * (71 + 2 * cB d)
theorem cB_pos : ∀ d, 0 ≤ cB d
  | 0 => Int.le_refl _
  | d + 1 => by have := cB_pos d; show 0 ≤ 1 + 4 * (71 + 2 * cB d); omega
theorem cB_one (d : Nat) : cB (d + 1) = 1 + 4 * (71 + 2 * cB d) := rfl
def spBlock (K : PySem.W.Frag) (d : Nat) : Sp := fun vs H Q _ => ∃ (a c : Addr) (cs : List Int) (k : Int) (nm : Addr) (ns : List Str) (rm : Addr) (r0 r1 r2 r3 t : Int), vs = [.ref a, .ref nm, .ref rm, .int t, .int (4 - (d : Int))] ∧ Dk H a c cs k ∧ Nms K H nm ns ∧ Rm H rm r0 r1 r2 r3 ∧
  nm ≠ a ∧ nm ≠ c ∧ nm ≠ rm ∧ rm ≠ a ∧ rm ≠ c ∧ 1 ≤ t ∧ r1 ≤ 30 ∧ k + cB d ≤ KB ∧
  ∀ H' cs' k' v es n w r cc, Sx [a, c, rm] H H' → Dk H' a c cs' k' → k ≤ k' → k' ≤ k + cB d → Tp H' v (.tuple es) → BkD ns d n w r cc es → Rm H' rm (r0 - n) (r1 - t * w) (r2 - t * r) (r3 - t * cc) → 0 ≤ w → r1 - t * w ≤ r1 → Q v H'
def spRow (K : PySem.W.Frag) (d : Nat) : Sp := fun vs H Q _ => ∃ (a c : Addr) (cs : List Int) (k : Int) (nm : Addr) (ns : List Str) (rm : Addr) (r0 r1 r2 r3 t : Int), vs = [.ref a, .ref nm, .ref rm, .int t, .int (3 - (d : Int))] ∧ Dk H a c cs k ∧ Nms K H nm ns ∧ Rm H rm r0 r1 r2 r3 ∧
  nm ≠ a ∧ nm ≠ c ∧ nm ≠ rm ∧ rm ≠ a ∧ rm ≠ c ∧ 1 ≤ t ∧ r1 ≤ 30 ∧ k + (71 + 2 * cB d) ≤ KB ∧
  ∀ H' cs' k' v e, Sx [a, c, rm] H H' → Dk H' a c cs' k' → k ≤ k' → k' ≤ k + (71 + 2 * cB d) → Tp H' v e →
    ((e = .tuple [] ∧ Rm H' rm r0 r1 r2 r3) ∨ ∃ n w r cc, StD ns d n w r cc e ∧ Rm H' rm (r0 - n) (r1 - t * w) (r2 - t * r) (r3 - t * cc) ∧ 0 ≤ w ∧ r1 - t * w ≤ r1) → Q v H'
def spNames (K : PySem.W.Frag) : Sp := fun vs H Q _ => ∃ (a c : Addr) (cs : List Int) (k : Int), vs = [.ref a] ∧ Dk H a c cs k ∧ k + 20 ≤ KB ∧
  ∀ H' cs' k' p ns, Sx [a, c] H H' → Dk H' a c cs' k' → k ≤ k' → k' ≤ k + 20 → H p = none → p ≠ a → p ≠ c → Nms K H' p ns → Q (.ref p) H'
/-- a text of one sign -/
abbrev s1 (x : Nat) : Str := ⟨#[x]⟩
theorem join_s1 : ∀ ls : List Nat, Txt.join (Str.ofString "") (ls.map s1) = ⟨ls.toArray⟩ := fun ls => by
  have e0 : (Str.ofString "" : Str) = SX.S [] := by decide +kernel
  have e1 : ls.map s1 = (ls.map fun x => [x]).map SX.S := by rw [List.map_map]; rfl
  have e2 : ∀ l : List Nat, TL.joinL [] (l.map fun x => [x]) = l := by
    intro l
    induction l with
    | nil => rfl
    | cons x r ih =>
      cases r with
      | nil => rfl
      | cons y r => show [x] ++ ([] ++ TL.joinL [] ((y :: r).map fun x => [x])) = _; rw [ih]; rfl
  rw [e0, e1, SX.join_S, e2]
theorem sum_s1 (ls : List Nat) : ((ls.map s1).map (·.length)).sum = ls.length := by
  induction ls with
  | nil => rfl
  | cons x r ih => rw [List.map_cons, List.map_cons, List.sum_cons, ih, List.length_cons, Nat.add_comm]; rfl
/-- so many signs of z stand in the list at Z -/
def Pz (H0 : Hp) (a c : Addr) (k : Int) (Z : Addr) (z : Str) (i : Nat) (H' : Hp) : Prop := Sx [a, c] H0 H' ∧ (∃ cs', Dk H' a c cs' (k + i)) ∧ ∃ ls : List Nat, H' Z = some (.lst ((ls.map s1).map V.str)) ∧ ls.length = i ∧ ∀ x ∈ ls, x ∈ z.cps.toList
theorem Pz.zero {H0 : Hp} {a c : Addr} {cs : List Int} {k : Int} {Z : Addr} {z : Str} (D : Dk H0 a c cs k) (h : H0 Z = none) : Pz H0 a c k Z z 0 (upd H0 Z (.lst [])) :=
  ⟨(Sx.refl _).new h, ⟨cs, by have := D.new (o := .lst []) h; rw [show k + ((0 : Nat) : Int) = k by omega]; exact this⟩, [], upd_same, rfl, fun _ z => by simp at z⟩
theorem Pz.step {H0 H' H2 : Hp} {a c : Addr} {cs : List Int} {k : Int} {Z : Addr} {z : Str} {i : Nat} {x : Nat} (h0 : H0 Z = none) (D0 : Dk H0 a c cs k) (p : Pz H0 a c k Z z i H') (s : Sx [a, c] H' H2) {cs2 : List Int} (D : Dk H2 a c cs2 (k + i + 1)) (hx : x ∈ z.cps.toList) (hi : i < 1000) :
    ∃ acc, H2 Z = some (.lst acc) ∧ acc.length < sizeLine ∧ Pz H0 a c k Z z (i + 1) (upd H2 Z (.lst (acc ++ [.str (s1 x)]))) := by
  obtain ⟨p1, _, ls, p3, p4, p5⟩ := p
  obtain ⟨Za, Zc⟩ := D0.nw h0
  refine ⟨_, s _ _ (by simp [Za, Zc]) p3, lt_line (by rw [List.length_map, List.length_map]; omega), (p1.trans s).own h0, ⟨cs2, ?_⟩, ls ++ [x], ?_, by rw [List.length_append, p4]; rfl, fun y hy => ?_⟩
  · rw [show k + ((i + 1 : Nat) : Int) = k + i + 1 by omega]
    exact D.sx ((Sx.refl (ex := [Z]) _).put (by simp)) (by simp [Za.symm]) (by simp [Zc.symm])
  · rw [upd_same, List.map_append, List.map_append]
    rfl
  · rcases List.mem_append.1 hy with w | w
    · exact p5 y w
    · rw [List.mem_singleton.mp w]; exact hx
/-- whether a text is a name -/
def nmOkB (z : Str) : Bool := decide (1 ≤ z.length) && decide (z.length ≤ 8) && z.cps.toList.all (fun x => (decide (97 ≤ x) && decide (x ≤ 122)) || (decide (48 ≤ x) && decide (x ≤ 57))) && (match z.cps.toList with | [] => true | x :: _ => decide (97 ≤ x)) && !WordsK.contains z
theorem nmOk_of {z : Str} (h : nmOkB z = true) : NmOk z := by
  unfold nmOkB at h
  simp only [Bool.and_eq_true, decide_eq_true_eq, Bool.not_eq_true', List.all_eq_true, Bool.or_eq_true] at h
  obtain ⟨⟨⟨⟨h1, h2⟩, h3⟩, h4⟩, h5⟩ := h
  refine ⟨h1, h2, fun x hx => h3 x hx, fun x hx => ?_, fun hm => ?_⟩
  · cases e : z.cps.toList with
    | nil => rw [e] at hx; simp at hx
    | cons y r =>
      rw [e] at hx h4
      have : y = x := Option.some.inj hx
      rw [← this]
      exact of_decide_eq_true h4
  · rw [List.contains_eq_mem, decide_eq_true hm] at h5
    cases h5
theorem words_no : ∀ z ∈ WordsK, ∀ x ∈ z.cps.toList, x ≠ 113 ∧ x ≠ 118 ∧ x ≠ 122 := by decide +kernel
theorem ab_az : ∀ x ∈ (Str.ofString "abcdefghijklmnopqrstuvwxyz").cps.toList, 97 ≤ x ∧ x ≤ 122 := by decide +kernel
theorem ab_09 : ∀ x ∈ (Str.ofString "abcdefghijklmnopqrstuvwxyz" ++ Str.ofString "0123456789").cps.toList, (97 ≤ x ∧ x ≤ 122) ∨ (48 ≤ x ∧ x ≤ 57) := by decide +kernel
theorem nm_made {ls gs : List Nat} {x : Nat} (hl : ∀ y ∈ ls, 97 ≤ y ∧ y ≤ 122) (hg : ∀ y ∈ gs, (97 ≤ y ∧ y ≤ 122) ∨ (48 ≤ y ∧ y ≤ 57)) (hx : x = 113 ∨ x = 118 ∨ x = 122) (hn : ls.length + gs.length ≤ 7) :
    NmOk ((⟨ls.toArray⟩ : Str) ++ s1 x ++ (⟨gs.toArray⟩ : Str)) := by
  have e : ((⟨ls.toArray⟩ : Str) ++ s1 x ++ (⟨gs.toArray⟩ : Str)) = ⟨(ls ++ [x] ++ gs).toArray⟩ := by
    show (⟨ls.toArray ++ #[x] ++ gs.toArray⟩ : Str) = _
    simp
  rw [e]
  have el : (⟨(ls ++ [x] ++ gs).toArray⟩ : Str).length = ls.length + 1 + gs.length := by
    show (ls ++ [x] ++ gs).toArray.size = _
    simp
    omega
  refine ⟨by omega, by omega, fun y hy => ?_, fun y hy => ?_, fun hm => ?_⟩
  · have hy' : y ∈ ls ++ [x] ++ gs := by simpa using hy
    simp only [List.mem_append, List.mem_singleton] at hy'
    rcases hy' with (h | h) | h
    · exact .inl (hl y h)
    · omega
    · exact hg y h
  · have hy' : (ls ++ [x] ++ gs)[0]? = some y := by simpa using hy
    cases ls with
    | nil => have : x = y := Option.some.inj (by simpa using hy'); omega
    | cons u r => have : u = y := Option.some.inj (by simpa using hy'); have := hl u (by simp); omega
  · have := words_no _ hm x (by simp)
    omega
section
variable {w : World} {P : Program} {K : PySem.W.Frag} {mg : Str → Option Value} {base : Heap}
def spDeck (K : PySem.W.Frag) : Sp := fun vs H Q _ => ∃ (a : Addr) (ns : List Int), vs = [.ref a] ∧ SqL K H a (ns.map V.int) ∧ ns.length ≤ 63 ∧
  ∀ H' p c cs, Sx [] H H' → H p = none → H c = none → Dk H' p c cs 0 → Q (.ref p) H'
theorem ok_deck {f : Addr} {fd : FuncData} {k : Nat} (F : Fun K "_law_deck" "_law_deck" sDeck f fd) (ma : mg "abs" = none) : FnOk P w K mg base CX0 (k + 1) f fd ["_law_script"] (spDeck K) := by
  refine F.ok scDeck (fun vs H Q E h => ?_) (fun cdv A outer s H vs Q E hr h => ?_)
  · obtain ⟨a, ns, rfl, _⟩ := h
    rfl
  · rcases h with ⟨a, ns, rfl, hS, hlen, q⟩
    refine ⟨_, pss_one (ps_ret (pe_lst (pa_cons
      (pe_lc (own := [("_law_cell", 1)]) (g := gName 1) (tt := tYes) rfl scDeck.nd (pi_list (pe_slice sl_list (pv 0) po_none (po_some pe_int))) (blkOk_by (N := nDeck) (sc := defScope sDeck) (by decide +kernel))
        (fun _ _ _ _ _ => pg_name (i := 1) scDeck.nd rfl (Or.inl rfl)) (fun _ _ _ _ _ => pts_nil) (fun _ _ _ _ _ => pe_callB call_abs (by rfl) ma (by decide +kernel) (pa_cons (pv 1) pa_nil)))
      (pa_cons pe_int pa_nil)))), ?_⟩
    refine ⟨_, rfl, 63, rfl, a, ns.map V.int, rfl, hS, fun l hl => ?_⟩
    have cut : cutV (ns.map V.int) none (some 63) = ns.map V.int := by
      unfold cutV
      rw [HT.sIx_none, show HT.sIx (ns.map V.int).length (ns.map V.int).length (some 63) = min 63 (ns.map V.int).length from HT.sIx_nat _ _ 63, List.drop_zero, Nat.sub_zero, List.length_map, Nat.min_eq_right hlen]
      exact List.take_of_length_le (by rw [List.length_map]; exact Nat.le_refl _)
    rw [cut]
    have s1 : Sx [] H (upd H l (.lst (ns.map V.int))) := Sx.new (Sx.refl _) hl
    refine ⟨l, rfl, ⟨_, .inl (.inl upd_same)⟩, fun D hD => lc_list (xs := ns.map V.int)
      (fun i H' => Sx [] H H' ∧ H' l = some (.lst (ns.map V.int)) ∧ H' D = some (.lst ((ns.map fun x => V.int (if x < 0 then -x else x)).take i))) ⟨s1.new hD, ?_, upd_same⟩ (fun i H' _ p => .inl (.inl p.2.1)) (fun i x H' hx p => ?_) (fun H' p => ?_)⟩
    · have hlD : l ≠ D := fun e => by
        rw [← e, upd_same] at hD
        cases hD
      rw [upd_ne hlD, upd_same]
    · obtain ⟨p1, p2, p3⟩ := p
      rw [List.getElem?_map] at hx
      obtain ⟨y, hy, rfl⟩ := Option.map_eq_some_iff.mp hx
      refine ⟨rfl, ?_⟩
      refine ⟨.int y, rfl, y, rfl, _, p3, ?_, ?_, ?_, ?_⟩
      · rw [List.length_take, List.length_map]
        have : (63 : Nat) < sizeLine := by decide
        omega
      · exact p1.own (s1.free (by simp) hD)
      · have hlD : l ≠ D := fun e => by
          rw [← e, upd_same] at hD
          cases hD
        rw [upd_ne hlD]
        exact p2
      · rw [upd_same, List.take_add_one, List.getElem?_map, hy]
        rfl
    · obtain ⟨p1, p2, p3⟩ := p
      refine ⟨by (show 2 ≤ sizeLine); decide, fun p hp => ?_⟩
      have hDp : D ≠ p := ne_of_none p3 hp
      rw [List.length_map, List.take_of_length_le (by rw [List.length_map]; exact Nat.le_refl _)] at p3
      refine q _ p D (ns.map fun x => if x < 0 then -x else x) (p1.new hp) (p1.free (by simp) hp) (s1.free (by simp) hD) ⟨upd_same, ?_, ?_, by rw [List.length_map]; exact hlen, Int.le_refl _⟩
      · rw [upd_ne hDp, p3, List.map_map]
        rfl
      · intro x hx
        obtain ⟨y, _, rfl⟩ := List.mem_map.mp hx
        split <;> omega
def spDraw : Sp := fun vs H Q _ => ∃ (a c : Addr) (cs : List Int) (k m : Int), vs = [.ref a, .int m] ∧ Dk H a c cs k ∧ 0 < m ∧ m < 1073741824 ∧ k < KB ∧
  ∀ H' cs' r, Sx [a, c] H H' → Dk H' a c cs' (k + 1) → 0 ≤ r → r < m → Q (.int r) H'
theorem ok_draw {f : Addr} {fd : FuncData} {k : Nat} (F : Fun K "_law_draw" "_law_draw" sDraw f fd) (z_len : mg "len" = none) (z_int : mg "int" = none) : FnOk P w K mg base CX0 (k + 1) f fd ["_law_deck_here", "_law_many"] spDraw := by
  refine F.ok scDraw (fun vs H Q E h => ?_) (fun cdv A outer s H vs Q E hr h => ?_)
  · obtain ⟨a, c, cs, k, m, rfl, _⟩ := h
    rfl
  · obtain ⟨a, c, cs, k, m, rfl, D, hm0, hm1, hk, q⟩ := h
    refine ⟨_, (pss_cons (ps_asg (pe_op op_add (pe_ix ix_list (pv 0) pe_int (fun _ _ => rfl)) pe_int) (pg_sub (pv 0) pe_int set_list))
      (pss_cons (ps_asg (pe_tup (pa_cons pe_int (pa_cons (pe_un un_neg pe_int) pa_nil))) (pg_tup rfl (pgs_cons (pg_name (i := 2) scDraw.nd rfl (by first | exact Or.inl rfl | exact Or.inr rfl)) (pgs_cons (pg_name (i := 3) scDraw.nd rfl (by first | exact Or.inl rfl | exact Or.inr rfl)) pgs_nil))))
      (C8.pss_cut (ps_if (pt_cmpR op_gt (pe_callB call_len_seq (by rfl) z_len boot_len (pa_cons (pe_ix ix_list (pv 0) pe_int (fun _ _ => rfl)) pa_nil)) pe_int (nomark _)) (pss_cons (ps_set (i := 3) scDraw.nd rfl (by first | exact Or.inl rfl | exact Or.inr rfl) (pe_op op_mod (pe_callTy call_int1 (by rfl) z_int boot_int (pa_cons (pe_ix ix_list (pv 0) pe_int (fun _ _ => rfl)) pa_nil)) (pe_callB call_len_seq (by rfl) z_len boot_len (pa_cons (pe_ix ix_list (pv 0) pe_int (fun _ _ => rfl)) pa_nil))))
      (pss_one (ps_set (i := 2) scDraw.nd rfl (by first | exact Or.inl rfl | exact Or.inr rfl) (pe_ix ix_list (pe_ix ix_list (pv 0) pe_int (fun _ _ => rfl)) (pv 3) (fun _ _ => rfl))))) pss_nil)
      (pss_cons (ps_if (pt_cmpR op_ge (pv 2) (pe_op op_pow pe_int pe_int) (nomark _)) (pss_cons (ps_asg (pe_op op_fdiv (pe_callTy call_int1 (by rfl) z_int boot_int (pa_cons (pv 2) pa_nil)) (pv 1)) (pg_sub (pe_ix ix_list (pv 0) pe_int (fun _ _ => rfl)) (pv 3) set_list))
      (pss_one (ps_ret (pe_op op_mod (pe_callTy call_int1 (by rfl) z_int boot_int (pa_cons (pv 2) pa_nil)) (pv 1))))) pss_nil)
      (pss_cons (ps_set (i := 4) scDraw.nd rfl (by first | exact Or.inl rfl | exact Or.inr rfl) (pe_op op_add (pe_op op_add (pe_op op_mod (pe_callTy call_int1 (by rfl) z_int boot_int (pa_cons (pv 2) pa_nil)) pe_int) (pe_op op_mul pe_int (pe_ix ix_list (pv 0) pe_int (fun _ _ => rfl)))) pe_int))
      (pss_one (ps_ret (pe_op op_mod (pe_callTy call_int1 (by rfl) z_int boot_int (pa_cons (pe_op op_mod (pe_callTy call_int1 (by rfl) z_int boot_int (pa_cons (pe_op op_pow (pv 4) pe_int) pa_nil)) pe_int) pa_nil)) (pv 1))))))))), ?_⟩
    refine ⟨.ref a, rfl, a, _, 1, .int k, rfl, rfl, .inl (.inl D.ha), rfl, _, _, rfl, rfl, .ref a, rfl, a, _, 1, 1, rfl, rfl, D.ha, rfl, ?_⟩
    have na := D.ne
    have k0 := D.k0
    refine gh (H1 := upd _ a _) (F := fun H1 => Sx [a, c] H H1 ∧ Dk H1 a c cs (k + 1)) ⟨(Sx.refl H).put (by simp), upd_same, by rw [upd_ne na.symm]; exact D.hc, D.pos, D.len, by omega⟩ (fun H1 ⟨s1, D1⟩ => ?_)
    -- _law_cell, _law_at = 0, -1
    refine ⟨1, rfl, by show 2 ≤ sizeLine; decide, fun t ht => ⟨t, _, rfl, .inl (.inl upd_same), rfl, _, _, rfl, _, _, rfl, rfl, ?_⟩⟩
    refine gh (H1 := upd _ t _) (F := fun H2 => Sx [a, c] H H2 ∧ Dk H2 a c cs (k + 1)) ⟨s1.new ht, D1.same ((Sx.refl _).new ht)⟩ (fun H2 ⟨s2, D2⟩ => ?_)
    -- if len(..) > 0
    refine ⟨fun σ' H' => ∃ x at' : Int, σ' = [some (.ref a), some (.int m), some (.int x), some (.int at'), none] ∧ H' = H2 ∧ 0 ≤ x ∧ (1000000000000000000 ≤ x → ∃ j : Nat, at' = (j : Int) ∧ j < cs.length), ?_, ?_⟩
    · refine ⟨.ref a, rfl, a, _, 0, .ref c, rfl, rfl, .inl (.inl D2.ha), rfl, c, _, rfl, .inl (.inl (.inl D2.hc)), _, _, rfl, rfl, _, rfl, ite2 (fun e => ?_) (fun e => ?_)⟩
      · have e' : (0 : Int) < ((cs.map V.int).length : Int) := of_decide_eq_true e
        rw [List.length_map] at e'
        refine ⟨.ref a, rfl, a, _, 1, .int (k + 1), rfl, rfl, .inl (.inl D2.ha), rfl, .inl ⟨_, rfl, .ref a, rfl, a, _, 0, .ref c, rfl, rfl, .inl (.inl D2.ha), rfl, c, _, rfl, .inl (.inl (.inl D2.hc)), _, _, rfl, rfl, by rw [List.length_map]; exact e', ?_⟩⟩
        have b0 := Int.emod_nonneg (k + 1) (show ((cs.length : Nat) : Int) ≠ 0 by omega)
        have b1 := Int.emod_lt_of_pos (k + 1) e'
        obtain ⟨j, hj⟩ := Int.eq_ofNat_of_zero_le b0
        have hjl : j < cs.length := by omega
        have hj' : (k + 1) % (((cs.map V.int).length : Nat) : Int) = (j : Int) := by rw [List.length_map]; exact hj
        refine ⟨.ref a, rfl, a, _, 0, .ref c, rfl, rfl, .inl (.inl D2.ha), rfl, _, rfl, c, _, _, .int (cs[j]), rfl, rfl, .inl (.inl D2.hc), at_of hj' (by rw [List.getElem?_map, List.getElem?_eq_getElem hjl]; rfl), ?_⟩
        exact ⟨_, _, rfl, rfl, D2.pos _ (List.getElem_mem hjl), fun _ => ⟨j, hj', hjl⟩⟩
      · exact ⟨0, -1, rfl, rfl, Int.le_refl _, fun z => absurd z (by decide)⟩
    -- what follows
    · rintro _ _ ⟨x, at', rfl, rfl, hx, hat⟩
      refine ⟨_, rfl, 10, 18, rfl, rfl, ⟨by decide, by decide, by decide⟩, x, _, rfl, rfl, _, rfl, ite2 (fun e => ?_) (fun e => ?_)⟩
      · have e' : (1000000000000000000 : Int) ≤ x := of_decide_eq_true e
        obtain ⟨j, rfl, hj⟩ := hat e'
        refine ⟨_, rfl, .inl ⟨x, rfl, _, rfl, x, m, rfl, rfl, ⟨hm0, hm1⟩, .ref a, rfl, a, _, 0, .ref c, rfl, rfl, .inl (.inl D2.ha), rfl, _, rfl, c, _, _, j, rfl, rfl, D2.hc, ixN_of rfl (by rw [List.length_map]; exact hj), ?_⟩⟩
        refine ⟨_, rfl, .inl ⟨x, rfl, _, rfl, x, m, rfl, rfl, hm0, ?_⟩⟩
        refine q _ (cs.set j (x / m)) _ (s2.put (by simp)) ⟨by rw [upd_ne na]; exact D2.ha, by rw [upd_same, ← List.map_set], fun y hy => ?_, by rw [List.length_set]; exact D2.len, by omega⟩ (Int.emod_nonneg _ (by omega)) (Int.emod_lt_of_pos _ hm0)
        rcases List.mem_or_eq_of_mem_set hy with z | rfl
        · exact D2.pos y z
        · exact Int.ediv_nonneg hx (by omega)
      · refine ⟨_, rfl, .inl ⟨x, rfl, x, 2147483563, rfl, rfl, (by decide : (0 : Int) < 2147483563), .ref a, rfl, a, _, 1, .int (k + 1), rfl, rfl, .inl (.inl D2.ha), rfl, 8117, k + 1, rfl, rfl, .inl ⟨by decide, by decide⟩, _, _, rfl, rfl, _, 3, rfl, rfl, ?_⟩⟩
        have b0 := Int.emod_nonneg x (by decide : (2147483563 : Int) ≠ 0)
        have b1 := Int.emod_lt_of_pos x (by decide : (0 : Int) < 2147483563)
        refine ⟨_, rfl, _, 5, rfl, rfl, ⟨by decide, by decide, ?_⟩, .inl ⟨_, rfl, _, 2147483629, rfl, rfl, (by decide : (0 : Int) < 2147483629), .inl ⟨_, rfl, _, rfl, _, m, rfl, rfl, hm0, ?_⟩⟩⟩
        · have hk' : k < 1099511627776 := hk
          omega
        · exact q _ cs _ s2 D2 (Int.emod_nonneg _ (by omega)) (Int.emod_lt_of_pos _ hm0)
/-- one of a list's items, or one of a text's signs -/
def spOne (K : PySem.W.Frag) : Sp := fun vs H Q _ => ∃ (a c : Addr) (cs : List Int) (k : Int) (it : V), vs = [.ref a, it] ∧ Dk H a c cs k ∧ k < KB ∧
  ((∃ p xs, it = .ref p ∧ SqL K H p xs ∧ xs ≠ [] ∧ xs.length ≤ 100000 ∧ p ≠ a ∧ p ≠ c ∧ ∀ H' cs' x, Sx [a, c] H H' → Dk H' a c cs' (k + 1) → x ∈ xs → Q x H') ∨
    ∃ z : Str, it = .str z ∧ 0 < z.length ∧ z.length ≤ 100000 ∧ ∀ H' cs' x, Sx [a, c] H H' → Dk H' a c cs' (k + 1) → x ∈ z.cps.toList → Q (.str ⟨#[x]⟩) H')
theorem ok_one {f fD : Addr} {fd fdD : FuncData} {k : Nat} (F : Fun K "_law_one" "_law_one" sOne f fd) (F_draw : Fun K "_law_draw" "_law_draw" sDraw fD fdD) (G_draw : FnOk P w K mg base CX0 (k + 1) fD fdD ["_law_deck_here", "_law_many"] spDraw)
    (b_draw : Binds K fdD ["_law_deck_here", "_law_many"] []) (m_draw : mg "_law_draw" = some (.ref fD)) (z_len : mg "len" = none) : FnOk P w K mg base CX0 (k + 2) f fd ["_law_deck_here", "_law_items"] (spOne K) := by
  refine F.ok scOne (fun vs H Q E h => ?_) (fun cdv A outer s H vs Q E hr h => ?_)
  · obtain ⟨a, c, cs, k, it, rfl, _⟩ := h
    rfl
  · obtain ⟨a, c, cs, k, it, rfl, D, hk, q⟩ := h
    refine ⟨_, (pss_one (ps_ret (pe_ix (ix_or ix_list ix_str) (pv 1) (pe_call G_draw (hr.mono (by omega)) (by rfl) m_draw F_draw.kp b_draw .nil pass0 (pa_cons (pv 0) (pa_cons (pe_callB (cr_or call_len_seq call_len_str) (by rfl) z_len boot_len (pa_cons (pv 1) pa_nil)) pa_nil))) (fun _ _ => rfl)))), ?_⟩
    rcases q with ⟨p, xs, rfl, hp, hne, hlen, pa, pc, q⟩ | ⟨z, rfl, hz0, hz1, q⟩
    · refine ⟨_, rfl, _, rfl, _, rfl, .inl ⟨p, xs, rfl, .inl hp, a, c, cs, k, _, rfl, D, by have : 0 < xs.length := List.length_pos_iff.mpr hne; omega, by omega, hk, fun H' cs' r s1 D1 r0 r1 => ?_⟩⟩
      obtain ⟨j, rfl⟩ := Int.eq_ofNat_of_zero_le r0
      have hj : j < xs.length := by omega
      exact .inl ⟨p, xs, _, xs[j], rfl, rfl, s1.seqL (by simp [pa, pc]) hp, atI_nat (List.getElem?_eq_getElem hj), q H' cs' _ s1 D1 (List.getElem_mem hj)⟩
    · refine ⟨_, rfl, _, rfl, _, rfl, .inr ⟨z, rfl, le_line (by omega), a, c, cs, k, _, rfl, D, by omega, by omega, hk, fun H' cs' r s1 D1 r0 r1 => ?_⟩⟩
      obtain ⟨j, rfl⟩ := Int.eq_ofNat_of_zero_le r0
      have hj : j < z.cps.toList.length := by rw [Array.length_toList]; have : z.length = z.cps.size := rfl; omega
      exact .inr ⟨z, _, z.cps.toList[j], rfl, rfl, le_line (by omega), atI_nat (List.getElem?_eq_getElem hj), q H' cs' _ s1 D1 (List.getElem_mem hj)⟩
end
/-! ### defs called where no repr is under way -/
/-- a def's promise where nothing guards the stack -/
structure FnG (P : Program) (w : World) (K : PySem.W.Frag) (mg : Str → Option Value) (base : Heap) (k : Nat) (f : Addr) (fd : FuncData) (ps : List Str) (sp : Sp) : Prop where
  len : ∀ (as : List V) (H : Hp) (Q : VK) (E : XK), sp as H Q E → as.length = ps.length
  go : ∀ (A : Around) (callers : List Env) (s : Shared) (H : Hp) (ar : Args) (us : List Value) (vs : List V) (Q : VK), Room k A → A.guards = some [] → Env0 P w K mg base A callers s H → BindsTo s fd ar (ps.zip us) → Vals vs us → sp vs H Q E0 →
    codeAny (model P w) A (.call (.ref f) ar) (CR CX0 callers P w H s Q E0) s
theorem FnG.of {P : Program} {w : World} {K : PySem.W.Frag} {mg : Str → Option Value} {base : Heap} {k : Nat} {f : Addr} {fd : FuncData} {ps : List Str} {sp : Sp} (F : FnOk P w K mg base CX0 k f fd ps sp) : FnG P w K mg base k f fd ps sp :=
  ⟨F.len, fun A o s H ar us vs Q hr _ e b r h => F.run A o s H ar us vs Q E0 hr e b r h⟩
theorem FnG.up {P : Program} {w : World} {K : PySem.W.Frag} {mg : Str → Option Value} {base : Heap} {j k : Nat} {f : Addr} {fd : FuncData} {ps : List Str} {sp : Sp} (F : FnG P w K mg base j f fd ps sp) (h : j ≤ k) : FnG P w K mg base k f fd ps sp :=
  ⟨F.len, fun A o s H ar us vs Q hr => F.go A o s H ar us vs Q (hr.mono h)⟩
theorem Fun.okG {P : Program} {w : World} {K : PySem.W.Frag} {mg : Str → Option Value} {base : Heap} {x qual : Str} {st : Stmt} {f : Addr} {fd : FuncData} {N ps : List Str} {k : Nat} {sp : Sp} (F : Fun K x qual st f fd) (S : FnScope N ps (defScope st))
    (len : ∀ (as : List V) (H : Hp) (Q : VK) (E : XK), sp as H Q E → as.length = ps.length)
    (hbody : ∀ (cdv : Value) (A : Around) (outer : List Env) (s : Shared) (H : Hp) (vs : List V) (Q : VK) (E : XK), Room k (A.deeper (envOfC qual (defScope st) s.heap.objs.size f cdv)) → A.guards = some [] → sp vs H Q E →
      ∃ t, PSs (cxOf CX0 P w K mg base N qual (defScope st) f cdv A outer s H E).nox (defBody st) t ∧ t { nx := fun _ H' => Q .non H', rt := Q } (start N vs) H) : FnG P w K mg base (k + 1) f fd ps sp := by
  rcases F.ex with ⟨oc, od, kV, doc, pm, an, cdv, ct, osl, rfl, lk, hcd⟩
  refine ⟨len, fun A callers s H ar us vs Q hr hg e0 hb rv hsp => ?_⟩
  have inK : K.In s.heap := e0.mod.kin.keeps fun b o e => (e0.bs b o e).1
  have knd : ∀ y ∈ ps.zip us, (defScope st).names.lookup y.1 = some .local ∨ ((defScope st).names.lookup y.1 = some .cell ∧ ((cellsFrom (s.heap.objs.size + 1) (defScope st).names []).lookup y.1).isSome = true) := by
    rintro ⟨n, v⟩ hy
    exact (S.par n (List.of_mem_zip hy).1).imp id fun q => ⟨q, PySem.W.cellsFrom_some _ _ _ (.inl q)⟩
  refine codeAny_call_function hr.depth (inK _ _ lk) rfl S.co S.gen rfl (PySem.W.codeRec_of inK hcd) (hb _ _ _ _ (wpAny_newFunctionEnv_cells S.kind knd fun env he s1 x => ?_))
  subst he
  refine ⟨(e0.mod.nolimit.keeps fun b o e => (e0.bs b o e).1).keeps x.toInCall.keep, codeAny_func ?_⟩
  obtain ⟨t, ht, hq⟩ := hbody cdv A callers s H vs Q E0 (hr.deeper _) hg hsp
  have I0 := inv_start (CX := CX0) (E := E0) S hr.hd e0 (len _ _ _ _ hsp) rv x
  refine wpAny_mono (ht.nox.run [] s1 (start N vs) H _ I0 hq) (fun fl s' hs => ?_) fun e s' hs => hs
  cases fl with
  | ret u =>
    obtain ⟨v, σ', H', J, r1, q1⟩ := hs
    exact ⟨v, H', J.os, J.bare, J.base, J.hok, r1, q1⟩
  | next =>
    obtain ⟨σ', H', J, q1⟩ := hs
    exact ⟨.non, H', J.os, J.bare, J.base, J.hok, rfl, q1⟩
  | brk => exact absurd hs (by rintro ⟨_, _, _, q1⟩; exact q1)
  | cont => exact absurd hs (by rintro ⟨_, _, _, q1⟩; exact q1)
theorem pe_callG {X : Cx} {x : Str} {p pos : Pos} {e : Expr} {es : List Expr} {t : TA} {k : Nat} {f : Addr} {fd : FuncData} {ps : List Str} {sp : Sp} {ds : List Value} {dvs : List V} (F : FnG X.prog X.w X.K X.mg X.base k f fd ps sp) (hr : Room k X.A) (hgd : X.A.guards = some []) (hg : Gl X x) (hm : X.mg x = some (.ref f)) (hk : PySem.W.keepIn X.K (.ref f) = true)
    (hb : Binds X.K fd ps ds) (hd : Vals dvs ds) (ha : PA X (e :: es) t) (hdb : (x == ("__debug__" : Str)) = false := by decide) (he : starEach (e :: es) X.env = (false, eval e X.env) :: starEach es X.env := by rfl) (hpl : (backTo pos (starEach es X.env)).any (·.1) = false := by rfl) :
    PE X (Expr.Call (.Name x p) (e :: es) [] pos) (tCall sp dvs E0 t) := by
  refine ⟨fun pins s σ H Q I h => wpAny_Call_Name_kw (ld_glob I hg hm ?_ hdb)⟩
  refine PySem.W.callWith_K (h₀ := X.base) I.ok.mod.kin hk (thn (ha.run pos pins s σ H _ I h) fun us s1 ⟨vs, H1, I1, r, q⟩ => And.intro I1.kIn ?_) he hpl
  have rr : Vals (vs ++ dvs) (us ++ ds) := r.append hd
  have ll : (us ++ ds).length = ps.length := rr.length.symm.trans (F.len _ _ _ _ q)
  refine wpAny_call (codeAny_mono (F.go X.A X.stack s1 H1 ⟨us, []⟩ (us ++ ds) (vs ++ dvs) Q hr hgd I1.env0 (hb s1 us I1.kIn ll) rr q) fun rs s' hq => ?_)
  match rs, hq with
  | .ok (.ret u), hq => exact I1.after hq
/-! ### repr of data -/
/-- repr(x), x a list or a tuple of data -/
def rRepr (K : PySem.W.Frag) : List V → Hp → VK → Prop := fun xs H Q => ∃ x d, xs = [x] ∧ Dp K H x d ∧ d.showable = true ∧ d.hasDict = false ∧ d.depth ≤ 60 ∧ d.shown.length ≤ 16777216 ∧ (∀ z, d ≠ .str z) ∧ (∀ b, d ≠ .bool b) ∧ d ≠ .none ∧ Q (.str d.shown) H
theorem call_reprD {X : Cx} (hgd : X.A.guards = some []) (hu : X.A.units + 64 < cLine) : CallR X (.builtin "repr") (rRepr X.K) := by
  intro pins s σ H xs us Q I r h0; have h := h0
  obtain ⟨x, d, rfl, hd, hs, hnd, hdp, hz, n1, n2, n3, q⟩ := h
  rcases vals1 r with ⟨u, rfl, rx⟩
  have fin : ∀ {as : List Addr} {a : Addr}, Reads s.heap (.ref a) d as → wpAny (model X.prog X.w) X.A (call (.builtin "repr") [.ref a]) (EP X pins σ Q) X.xe s := fun {as a} rd =>
    repr_of_reads' rd hs (fun h => by rw [hnd] at h; cases h) hgd (by omega) (fun _ _ e => e) (fun h' u' tk hk => ⟨.str d.shown, H, I.kept hk, ⟨u', rfl⟩, q⟩) hz
  obtain ⟨as, rd⟩ := Dp.reads I d x u hd rx
  cases hd with
  | non => exact absurd rfl n3
  | bl b => exact absurd rfl (n2 b)
  | int i =>
    obtain ⟨t, rfl⟩ := rx
    have hi : i.natAbs.log2 < 1920 := by
      have : (PyData.int i).showable = true := hs
      simpa only [PyData.showable, decide_eq_true_eq] using this
    have e : (PyData.int i).shown = (toString i : String) := by simp only [PyData.shown]
    rw [e] at q
    exact PySem.P.repr_of_int hi ⟨.str _, H, I.tok _, ⟨_, rfl⟩, q⟩
  | str z => exact absurd rfl (n1 z)
  | lst hq ha => cases rx; exact fin rd
  | tup hq ha => cases rx; exact fin rd
/-! ### the law's end -/
/-- the script, as the heap tells it -/
theorem script_hp {P : Program} {w : World} {K : PySem.W.Frag} {s : Shared} {a : Addr} {vs : List Value} {ns : List Int} (KX : K.In s.heap) (ha : s.heap.get? a = some { cls := .type "list", data := .seq vs.toArray }) (hi : IntsAre vs ns) (hl : ns.length ≤ sizeLine) :
    ∃ H : Hp, Only H ∧ SqL K H a (ns.map V.int) ∧ HOk P w H s.heap ∧ (∀ b, H b ≠ none → b = a) ∧ (H a ≠ none → K.lookup a = none) := by
  have rv := vals_ints hi
  cases e : K.lookup a with
  | some o =>
    have h := KX a o e
    rw [ha] at h
    cases h
    refine ⟨fun _ => none, fun _ => .inl rfl, .inr ⟨_, vs.toArray, _, e, rfl, rfl, rfl, by rw [List.size_toArray, hi.length]; exact hl, by simpa using rv⟩, fun b u z => (by cases z), fun b z => absurd rfl z, fun z => absurd rfl z⟩
  | none =>
    have at_a : (fun b : Addr => if b = a then some (HO.frz { cls := .type "list", data := .seq vs.toArray } (.lst (ns.map V.int))) else none) a = some (HO.frz { cls := .type "list", data := .seq vs.toArray } (.lst (ns.map V.int))) := if_pos rfl
    refine ⟨fun b => if b = a then some (.frz { cls := .type "list", data := .seq vs.toArray } (.lst (ns.map V.int))) else none, fun b => ?_, .inl (.inr ⟨_, at_a⟩), fun b u z => ?_, fun b z => ?_, fun _ => rfl⟩
    · by_cases h : b = a
      · exact .inr ⟨_, _, if_pos h⟩
      · exact .inl (if_neg h)
    · by_cases h : b = a
      · have z2 := (if_pos h).symm.trans z
        cases z2
        subst h
        exact ⟨ha, by simpa using hl, vs, _, rv, ha⟩
      · have z2 := (if_neg h).symm.trans z
        cases z2
    · by_cases h : b = a
      · exact h
      · exact absurd (if_neg h) z
theorem law_callG {P : Program} {w : World} {K : PySem.W.Frag} {mg mb : Str → Option Value} {k : Nat} {fa a : Addr} {fd : FuncData} {x : Str} {sp : Sp} {s : Shared} {vs : List Value} {ns : List Int}
    (KX : K.In s.heap) (h1 : s.heap.Ns mainGlobals mg) (h2 : s.heap.Ns builtinsNs mb) (h3 : ∀ x : Str, x ≠ "__name__" → mb x = bootBuiltins x) (h4 : s.heap.NoLimit) (h5 : s.gens = #[])
    (ha : s.heap.get? a = some { cls := .type "list", data := .seq vs.toArray }) (hi : IntsAre vs ns) (hl : ns.length ≤ sizeLine) (hr : Room k callerA)
    (F : ∀ base : Heap, K.In base → base.Ns mainGlobals mg → FnG P w K mg base k fa fd [x] sp) (hb : ∀ (s : Shared) (u : Value), BindsTo s fd ⟨[u], []⟩ [(x, u)])
    (hsp : ∀ H : Hp, Only H → SqL K H a (ns.map V.int) → sp [.ref a] H (fun v _ => v = .bl true) E0) :
    codeAny (model P w) callerA (.call (.ref fa) ⟨[.ref a], []⟩) (fun r s' => r = .ok (.ret (.bool true)) ∧ OldK s.heap s'.heap ∧ s'.os = s.os ∧ AllBare s'.gens) s := by
  obtain ⟨H, hO, hS, hok, hA, hK⟩ := script_hp (P := P) (w := w) KX ha hi hl
  have only_a : ∀ {b : Addr} {u : HO}, H b = some u → b = a := fun e => hA _ (by rw [e]; simp)
  have unseen : ∀ {b : Addr} {o : Obj} {es : Array DictEntry} {ep : Nat}, s.heap.get? b = some o → o.data = .dict es ep → H b = none := fun {b o es ep} e d => by
    cases q : H b with
    | none => rfl
    | some u =>
      have z := only_a q
      subst z
      rw [ha] at e
      cases e
      cases d
  have ns_of : ∀ {b : Addr} {m : Str → Option Value}, s.heap.Ns b m → (hidT s.heap H).Ns b m := fun {b m} ⟨o, es, ep, e, d, r⟩ => ⟨o, es, ep, hidT_get e (unseen e d), d, r⟩
  have inB : K.In (hidT s.heap H) := fun b o e => hidT_get (KX b o e) (by
    cases q : H b with
    | none => rfl
    | some u =>
      have z := only_a q
      subst z
      rw [hK (by simp [q])] at e
      cases e)
  have md : Mod K mg (hidT s.heap H) := ⟨inB, ns_of h1, ⟨mb, ns_of h2, h3⟩, let ⟨mc, y1, y2⟩ := h4; ⟨mc, ns_of y1, y2⟩⟩
  have e0 : Env0 P w K mg (hidT s.heap H) callerA [] s H := ⟨rfl, md, fun b o e => of_hidT e, Nat.le_of_eq (hidT_size _ _), trivial, fun b hb => absurd (show b ∈ ([] : List Addr) from hb) (by simp), hok, .of_eq h5⟩
  refine codeAny_mono ((F _ inB (ns_of h1)).go callerA [] s H ⟨[.ref a], []⟩ [.ref a] [.ref a] _ hr rfl e0 (hb s (.ref a)) (.cons rfl .nil) (hsp H hO hS)) fun r s' h => ?_
  match r, h with
  | .ok (.ret u), h =>
    rcases h with ⟨v, H', os, bare, un, hok', r', q⟩
    have q' : v = .bl true := q
    subst q'
    have eu : u = Value.bool true := r'; subst eu
    refine ⟨rfl, .of_keep fun b o e => ?_, os, bare⟩
    cases q2 : H b with
    | none => exact un.keep b o e q2 (fun z => absurd (show b ∈ ([] : List Addr) from z) (by simp)) (by simp)
    | some u =>
      obtain z | ⟨ob, xs, z⟩ := hO b
      · rw [q2] at z; cases z
      · obtain ⟨e1, _⟩ := hok b _ z
        obtain ⟨e2, _⟩ := hok' b _ (un.frzs b ob _ z)
        rw [e] at e1
        cases e1
        exact e2
/-! ### programs, typed -/
inductive Ex where
  | int (i : Int)
  | name (z : Str)
  | plus (x y : Ex)
  | minus (x y : Ex)
  | times (f : Int) (x : Ex)
namespace Ex
def d : Ex → PyData
  | .int i => .int i
  | .name z => .str z
  | .plus x y => .tuple [.str "plus", x.d, y.d]
  | .minus x y => .tuple [.str "minus", x.d, y.d]
  | .times f x => .tuple [.str "times", .int f, x.d]
def ok (ns : List Str) : Ex → Nat → Prop
  | .int i, n => 1 ≤ n ∧ -99 ≤ i ∧ i ≤ 99
  | .name z, n => 1 ≤ n ∧ z ∈ ns
  | .plus x y, n => 1 ≤ n ∧ ok ns x (n - 1) ∧ ok ns y (n - 1)
  | .minus x y, n => 1 ≤ n ∧ ok ns x (n - 1) ∧ ok ns y (n - 1)
  | .times f x, n => 1 ≤ n ∧ -9 ≤ f ∧ f ≤ 9 ∧ ok ns x (n - 1)
def ev (ρ : Str → Int) : Ex → Int
  | .int i => i
  | .name z => ρ z
  | .plus x y => x.ev ρ + y.ev ρ
  | .minus x y => x.ev ρ - y.ev ρ
  | .times f x => f * x.ev ρ
theorem of {ns : List Str} {n : Nat} {e : PyData} (h : ExD ns n e) : ∃ x : Ex, x.d = e ∧ x.ok ns n := by
  induction h with
  | int i a b => exact ⟨.int i, rfl, by omega, a, b⟩
  | name z a => exact ⟨.name z, rfl, by omega, a⟩
  | plus _ _ a b => obtain ⟨x, rfl, hx⟩ := a; obtain ⟨y, rfl, hy⟩ := b; exact ⟨.plus x y, rfl, by omega, hx, hy⟩
  | minus _ _ a b => obtain ⟨x, rfl, hx⟩ := a; obtain ⟨y, rfl, hy⟩ := b; exact ⟨.minus x y, rfl, by omega, hx, hy⟩
  | times f a b _ c => obtain ⟨x, rfl, hx⟩ := c; exact ⟨.times f x, rfl, by omega, a, b, hx⟩
/-- no name has a value above B, so no expression has one above 9 ^ n times that -/
theorem ev_le {ns : List Str} {ρ : Str → Int} {B : Int} (hB : 99 ≤ B) (h : ∀ z, -B ≤ ρ z ∧ ρ z ≤ B) : ∀ (x : Ex) (n : Nat), x.ok ns n → -((9 : Int) ^ n * B) ≤ x.ev ρ * 9 ∧ x.ev ρ * 9 ≤ (9 : Int) ^ n * B
  | .int i, n, ⟨h1, h2, h3⟩ => by
    obtain ⟨m, rfl⟩ : ∃ m : Nat, n = m + 1 := ⟨n - 1, by omega⟩
    have p : (1 : Int) ≤ 9 ^ m := Int.pow_pos (by decide)
    have q : B ≤ 9 ^ m * B := by have := Int.mul_le_mul_of_nonneg_right p (show 0 ≤ B by omega); omega
    have e : (9 : Int) ^ (m + 1) * B = 9 * (9 ^ m * B) := by rw [Int.pow_succ, Int.mul_comm (9 ^ m) 9, Int.mul_assoc]
    rw [e]
    show -_ ≤ i * 9 ∧ i * 9 ≤ _
    omega
  | .name z, n, ⟨h1, h2⟩ => by
    obtain ⟨m, rfl⟩ : ∃ m : Nat, n = m + 1 := ⟨n - 1, by omega⟩
    have p : (1 : Int) ≤ 9 ^ m := Int.pow_pos (by decide)
    have q : B ≤ 9 ^ m * B := by have := Int.mul_le_mul_of_nonneg_right p (show 0 ≤ B by omega); omega
    have e : (9 : Int) ^ (m + 1) * B = 9 * (9 ^ m * B) := by rw [Int.pow_succ, Int.mul_comm (9 ^ m) 9, Int.mul_assoc]
    rw [e]
    have := h z
    show -_ ≤ ρ z * 9 ∧ ρ z * 9 ≤ _
    omega
  | .plus x y, n, ⟨h1, h2, h3⟩ => by
    obtain ⟨m, rfl⟩ : ∃ m : Nat, n = m + 1 := ⟨n - 1, by omega⟩
    have a := ev_le hB h x m h2
    have b := ev_le hB h y m h3
    have e : (9 : Int) ^ (m + 1) * B = 9 * (9 ^ m * B) := by rw [Int.pow_succ, Int.mul_comm (9 ^ m) 9, Int.mul_assoc]
    rw [e]
    show -_ ≤ (x.ev ρ + y.ev ρ) * 9 ∧ (x.ev ρ + y.ev ρ) * 9 ≤ _
    omega
  | .minus x y, n, ⟨h1, h2, h3⟩ => by
    obtain ⟨m, rfl⟩ : ∃ m : Nat, n = m + 1 := ⟨n - 1, by omega⟩
    have a := ev_le hB h x m h2
    have b := ev_le hB h y m h3
    have e : (9 : Int) ^ (m + 1) * B = 9 * (9 ^ m * B) := by rw [Int.pow_succ, Int.mul_comm (9 ^ m) 9, Int.mul_assoc]
    rw [e]
    show -_ ≤ (x.ev ρ - y.ev ρ) * 9 ∧ (x.ev ρ - y.ev ρ) * 9 ≤ _
    omega
  | .times f x, n, ⟨h1, h2, h3, h4⟩ => by
    obtain ⟨m, rfl⟩ : ∃ m : Nat, n = m + 1 := ⟨n - 1, by omega⟩
    have a := ev_le hB h x m h4
    have e : (9 : Int) ^ (m + 1) * B = 9 * (9 ^ m * B) := by rw [Int.pow_succ, Int.mul_comm (9 ^ m) 9, Int.mul_assoc]
    rw [e]
    show -_ ≤ f * x.ev ρ * 9 ∧ f * x.ev ρ * 9 ≤ _
    have c : ∀ v C : Int, -C ≤ v * 9 → v * 9 ≤ C → -(9 * C) ≤ f * v * 9 ∧ f * v * 9 ≤ 9 * C := fun v C u1 u2 => by
      rcases (show f = -9 ∨ f = -8 ∨ f = -7 ∨ f = -6 ∨ f = -5 ∨ f = -4 ∨ f = -3 ∨ f = -2 ∨ f = -1 ∨ f = 0 ∨ f = 1 ∨ f = 2 ∨ f = 3 ∨ f = 4 ∨ f = 5 ∨ f = 6 ∨ f = 7 ∨ f = 8 ∨ f = 9 by omega) with
        rfl | rfl | rfl | rfl | rfl | rfl | rfl | rfl | rfl | rfl | rfl | rfl | rfl | rfl | rfl | rfl | rfl | rfl | rfl <;> omega
    exact c _ _ a.1 a.2
end Ex
inductive Ts where
  | rest (x : Ex) (b r : Int)
  | less (x y : Ex)
  | not (t : Ts)
namespace Ts
def d : Ts → PyData
  | .rest x b r => .tuple [.str "rest", x.d, .int b, .int r]
  | .less x y => .tuple [.str "less", x.d, y.d]
  | .not t => .tuple [.str "not", t.d]
def ok (ns : List Str) : Ts → Nat → Prop
  | .rest x b r, _ => x.ok ns 3 ∧ 2 ≤ b ∧ b ≤ 6 ∧ 0 ≤ r ∧ r < b
  | .less x y, _ => x.ok ns 3 ∧ y.ok ns 3
  | .not t, n => 1 ≤ n ∧ ok ns t (n - 1)
def ev (ρ : Str → Int) : Ts → Bool
  | .rest x b r => decide ((x.ev ρ - r) % b = 0)
  | .less x y => decide (x.ev ρ < y.ev ρ)
  | .not t => !t.ev ρ
/-- of a rest -/
def isR : Ts → Bool
  | .rest _ _ _ => true
  | .less _ _ => false
  | .not t => t.isR
theorem of {ns : List Str} {n : Nat} {b : Bool} {e : PyData} (h : TsD ns n b e) : ∃ x : Ts, x.d = e ∧ x.ok ns n ∧ x.isR = b := by
  induction h with
  | rest b r a h1 h2 h3 h4 => obtain ⟨x, rfl, hx⟩ := Ex.of a; exact ⟨.rest x b r, rfl, ⟨hx, h1, h2, h3, h4⟩, rfl⟩
  | less a b => obtain ⟨x, rfl, hx⟩ := Ex.of a; obtain ⟨y, rfl, hy⟩ := Ex.of b; exact ⟨.less x y, rfl, ⟨hx, hy⟩, rfl⟩
  | not _ ih => obtain ⟨x, rfl, hx, hr⟩ := ih; exact ⟨.not x, rfl, ⟨by omega, hx⟩, hr⟩
end Ts
mutual
inductive St where
  | set (z : Str) (e : Ex)
  | pay (e : Ex)
  | stop
  | ite (t : Ts) (y n : Bk)
  | rep (k : Int) (y : Bk)
inductive Bk where
  | nil
  | cons (s : St) (b : Bk)
end
mutual
def St.d : St → PyData
  | .set z e => .tuple [.str "set", .str z, e.d]
  | .pay e => .tuple [.str "pay", e.d]
  | .stop => .tuple [.str "stop"]
  | .ite t y n => .tuple [.str "if", t.d, .tuple y.ds, .tuple n.ds]
  | .rep k y => .tuple [.str "repeat", .int k, .tuple y.ds]
def Bk.ds : Bk → List PyData
  | .nil => []
  | .cons s b => s.d :: b.ds
end
mutual
def St.ok (ns : List Str) : St → Nat → Prop
  | .set z e, _ => z ∈ ns ∧ e.ok ns 3
  | .pay e, _ => e.ok ns 3
  | .stop, _ => True
  | .ite t y n, d => t.ok ns 2 ∧ Bk.ok ns y d ∧ Bk.ok ns n d
  | .rep k y, d => 1 ≤ k ∧ k ≤ 8 ∧ Bk.ok ns y d
def Bk.ok (ns : List Str) : Bk → Nat → Prop
  | .nil, _ => True
  | .cons s b, d => 1 ≤ d ∧ St.ok ns s (d - 1) ∧ Bk.ok ns b d
end
mutual
/-- places -/
def St.sz : St → Nat
  | .set _ _ => 1
  | .pay _ => 1
  | .stop => 1
  | .ite _ y n => 1 + y.sz + n.sz
  | .rep _ y => 1 + y.sz
def Bk.sz : Bk → Nat
  | .nil => 0
  | .cons s b => s.sz + b.sz
end
mutual
def St.wt : St → Nat
  | .set _ _ => 1
  | .pay _ => 1
  | .stop => 1
  | .ite _ y n => 1 + y.wt + n.wt
  | .rep k y => 1 + k.toNat * y.wt
def Bk.wt : Bk → Nat
  | .nil => 0
  | .cons s b => s.wt + b.wt
end
mutual
/-- rests (true), comparings (false) -/
def St.tn (q : Bool) : St → Nat
  | .set _ _ => 0
  | .pay _ => 0
  | .stop => 0
  | .ite t y n => (if t.isR = q then 1 else 0) + y.tn q + n.tn q
  | .rep k y => k.toNat * y.tn q
def Bk.tn (q : Bool) : Bk → Nat
  | .nil => 0
  | .cons s b => s.tn q + b.tn q
end
mutual
theorem St.of {ns : List Str} : ∀ {d : Nat} {n w r c : Int} {e : PyData}, StD ns d n w r c e → ∃ s : St, s.d = e ∧ s.ok ns d ∧ (s.sz : Int) = n ∧ (s.wt : Int) = w ∧ (s.tn true : Int) = r ∧ (s.tn false : Int) = c
  | _, _, _, _, _, _, .set z hz hx => by
    obtain ⟨x, rfl, h⟩ := Ex.of hx
    exact ⟨.set z x, rfl, ⟨hz, h⟩, rfl, rfl, rfl, rfl⟩
  | _, _, _, _, _, _, .pay hx => by
    obtain ⟨x, rfl, h⟩ := Ex.of hx
    exact ⟨.pay x, rfl, h, rfl, rfl, rfl, rfl⟩
  | _, _, _, _, _, _, .stop => ⟨.stop, rfl, trivial, rfl, rfl, rfl, rfl⟩
  | _, _, _, _, _, _, .ite (b := b) ht hy hz => by
    obtain ⟨t, rfl, h, hb⟩ := Ts.of ht
    obtain ⟨y, hyd, y1, y2, y3, y4, y5⟩ := Bk.of hy
    obtain ⟨z, hzd, z1, z2, z3, z4, z5⟩ := Bk.of hz
    refine ⟨.ite t y z, by rw [St.d, hyd, hzd], ⟨h, y1, z1⟩, ?_, ?_, ?_, ?_⟩
    · simp only [St.sz]; omega
    · simp only [St.wt]; omega
    · simp only [St.tn, hb]; cases b <;> simp [bI] <;> omega
    · simp only [St.tn, hb]; cases b <;> simp [bI] <;> omega
  | _, _, _, _, _, _, .rep k h1 h2 hy => by
    obtain ⟨y, hyd, y1, y2, y3, y4, y5⟩ := Bk.of hy
    refine ⟨.rep k y, by rw [St.d, hyd], ⟨h1, h2, y1⟩, ?_, ?_, ?_, ?_⟩
    · simp only [St.sz]; omega
    · simp only [St.wt]; rw [← y3, Int.natCast_add, Int.natCast_mul, Int.toNat_of_nonneg (by omega)]; rfl
    · simp only [St.tn]; rw [← y4, Int.natCast_mul, Int.toNat_of_nonneg (by omega)]
    · simp only [St.tn]; rw [← y5, Int.natCast_mul, Int.toNat_of_nonneg (by omega)]
theorem Bk.of {ns : List Str} : ∀ {d : Nat} {n w r c : Int} {es : List PyData}, BkD ns d n w r c es → ∃ b : Bk, b.ds = es ∧ b.ok ns d ∧ (b.sz : Int) = n ∧ (b.wt : Int) = w ∧ (b.tn true : Int) = r ∧ (b.tn false : Int) = c
  | _, _, _, _, _, _, .nil => ⟨.nil, rfl, trivial, rfl, rfl, rfl, rfl⟩
  | _, _, _, _, _, _, .cons h hs => by
    obtain ⟨s, hsd, s1, s2, s3, s4, s5⟩ := St.of h
    obtain ⟨b, hbd, b1, b2, b3, b4, b5⟩ := Bk.of hs
    refine ⟨.cons s b, by rw [Bk.ds, hsd, hbd], ⟨by omega, s1, b1⟩, ?_, ?_, ?_, ?_⟩
    · simp only [Bk.sz]; omega
    · simp only [Bk.wt]; omega
    · simp only [Bk.tn]; omega
    · simp only [Bk.tn]; omega
end
/-! ### runs -/
structure Wd where
  en : Str → Int
  tot : Int
  pl : List Int
/-- so often, until it stops -/
def itr (f : Wd → Wd × Bool) : Nat → Wd → Wd × Bool
  | 0, w => (w, false)
  | n + 1, w => if (f w).2 = true then f w else itr f n (f w).1
mutual
def St.run : St → Int → Wd → Wd × Bool
  | .set z e, p, w => (⟨fun y => if y = z then e.ev w.en else w.en y, w.tot, w.pl ++ [p]⟩, false)
  | .pay e, p, w => (⟨w.en, w.tot + e.ev w.en, w.pl ++ [p]⟩, false)
  | .stop, p, w => (⟨w.en, w.tot, w.pl ++ [p]⟩, true)
  | .ite t y n, p, w => if t.ev w.en = true then y.run (p + 1) ⟨w.en, w.tot, w.pl ++ [p]⟩ else n.run (p + 1 + y.sz) ⟨w.en, w.tot, w.pl ++ [p]⟩
  | .rep k y, p, w => itr (y.run (p + 1)) k.toNat ⟨w.en, w.tot, w.pl ++ [p]⟩
def Bk.run : Bk → Int → Wd → Wd × Bool
  | .nil, _, w => (w, false)
  | .cons s b, p, w => if (s.run p w).2 = true then s.run p w else b.run (p + s.sz) (s.run p w).1
end

/-- the names' values, in a dict -/
def En (H : Hp) (N : Addr) (ρ : Str → Int) : Prop := ∃ kvs : List (Key × V), H N = some (.dK kvs) ∧ ∀ z, (valV kvs (.inr z)).getD (.int 0) = .int (ρ z)
def spValue (ns : List Str) (d : Nat) : Sp := fun vs H Q _ => ∃ (v : V) (N : Addr) (e : Ex) (ρ : Str → Int), vs = [v, .ref N] ∧ Tp H v e.d ∧ e.ok ns d ∧ En H N ρ ∧ Q (.int (e.ev ρ)) H
theorem tp3 {H : Hp} {v : V} {x y z : PyData} (h : Tp H v (.tuple [x, y, z])) : ∃ a p q r, v = .ref a ∧ H a = some (.tup [p, q, r]) ∧ Tp H p x ∧ Tp H q y ∧ Tp H r z := by
  obtain ⟨a, xs, rfl, ha, hx⟩ := h.tuple
  cases hx with | cons h1 hx => cases hx with | cons h2 hx => cases hx with | cons h3 hx => cases hx with | nil => exact ⟨a, _, _, _, rfl, ha, h1, h2, h3⟩
theorem tp2 {H : Hp} {v : V} {x y : PyData} (h : Tp H v (.tuple [x, y])) : ∃ a p q, v = .ref a ∧ H a = some (.tup [p, q]) ∧ Tp H p x ∧ Tp H q y := by
  obtain ⟨a, xs, rfl, ha, hx⟩ := h.tuple
  cases hx with | cons h1 hx => cases hx with | cons h2 hx => cases hx with | nil => exact ⟨a, _, _, rfl, ha, h1, h2⟩
theorem tp1 {H : Hp} {v : V} {x : PyData} (h : Tp H v (.tuple [x])) : ∃ a p, v = .ref a ∧ H a = some (.tup [p]) ∧ Tp H p x := by
  obtain ⟨a, xs, rfl, ha, hx⟩ := h.tuple
  cases hx with | cons h1 hx => cases hx with | nil => exact ⟨a, _, rfl, ha, h1⟩
theorem tp4 {H : Hp} {v : V} {x y z u : PyData} (h : Tp H v (.tuple [x, y, z, u])) : ∃ a p q r s, v = .ref a ∧ H a = some (.tup [p, q, r, s]) ∧ Tp H p x ∧ Tp H q y ∧ Tp H r z ∧ Tp H s u := by
  obtain ⟨a, xs, rfl, ha, hx⟩ := h.tuple
  cases hx with | cons h1 hx => cases hx with | cons h2 hx => cases hx with | cons h3 hx => cases hx with | cons h4 hx => cases hx with | nil => exact ⟨a, _, _, _, _, rfl, ha, h1, h2, h3, h4⟩
theorem tpI {H : Hp} {v : V} {i : Int} (h : Tp H v (.int i)) : v = .int i := by cases h; rfl
theorem tpS {H : Hp} {v : V} {z : Str} (h : Tp H v (.str z)) : v = .str z := by cases h; rfl
theorem iteP {c A B : Prop} [Decidable c] (hc : c) (h : A) : if c then A else B := by rw [if_pos hc]; exact h
theorem iteN {c A B : Prop} [Decidable c] (hc : ¬ c) (h : B) : if c then A else B := by rw [if_neg hc]; exact h
section
variable {w : World} {P : Program} {K : PySem.W.Frag} {mg : Str → Option Value} {base : Heap}
end
def spTrue (ns : List Str) (n : Nat) : Sp := fun vs H Q _ => ∃ (v : V) (N : Addr) (t : Ts) (ρ : Str → Int), vs = [v, .ref N] ∧ Tp H v t.d ∧ 1 ≤ n ∧ t.ok ns (n - 1) ∧ En H N ρ ∧ Q (.bl (t.ev ρ)) H
section
variable {w : World} {P : Program} {K : PySem.W.Frag} {mg : Str → Option Value} {base : Heap}
end
abbrev sParts : Stmt := topS 39
abbrev nParts : List Str := ["_law_row"]
theorem scParts : FnScope nParts ["_law_row"] (defScope sParts) := ⟨rfl, rfl, rfl, by decide +kernel, rfl, by decide +kernel, by decide +kernel⟩
/-- the scope of the comprehension that a def returns within a call -/
def cScopeOf (st : Stmt) : Scope := match defBody st with
  | [.Return (some (.Call _ [.ListComp _ _ sc _] _ _)) _] => sc
  | _ => defScope st
def St.parts : St → List PyData
  | .ite _ y n => [.tuple y.ds, .tuple n.ds]
  | .rep _ y => [.tuple y.ds]
  | _ => []
def St.blks : St → List Bk
  | .ite _ y n => [y, n]
  | .rep _ y => [y]
  | _ => []
theorem St.parts_blks (s : St) : s.parts = s.blks.map fun b => .tuple b.ds := by cases s <;> rfl
def spParts : Sp := fun vs H Q _ => ∃ (v : V) (s : St), vs = [v] ∧ Tp H v s.d ∧ ∀ H' v', Sx [] H H' → Tp H' v' (.tuple s.parts) → Q v' H'
def Bk.lst : Bk → List St
  | .nil => []
  | .cons s b => s :: b.lst
theorem Bk.ds_lst : ∀ b : Bk, b.ds = b.lst.map St.d
  | .nil => rfl
  | .cons s b => by rw [Bk.ds, Bk.lst, List.map_cons, Bk.ds_lst b]
theorem Bk.sz_lst : ∀ b : Bk, b.sz = (b.lst.map St.sz).sum
  | .nil => rfl
  | .cons s b => by rw [Bk.sz, Bk.lst, List.map_cons, List.sum_cons, Bk.sz_lst b]
theorem St.sz_blks (s : St) : s.sz = 1 + (s.blks.map Bk.sz).sum := by
  cases s <;> simp [St.sz, St.blks] <;> omega
/-- blocks lie at most so deep -/
theorem Bk.ok_mem {ns : List Str} {d : Nat} : ∀ {b : Bk} {s : St}, b.ok ns d → s ∈ b.lst → 1 ≤ d ∧ s.ok ns (d - 1)
  | .cons s b, t, h, hm => by
    rcases List.mem_cons.1 hm with rfl | hm
    · exact ⟨h.1, h.2.1⟩
    · exact Bk.ok_mem (b := b) h.2.2 hm
theorem St.ok_mem {ns : List Str} {d : Nat} {s : St} {b : Bk} (h : s.ok ns d) (hm : b ∈ s.blks) : b.ok ns d := by
  cases s with
  | ite t y n =>
    simp only [St.blks, List.mem_cons, List.not_mem_nil, or_false] at hm
    rcases hm with rfl | rfl
    · exact h.2.1
    · exact h.2.2
  | rep k y =>
    simp only [St.blks, List.mem_cons, List.not_mem_nil, or_false] at hm
    subst hm
    exact h.2.2
  | _ => simp [St.blks] at hm
theorem pi_tupK {X : Cx} {K : PySem.W.Frag} {l tg : Expr} {tl : TE} (h : X.K = K) (hl : PE X l tl) : PI X tg l (iTup K tl) := h ▸ pi_tup hl
theorem cr_sumK {X : Cx} {K : PySem.W.Frag} (h : X.K = K) (hc : X.calm = true) : CallR X (.builtin "sum") (rSum K) := h ▸ cr_sum hc
theorem sum_mem {l : List Nat} {x : Nat} (h : x ∈ l) : x ≤ l.sum := by
  induction l with
  | nil => cases h
  | cons y l ih =>
    rw [List.sum_cons]
    rcases List.mem_cons.1 h with rfl | h
    · omega
    · have := ih h; omega
theorem cast_sum (l : List Nat) : ((l.sum : Nat) : Int) = (l.map fun x : Nat => (x : Int)).sum := by
  induction l with
  | nil => rfl
  | cons y l ih => rw [List.sum_cons, List.map_cons, List.sum_cons, Int.natCast_add, ih]
section
variable {w : World} {P : Program} {K : PySem.W.Frag} {mg : Str → Option Value} {base : Heap}
theorem ok_parts {f : Addr} {fd : FuncData} {k : Nat} (F_parts : Fun K "_law_parts" "_law_parts" sParts f fd) : FnOk P w K mg base CX0 (k + 1) f fd ["_law_row"] spParts := by
  refine F_parts.ok scParts (fun vs H Q E h => ?_) (fun cdv A outer s H vs Q E hr h => ?_)
  · obtain ⟨_, _, rfl, _⟩ := h
    rfl
  · obtain ⟨v, s, rfl, t, q⟩ := h
    refine ⟨_, (pss_one (ps_ret (pe_ifExp (pt_cmpR op_in_seq (pe_ix ix_tup (pv 0) pe_int (fun _ _ => rfl)) (pe_tup (pa_cons pe_str (pa_cons pe_str pa_nil))) (by with_unfolding_all rfl)) (pe_slice sl_tup (pv 0) (po_some pe_int) po_none) (pe_tup pa_nil)))), ?_⟩
    have tup : Sx [] H H := Sx.refl _
    cases s with
    | set z e =>
      obtain ⟨a, p, u, y, rfl, ha, t1, _, _⟩ := tp3 t
      obtain rfl := tpS t1
      refine ⟨_, rfl, a, _, _, _, rfl, rfl, SqT.of ha, rfl, by show 2 ≤ sizeLine; decide, fun p hp => ⟨p, _, rfl, .inr (SqT.of upd_same), rfl, rfl, _, rfl, iteN (by decide +kernel) ⟨by show 0 ≤ sizeLine; decide, fun p' hp' => ?_⟩⟩⟩
      exact q _ _ ((tup.new hp).new hp') (.tup upd_same .nil)
    | pay e =>
      obtain ⟨a, p, u, rfl, ha, t1, _⟩ := tp2 t
      obtain rfl := tpS t1
      refine ⟨_, rfl, a, _, _, _, rfl, rfl, SqT.of ha, rfl, by show 2 ≤ sizeLine; decide, fun p hp => ⟨p, _, rfl, .inr (SqT.of upd_same), rfl, rfl, _, rfl, iteN (by decide +kernel) ⟨by show 0 ≤ sizeLine; decide, fun p' hp' => ?_⟩⟩⟩
      exact q _ _ ((tup.new hp).new hp') (.tup upd_same .nil)
    | stop =>
      obtain ⟨a, p, rfl, ha, t1⟩ := tp1 t
      obtain rfl := tpS t1
      refine ⟨_, rfl, a, _, _, _, rfl, rfl, SqT.of ha, rfl, by show 2 ≤ sizeLine; decide, fun p hp => ⟨p, _, rfl, .inr (SqT.of upd_same), rfl, rfl, _, rfl, iteN (by decide +kernel) ⟨by show 0 ≤ sizeLine; decide, fun p' hp' => ?_⟩⟩⟩
      exact q _ _ ((tup.new hp).new hp') (.tup upd_same .nil)
    | ite ts y n =>
      obtain ⟨a, p, u, y', n', rfl, ha, t1, _, t3, t4⟩ := tp4 t
      obtain rfl := tpS t1
      refine ⟨_, rfl, a, _, _, _, rfl, rfl, SqT.of ha, rfl, by show 2 ≤ sizeLine; decide, fun p hp => ⟨p, _, rfl, .inr (SqT.of upd_same), rfl, rfl, _, rfl, iteP (by decide +kernel) ?_⟩⟩
      have ha' := (tup.new (o := .tup [.str "if", .str "repeat"]) hp) a _ (by simp) ha
      refine ⟨_, rfl, 2, rfl, a, _, rfl, SqT.of ha', fun z => absurd z.1 (by show ¬ (2 : Nat) = 0; decide), fun p' hp' => ?_⟩
      exact q _ _ ((tup.new hp).new hp') (.tup (xs := [y', n']) upd_same (.cons ((t3.new hp).new hp') (.cons ((t4.new hp).new hp') .nil)))
    | rep k y =>
      obtain ⟨a, p, u, y', rfl, ha, t1, _, t3⟩ := tp3 t
      obtain rfl := tpS t1
      refine ⟨_, rfl, a, _, _, _, rfl, rfl, SqT.of ha, rfl, by show 2 ≤ sizeLine; decide, fun p hp => ⟨p, _, rfl, .inr (SqT.of upd_same), rfl, rfl, _, rfl, iteP (by decide +kernel) ?_⟩⟩
      have ha' := (tup.new (o := .tup [.str "if", .str "repeat"]) hp) a _ (by simp) ha
      refine ⟨_, rfl, 2, rfl, a, _, rfl, SqT.of ha', fun z => absurd z.1 (by show ¬ (2 : Nat) = 0; decide), fun p' hp' => ?_⟩
      exact q _ _ ((tup.new hp).new hp') (.tup (xs := [y']) upd_same (.cons ((t3.new hp).new hp') .nil))
/-- so deep lie the blocks of a block -/
def spSize (d : Nat) : Sp := fun vs H Q _ => ∃ (v : V) (b : Bk) (ns : List Str), vs = [v] ∧ Tp H v (.tuple b.ds) ∧ b.ok ns (d - 1) ∧ 1 ≤ d ∧ b.sz < 16777216 ∧ ∀ H', Sx [] H H' → Q (.int b.sz) H'
theorem TpAll.lst {H : Hp} {α : Type} (g : α → PyData) : ∀ {xs : List V} {as : List α}, TpAll H xs (as.map g) → xs.length = as.length ∧ ∀ (i : Nat) (x : V), xs[i]? = some x → ∃ a, as[i]? = some a ∧ Tp H x (g a)
  | [], [], .nil => ⟨rfl, fun _ _ h => by simp at h⟩
  | x :: xs, a :: as, .cons h hs => by
    have r := TpAll.lst g (as := as) hs
    refine ⟨by rw [List.length_cons, List.length_cons, r.1], fun i y hy => ?_⟩
    cases i with
    | zero => exact ⟨a, rfl, by cases hy; exact h⟩
    | succ i => exact r.2 i y hy
end

/-- the world's dict -/
def wk (N : Addr) (t : Int) (L : Addr) : List (Key × V) := [(.inr "names", .ref N), (.inr "total", .int t), (.inr "places", .ref L)]
theorem k_nt : ¬ ((.inr "names" : Key) = .inr "total") := by decide +kernel
theorem k_np : ¬ ((.inr "names" : Key) = .inr "places") := by decide +kernel
theorem k_tp : ¬ ((.inr "total" : Key) = .inr "places") := by decide +kernel
theorem k_pt : ¬ ((.inr "places" : Key) = .inr "total") := by decide +kernel
theorem wk_n (N : Addr) (t : Int) (L : Addr) : valV (wk N t L) (.inr "names") = some (.ref N) := by
  simp [valV, wk]
theorem wk_t (N : Addr) (t : Int) (L : Addr) : valV (wk N t L) (.inr "total") = some (.int t) := by
  unfold valV wk
  rw [List.find?_cons_of_neg (by simpa using k_nt), List.find?_cons_of_pos (by simp)]
  rfl
theorem wk_p (N : Addr) (t : Int) (L : Addr) : valV (wk N t L) (.inr "places") = some (.ref L) := by
  unfold valV wk
  rw [List.find?_cons_of_neg (by simpa using k_np), List.find?_cons_of_neg (by simpa using k_tp), List.find?_cons_of_pos (by simp)]
  rfl
theorem wk_put (N : Addr) (t t' : Int) (L : Addr) : putK (wk N t L) (.inr "total") (.int t') = wk N t' L := by
  have h : ((wk N t L).any fun kv => decide (kv.1 = .inr "total")) = true := by simp [wk]
  rw [putK, if_pos h]
  simp only [wk, List.map_cons, List.map_nil]
  rw [if_neg k_nt, if_pos trivial, if_neg k_pt]
/-- the world at W: the names' dict at N, the places at L; c more names fit in -/
structure Wr (H : Hp) (W N L : Addr) (w : Wd) (c : Nat) : Prop where
  hw : H W = some (.dK (wk N w.tot L))
  hn : ∃ kvs : List (Key × V), H N = some (.dK kvs) ∧ kvs.length + c ≤ w.pl.length + 1 ∧ ∀ z, (valV kvs (.inr z)).getD (.int 0) = .int (w.en z)
  hl : H L = some (.lst (w.pl.map V.int))
  ne : W ≠ N
namespace Wr
variable {H H' : Hp} {W N L p : Addr} {w : Wd} {c : Nat} {o : HO}
theorem wl (R : Wr H W N L w c) : W ≠ L := fun e => by
  have h := R.hw
  rw [e, R.hl] at h
  cases h
theorem nl (R : Wr H W N L w c) : N ≠ L := fun e => by
  obtain ⟨kvs, h, _⟩ := R.hn
  rw [e, R.hl] at h
  cases h
theorem en (R : Wr H W N L w c) : En H N w.en := by
  obtain ⟨kvs, h1, _, h2⟩ := R.hn
  exact ⟨kvs, h1, h2⟩
theorem sx (R : Wr H W N L w c) (s : Sx [] H H') : Wr H' W N L w c := by
  obtain ⟨kvs, h1, h2, h3⟩ := R.hn
  exact ⟨s _ _ (by simp) R.hw, ⟨kvs, s _ _ (by simp) h1, h2, h3⟩, s _ _ (by simp) R.hl, R.ne⟩
theorem less (R : Wr H W N L w (c + 1)) : Wr H W N L w c := by
  obtain ⟨kvs, h1, h2, h3⟩ := R.hn
  exact ⟨R.hw, ⟨kvs, h1, by omega, h3⟩, R.hl, R.ne⟩
theorem nw (R : Wr H W N L w c) (h : H p = none) : p ∉ [W, N, L] := by
  obtain ⟨kvs, h1, _, _⟩ := R.hn
  intro hm
  simp only [List.not_mem_nil, List.mem_cons, or_false] at hm
  rcases hm with rfl | rfl | rfl
  · rw [R.hw] at h; cases h
  · rw [h1] at h; cases h
  · rw [R.hl] at h; cases h
theorem nt {xs : List V} (R : Wr H W N L w c) (h : H p = some (.tup xs)) : p ∉ [W, N, L] := by
  obtain ⟨kvs, h1, _, _⟩ := R.hn
  intro hm
  simp only [List.not_mem_nil, List.mem_cons, or_false] at hm
  rcases hm with rfl | rfl | rfl
  · rw [R.hw] at h; cases h
  · rw [h1] at h; cases h
  · rw [R.hl] at h; cases h
theorem place (R : Wr H W N L w 0) (i : Int) : Wr (upd H L (.lst (w.pl.map V.int ++ [.int i]))) W N L ⟨w.en, w.tot, w.pl ++ [i]⟩ 1 := by
  obtain ⟨kvs, h1, h2, h3⟩ := R.hn
  refine ⟨by rw [upd_ne R.wl]; exact R.hw, ⟨kvs, by rw [upd_ne R.nl]; exact h1, ?_, h3⟩, by rw [upd_same, List.map_append]; rfl, R.ne⟩
  show kvs.length + 1 ≤ (w.pl ++ [i]).length + 1
  rw [List.length_append]
  have : [i].length = 1 := rfl
  omega
theorem pay (R : Wr H W N L w c) (t : Int) : Wr (upd H W (.dK (wk N t L))) W N L ⟨w.en, t, w.pl⟩ c := by
  obtain ⟨kvs, h1, h2, h3⟩ := R.hn
  exact ⟨upd_same, ⟨kvs, by rw [upd_ne R.ne.symm]; exact h1, h2, h3⟩, by rw [upd_ne R.wl.symm]; exact R.hl, R.ne⟩
theorem set {kvs : List (Key × V)} (R : Wr H W N L w 1) (h : H N = some (.dK kvs)) (z : Str) (v : Int) : kvs.length < w.pl.length + 1 ∧ Wr (upd H N (.dK (putK kvs (.inr z) (.int v)))) W N L ⟨fun y => if y = z then v else w.en y, w.tot, w.pl⟩ 0 := by
  obtain ⟨kvs', h1, h2, h3⟩ := R.hn
  rw [h1] at h
  cases h
  refine ⟨by omega, by rw [upd_ne R.ne]; exact R.hw, ⟨_, upd_same, ?_, fun y => ?_⟩, by rw [upd_ne R.nl.symm]; exact R.hl, R.ne⟩
  · have : (putK kvs (.inr z) (.int v)).length ≤ kvs.length + 1 := by
      unfold putK
      split
      · rw [List.length_map]; omega
      · rw [List.length_append]; exact Nat.le_refl _
    show (putK kvs (.inr z) (.int v)).length + 0 ≤ w.pl.length + 1
    omega
  · rw [valV_put]
    by_cases e : y = z
    · rw [if_pos (by rw [e]), e]
      show V.int v = V.int (if z = z then v else w.en z)
      rw [if_pos rfl]
    · rw [if_neg (fun q => e (Sum.inr.inj q)), h3 y]
      show V.int (w.en y) = V.int (if y = z then v else w.en y)
      rw [if_neg e]
theorem gN (R : Wr H W N L w c) : DGet H W (.str "names") (some (.ref N)) := wk_n N w.tot L ▸ DGet.k (k := .inr "names") R.hw
theorem gT (R : Wr H W N L w c) : DGet H W (.str "total") (some (.int w.tot)) := wk_t N w.tot L ▸ DGet.k (k := .inr "total") R.hw
theorem gP (R : Wr H W N L w c) : DGet H W (.str "places") (some (.ref L)) := wk_p N w.tot L ▸ DGet.k (k := .inr "places") R.hw
theorem pT (R : Wr H W N L w c) (t : Int) : DPut H W (.str "total") (.int t) (upd H W (.dK (wk N t L))) := wk_put N w.tot t L ▸ DPut.k (k := .inr "total") R.hw (by show (3 : Nat) < sizeLine; decide)
theorem tk (R : Wr H W N L w c) (s : Sx [W, N, L] H H') : Tk H H' := fun b xs e => s b _ (R.nt e) e
end Wr
theorem itr_len {f : Wd → Wd × Bool} {c : Nat} (hf : ∀ w, (f w).1.pl.length ≤ w.pl.length + c) : ∀ (n : Nat) (w : Wd), (itr f n w).1.pl.length ≤ w.pl.length + n * c
  | 0, w => by show w.pl.length ≤ _; omega
  | n + 1, w => by
    unfold itr
    have h1 := hf w
    have h2 := itr_len hf n (f w).1
    have e : (n + 1) * c = n * c + c := Nat.succ_mul n c
    split
    · omega
    · omega
mutual
theorem St.run_len : ∀ (s : St) (p : Int) (w : Wd), (s.run p w).1.pl.length ≤ w.pl.length + s.wt
  | .set z e, p, w => by simp [St.run, St.wt]
  | .pay e, p, w => by simp [St.run, St.wt]
  | .stop, p, w => by simp [St.run, St.wt]
  | .ite t y n, p, w => by
    have h1 := Bk.run_len y (p + 1) ⟨w.en, w.tot, w.pl ++ [p]⟩
    have h2 := Bk.run_len n (p + 1 + y.sz) ⟨w.en, w.tot, w.pl ++ [p]⟩
    simp only [List.length_append, List.length_cons, List.length_nil] at h1 h2
    simp only [St.run, St.wt]
    split <;> omega
  | .rep k y, p, w => by
    have h1 := itr_len (Bk.run_len y (p + 1)) k.toNat ⟨w.en, w.tot, w.pl ++ [p]⟩
    simp only [List.length_append, List.length_cons, List.length_nil] at h1
    simp only [St.run, St.wt]
    omega
theorem Bk.run_len : ∀ (b : Bk) (p : Int) (w : Wd), (b.run p w).1.pl.length ≤ w.pl.length + b.wt
  | .nil, p, w => by simp [Bk.run, Bk.wt]
  | .cons s b, p, w => by
    have h1 := St.run_len s p w
    have h2 := Bk.run_len b (p + s.sz) (s.run p w).1
    simp only [Bk.run, Bk.wt]
    split <;> omega
end
theorem itr_one (f : Wd → Wd × Bool) (w : Wd) : itr f 1 w = f w := by
  show (if (f w).2 = true then f w else ((f w).1, false)) = f w
  by_cases h : (f w).2 = true
  · rw [if_pos h]
  · rw [if_neg h]
    have : (f w).2 = false := by simpa using h
    rw [← this]
theorem flat_rep (n : Nat) (x : V) : (List.replicate n [x]).flatten = List.replicate n x := by
  induction n with
  | zero => rfl
  | succ n ih => rw [List.replicate_succ, List.flatten_cons, ih, List.replicate_succ]; rfl
/-- a statement's word -/
def St.hd : St → Str
  | .set _ _ => "set"
  | .pay _ => "pay"
  | .stop => "stop"
  | .ite _ _ _ => "if"
  | .rep _ _ => "repeat"
theorem St.at_ {H : Hp} {x : V} {s : St} (t : Tp H x s.d) : ∃ a xs, x = .ref a ∧ H a = some (.tup (.str s.hd :: xs)) := by
  have h : ∃ ds, s.d = .tuple (.str s.hd :: ds) := by cases s <;> exact ⟨_, rfl⟩
  obtain ⟨ds, e⟩ := h
  rw [e] at t
  obtain ⟨a, xs, rfl, ha, hx⟩ := t.tuple
  cases hx with
  | cons h hs =>
    obtain rfl := tpS h
    exact ⟨a, _, rfl, ha⟩
theorem at0 (v : V) (xs : List V) : atI (v :: xs) 0 = some v := atI_nat (j := 0) rfl
theorem Sx.n0 {H : Hp} {p : Addr} {o : HO} (h : H p = none) : Sx [] H (upd H p o) := (Sx.refl _).new h
def spGo (ns : List Str) (d : Nat) : Sp := fun vs H Q _ => ∃ (W N L : Addr) (v : V) (b : Bk) (p : Int) (w : Wd), vs = [.ref W, v, .int p] ∧ Tp H v (.tuple b.ds) ∧ 1 ≤ d ∧ b.ok ns (d - 1) ∧ Wr H W N L w 0 ∧ b.sz < 16777216 ∧ w.pl.length + b.wt ≤ 1000000 ∧
  ∀ H', Sx [W, N, L] H H' → Wr H' W N L (b.run p w).1 0 → Q (.bl (b.run p w).2) H'

def spNumber : Sp := fun vs H Q _ => ∃ (a c : Addr) (cs : List Int) (k : Int), vs = [.ref a] ∧ Dk H a c cs k ∧ k + 4 ≤ KB ∧
  ∀ H' cs' k' i, Sx [a, c] H H' → Dk H' a c cs' k' → k ≤ k' → k' ≤ k + 4 → -1000000000000000000000000000000000000000000000000000000000000 ≤ i → i ≤ 1000000000000000000000000000000000000000000000000000000000000 → Q (.int i) H'
/-- where a run begins -/
def Wd.at (x : Int) : Wd := ⟨fun y => if y = "n" then x else 0, 0, []⟩
/-- what a run tells -/
def Bk.told (b : Bk) (x : Int) : PyData := .tuple [.int (b.run 0 (Wd.at x)).1.tot, .tuple ((b.run 0 (Wd.at x)).1.pl.map .int)]
def spRun (ns : List Str) : Sp := fun vs H Q _ => ∃ (v : V) (b : Bk) (x : Int), vs = [v, .int x] ∧ Tp H v (.tuple b.ds) ∧ b.ok ns 4 ∧ b.sz < 16777216 ∧ b.wt ≤ 1000000 ∧ ∀ H' r, Sx [] H H' → Tp H' r (b.told x) → Q r H'
def sgn (t : Int) : Int := if t < 0 then -1 else if 0 < t then 1 else 0
def spSign : Sp := fun vs H Q _ => ∃ t : Int, vs = [.int t] ∧ Q (.int (sgn t)) H
theorem putK_new {kvs : List (Key × V)} {k : Key} {v : V} (h : ∀ kv ∈ kvs, ¬ kv.1 = k) : putK kvs k v = kvs ++ [(k, v)] := by
  rw [putK, if_neg]
  intro z
  rw [List.any_eq_true] at z
  obtain ⟨kv, hm, hd⟩ := z
  exact h kv hm (of_decide_eq_true hd)
theorem wk_made (N L : Addr) : mergeK [] [((.inr "names" : Key), V.ref N), (.inr "total", .int 0), (.inr "places", .ref L)] = wk N 0 L := by
  show putK (putK (putK [] (.inr "names" : Key) (V.ref N)) (.inr "total" : Key) (.int 0)) (.inr "places" : Key) (.ref L) = _
  rw [putK_new (kvs := []) (fun kv h => by cases h), putK_new (kvs := [] ++ _) (fun kv h => by rw [List.mem_singleton.mp h]; exact k_nt), putK_new (fun kv h => ?_)]
  · rfl
  · simp only [List.nil_append, List.cons_append, List.mem_cons, List.not_mem_nil, or_false] at h
    rcases h with rfl | rfl
    · exact k_np
    · exact k_tp
theorem Dk.none_ne {H : Hp} {a p : Addr} {o : HO} (h : H a = some o) (n : H p = none) : p ≠ a := fun e => by rw [e, h] at n; cases n
theorem TpAll.ints {H : Hp} : ∀ l : List Int, TpAll H (l.map V.int) (l.map PyData.int)
  | [] => .nil
  | i :: l => .cons (.int i) (TpAll.ints l)
section
variable {w : World} {P : Program} {K : PySem.W.Frag} {mg : Str → Option Value} {base : Heap}
end
/-! ### data that repr shows -/
structure Shw (k n : Nat) (d : PyData) : Prop where
  s : d.showable = true
  h : d.hasDict = false
  l : d.leavesShort 1921 = true
  dp : d.depth ≤ k
  w : d.weight ≤ n
structure ShwA (k n : Nat) (ds : List PyData) : Prop where
  s : PyData.showableAll ds = true
  h : PyData.hasDictAll ds = false
  l : PyData.leavesShortAll 1921 ds = true
  dp : PyData.depthAll ds ≤ k
  w : PyData.weightAll ds ≤ n
namespace Shw
theorem mono {k n k' n' : Nat} {d : PyData} (h : Shw k n d) (hk : k ≤ k') (hn : n ≤ n') : Shw k' n' d := ⟨h.s, h.h, h.l, Nat.le_trans h.dp hk, Nat.le_trans h.w hn⟩
theorem int {i : Int} {n : Nat} (h : i.natAbs < 2 ^ n) (h0 : 0 < n) (hn : n ≤ 1920) (k : Nat) : Shw k n (.int i) := by
  have l := PySem.Flt.log2_lt_of h0 h
  have l' : i.natAbs.log2 < 1920 := by omega
  refine ⟨by simp only [PyData.showable, decide_eq_true_eq]; exact l', by simp only [PyData.hasDict], ?_, by simp only [PyData.depth]; omega, ?_⟩
  · simp only [PyData.leavesShort, decide_eq_true_eq, PyData.shown]
    exact decide_eq_true (int_text_len_1921 l')
  · simp only [PyData.weight]
    split <;> omega
theorem str {z : Str} (h : PyData.strOk z = true) (k n : Nat) (hn : z.length ≤ n) : Shw k n (.str z) := by
  refine ⟨by simp only [PyData.showable], by simp only [PyData.hasDict], ?_, by simp only [PyData.depth]; omega, by simp only [PyData.weight]; exact hn⟩
  simp only [PyData.leavesShort]
  rw [List.all_eq_true]
  intro c hc
  unfold PyData.strOk at h
  rw [Array.all_eq_true'] at h
  have := of_decide_eq_true (h c (Array.mem_toList_iff.mp hc))
  have e : (16 : Nat) ^ 8 = 4294967296 := rfl
  refine decide_eq_true ?_; omega
theorem tup {k n : Nat} {ds : List PyData} (h : ShwA k n ds) : Shw (k + 1) n (.tuple ds) :=
  ⟨by simp only [PyData.showable]; exact h.s, by simp only [PyData.hasDict]; exact h.h, by simp only [PyData.leavesShort]; exact h.l, by simp only [PyData.depth]; have := h.dp; omega, by simp only [PyData.weight]; exact h.w⟩
theorem lst {k n : Nat} {ds : List PyData} (h : ShwA k n ds) : Shw (k + 1) n (.list ds) :=
  ⟨by simp only [PyData.showable]; exact h.s, by simp only [PyData.hasDict]; exact h.h, by simp only [PyData.leavesShort]; exact h.l, by simp only [PyData.depth]; have := h.dp; omega, by simp only [PyData.weight]; exact h.w⟩
/-- what repr asks -/
theorem len {k n : Nat} {d : PyData} (h : Shw k n d) (hn : n ≤ 8000) : d.shown.length ≤ 16777216 := by
  have := PyData.shown_le 1921 (by decide) d h.l
  have := h.w
  omega
end Shw
namespace ShwA
theorem nil (k n : Nat) : ShwA k n [] := ⟨by simp only [PyData.showableAll], by simp only [PyData.hasDictAll], by simp only [PyData.leavesShortAll], by simp only [PyData.depthAll]; omega, by simp only [PyData.weightAll]; omega⟩
theorem cons {k n m : Nat} {d : PyData} {ds : List PyData} (h : Shw k n d) (hs : ShwA k m ds) : ShwA k (n + 1 + m) (d :: ds) := by
  refine ⟨?_, ?_, ?_, ?_, ?_⟩
  · simp only [PyData.showableAll, h.s, hs.s, Bool.and_self]
  · simp only [PyData.hasDictAll, h.h, hs.h, Bool.or_self]
  · simp only [PyData.leavesShortAll, h.l, hs.l, Bool.and_self]
  · simp only [PyData.depthAll]; have := h.dp; have := hs.dp; omega
  · simp only [PyData.weightAll]; have := h.w; have := hs.w; omega
theorem mono {k n k' n' : Nat} {d : List PyData} (h : ShwA k n d) (hk : k ≤ k') (hn : n ≤ n') : ShwA k' n' d := ⟨h.s, h.h, h.l, Nat.le_trans h.dp hk, Nat.le_trans h.w hn⟩
theorem allInt {l : List Int} {n : Nat} (h0 : 0 < n) (hn : n ≤ 1920) (h : ∀ i ∈ l, i.natAbs < 2 ^ n) (k : Nat) : ShwA k ((n + 1) * l.length) (l.map PyData.int) := by
  induction l with
  | nil => exact .nil _ _
  | cons i l ih =>
    refine (ShwA.cons (Shw.int (h i (by simp)) h0 hn k) (ih fun j hj => h j (List.mem_cons_of_mem _ hj))).mono (Nat.le_refl _) ?_
    rw [List.length_cons, Nat.mul_succ]
    omega
end ShwA
theorem sm {i : Int} (h1 : -120 ≤ i) (h2 : i ≤ 120) (k : Nat) : Shw k 7 (.int i) := by
  have e : (2 : Nat) ^ 7 = 128 := by decide
  exact Shw.int (by omega) (by decide) (by decide) k
def wE : Nat → Nat
  | 0 => 0
  | n + 1 => 2 * wE n + 16
theorem Ex.shw {ns : List Str} (hn : ∀ z ∈ ns, NmOk z) : ∀ (e : Ex) (n : Nat), e.ok ns n → Shw n (wE n) e.d
  | .int i, n, ⟨h1, h2, h3⟩ => by
    obtain ⟨m, rfl⟩ : ∃ m : Nat, n = m + 1 := ⟨n - 1, by omega⟩
    exact (sm (by omega) (by omega) _).mono (Nat.le_refl _) (by simp only [wE]; omega)
  | .name z, n, ⟨h1, h2⟩ => by
    obtain ⟨m, rfl⟩ : ∃ m : Nat, n = m + 1 := ⟨n - 1, by omega⟩
    exact Shw.str (hn z h2).ok _ _ (by have := (hn z h2).hi; simp only [wE]; omega)
  | .plus x y, n, ⟨h1, h2, h3⟩ => by
    obtain ⟨m, rfl⟩ : ∃ m : Nat, n = m + 1 := ⟨n - 1, by omega⟩
    exact (Shw.tup (.cons (Shw.str (n := 4) (by decide +kernel) m (by decide)) (.cons (Ex.shw hn x m h2) (.cons (Ex.shw hn y m h3) (.nil m 0))))).mono (Nat.le_refl _) (by simp only [wE]; omega)
  | .minus x y, n, ⟨h1, h2, h3⟩ => by
    obtain ⟨m, rfl⟩ : ∃ m : Nat, n = m + 1 := ⟨n - 1, by omega⟩
    exact (Shw.tup (.cons (Shw.str (n := 5) (by decide +kernel) m (by decide)) (.cons (Ex.shw hn x m h2) (.cons (Ex.shw hn y m h3) (.nil m 0))))).mono (Nat.le_refl _) (by simp only [wE]; omega)
  | .times f x, n, ⟨h1, h2, h3, h4⟩ => by
    obtain ⟨m, rfl⟩ : ∃ m : Nat, n = m + 1 := ⟨n - 1, by omega⟩
    exact (Shw.tup (.cons (Shw.str (n := 5) (by decide +kernel) m (by decide)) (.cons (sm (by omega) (by omega) m) (.cons (Ex.shw hn x m h4) (.nil m 0))))).mono (Nat.le_refl _) (by simp only [wE]; omega)
theorem Ts.shw {ns : List Str} (hn : ∀ z ∈ ns, NmOk z) : ∀ (t : Ts) (n : Nat), t.ok ns n → Shw (n + 4) (5 * n + 240) t.d
  | .rest x b r, n, ⟨h1, h2, h3, h4, h5⟩ => (Shw.tup (.cons (Shw.str (n := 4) (by decide +kernel) 3 (by decide)) (.cons (Ex.shw hn x 3 h1) (.cons (sm (by omega) (by omega) 3) (.cons (sm (by omega) (by omega) 3) (.nil 3 0)))))).mono (by omega) (by simp only [wE]; omega)
  | .less x y, n, ⟨h1, h2⟩ => (Shw.tup (.cons (Shw.str (n := 4) (by decide +kernel) 3 (by decide)) (.cons (Ex.shw hn x 3 h1) (.cons (Ex.shw hn y 3 h2) (.nil 3 0))))).mono (by omega) (by simp only [wE]; omega)
  | .not t, n, ⟨h1, h2⟩ => by
    obtain ⟨m, rfl⟩ : ∃ m : Nat, n = m + 1 := ⟨n - 1, by omega⟩
    exact (Shw.tup (.cons (Shw.str (n := 3) (by decide +kernel) _ (by decide)) (.cons (Ts.shw hn t m h2) (.nil _ 0)))).mono (by omega) (by omega)
mutual
theorem St.shw {ns : List Str} (hn : ∀ z ∈ ns, NmOk z) : ∀ (s : St) (d : Nat), s.ok ns d → Shw (2 * d + 9) (300 * s.sz - 1) s.d
  | .set z e, d, ⟨h1, h2⟩ => (Shw.tup (.cons (Shw.str (n := 3) (by decide +kernel) 3 (by decide)) (.cons (Shw.str (n := 8) (hn z h1).ok 3 (hn z h1).hi) (.cons (Ex.shw hn e 3 h2) (.nil 3 0))))).mono (by omega) (by simp only [wE, St.sz]; omega)
  | .pay e, d, h => (Shw.tup (.cons (Shw.str (n := 3) (by decide +kernel) 3 (by decide)) (.cons (Ex.shw hn e 3 h) (.nil 3 0)))).mono (by omega) (by simp only [wE, St.sz]; omega)
  | .stop, d, h => (Shw.tup (.cons (Shw.str (n := 4) (by decide +kernel) 3 (by decide)) (.nil 3 0))).mono (by omega) (by simp only [St.sz]; omega)
  | .ite t y n, d, ⟨h1, h2, h3⟩ => (Shw.tup (.cons (Shw.str (n := 2) (by decide +kernel) (2 * d + 8) (by decide)) (.cons ((Ts.shw hn t 2 h1).mono (by omega) (Nat.le_refl _)) (.cons ((Shw.tup (Bk.shw hn y d h2)).mono (by omega) (Nat.le_refl _)) (.cons ((Shw.tup (Bk.shw hn n d h3)).mono (by omega) (Nat.le_refl _)) (.nil _ 0)))))).mono (by omega) (by simp only [St.sz]; omega)
  | .rep k y, d, ⟨h1, h2, h3⟩ => (Shw.tup (.cons (Shw.str (n := 6) (by decide +kernel) (2 * d + 8) (by decide)) (.cons (sm (by omega) (by omega) _) (.cons ((Shw.tup (Bk.shw hn y d h3)).mono (by omega) (Nat.le_refl _)) (.nil _ 0))))).mono (by omega) (by simp only [St.sz]; omega)
theorem Bk.shw {ns : List Str} (hn : ∀ z ∈ ns, NmOk z) : ∀ (b : Bk) (d : Nat), b.ok ns d → ShwA (2 * d + 7) (300 * b.sz) b.ds
  | .nil, d, _ => .nil _ _
  | .cons s b, d, ⟨h1, h2, h3⟩ => by
    have p : 1 ≤ s.sz := by rw [s.sz_blks]; omega
    exact (ShwA.cons ((St.shw hn s (d - 1) h2).mono (by omega) (Nat.le_refl _)) (Bk.shw hn b d h3)).mono (Nat.le_refl _) (by simp only [Bk.sz]; omega)
end
/-! ### how far a run gets -/
structure Bd (B : Int) (w : Wd) : Prop where
  h : 99 ≤ B
  en : ∀ z, -B ≤ w.en z ∧ w.en z ≤ B
  t1 : -B ≤ w.tot
  t2 : w.tot ≤ B
theorem Bd.mono {B C : Int} {w : Wd} (h : Bd B w) (l : B ≤ C) : Bd C w := ⟨Int.le_trans h.h l, fun z => by have := h.en z; omega, by have := h.t1; omega, by have := h.t2; omega⟩
theorem Bd.pl {B : Int} {e : Str → Int} {t : Int} {l l' : List Int} (h : Bd B ⟨e, t, l⟩) : Bd B ⟨e, t, l'⟩ := ⟨h.h, h.en, h.t1, h.t2⟩
theorem p128 (n : Nat) : (1 : Int) ≤ 128 ^ n := Int.pow_pos (by decide)
theorem p128_le {B : Int} (h : 0 ≤ B) {m n : Nat} (l : m ≤ n) : (128 : Int) ^ m * B ≤ 128 ^ n * B := by
  refine Int.mul_le_mul_of_nonneg_right ?_ h
  obtain ⟨k, rfl⟩ : ∃ k, n = m + k := ⟨n - m, by omega⟩
  rw [Int.pow_add]
  have a := p128 m
  have b := p128 k
  have := Int.mul_le_mul_of_nonneg_left b (show (0 : Int) ≤ 128 ^ m by omega)
  omega
theorem Bd.up {B : Int} {w : Wd} {m n : Nat} (h : Bd (128 ^ m * B) w) (hB : 0 ≤ B) (l : m ≤ n) : Bd (128 ^ n * B) w := h.mono (p128_le hB l)
theorem ev81 {ns : List Str} {ρ : Str → Int} {B : Int} (hB : 99 ≤ B) (h : ∀ z, -B ≤ ρ z ∧ ρ z ≤ B) {e : Ex} (ho : e.ok ns 3) : -(81 * B) ≤ e.ev ρ ∧ e.ev ρ ≤ 81 * B := by
  have := Ex.ev_le hB h e 3 ho
  have e9 : (9 : Int) ^ 3 = 729 := by decide
  rw [e9] at this
  omega
theorem itr_bd {f : Wd → Wd × Bool} {c : Nat} (hf : ∀ w B, Bd B w → Bd (128 ^ c * B) (f w).1) : ∀ (n : Nat) (w : Wd) (B : Int), Bd B w → Bd (128 ^ (n * c) * B) (itr f n w).1
  | 0, w, B, h => by
    rw [Nat.zero_mul, Int.pow_zero, Int.one_mul]
    exact h
  | n + 1, w, B, h => by
    have h1 := hf w B h
    have h2 := itr_bd hf n (f w).1 _ h1
    have hB : 0 ≤ B := by have := h.h; omega
    rw [← Int.mul_assoc, ← Int.pow_add, ← Nat.succ_mul] at h2
    unfold itr
    split
    · exact h1.up hB (by rw [Nat.succ_mul]; omega)
    · exact h2
mutual
theorem St.run_bd {ns : List Str} : ∀ (s : St) (d : Nat) (p : Int) (w : Wd) (B : Int), s.ok ns d → Bd B w → Bd (128 ^ s.wt * B) (s.run p w).1
  | .set z e, d, p, w, B, ⟨h1, h2⟩, h => by
    have v := ev81 h.h h.en h2
    have hB := h.h
    rw [show St.wt (.set z e) = 1 from rfl, Int.pow_one]
    refine ⟨by omega, fun y => ?_, by have := h.t1; show -(128 * B) ≤ w.tot; omega, by have := h.t2; show w.tot ≤ 128 * B; omega⟩
    show -(128 * B) ≤ (if y = z then e.ev w.en else w.en y) ∧ (if y = z then e.ev w.en else w.en y) ≤ 128 * B
    have := h.en y
    split <;> omega
  | .pay e, d, p, w, B, h2, h => by
    have v := ev81 h.h h.en h2
    have hB := h.h
    rw [show St.wt (.pay e) = 1 from rfl, Int.pow_one]
    refine ⟨by omega, fun y => by have := h.en y; show -(128 * B) ≤ w.en y ∧ w.en y ≤ 128 * B; omega, ?_, ?_⟩
    · have := h.t1; show -(128 * B) ≤ w.tot + e.ev w.en; omega
    · have := h.t2; show w.tot + e.ev w.en ≤ 128 * B; omega
  | .stop, d, p, w, B, _, h => by
    have hB := h.h
    rw [show St.wt .stop = 1 from rfl, Int.pow_one]
    exact (Bd.pl h : Bd B ⟨w.en, w.tot, w.pl ++ [p]⟩).mono (by omega)
  | .ite t y n, d, p, w, B, ⟨h1, h2, h3⟩, h => by
    have hB := h.h
    have h' : Bd B ⟨w.en, w.tot, w.pl ++ [p]⟩ := Bd.pl h
    simp only [St.run, St.wt]
    split
    · exact (Bk.run_bd y d _ _ B h2 h').up (by omega) (by omega)
    · exact (Bk.run_bd n d _ _ B h3 h').up (by omega) (by omega)
  | .rep k y, d, p, w, B, ⟨h1, h2, h3⟩, h => by
    have hB := h.h
    have h' : Bd B ⟨w.en, w.tot, w.pl ++ [p]⟩ := Bd.pl h
    simp only [St.run, St.wt]
    exact (itr_bd (fun w B h => Bk.run_bd y d (p + 1) w B h3 h) k.toNat _ B h').up (by omega) (by omega)
theorem Bk.run_bd {ns : List Str} : ∀ (b : Bk) (d : Nat) (p : Int) (w : Wd) (B : Int), b.ok ns d → Bd B w → Bd (128 ^ b.wt * B) (b.run p w).1
  | .nil, d, p, w, B, _, h => by
    rw [show Bk.wt .nil = 0 from rfl, Int.pow_zero, Int.one_mul]
    exact h
  | .cons s b, d, p, w, B, ⟨h1, h2, h3⟩, h => by
    have hB : 0 ≤ B := by have := h.h; omega
    have a := St.run_bd s (d - 1) p w B h2 h
    have c := Bk.run_bd b d (p + s.sz) (s.run p w).1 _ h3 a
    rw [← Int.mul_assoc, ← Int.pow_add, Nat.add_comm] at c
    simp only [Bk.run, Bk.wt]
    split
    · exact a.up hB (by omega)
    · exact c
end
/-- places are places -/
def Pl (lo hi : Int) (l l' : List Int) : Prop := ∀ x ∈ l', x ∈ l ∨ (lo ≤ x ∧ x < hi)
theorem Pl.trans {lo hi : Int} {l l1 l2 : List Int} (a : Pl lo hi l l1) (b : Pl lo hi l1 l2) : Pl lo hi l l2 := fun x hx => (b x hx).elim (a x) .inr
theorem Pl.mono {lo hi lo' hi' : Int} {l l1 : List Int} (a : Pl lo hi l l1) (h1 : lo' ≤ lo) (h2 : hi ≤ hi') : Pl lo' hi' l l1 := fun x hx => (a x hx).imp id (fun z => by omega)
theorem Pl.refl (lo hi : Int) (l : List Int) : Pl lo hi l l := fun _ hx => .inl hx
theorem Pl.one {lo hi p : Int} (l : List Int) (h1 : lo ≤ p) (h2 : p < hi) : Pl lo hi l (l ++ [p]) := fun x hx => by
  rcases List.mem_append.1 hx with z | z
  · exact .inl z
  · rw [List.mem_singleton.mp z]; exact .inr ⟨h1, h2⟩
theorem itr_pl {f : Wd → Wd × Bool} {lo hi : Int} (hf : ∀ w, Pl lo hi w.pl (f w).1.pl) : ∀ (n : Nat) (w : Wd), Pl lo hi w.pl (itr f n w).1.pl
  | 0, w => .refl _ _ _
  | n + 1, w => by
    unfold itr
    split
    · exact hf w
    · exact (hf w).trans (itr_pl hf n _)
mutual
theorem St.run_pl : ∀ (s : St) (p : Int) (w : Wd), Pl p (p + s.sz) w.pl (s.run p w).1.pl
  | .set z e, p, w => .one _ (Int.le_refl _) (by simp [St.sz]; omega)
  | .pay e, p, w => .one _ (Int.le_refl _) (by simp [St.sz]; omega)
  | .stop, p, w => .one _ (Int.le_refl _) (by simp [St.sz]; omega)
  | .ite t y n, p, w => by
    simp only [St.run, St.sz]
    have z : Pl p (p + ((1 + y.sz + n.sz : Nat) : Int)) w.pl (w.pl ++ [p]) := .one _ (Int.le_refl _) (by omega)
    split
    · exact z.trans ((Bk.run_pl y (p + 1) ⟨w.en, w.tot, w.pl ++ [p]⟩).mono (by omega) (by omega))
    · exact z.trans ((Bk.run_pl n (p + 1 + y.sz) ⟨w.en, w.tot, w.pl ++ [p]⟩).mono (by omega) (by omega))
  | .rep k y, p, w => by
    simp only [St.run, St.sz]
    have z : Pl p (p + ((1 + y.sz : Nat) : Int)) w.pl (w.pl ++ [p]) := .one _ (Int.le_refl _) (by omega)
    exact z.trans ((itr_pl (Bk.run_pl y (p + 1)) k.toNat ⟨w.en, w.tot, w.pl ++ [p]⟩).mono (by omega) (by omega))
theorem Bk.run_pl : ∀ (b : Bk) (p : Int) (w : Wd), Pl p (p + b.sz) w.pl (b.run p w).1.pl
  | .nil, p, w => .refl _ _ _
  | .cons s b, p, w => by
    simp only [Bk.run, Bk.sz]
    have a := St.run_pl s p w
    have c := Bk.run_pl b (p + s.sz) (s.run p w).1
    split
    · exact a.mono (Int.le_refl _) (by omega)
    · exact (a.mono (Int.le_refl _) (by omega)).trans (c.mono (by omega) (by omega))
end
set_option exponentiation.threshold 2000 in
/-- what a run tells can be shown -/
theorem Bk.told_shw {ns : List Str} {b : Bk} {d : Nat} {x : Int} (ho : b.ok ns d) (hw : b.wt ≤ 30) (hs : b.sz ≤ 24) (h1 : -1000000000000000000000000000000000000000000000000000000000000 ≤ x) (h2 : x ≤ 1000000000000000000000000000000000000000000000000000000000000) : Shw 2 800 (b.told x) := by
  have h0 : Bd 1000000000000000000000000000000000000000000000000000000000000 (Wd.at x) := ⟨by decide, fun z => by
    show _ ≤ (if z = "n" then x else 0) ∧ (if z = "n" then x else 0) ≤ _
    split <;> omega, by show _ ≤ (0 : Int); decide, by show (0 : Int) ≤ _; decide⟩
  have h := (Bk.run_bd b d 0 _ _ ho h0).up (by decide) hw
  have e : (128 : Int) ^ 30 * 1000000000000000000000000000000000000000000000000000000000000 = 1645504557321206042154969182557350504982735865633579863348609024000000000000000000000000000000000000000000000000000000000000 := by decide
  rw [e] at h
  have p1 := Bk.run_pl b 0 (Wd.at x)
  have p2 := Bk.run_len b 0 (Wd.at x)
  have p3 : (b.run 0 (Wd.at x)).1.pl.length ≤ 30 := by
    have : (Wd.at x).pl.length = 0 := rfl
    omega
  have t1 := h.t1
  have t2 := h.t2
  have e2 : (2 : Nat) ^ 450 > 1645504557321206042154969182557350504982735865633579863348609024000000000000000000000000000000000000000000000000000000000000 := by decide
  have z : ShwA 0 ((7 + 1) * (b.run 0 (Wd.at x)).1.pl.length) ((b.run 0 (Wd.at x)).1.pl.map PyData.int) := .allInt (by decide) (by decide) (fun i hi => by
    have e7 : (2 : Nat) ^ 7 = 128 := by decide
    rcases p1 i hi with z | z
    · cases z
    · omega) 0
  exact (Shw.tup (.cons (Shw.int (n := 450) (by omega) (by decide) (by decide) 1) (.cons (Shw.tup z) (.nil 1 0)))).mono (Nat.le_refl _) (by omega)
/-! ### t[::-1] of a tuple -/
theorem places_back (n : Nat) : Builtin.Slice.slicePlaces ((n : Int) - 1) (-1) (-1) = n := by
  unfold Builtin.Slice.slicePlaces;
  rw [if_neg (by omega)]
  by_cases h : n = 0
  · subst h; rfl
  · rw [if_pos (by omega), show ((n : Int) - 1 - -1 - 1) = (n : Int) - 1 by omega, show (- -1 : Int) = 1 from rfl, Int.ediv_one]
    omega
theorem pick_back (xs : Array Value) : ((List.range xs.size).filterMap fun (m : Nat) => xs[((xs.size : Int) - 1 + (m : Int) * -1).toNat]?).toArray = xs.toList.reverse.toArray := by
  congr 1
  apply List.ext_getElem?
  intro i
  have hlen : ∀ l : List Nat, (∀ m ∈ l, m < xs.size) → (l.filterMap fun (m : Nat) => xs[((xs.size : Int) - 1 + (m : Int) * -1).toNat]?) = l.map fun m => xs.toList.reverse.getD m .none := by
    intro l
    induction l with
    | nil => intro _; rfl
    | cons m l ih =>
      intro h
      have hm := h m (by simp)
      have e : ((xs.size : Int) - 1 + (m : Int) * -1).toNat = xs.size - 1 - m := by omega
      have e2 : xs[xs.size - 1 - m]? = some (xs.toList.reverse.getD m .none) := by
        rw [List.getD_eq_getElem?_getD, List.getElem?_reverse (by simpa using hm), Array.length_toList]
        rw [Array.getElem?_toList]
        rw [Array.getElem?_eq_getElem (by omega)]
        rfl
      rw [List.filterMap_cons, e, e2, List.map_cons, ih fun k hk => h k (List.mem_cons_of_mem _ hk)]
  rw [hlen _ fun m hm => List.mem_range.mp hm, List.getElem?_map]
  by_cases hi : i < xs.size
  · rw [List.getElem?_range hi, Option.map_some, List.getD_eq_getElem?_getD, List.getElem?_eq_getElem (by simpa using hi)]
    rfl
  · rw [List.getElem?_eq_none (by simp; omega), List.getElem?_eq_none (by simp; omega)]
    rfl
theorem getItem_tuple_back {P : Program} {w : World} {A : Around} {E : Value → Shared → Prop} {s : Shared} {t sl : Addr} {items : Array Value} {vl vu vs : Value} {Q : Value → Shared → Prop} (ht : IsTup s.heap t items) (hs : s.heap.IsSliceOf sl vl vu vs) (pl : IsPart vl none) (pu : IsPart vu none) (ps : IsPart vs (some (-1)))
    (h : Q (.ref s.heap.objs.size) { s with heap := s.heap.push { cls := .type "tuple", data := .seq items.toList.reverse.toArray } }) (hz : items.size ≤ sizeLine) : wpAny (model P w) A (getItem (.ref t) (.ref sl)) Q E s := by
  have hfit : sizeOk (.seq items.toList.reverse.toArray) := by
    show items.toList.reverse.toArray.size ≤ sizeLine
    simpa using hz
  rcases id hs with ⟨os, hos, hcs, hds⟩
  have isSl : s.TypeIs (.ref sl) "slice" := ⟨os, hos, hcs⟩
  unfold getItem; try with_reducible refine wpAny_holding ?_
  try (refine wpAny_bind (wpAny_pure ?_))
  refine wpAny_bind (wpAny_sequenceKey ht.typeIs (by decide) (wpAny_bind (wpAny_callSpecial?_slot (name := Str.ofString "__getitem__") ht.typeIs PyProof.Rows.slot_tuple_getitem (wpAny_call_entry PyProof.Rows.slot_tuple_getitem ht.typeIs entry_tuple_getitem ?_ (args_tuple_getitem _ _)))))
  show wpAny _ _ (Builtin.Tuple.tupleItemsOf (.ref t) >>= fun xs => _) _ _ s
  refine wpAny_bind (tupleItemsOf_ ht (wpAny_bind (wpAny_typeOf isSl ?_))); rw [if_pos (by decide)]
  refine wpAny_bind ?_; unfold Builtin.Slice.sliceApplied Builtin.Slice.sliceFields
  refine wpAny_bind (wpAny_bind (wpAny_field hos hds (x := vl) rfl (wpAny_bind (wpAny_field hos hds (x := vu) rfl (wpAny_bind (wpAny_field hos hds (x := vs) rfl (wpAny_pure ?_))))))); refine wpAny_bind (HT.slicePart_ ps ?_)
  show wpAny _ _ (if ((-1 : Int) == 0) = true then _ else _) _ _ s; rw [if_neg (by decide)]
  refine wpAny_bind (HT.slicePart_ pl (wpAny_bind (HT.slicePart_ pu (wpAny_bind (wpAny_pure (wpAny_pure ?_))))))
  show wpAny _ _ (if (((items.size : Int) - 1) == 0 && (-1 : Int) == 1 && (Builtin.Slice.slicePlaces ((items.size : Int) - 1) (-1) (-1)) == items.size) = true then _ else _) _ _ s
  rw [if_neg (by rw [show ((-1 : Int) == 1) = false from rfl, Bool.and_false, Bool.false_and]; exact Bool.false_ne_true)]
  show wpAny _ _ (Builtin.Tuple.tupleExact ((List.range (Builtin.Slice.slicePlaces ((items.size : Int) - 1) (-1) (-1))).filterMap fun (k : Nat) => items[((items.size : Int) - 1 + (k : Int) * -1).toNat]?).toArray >>= _) _ _ s
  rw [places_back, pick_back]
  exact wpAny_bind (m := Builtin.Tuple.tupleExact _) (wpAny_newObj_type (wpAny_pure ⟨_, rfl, wpAny_pure h⟩) hfit)
section
variable {X : Cx}
/-- t[::-1]: a new tuple -/
def tRevT (K : PySem.W.Frag) (te : TE) : TE := fun σ H Q => te σ H fun x H1 => ∃ a xs, x = .ref a ∧ SqT K H1 a xs ∧ ∀ p, H1 p = none → Q (.ref p) (upd H1 p (.tup xs.reverse))
theorem pe_revT {e : Expr} {te : TE} {k : Nat} {p1 p2 p3 pos : Pos} (he : PE X e te) : PE X (.Subscript e (.Slice none none (some (.UnaryOp .USub (.Constant (.int 1) k p1) p2)) p3) pos) (tRevT X.K te) := by
  refine ⟨fun pins s σ H Q I h => Subscript_ (thn (he.run pins s σ H _ I h) fun v s1 ⟨x, H1, I1, r1, a, xs, ex, hx, q⟩ => ?_)⟩
  subst ex; cases r1
  have hst : PO X (some (.UnaryOp .USub (.Constant (.int 1) k p1) p2)) (tPart (tUn (rU fun i => .int (-i)) (tC (.int 1)))) := po_some (pe_un un_neg pe_int); refine wpAny_Slice (thn (po_none.run pins s1 σ H1 (fun o H2 => o = none ∧ H2 = H1) I1 ⟨rfl, rfl⟩) fun vl s2 ⟨l, H2, I2, pl, el, e2⟩ => ?_)
  subst el e2; refine thn (po_none.run pins s2 σ H2 (fun o H3 => o = none ∧ H3 = H2) I2 ⟨rfl, rfl⟩) fun vu s3 ⟨u, H3, I3, pu, eu, e3⟩ => ?_
  subst eu e3; refine thn (hst.run pins s3 σ H3 (fun o H4 => o = some (-1) ∧ H4 = H3) I3 ⟨1, rfl, -1, rfl, rfl, rfl⟩) fun vs s4 ⟨o, H4, I4, ps, eo, e4⟩ => ?_
  subst eo e4
  have I5 : Inv X pins σ H4 { s4 with heap := s4.heap.push { cls := .type "slice", data := .fields #[vl, vu, vs] } } := I4.kept (t' := s4.toks) fun b ob z => Heap.get?_push_of_some _ z
  obtain ⟨its, r, ht, hz⟩ := I5.tuple hx
  have hlen := r.length
  show wpAny (model X.prog X.w) X.A (subscriptTail e (.Slice none none (some (.UnaryOp .USub (.Constant (.int 1) k p1) p2)) p3) (.ref a) (.ref s4.heap.objs.size)) (EP X pins σ Q) X.xe { s4 with heap := s4.heap.push ⟨.type "slice", none, .fields #[vl, vu, vs], #[]⟩ }
  refine tail_any (ops := [.ref a, .ref s4.heap.objs.size]) ht.typeIs PyProof.Rows.slot_tuple_getitem.lookup ?_ (by with_unfolding_all rfl)
  refine getItem_tuple_back ht (Heap.IsSliceOf.new _ vl vu vs) pl pu ps ?_ (by rw [List.size_toArray]; omega)
  refine ⟨.ref _, _, I5.laid (t' := s4.toks) (o := .tup xs.reverse) (fun b ob z => Heap.get?_push_of_some _ z) (Nat.le_refl _) ?_, rfl, q _ (I5.hok.fresh (Nat.le_refl _))⟩
  exact ⟨by rw [List.length_reverse]; exact hz, _, by simpa using r.reverse, IsTup.new _ _⟩
end
abbrev sPIsInteger : Stmt := topS 17
abbrev nPIsInteger : List Str := ["value"]
theorem scPIsInteger : FnScope nPIsInteger ["value"] (defScope sPIsInteger) := ⟨rfl, rfl, rfl, by decide +kernel, rfl, by decide +kernel, by decide +kernel⟩
abbrev sPBlocksOf : Stmt := topS 25
abbrev nPBlocksOf : List Str := ["statement"]
theorem scPBlocksOf : FnScope nPBlocksOf ["statement"] (defScope sPBlocksOf) := ⟨rfl, rfl, rfl, by decide +kernel, rfl, by decide +kernel, by decide +kernel⟩
abbrev sPEachStatement : Stmt := topS 29
abbrev nPEachStatement : List Str := ["program", "waiting", "place", "depth", "statement", "block", "inner"]
theorem scPEachStatement : GScope nPEachStatement ["program"] (defScope sPEachStatement) := ⟨rfl, rfl, rfl, by decide +kernel, rfl, by decide +kernel, by decide +kernel⟩
abbrev sPPlacesIn : Stmt := topS 30
abbrev nPPlacesIn : List Str := ["block"]
theorem scPPlacesIn : FnScope nPPlacesIn ["block"] (defScope sPPlacesIn) := ⟨rfl, rfl, rfl, by decide +kernel, rfl, by decide +kernel, by decide +kernel⟩
/-! ### the program's walk over statements -/
/-- a row that is handed out: place, depth, statement -/
abbrev Rw := Int × Int × St
def rwD (r : Rw) : PyData := .tuple [.int r.1, .int r.2.1, r.2.2.d]
def prD (x : Int × St) : PyData := .tuple [.int x.1, x.2.d]
mutual
def St.rws : St → Int → Int → List Rw
  | .set z e, d, p => [(p, d, .set z e)]
  | .pay e, d, p => [(p, d, .pay e)]
  | .stop, d, p => [(p, d, .stop)]
  | .ite t y n, d, p => (p, d, .ite t y n) :: (y.rws (d + 1) (p + 1) ++ n.rws (d + 1) (p + 1 + y.sz))
  | .rep k y, d, p => (p, d, .rep k y) :: y.rws (d + 1) (p + 1)
def Bk.rws : Bk → Int → Int → List Rw
  | .nil, _, _ => []
  | .cons s b, d, p => s.rws d p ++ b.rws d (p + s.sz)
end
mutual
theorem St.rws_len : ∀ (s : St) (d p : Int), (s.rws d p).length = s.sz
  | .set _ _, _, _ => rfl
  | .pay _, _, _ => rfl
  | .stop, _, _ => rfl
  | .ite t y n, d, p => by simp only [St.rws, St.sz, List.length_cons, List.length_append, Bk.rws_len y, Bk.rws_len n]; omega
  | .rep k y, d, p => by simp only [St.rws, St.sz, List.length_cons, Bk.rws_len y]; omega
theorem Bk.rws_len : ∀ (b : Bk) (d p : Int), (b.rws d p).length = b.sz
  | .nil, _, _ => rfl
  | .cons s b, d, p => by simp only [Bk.rws, Bk.sz, List.length_append, St.rws_len s, Bk.rws_len b]
end
def stkRws : List (Int × St) → Int → List Rw
  | [], _ => []
  | (d, s) :: r, p => s.rws d p ++ stkRws r (p + s.sz)
def stkSz (l : List (Int × St)) : Nat := (l.map fun x => x.2.sz).sum
theorem stkSz_cons (x : Int × St) (l : List (Int × St)) : stkSz (x :: l) = x.2.sz + stkSz l := rfl
theorem stkSz_append (l m : List (Int × St)) : stkSz (l ++ m) = stkSz l + stkSz m := by unfold stkSz; rw [List.map_append, List.sum_append]
theorem stk_append : ∀ (l m : List (Int × St)) (p : Int), stkRws (l ++ m) p = stkRws l p ++ stkRws m (p + stkSz l)
  | [], m, p => by show stkRws m p = stkRws m (p + 0); rw [Int.add_zero]
  | (d, s) :: l, m, p => by
    show s.rws d p ++ stkRws (l ++ m) (p + s.sz) = (s.rws d p ++ stkRws l (p + s.sz)) ++ _
    rw [stk_append l m, List.append_assoc, stkSz_cons, Int.natCast_add, Int.add_assoc]
theorem stkRws_len : ∀ (l : List (Int × St)) (p : Int), (stkRws l p).length = stkSz l
  | [], _ => rfl
  | (d, s) :: l, p => by
    show (s.rws d p ++ stkRws l (p + s.sz)).length = _
    rw [List.length_append, St.rws_len, stkRws_len l, stkSz_cons]
theorem St.sz_pos (s : St) : 1 ≤ s.sz := by rw [s.sz_blks]; omega
theorem stk_le : ∀ l : List (Int × St), l.length ≤ stkSz l
  | [] => Nat.le_refl _
  | x :: l => by
    rw [List.length_cons, stkSz_cons]
    have := stk_le l
    have := x.2.sz_pos
    omega
def Bk.stk (b : Bk) (d : Int) : List (Int × St) := b.lst.map fun s => (d, s)
theorem stk_bk : ∀ (b : Bk) (d p : Int), stkRws (b.stk d) p = b.rws d p
  | .nil, _, _ => rfl
  | .cons s b, d, p => by
    show s.rws d p ++ stkRws (b.stk d) (p + s.sz) = s.rws d p ++ b.rws d (p + s.sz)
    rw [stk_bk b]
theorem stkSz_bk : ∀ (b : Bk) (d : Int), stkSz (b.stk d) = b.sz
  | .nil, _ => rfl
  | .cons s b, d => by
    show stkSz ((d, s) :: b.stk d) = s.sz + b.sz
    rw [stkSz_cons, stkSz_bk b]
/-- what lies right in a statement -/
def kidsOf (l : List Bk) (d : Int) : List (Int × St) := (l.map fun b => b.stk d).flatten
theorem St.rws_kids (s : St) (d p : Int) : s.rws d p = (p, d, s) :: stkRws (kidsOf s.blks (d + 1)) (p + 1) := by
  cases s with
  | ite t y n =>
    show (p, d, St.ite t y n) :: (y.rws (d + 1) (p + 1) ++ n.rws (d + 1) (p + 1 + y.sz)) = _ :: stkRws (y.stk (d + 1) ++ (n.stk (d + 1) ++ [])) (p + 1)
    rw [List.append_nil, stk_append, stk_bk, stk_bk, stkSz_bk]
  | rep k y =>
    show (p, d, St.rep k y) :: y.rws (d + 1) (p + 1) = _ :: stkRws (y.stk (d + 1) ++ []) (p + 1)
    rw [List.append_nil, stk_bk]
  | _ => rfl
theorem kidsSz : ∀ (l : List Bk) (d : Int), stkSz (kidsOf l d) = (l.map Bk.sz).sum
  | [], _ => rfl
  | b :: l, d => by
    show stkSz (b.stk d ++ kidsOf l d) = b.sz + (l.map Bk.sz).sum
    rw [stkSz_append, stkSz_bk, kidsSz l]
theorem rev_get {α : Type} {xs : List α} {i : Nat} {x : α} (h : xs.reverse[i]? = some x) : i < xs.length ∧ xs[xs.length - 1 - i]? = some x := by
  have hi : i < xs.length := by
    have := (List.getElem?_eq_some_iff.mp h).1
    simpa using this
  rw [List.getElem?_reverse hi] at h
  exact ⟨hi, h⟩
theorem drop_back {α : Type} {l : List α} {i : Nat} {s : α} (hi : i < l.length) (h : l[l.length - 1 - i]? = some s) : l.drop (l.length - (i + 1)) = s :: l.drop (l.length - i) := by
  obtain ⟨hlt, hge⟩ := List.getElem?_eq_some_iff.mp h
  have e : l.length - (i + 1) = l.length - 1 - i := by omega
  rw [e, List.drop_eq_getElem_cons hlt, hge]
  congr 2
  omega
theorem tpPair {H : Hp} {a : Addr} {i : Int} {x : V} {s : St} (h : H a = some (.tup [.int i, x])) (t : Tp H x s.d) : Tp H (.ref a) (prD (i, s)) := .tup h (.cons (.int i) (.cons t .nil))
theorem passCX0 {X : Cx} : Passes (CX X.prog X.w) X E0 := fun _ _ _ _ _ _ _ c => by
  obtain ⟨_, _, _, _, _, _, _, _, _, _, _, _, z⟩ := c
  exact z.elim
theorem noStop0 {K : PySem.W.Frag} : NoStop K E0 := fun _ _ _ z => z.elim
theorem bk_le (b : Bk) : b.lst.length ≤ b.sz := by
  have h := stk_le (b.stk 0)
  rw [stkSz_bk] at h
  unfold Bk.stk at h
  rwa [List.length_map] at h
theorem Tk.lst {H : Hp} {p : Addr} {ys : List V} {o : HO} (h : H p = some (.lst ys)) : Tk H (upd H p o) := fun b xs e => by
  rw [upd_ne (fun z => by rw [z, h] at e; cases e)]
  exact e
/-- an int that is no bool -/
def isIntV (H : Hp) (v : V) (b : Bool) : Prop := (∃ i, v = .int i ∧ b = true) ∨ (∃ z, v = .str z ∧ b = false) ∨ (∃ a xs, v = .ref a ∧ H a = some (.tup xs) ∧ b = false)
def spIsInt : Sp := fun vs H Q _ => ∃ v b, vs = [v] ∧ isIntV H v b ∧ Q (.bl b) H
def spBlocks : Sp := fun vs H Q _ => ∃ (v : V) (s : St), vs = [v] ∧ Tp H v s.d ∧ ∀ H' v', Sx [] H H' → Tp H' v' (.tuple s.parts) → Q v' H'
def spEach : SpG := fun vs H Q _ => ∃ (v : V) (b : Bk), vs = [v] ∧ Tp H v (.tuple b.ds) ∧ b.sz < 16777216 ∧ ∀ ys H', Sx [] H H' → TpAll H' ys ((b.rws 0 0).map rwD) → Q ys H'
def spPlaces : Sp := fun vs H Q _ => ∃ (v : V) (b : Bk), vs = [v] ∧ Tp H v (.tuple b.ds) ∧ b.sz < 16777216 ∧ ∀ H', Sx [] H H' → Q (.int b.sz) H'
section
variable {w : World} {P : Program} {K : PySem.W.Frag} {mg : Str → Option Value} {base : Heap}
theorem ok_pis_integer {f : Addr} {fd : FuncData} {k : Nat} (F_pis_integer : Fun K "is_integer" "is_integer" sPIsInteger f fd) (z_isinstance : mg "isinstance" = none) (z_int : mg "int" = none) (z_bool : mg "bool" = none) : FnOk P w K mg base CX0 (k + 1) f fd ["value"] spIsInt := by
  refine F_pis_integer.ok scPIsInteger (fun vs H Q E h => ?_) (fun cdv A outer s H vs Q E hr h => ?_)
  · obtain ⟨_, _, rfl, _⟩ := h
    rfl
  · obtain ⟨v, b, rfl, iv, q⟩ := h
    refine ⟨_, (pss_one (ps_ret (pe_and (pe_callB call_isi (by rfl) z_isinstance (by decide +kernel) (pa_cons (pv 0) (pa_cons (pe_bltn (v := .ty "int") (by rfl) z_int (by decide +kernel) rfl) pa_nil))) (pe_one (pe_not (pe_callB call_isi (by rfl) z_isinstance (by decide +kernel) (pa_cons (pv 0) (pa_cons (pe_bltn (v := .ty "bool") (by rfl) z_bool (by decide +kernel) rfl) pa_nil)))))))), ?_⟩
    rcases iv with ⟨i, rfl, rfl⟩ | ⟨z, rfl, rfl⟩ | ⟨a, xs, rfl, ha, rfl⟩
    · exact ⟨_, rfl, _, _, _, _, _, rfl, .ty _, .base (.int i), kit_ty (r := true) (by decide +kernel), _, rfl, iteT ⟨_, rfl, _, _, _, _, _, rfl, .ty _, .base (.int i), kit_ty (r := false) (by decide +kernel), _, rfl, q⟩⟩
    · exact ⟨_, rfl, _, _, _, _, _, rfl, .ty _, .base (.str z), kit_ty (r := false) (by decide +kernel), _, rfl, iteF q⟩
    · exact ⟨_, rfl, _, _, _, _, _, rfl, .ty _, .base (.tup ha), kit_ty (r := false) (by decide +kernel), _, rfl, iteF q⟩
theorem ok_pblocks_of {f : Addr} {fd : FuncData} {k : Nat} (F_pblocks_of : Fun K "blocks_of" "blocks_of" sPBlocksOf f fd) : FnOk P w K mg base CX0 (k + 1) f fd ["statement"] spBlocks := by
  refine F_pblocks_of.ok scPBlocksOf (fun vs H Q E h => ?_) (fun cdv A outer s H vs Q E hr h => ?_)
  · obtain ⟨_, _, rfl, _⟩ := h
    rfl
  · obtain ⟨v, s, rfl, t, q⟩ := h
    refine ⟨_, (pss_cons (ps_if (pt_cmpR op_eq (pe_ix ix_tup (pv 0) pe_int (fun _ _ => rfl)) pe_str (nomark _)) (pss_one (ps_ret (pe_tup (pa_cons (pe_ix ix_tup (pv 0) pe_int (fun _ _ => rfl)) (pa_cons (pe_ix ix_tup (pv 0) pe_int (fun _ _ => rfl)) pa_nil))))) pss_nil)
      (pss_cons (ps_if (pt_cmpR op_eq (pe_ix ix_tup (pv 0) pe_int (fun _ _ => rfl)) pe_str (nomark _)) (pss_one (ps_ret (pe_tup (pa_cons (pe_ix ix_tup (pv 0) pe_int (fun _ _ => rfl)) pa_nil)))) pss_nil)
      (pss_one (ps_ret (pe_tup pa_nil))))), ?_⟩
    cases s with
    | set z e =>
      obtain ⟨a, p, u, y, rfl, ha, t1, _, _⟩ := tp3 t
      obtain rfl := tpS t1
      refine ⟨_, rfl, a, _, _, _, rfl, rfl, SqT.of ha, rfl, rfl, _, rfl, iteN (by decide +kernel) ⟨_, rfl, a, _, _, _, rfl, rfl, SqT.of ha, rfl, rfl, _, rfl, iteN (by decide +kernel) ⟨by show 0 ≤ sizeLine; decide, fun p' hp' => ?_⟩⟩⟩
      exact q _ _ (Sx.n0 hp') (.tup upd_same .nil)
    | pay e =>
      obtain ⟨a, p, u, rfl, ha, t1, _⟩ := tp2 t
      obtain rfl := tpS t1
      refine ⟨_, rfl, a, _, _, _, rfl, rfl, SqT.of ha, rfl, rfl, _, rfl, iteN (by decide +kernel) ⟨_, rfl, a, _, _, _, rfl, rfl, SqT.of ha, rfl, rfl, _, rfl, iteN (by decide +kernel) ⟨by show 0 ≤ sizeLine; decide, fun p' hp' => ?_⟩⟩⟩
      exact q _ _ (Sx.n0 hp') (.tup upd_same .nil)
    | stop =>
      obtain ⟨a, p, rfl, ha, t1⟩ := tp1 t
      obtain rfl := tpS t1
      refine ⟨_, rfl, a, _, _, _, rfl, rfl, SqT.of ha, rfl, rfl, _, rfl, iteN (by decide +kernel) ⟨_, rfl, a, _, _, _, rfl, rfl, SqT.of ha, rfl, rfl, _, rfl, iteN (by decide +kernel) ⟨by show 0 ≤ sizeLine; decide, fun p' hp' => ?_⟩⟩⟩
      exact q _ _ (Sx.n0 hp') (.tup upd_same .nil)
    | ite ts y n =>
      obtain ⟨a, p, u, y', n', rfl, ha, t1, _, t3, t4⟩ := tp4 t
      obtain rfl := tpS t1
      refine ⟨_, rfl, a, _, _, _, rfl, rfl, SqT.of ha, rfl, rfl, _, rfl, iteP (by decide +kernel) ⟨_, rfl, a, _, _, y', rfl, rfl, SqT.of ha, rfl, _, rfl, a, _, _, n', rfl, rfl, SqT.of ha, rfl, by show 2 ≤ sizeLine; decide, fun p' hp' => ?_⟩⟩
      exact q _ _ (Sx.n0 hp') (.tup upd_same (.cons (t3.new hp') (.cons (t4.new hp') .nil)))
    | rep k y =>
      obtain ⟨a, p, u, y', rfl, ha, t1, _, t3⟩ := tp3 t
      obtain rfl := tpS t1
      refine ⟨_, rfl, a, _, _, _, rfl, rfl, SqT.of ha, rfl, rfl, _, rfl, iteN (by decide +kernel) ⟨_, rfl, a, _, _, _, rfl, rfl, SqT.of ha, rfl, rfl, _, rfl, iteP (by decide +kernel) ⟨_, rfl, a, _, _, y', rfl, rfl, SqT.of ha, rfl, by show 1 ≤ sizeLine; decide, fun p' hp' => ?_⟩⟩⟩
      exact q _ _ (Sx.n0 hp') (.tup upd_same (.cons (t3.new hp') .nil))
end
/-- the pieces on a stack, the top first -/
def Stk (H : Hp) (L : Addr) (ws : List (Int × St)) : Prop := ∃ vals : List V, H L = some (.lst vals.reverse) ∧ TpAll H vals (ws.map prD)
theorem Stk.keep {H H' : Hp} {L : Addr} {ws : List (Int × St)} (h : Stk H L ws) (s : Sx [] H H') : Stk H' L ws := by
  obtain ⟨vals, h1, h2⟩ := h
  exact ⟨vals, s _ _ (by simp) h1, h2.keep s.tk0⟩
theorem Stk.push {H : Hp} {L : Addr} {ws : List (Int × St)} {x : V} {y : Int × St} (h : Stk H L ws) (t : Tp H x (prD y)) : ∃ acc, H L = some (.lst acc) ∧ acc.length = ws.length ∧ Stk (upd H L (.lst (acc ++ [x]))) L (y :: ws) := by
  obtain ⟨vals, h1, h2⟩ := h
  have e := h2.len
  rw [List.length_map] at e
  refine ⟨_, h1, by rw [List.length_reverse, e], x :: vals, by rw [upd_same, List.reverse_cons], ?_⟩
  exact .cons (t.keep (Tk.lst h1)) (h2.keep (Tk.lst h1))
theorem Stk.pop {H : Hp} {L : Addr} {ws : List (Int × St)} {y : Int × St} (h : Stk H L (y :: ws)) : ∃ (acc : List V) (a : Addr) (x : V), H L = some (.lst acc) ∧ acc[acc.length - 1]? = some (.ref a) ∧ H a = some (.tup [.int y.1, x]) ∧ Tp H x y.2.d ∧ Stk (upd H L (.lst acc.dropLast)) L ws ∧ acc.length = ws.length + 1 := by
  obtain ⟨vals, h1, h2⟩ := h
  cases h2 with
  | cons h3 h4 =>
    rename_i v vs
    obtain ⟨a, xs, rfl, ha, hx⟩ := h3.tuple
    cases hx with | cons h5 hx => cases hx with | cons h6 hx => cases hx with | nil =>
    obtain rfl := tpI h5
    have e := h4.len
    rw [List.length_map] at e
    refine ⟨_, a, _, h1, ?_, ha, h6, ⟨vs, by rw [upd_same, List.reverse_cons, List.dropLast_concat], h4.keep (Tk.lst h1)⟩, by rw [List.length_reverse, List.length_cons, e]⟩
    rw [List.reverse_cons, List.length_append]
    simp
theorem Stk.nil_ {H : Hp} {L : Addr} (h : Stk H L []) : H L = some (.lst []) := by
  obtain ⟨vals, h1, h2⟩ := h
  cases h2
  exact h1
section
variable {w : World} {P : Program} {K : PySem.W.Frag} {mg : Str → Option Value} {base : Heap}
theorem ok_peach {f fB : Addr} {fd fdB : FuncData} (F_peach_statement : Fun K "each_statement" "each_statement" sPEachStatement f fd) (F_pblocks_of : Fun K "blocks_of" "blocks_of" sPBlocksOf fB fdB) (G_pblocks_of : FnOk P w K mg base CX0 1 fB fdB ["statement"] spBlocks)
    (b_pblocks_of : Binds K fdB ["statement"] []) (m_pblocks_of : mg "blocks_of" = some (.ref fB)) : GFn P w K mg base 2 f fd ["program"] spEach := by
  obtain ⟨oc, od, kV, doc, pm, an, cdv, ct, osl, rfl, lk, hcd⟩ := F_peach_statement.ex
  refine gfn_of lk hcd scPEachStatement (fun vs H Q E h => ?_) (fun A outer s H vs Q E pn hr h => ?_)
  · obtain ⟨_, _, rfl, _⟩ := h
    rfl
  · obtain ⟨v, b, rfl, t, hz, q⟩ := h
    refine ⟨_, (gss_cons (gs_ps (ps_setLc (i := 1) (own := [("statement", 4)]) (g := gName 4) (tt := tYes) rfl scPEachStatement.nd rfl rfl (sw_true rfl rfl rfl (by decide +kernel)) (pi_tup (pe_revT (pv 0))) (blkOk_by (N := nPEachStatement) (sc := defScope sPEachStatement) (by decide +kernel)) (fun _ _ _ _ _ => (pg_name (i := 4) scPEachStatement.nd rfl (by first | exact Or.inl rfl | exact Or.inr rfl))) (fun _ _ _ _ _ => pts_nil) (fun _ _ _ _ _ => (pe_tup (pa_cons pe_int (pa_cons (pv 4) pa_nil))))))
      (gss_cons (gs_ps (ps_set (i := 2) scPEachStatement.nd rfl (by first | exact Or.inl rfl | exact Or.inr rfl) pe_int))
      (gss_cons (gs_while owns_gcx (pt_truth (pv 1) (fun _ => rfl)) (gss_cons (gs_ps (ps_asg (pe_bm0 PySem.F.plainAttrs_list PySem.F.slot_list_pop PySem.F.type_list_pop mt_pop (pv 1)) (pg_tup rfl (pgs_cons (pg_name (i := 3) scPEachStatement.nd rfl (by first | exact Or.inl rfl | exact Or.inr rfl)) (pgs_cons (pg_name (i := 4) scPEachStatement.nd rfl (by first | exact Or.inl rfl | exact Or.inr rfl)) pgs_nil)))))
      (gss_cons (gs_yield (pe_tup (pa_cons (pv 2) (pa_cons (pv 3) (pa_cons (pv 4) pa_nil)))))
      (gss_pss (pss_cons (ps_aug (i := 2) scPEachStatement.nd rfl (.inl rfl) pe_int ip_add)
      (pss_one (ps_for owns_gcx rfl (pi_tup (pe_revT (pe_call G_pblocks_of (hr.mono (by omega)) (by rfl) m_pblocks_of F_pblocks_of.kp b_pblocks_of .nil pass0 (pa_cons (pv 4) pa_nil)))) (pg_name (i := 5) scPEachStatement.nd rfl (by first | exact Or.inl rfl | exact Or.inr rfl)) (pss_one (ps_for owns_gcx rfl (pi_tup (pe_revT (pv 5))) (pg_name (i := 6) scPEachStatement.nd rfl (by first | exact Or.inl rfl | exact Or.inr rfl)) (pss_one (ps_expr (pe_bm PySem.F.plainAttrs_list PySem.F.slot_list_append PySem.F.type_list_append mt_append (pv 1) (pa_cons (pe_tup (pa_cons (pe_op op_add (pv 3) pe_int) (pa_cons (pv 6) pa_nil))) pa_nil)))))))))))))
      gss_nil))), ?_⟩
    obtain ⟨a, xs, rfl, ha, hx⟩ := t.tuple
    rw [b.ds_lst] at hx
    obtain ⟨hl, hg⟩ := hx.lst
    -- the first stack
    refine ⟨_, rfl, a, xs, rfl, SqT.of ha, fun p hp => ⟨p, rfl, ⟨_, SqT.of upd_same⟩, fun D hD => lc_tup (xs := xs.reverse)
      (fun i H1 => Sx [] H H1 ∧ H1 p = some (.tup xs.reverse) ∧ Stk H1 D ((b.lst.drop (b.lst.length - i)).map fun s => (0, s)))
      ⟨(Sx.n0 hp).trans (Sx.n0 hD), by rw [upd_ne (ne_of_none upd_same hD)]; exact upd_same, [], upd_same, by rw [Nat.sub_zero, List.drop_length]; exact .nil⟩ (fun i H1 _ z => SqT.of z.2.1) (fun i x H1 hi z => ?_) (fun H1 z => ?_)⟩⟩
    · obtain ⟨s1, hp1, hv⟩ := z
      obtain ⟨hi1, hi2⟩ := rev_get hi
      rw [hl] at hi1 hi2
      obtain ⟨st, hst, tst⟩ := hg _ x hi2
      refine ⟨rfl, ?_⟩
      refine ⟨_, rfl, by show 2 ≤ sizeLine; decide, fun u hu => ?_⟩
      have hDn : H D = none := by
        cases e : H D with
        | none => rfl
        | some o => have := Sx.n0 (o := .tup xs.reverse) hp D o (by simp) e; rw [hD] at this; cases this
      have bl := bk_le b
      obtain ⟨acc, e1, e2, e3⟩ := (hv.keep (Sx.n0 hu)).push (x := .ref u) (y := (0, st)) (tpPair upd_same ((tst.keep s1.tk0).new hu))
      have npD : p ≠ D := ne_of_none upd_same hD
      refine ⟨acc, e1, lt_line (by rw [e2, List.length_map, List.length_drop]; omega), (s1.new hu).own hDn, ?_, ?_⟩
      · rw [upd_ne npD]; exact Sx.n0 hu _ _ (by simp) hp1
      · rw [drop_back hi1 hst]; exact e3
    · obtain ⟨s1, _, hv⟩ := z
      have hDn : H D = none := by
        cases e : H D with
        | none => rfl
        | some o => have := Sx.n0 (o := .tup xs.reverse) hp D o (by simp) e; rw [hD] at this; cases this
      rw [List.length_reverse, hl, Nat.sub_self, List.drop_zero] at hv
      refine ⟨fun m ys σ H' => ∃ (ws : List (Int × St)) (dn : List Rw) (o3 o4 o5 o6 : Option V), σ = [some (.ref a), some (.ref D), some (.int dn.length), o3, o4, o5, o6] ∧ Sx [] H H' ∧ Stk H' D ws ∧ TpAll H' ys (dn.map rwD) ∧ dn ++ stkRws ws dn.length = b.rws 0 0 ∧ m = stkSz ws,
        ⟨_, b.stk 0, [], _, _, _, _, rfl, s1, hv, .nil, stk_bk b 0 0, rfl⟩, ?_⟩
      rintro m ys σ H' ⟨ws, dn, o3, o4, o5, o6, rfl, s2, hs, hy, hrows, rfl⟩
      have total := congrArg List.length hrows
      rw [List.length_append, stkRws_len, Bk.rws_len] at total
      cases ws with
      | nil =>
        refine ⟨_, rfl, false, .inl ⟨_, SqL.of hs.nil_, rfl⟩, iteF ?_⟩
        rw [show stkRws [] (dn.length : Int) = [] from rfl, List.append_nil] at hrows
        exact q ys H' s2 (by rw [← hrows]; exact hy)
      | cons y ws =>
        obtain ⟨d, st⟩ := y
        obtain ⟨acc, c, x, e1, e2, e3, e4, e5, e6⟩ := hs.pop
        have ylen := hy.len
        rw [List.length_map] at ylen
        rw [stkSz_cons] at total
        have stp := st.sz_pos
        have wle := stk_le ws
        refine ⟨_, rfl, true, .inl ⟨_, SqL.of e1, ?_⟩, iteT ⟨fun ys' σ' H2 => ∃ m', m' < stkSz ((d, st) :: ws) ∧ ∃ (ws' : List (Int × St)) (dn : List Rw) (o3 o4 o5 o6 : Option V), σ' = [some (.ref a), some (.ref D), some (.int dn.length), o3, o4, o5, o6] ∧ Sx [] H H2 ∧ Stk H2 D ws' ∧ TpAll H2 ys' (dn.map rwD) ∧ dn ++ stkRws ws' dn.length = b.rws 0 0 ∧ m' = stkSz ws', fun _ _ _ z => z, ?_⟩⟩
        · cases acc with
          | nil => simp at e6
          | cons _ _ => rfl
        -- the top is taken
        refine ⟨_, rfl, .inl ⟨rfl, _, SqL.of e1⟩, D, _, _, rfl, rfl, e1, e2, ?_⟩
        have Dc : c ≠ D := fun z => by rw [z, e1] at e3; cases e3
        have k1 : Tk H' (upd H' D (.lst acc.dropLast)) := Tk.lst e1
        refine gh (H1 := upd H' D (.lst acc.dropLast)) (F := fun H2 => Sx [] H H2 ∧ Tk H' H2 ∧ Stk H2 D ws) ⟨s2.own hDn, k1, e5⟩ (fun H2 ⟨s3, k1, e5⟩ => ?_)
        refine ⟨c, _, rfl, SqT.of (k1 _ _ e3), rfl, _, _, rfl, gnm ⟨_, _, rfl, gnm ⟨rfl, ?_⟩⟩⟩
        -- it is handed out
        refine ⟨lt_line (by omega), _, rfl, _, rfl, _, rfl, by show 3 ≤ sizeLine; decide, fun u hu => ?_⟩
        have hy2 : TpAll (upd H2 u (.tup [.int dn.length, .int d, x])) (ys ++ [.ref u]) ((dn ++ [((dn.length : Int), d, st)]).map rwD) := by
          rw [List.map_append]
          exact ((hy.keep k1).new hu).append (.cons (.tup upd_same (.cons (.int _) (.cons (.int _) (.cons ((e4.keep k1).new hu) .nil)))) .nil)
        refine gh (H1 := upd H2 u _) (F := fun H3 => Sx [] H H3 ∧ Stk H3 D ws ∧ Tp H3 x st.d ∧ TpAll H3 (ys ++ [.ref u]) ((dn ++ [((dn.length : Int), d, st)]).map rwD)) ⟨s3.new hu, e5.keep (Sx.n0 hu), (e4.keep k1).new hu, hy2⟩ (fun H3 ⟨s4, e7, e8, hy3⟩ => ?_)
        -- what lies in it
        refine Exists.intro _ ⟨rfl, _, _, rfl, rfl, ?_⟩
        refine ⟨_, rfl, x, st, rfl, e8, fun H4 v4 s5 t4 => ?_⟩
        obtain ⟨a4, xs4, rfl, ha4, hx4⟩ := t4.tuple
        rw [st.parts_blks] at hx4
        obtain ⟨hl4, hg4⟩ := hx4.lst
        have okk : dn ++ [((dn.length : Int), d, st)] ++ stkRws (kidsOf st.blks (d + 1) ++ ws) (dn.length + 1) = b.rws 0 0 := by
          rw [← hrows, stk_append, kidsSz, List.append_assoc]
          show dn ++ ((↑dn.length, d, st) :: (stkRws (kidsOf st.blks (d + 1)) (↑dn.length + 1) ++ stkRws ws _)) = dn ++ (st.rws d dn.length ++ stkRws ws (dn.length + st.sz))
          rw [st.rws_kids, st.sz_blks, List.cons_append]
          congr 4
          omega
        have blk2 : st.blks.length ≤ 2 := by cases st <;> simp [St.blks]
        refine ⟨a4, xs4, rfl, SqT.of ha4, fun p4 hp4 => ⟨p4, rfl, ⟨_, SqT.of upd_same⟩, for_tup (xs := xs4.reverse)
          (fun i σ H5 => ∃ o5 o6, σ = [some (.ref a), some (.ref D), some (.int (dn.length + 1)), some (.int d), some x, o5, o6] ∧ Sx [] H H5 ∧ H5 p4 = some (.tup xs4.reverse) ∧ Tk H4 H5 ∧ Stk H5 D (kidsOf (st.blks.drop (st.blks.length - i)) (d + 1) ++ ws) ∧ TpAll H5 (ys ++ [.ref u]) ((dn ++ [((dn.length : Int), d, st)]).map rwD))
          ⟨_, _, rfl, (s4.trans s5).new hp4, upd_same, (Sx.n0 hp4).tk0, by rw [Nat.sub_zero, List.drop_length]; exact (e7.keep s5).keep (Sx.n0 hp4), (hy3.keep s5.tk0).new hp4⟩ (fun i σ H5 _ z => by obtain ⟨_, _, _, _, z, _⟩ := z; exact SqT.of z) (fun i y σ H5 hi z => ?_) (fun σ H5 z => ?_)⟩⟩
        · obtain ⟨o5, o6, rfl, s6, hp5, k5, hs5, hy5⟩ := z
          obtain ⟨hi1, hi2⟩ := rev_get hi
          rw [hl4] at hi1 hi2
          obtain ⟨bk, hbk, tbk⟩ := hg4 _ y hi2
          have hmem : bk ∈ st.blks := List.mem_of_getElem? hbk
          refine gnm ?_
          obtain ⟨a6, xs6, rfl, ha6, hx6⟩ := (tbk.keep k5).tuple
          rw [bk.ds_lst] at hx6
          obtain ⟨hl6, hg6⟩ := hx6.lst
          rw [drop_back hi1 hbk]
          have szb : bk.sz ≤ st.sz := by
            rw [st.sz_blks]
            have := sum_mem (List.mem_map_of_mem (f := Bk.sz) hmem)
            omega
          have bl := bk_le bk
          have kl : (kidsOf (st.blks.drop (st.blks.length - i)) (d + 1)).length + bk.sz ≤ st.sz := by
            have h1 := stk_le (kidsOf (st.blks.drop (st.blks.length - i)) (d + 1))
            have h2 : ∀ (l : List Bk) (n : Nat), ((l.drop n).map Bk.sz).sum ≤ (l.map Bk.sz).sum := fun l n => by
              have e := congrArg (fun l => (l.map Bk.sz).sum) (List.take_append_drop n l)
              simp only [List.map_append, List.sum_append] at e
              omega
            have h3 := h2 st.blks (st.blks.length - (i + 1))
            rw [drop_back hi1 hbk, List.map_cons, List.sum_cons] at h3
            rw [kidsSz] at h1
            rw [st.sz_blks]
            omega
          have total' : dn.length + (st.sz + stkSz ws) = b.sz := total
          refine ⟨_, rfl, a6, xs6, rfl, SqT.of ha6, fun p6 hp6 => ⟨p6, rfl, ⟨_, SqT.of upd_same⟩, for_tup (xs := xs6.reverse)
            (fun j σ H6 => ∃ o6, σ = [some (.ref a), some (.ref D), some (.int (dn.length + 1)), some (.int d), some x, some (.ref a6), o6] ∧ Sx [] H H6 ∧ H6 p4 = some (.tup xs4.reverse) ∧ H6 p6 = some (.tup xs6.reverse) ∧ Tk H5 H6 ∧ Stk H6 D ((bk.lst.drop (bk.lst.length - j)).map (fun s => (d + 1, s)) ++ (kidsOf (st.blks.drop (st.blks.length - i)) (d + 1) ++ ws)) ∧ TpAll H6 (ys ++ [.ref u]) ((dn ++ [((dn.length : Int), d, st)]).map rwD))
            ⟨_, rfl, s6.new hp6, Sx.n0 hp6 _ _ (by simp) hp5, upd_same, (Sx.n0 hp6).tk0, by rw [Nat.sub_zero, List.drop_length]; exact hs5.keep (Sx.n0 hp6), hy5.new hp6⟩ (fun j σ H6 _ z => by obtain ⟨_, _, _, _, z, _⟩ := z; exact SqT.of z) (fun j y2 σ H6 hj z => ?_) (fun σ H6 z => ?_)⟩⟩
          · obtain ⟨o6, rfl, s7, hp6a, hp6b, k6, hs6, hy6⟩ := z
            obtain ⟨hj1, hj2⟩ := rev_get hj
            rw [hl6] at hj1 hj2
            obtain ⟨st2, hst2, tst2⟩ := hg6 _ y2 hj2
            refine gnm ?_
            obtain ⟨L6, hL6, _⟩ := id hs6
            refine ⟨_, rfl, .inl ⟨rfl, _, SqL.of hL6⟩, _, rfl, d, 1, rfl, rfl, _, rfl, by show 2 ≤ sizeLine; decide, fun u2 hu2 => ?_⟩
            obtain ⟨acc2, g1, g2, g3⟩ := (hs6.keep (Sx.n0 hu2)).push (x := .ref u2) (y := (d + 1, st2)) (tpPair upd_same ((tst2.keep k6).new hu2))
            refine ⟨D, _, _, rfl, rfl, g1, lt_line (by rw [g2, List.length_append, List.length_map, List.length_drop, List.length_append]; omega), ?_⟩
            refine ⟨_, rfl, (s7.new hu2).own hDn, ?_, ?_, (k6.trans (Sx.n0 hu2).tk0).trans (Tk.lst g1), ?_, (hy6.new hu2).keep (Tk.lst g1)⟩
            · exact ((Sx.n0 hu2).tk0.trans (Tk.lst g1)) _ _ hp6a
            · exact ((Sx.n0 hu2).tk0.trans (Tk.lst g1)) _ _ hp6b
            · rw [drop_back hj1 hst2]; exact g3
          · obtain ⟨o6, rfl, s7, hp6a, hp6b, k6, hs6, hy6⟩ := z
            rw [List.length_reverse, hl6, Nat.sub_self, List.drop_zero] at hs6
            refine ⟨_, _, rfl, s7, hp6a, k5.trans k6, ?_, hy6⟩
            show Stk H6 D ((bk.stk (d + 1) ++ kidsOf (st.blks.drop (st.blks.length - i)) (d + 1)) ++ ws)
            rw [List.append_assoc]
            exact hs6
        · obtain ⟨o5, o6, rfl, s6, hp5, k5, hs5, hy5⟩ := z
          rw [List.length_reverse, hl4, Nat.sub_self, List.drop_zero] at hs5
          have e9 : ((dn ++ [((dn.length : Int), d, st)]).length : Int) = dn.length + 1 := by simp
          refine ⟨_, ?_, kidsOf st.blks (d + 1) ++ ws, dn ++ [((dn.length : Int), d, st)], _, _, _, _, by rw [e9], s6, hs5, hy5, by rw [e9]; exact okk, rfl⟩
          rw [stkSz_append, kidsSz, stkSz_cons, st.sz_blks]
          omega
theorem ok_pplaces {f fE : Addr} {fd fdE : FuncData} (F_pplaces_in : Fun K "places_in" "places_in" sPPlacesIn f fd) (F_peach_statement : Fun K "each_statement" "each_statement" sPEachStatement fE fdE) (G_peach_statement : GFn P w K mg base 2 fE fdE ["program"] spEach)
    (b_peach_statement : Binds K fdE ["program"] []) (m_peach_statement : mg "each_statement" = some (.ref fE)) (z_len : mg "len" = none) (z_list : mg "list" = none) : FnOk P w K mg base CX0 6 f fd ["block"] spPlaces := by
  refine F_pplaces_in.ok scPPlacesIn (fun vs H Q E h => ?_) (fun cdv A outer s H vs Q E hr h => ?_)
  · obtain ⟨_, _, rfl, _⟩ := h
    rfl
  · obtain ⟨v, b, rfl, t, hz, q⟩ := h
    have hr2 := hr.mono (show 2 ≤ 5 by omega)
    refine ⟨_, (pss_one (ps_ret (pe_callB call_len_seq (by rfl) z_len boot_len (pa_cons (pe_listG (pgen_call G_peach_statement hr2 (by rfl) m_peach_statement F_peach_statement.kp b_peach_statement .nil (pa_cons (pv 0) pa_nil)) passCX0 noStop0 hr (by rfl) z_list (by decide +kernel)) pa_nil)))), ?_⟩
    refine ⟨_, rfl, v, b, rfl, t, hz, fun ys H' s1 hy => fun p hp => ?_⟩
    refine ⟨p, _, rfl, .inl (SqL.of upd_same), ?_⟩
    rw [hy.len, List.length_map, Bk.rws_len]
    exact q _ (s1.new hp)
end

theorem Ex.isIntV {H : Hp} {v : V} {e : Ex} (t : Tp H v e.d) : GA.isIntV H v (match e with | .int _ => true | _ => false) := by
  cases e with
  | int i => exact .inl ⟨i, tpI t, rfl⟩
  | name z => exact .inr (.inl ⟨z, tpS t, rfl⟩)
  | plus x y => obtain ⟨a, p, q, r, rfl, ha, _⟩ := tp3 t; exact .inr (.inr ⟨a, _, rfl, ha, rfl⟩)
  | minus x y => obtain ⟨a, p, q, r, rfl, ha, _⟩ := tp3 t; exact .inr (.inr ⟨a, _, rfl, ha, rfl⟩)
  | times f x => obtain ⟨a, p, q, r, rfl, ha, _⟩ := tp3 t; exact .inr (.inr ⟨a, _, rfl, ha, rfl⟩)
theorem mod_is {x b r : Int} (h0 : 0 ≤ r) (h1 : r < b) : (x % b = r) ↔ ((x - r) % b = 0) := by
  constructor
  · intro h
    rw [Int.sub_emod, h, Int.emod_eq_of_lt h0 h1, Int.sub_self, Int.zero_emod]
  · intro h
    obtain ⟨k, hk⟩ := Int.dvd_of_emod_eq_zero h
    have e : x = r + b * k := by omega
    rw [e, Int.add_mul_emod_self_left, Int.emod_eq_of_lt h0 h1]
/-- places and statements of a block -/
def Bk.nums : Bk → Int → List (Int × St)
  | .nil, _ => []
  | .cons s b, p => (p, s) :: b.nums (p + s.sz)
def St.ent (ρ : Str → Int) : St → Int → List (Int × St)
  | .ite t y n, p => if t.ev ρ = true then y.nums (p + 1) else n.nums (p + 1 + y.sz)
  | .rep k y, p => (List.replicate k.toNat (y.nums (p + 1))).flatten
  | _, _ => []
def spNumbered : Sp := fun vs H Q _ => ∃ (v : V) (b : Bk) (p : Int), vs = [v, .int p] ∧ Tp H v (.tuple b.ds) ∧ b.sz < 16777216 ∧ ∀ H' l ys, Sx [] H H' → H l = none → H' l = some (.lst ys) → TpAll H' ys ((b.nums p).map prD) → Q (.ref l) H'
def spEntered (ns : List Str) : Sp := fun vs H Q _ => ∃ (v : V) (s : St) (p : Int) (N : Addr) (ρ : Str → Int) (d : Nat), vs = [v, .int p, .ref N] ∧ Tp H v s.d ∧ s.ok ns d ∧ s.sz < 16777216 ∧ s.wt ≤ 1000000 ∧ En H N ρ ∧ ((∃ t y n, s = .ite t y n) ∨ ∃ k y, s = .rep k y) ∧
  ∀ H' l ys, Sx [] H H' → H l = none → H' l = some (.lst ys) → TpAll H' ys ((s.ent ρ p).map prD) → Q (.ref l) H'
theorem nums_len : ∀ (b : Bk) (p : Int), (b.nums p).length = b.lst.length
  | .nil, _ => rfl
  | .cons s b, p => by
    show (b.nums (p + s.sz)).length + 1 = b.lst.length + 1
    rw [nums_len b]
theorem TpAll.flat {H : Hp} {ys : List V} {ds : List PyData} (h : TpAll H ys ds) : ∀ n : Nat, TpAll H (List.replicate n ys).flatten (List.replicate n ds).flatten
  | 0 => .nil
  | n + 1 => by
    simp only [List.replicate_succ, List.flatten_cons]
    exact h.append (TpAll.flat h n)
theorem map_flat {α β : Type} (f : α → β) (n : Nat) (l : List α) : (List.replicate n l).flatten.map f = (List.replicate n (l.map f)).flatten := by
  induction n with
  | zero => rfl
  | succ n ih => rw [List.replicate_succ, List.replicate_succ, List.flatten_cons, List.flatten_cons, List.map_append, ih]
theorem flat_len {α : Type} (n : Nat) (l : List α) : (List.replicate n l).flatten.length = n * l.length := by
  induction n with
  | zero => simp
  | succ n ih => rw [List.replicate_succ, List.flatten_cons, List.length_append, ih, Nat.succ_mul, Nat.add_comm]
mutual
theorem St.sz_wt {ns : List Str} : ∀ {s : St} {d : Nat}, s.ok ns d → s.sz ≤ s.wt
  | .set _ _, _, _ => Nat.le_refl _
  | .pay _, _, _ => Nat.le_refl _
  | .stop, _, _ => Nat.le_refl _
  | .ite t y n, d, ⟨h1, h2, h3⟩ => by
    have a := Bk.sz_wt h2
    have b := Bk.sz_wt h3
    simp only [St.sz, St.wt]
    omega
  | .rep k y, d, ⟨h1, h2, h3⟩ => by
    have a := Bk.sz_wt h3
    simp only [St.sz, St.wt]
    have := Nat.le_mul_of_pos_left y.wt (show 0 < k.toNat by omega)
    omega
theorem Bk.sz_wt {ns : List Str} : ∀ {b : Bk} {d : Nat}, b.ok ns d → b.sz ≤ b.wt
  | .nil, _, _ => Nat.le_refl _
  | .cons s b, d, ⟨h1, h2, h3⟩ => by
    have a := St.sz_wt h2
    have c := Bk.sz_wt h3
    simp only [Bk.sz, Bk.wt]
    omega
end
section
variable {w : World} {P : Program} {K : PySem.W.Frag} {mg : Str → Option Value} {base : Heap}
end
def spRunA : Sp := fun vs H Q E => ∃ ns, spRun ns vs H Q E
def spSignA : Sp := fun vs H Q _ => ∃ (ns : List Str) (v : V) (b : Bk) (x : Int), vs = [v, .int x] ∧ Tp H v (.tuple b.ds) ∧ b.ok ns 4 ∧ b.sz < 16777216 ∧ b.wt ≤ 1000000 ∧ ∀ H', Sx [] H H' → Q (.int (sgn (b.run 0 (Wd.at x)).1.tot)) H'
theorem FnOk.ex {P : Program} {w : World} {K : PySem.W.Frag} {mg : Str → Option Value} {base : Heap} {CX : CXT} {k : Nat} {f : Addr} {fd : FuncData} {ps : List Str} {ι : Type} {sp : ι → Sp} (F : ∀ i, FnOk P w K mg base CX k f fd ps (sp i)) :
    FnOk P w K mg base CX k f fd ps (fun vs H Q E => ∃ i, sp i vs H Q E) :=
  ⟨fun vs H Q E ⟨i, h⟩ => (F i).len vs H Q E h, fun A o s H ar us vs Q E hr e b r ⟨i, h⟩ => (F i).run A o s H ar us vs Q E hr e b r h⟩
/-! ### what is known to the object -/
def Fz (a : Addr) (o : Obj) : HO := .frz o (.ext fun h => h.get? a = some o)
def cut1 (H : Hp) (a : Addr) : Hp := fun b => if b = a then none else H b
theorem cut1_ne {H : Hp} {a b : Addr} (h : b ≠ a) : cut1 H a b = H b := if_neg h
theorem cut1_at {H : Hp} {a : Addr} : cut1 H a a = none := if_pos rfl
theorem cut1_some {H : Hp} {a b : Addr} {o : HO} (e : cut1 H a b = some o) : b ≠ a ∧ H b = some o := by
  by_cases h : b = a
  · rw [h, cut1_at] at e; cases e
  · rw [cut1_ne h] at e; exact ⟨h, e⟩
theorem cut_upd {H : Hp} {a : Addr} {o : HO} (n : H a = none) : cut1 (upd H a o) a = H := by
  funext b
  by_cases h : b = a
  · rw [h, cut1_at, n]
  · rw [cut1_ne h, upd_ne h]
theorem upd_cut {H : Hp} {a : Addr} {o : HO} (e : H a = some o) : upd (cut1 H a) a o = H := by
  funext b
  by_cases h : b = a
  · rw [h, upd_same, e]
  · rw [upd_ne h, cut1_ne h]
theorem Sx.cut {ex : List Addr} {H H' : Hp} {a : Addr} {o : HO} (s : Sx ex (upd H a o) H') (n : H a = none) : Sx ex H (cut1 H' a) := fun b u hb e => by
  have h := ne_of_none e n
  rw [cut1_ne h]
  exact s b u hb (by rw [upd_ne h]; exact e)
theorem Sx.add {ex : List Addr} {H H' : Hp} {a : Addr} {o : HO} (s : Sx ex (cut1 H a) H') (e : H a = some o) : Sx ex H (upd H' a o) := fun b u hb q => by
  by_cases h : b = a
  · rw [h, upd_same, ← e, ← h]; exact q
  · rw [upd_ne h]; exact s b u hb (by rw [cut1_ne h]; exact q)
theorem Tk.cut {H : Hp} {a : Addr} {o : Obj} {u : HO} (e : H a = some (.frz o u)) : Tk H (cut1 H a) := fun b xs q => by
  rw [cut1_ne (fun z => by rw [z, e] at q; cases q)]
  exact q
section
variable {w : World} {P : Program} {K : PySem.W.Frag} {mg : Str → Option Value} {base : Heap} {A : Around} {outer : List Env} {s s' : Shared} {H H' : Hp} {a : Addr} {o : Obj} {h : Heap}
theorem fz_ok (e : h.get? a = some o) : ObjOk P w H h a (Fz a o) := ⟨e, e, ⟨o, e⟩, fun _ _ p st => st _ p⟩
theorem fz_at (hok : HOk P w H h) (e : H a = some (Fz a o)) : h.get? a = some o := (hok a _ e).1
theorem HOk.cut {ob : Obj} {u : HO} (hok : HOk P w H h) (e : H a = some (.frz ob u)) : HOk P w (cut1 H a) h := fun b v q => by
  obtain ⟨_, q⟩ := cut1_some q
  refine (hok b v q).stay (fun c x _ y => y) (fun c y => ?_) fun c xs y => ?_
  · rw [cut1_ne (fun z => by rw [z, e] at y; cases y)]; exact y
  · rw [cut1_ne (fun z => by rw [z, e] at y; cases y)]; exact y
theorem HOk.add (hok : HOk P w H h) (n : H a = none) (e : h.get? a = some o) : HOk P w (upd H a (Fz a o)) h := fun b v q => by
  by_cases hb : b = a
  · rw [hb, upd_same] at q
    cases q
    rw [hb]
    exact fz_ok e
  · rw [upd_ne hb] at q
    exact (hok b v q).stay (fun c x _ y => y) (fun c y => by rw [upd_ne (ne_of_none y n)]; exact y) fun c xs y => by rw [upd_ne (ne_of_none y n)]; exact y
theorem Env0.cut (e0 : Env0 P w K mg base A outer s H) (e : H a = some (Fz a o)) : Env0 P w K mg base A outer s (cut1 H a) :=
  ⟨e0.frames, e0.mod, fun b u q => ⟨(e0.bs b u q).1, by rw [cut1]; split; rfl; exact (e0.bs b u q).2⟩, e0.bsz, e0.funs, fun b hb => by rw [cut1]; split; rfl; exact e0.frf b hb, HOk.cut e0.hok e, e0.bare⟩
theorem Env0.add (e0 : Env0 P w K mg base A outer s H) (n : H a = none) (e : s.heap.get? a = some o) (nf : a ∉ frs outer) (nb : base.objs.size ≤ a) : Env0 P w K mg base A outer s (upd H a (Fz a o)) :=
  ⟨e0.frames, e0.mod, fun b u q => ⟨(e0.bs b u q).1, by rw [upd_ne (fun z => Nat.lt_irrefl _ (Nat.lt_of_lt_of_le (Heap.lt_size q) (by rw [z]; exact nb)))]; exact (e0.bs b u q).2⟩, e0.bsz, e0.funs, fun b hb => by rw [upd_ne (fun z => nf (by rw [← z]; exact hb))]; exact e0.frf b hb, HOk.add e0.hok n e, e0.bare⟩
/-- the callee knew the object at a, the caller need not -/
theorem CE.cut {Q : VK} {u : Value} (n : H a = none) (e : s.heap.get? a = some o) (nf : a ∉ frs outer) (c : CE outer P w (upd H a (Fz a o)) s (fun v H2 => Q v (cut1 H2 a)) u s') : CE outer P w H s Q u s' := by
  obtain ⟨v, H2, os, bare, un, hok, r, q⟩ := c
  have f2 : H2 a = some (Fz a o) := un.frzs a o _ upd_same
  refine ⟨v, cut1 H2 a, os, bare, ⟨fun b ob y z hb hx => ?_, fun b ob y z hb hx => ?_, fun b ob y z hx => ?_, un.there, fun b xs y => ?_, fun b ob x y => ?_, fun b ps y => ?_⟩, HOk.cut hok f2, r, q⟩
  · by_cases hz : b = a
    · rw [hz] at y ⊢
      rw [e] at y
      cases y
      exact fz_at hok f2
    · exact un.keep b ob y (by rw [upd_ne hz]; exact z) hb hx
  · exact un.slot b ob y (by rw [upd_ne (fun z => nf (by rw [← z]; exact hb))]; exact z) hb hx
  · by_cases hz : b = a
    · rw [hz, cut1_at]
    · rw [cut1_ne hz]; exact un.free b ob y (by rw [upd_ne hz]; exact z) hx
  · have hz := ne_of_none y n; rw [cut1_ne hz]; exact un.tups b xs (by rw [upd_ne hz]; exact y)
  · have hz := ne_of_none y n; rw [cut1_ne hz]; exact un.frzs b ob x (by rw [upd_ne hz]; exact y)
  · have hz := ne_of_none y n
    obtain ⟨more, m⟩ := un.tbls b ps (by rw [upd_ne hz]; exact y)
    exact ⟨more, by rw [cut1_ne hz]; exact m⟩
/-- the caller knows the object at a, the callee need not -/
theorem CE.add {Q : VK} {u : Value} (e0 : Env0 P w K mg base A outer s H) (e : H a = some (Fz a o)) (c : CE outer P w (cut1 H a) s (fun v H2 => Q v (upd H2 a (Fz a o))) u s') : CE outer P w H s Q u s' := by
  obtain ⟨v, H2, os, bare, un, hok, r, q⟩ := c
  have ea := fz_at e0.hok e
  have nf : a ∉ frs outer := fun z => by have := e0.frf a z; rw [e] at this; cases this
  have ka := un.keep a o ea cut1_at nf (by simp)
  have na := un.free a o ea cut1_at (by simp)
  refine ⟨v, upd H2 a (Fz a o), os, bare, ⟨fun b ob y z hb hx => ?_, fun b ob y z hb hx => ?_, fun b ob y z hx => ?_, un.there, fun b xs y => ?_, fun b ob x y => ?_, fun b ps y => ?_⟩, HOk.add hok na ka, r, q⟩
  · exact un.keep b ob y (by rw [cut1]; split; rfl; exact z) hb hx
  · exact un.slot b ob y (by rw [cut1]; split; rfl; exact z) hb hx
  · have hz : b ≠ a := fun k => by rw [k, e] at z; cases z
    rw [upd_ne hz]
    exact un.free b ob y (by rw [cut1_ne hz]; exact z) hx
  · have hz : b ≠ a := fun k => by rw [k, e] at y; cases y
    rw [upd_ne hz]; exact un.tups b xs (by rw [cut1_ne hz]; exact y)
  · by_cases hz : b = a
    · rw [hz, e] at y
      rw [hz, upd_same]
      exact y
    · rw [upd_ne hz]; exact un.frzs b ob x (by rw [cut1_ne hz]; exact y)
  · have hz : b ≠ a := fun k => by rw [k, e] at y; cases y
    obtain ⟨more, m⟩ := un.tbls b ps (by rw [cut1_ne hz]; exact y)
    exact ⟨more, by rw [upd_ne hz]; exact m⟩
theorem CR.cut {Q : VK} {r : Result} (n : H a = none) (e : s.heap.get? a = some o) (nf : a ∉ frs outer) (c : CR CX0 outer P w (upd H a (Fz a o)) s (fun v H2 => Q v (cut1 H2 a)) E0 r s') : CR CX0 outer P w H s Q E0 r s' := by
  cases r with
  | error x => exact c
  | ok f => cases f with
    | ret u => exact CE.cut n e nf c
    | _ => exact c
theorem CR.add {Q : VK} {r : Result} (e0 : Env0 P w K mg base A outer s H) (e : H a = some (Fz a o)) (c : CR CX0 outer P w (cut1 H a) s (fun v H2 => Q v (upd H2 a (Fz a o))) E0 r s') : CR CX0 outer P w H s Q E0 r s' := by
  cases r with
  | error x => exact c
  | ok f => cases f with
    | ret u => exact CE.add e0 e c
    | _ => exact c
end
/-! ### a function that is handed on and called -/
/-- T: how the abstract heap tells the function at f -/
structure HeldL (P : Program) (w : World) (K : PySem.W.Frag) (mg : Str → Option Value) (base : Heap) (k : Nat) (T : Addr → Hp → Prop) (sp : Sp) : Prop where
  st : ∀ f H H', T f H → Sx [] H H' → T f H'
  fn : ∀ (f : Addr) (H : Hp) (h : Heap), T f H → HOk P w H h → PySem.W.FnAt f h
  run : ∀ (A : Around) (outer : List Env) (s : Shared) (H : Hp) (f : Addr) (us : List Value) (vs : List V) (Q : VK), Room k A → Env0 P w K mg base A outer s H → T f H → Vals vs us → sp vs H Q E0 →
    codeAny (model P w) A (.call (.ref f) ⟨us, []⟩) (CR CX0 outer P w H s Q E0) s
def tCallT (i : Nat) (T : Addr → Hp → Prop) (sp : Sp) (t : TA) : TE := fun σ H Q => ∃ f, σ[i]? = some (some (.ref f)) ∧ T f H ∧ t σ H fun vs H1 => T f H1 ∧ sp vs H1 Q E0
theorem pe_callT {X : Cx} {i k : Nat} {T : Addr → Hp → Prop} {sp : Sp} {t : TA} {x : Str} {e : Expr} {es : List Expr} {p pos : Pos} (hh : HeldL X.prog X.w X.K X.mg X.base k T sp) (hr : Room k X.A) (hN : X.N[i]? = some x) (hv : Vis X.env.scope x) (ha : PA X (e :: es) t)
    (hd : (x == ("__debug__" : Str)) = false := by decide) (hcd : (x == ("__classdict__" : Str)) = false := by decide) (he : starEach (e :: es) X.env = (false, eval e X.env) :: starEach es X.env := by rfl) (hpl : (backTo pos (starEach es X.env)).any (·.1) = false := by rfl) :
    PE X (.Call (.Name x p) (e :: es) [] pos) (tCallT i T sp t) := by
  refine ⟨fun pins s σ H Q I ⟨f, hs, hT, ht⟩ => ?_⟩
  refine wpAny_Call_Name_kw (thn ((pe_var (pos := p) hN hv hd hcd).run pins s σ H (fun v H1 => v = .ref f ∧ H1 = H) I ⟨.ref f, hs, rfl, rfl⟩) fun u s1 ⟨v, H1, I1, r1, ev, eH⟩ => ?_)
  subst ev; rw [eH] at I1
  have eqv : (u = Value.ref f) := r1; subst eqv
  refine PySem.W.callWith_F (first := []) (hh.fn f H s1.heap hT I1.hok) (thn (ha.run pos pins s1 σ H _ I1 ht) fun us s2 ⟨vs, H2, I2, r, h1, q⟩ => ⟨hh.fn f H2 s2.heap h1 I2.hok, ?_⟩) he hpl
  show (wpAny _ _ (call (.ref f) us) _ _ _)
  refine wpAny_call (codeAny_mono (hh.run X.A X.stack s2 H2 f us vs Q hr I2.env0 h1 r q) fun rs s' hq => ?_)
  match rs, hq with
  | .ok (.ret u), hq => exact I2.after hq
/-! ### a lambda's body -/
structure LF where
  qual : Str
  params : Arguments
  body : Expr
  scope : Scope
  cl : List (Str × Addr)
  c : Addr
abbrev LF.obj (F : LF) (pm ctv : Value) : Obj := PySem.W.kla_obj "<lambda>" F.qual F.params F.body F.scope F.cl pm F.c ctv
abbrev LF.nf (F : LF) : NdefX.NF := ⟨"<lambda>", F.qual, F.params, [], F.scope, F.cl, F.c⟩
open NdefX in
theorem lam_run {P : Program} {w : World} {K : PySem.W.Frag} {mg : Str → Option Value} {base : Heap} {N ps fr : List Str} {F : LF} {f : Addr} {A : Around} {outer : List Env} {s : Shared} {H : Hp} {us : List Value} {vs : List V} {ws : List (Option V)} {Q : VK} {tb : TE} {k : Nat} {pm ctv : Value}
    (S : NScope N ps fr F.scope) (hb : ∀ (us : List Value), us.length = ps.length → bindArgs (PySem.W.kla_fn "<lambda>" F.qual F.params F.body F.scope F.cl pm (.ref F.c) ctv) ⟨us, []⟩ = pure (ps.zip us))
    (hbody : Room k (A.deeper (envF F.nf f s.heap.objs.size)) → PE (ncx CX0 P w K mg base N F.nf f A outer s H E0).nox F.body tb) (hr : Room (k + 1) A) (e0 : Env0 P w K mg base A outer s H) (hf : s.heap.get? f = some (F.obj pm ctv)) (hc : s.heap.CodeRec (.ref F.c) F.qual)
    (C : CellsAt F.cl fr ws s.heap H) (r : Vals vs us) (hl : vs.length = ps.length) (q : tb (startF N vs ws) H Q) : codeAny (model P w) A (.call (.ref f) ⟨us, []⟩) (CR CX0 outer P w H s Q E0) s := by
  have lim : (s.heap.NoLimit) := e0.mod.nolimit.keeps fun b o e => (e0.bs b o e).1
  refine PySem.W.kla_callFunE hr.depth hf rfl S.co S.gen rfl hc ?_
  rw [hb us (by rw [← r.length]; exact hl)]
  refine (wpAny_pure (wpAny_newFunctionEnv S.nocell (fun ⟨n, _⟩ hy => S.par n (List.of_mem_zip hy).1) (fun h₁ hns hsb => ⟨lim.fresh _ hsb, ?_⟩) S.kind))
  show codeAny _ _ (.expr F.body (envF F.nf f s.heap.objs.size)) _ _
  have kp : (∀ b o, s.heap.get? b = some o → h₁.get? b = some o) := fun b o e => hsb.extBut b o (Nat.ne_of_lt (Heap.lt_size e)) (Heap.get?_push_of_some _ e)
  have I : Inv (ncx CX0 P w K mg base N F.nf f A outer s H E0) [] (startF N vs ws) H { s with heap := h₁, toks := s.toks + (ps.zip us).length } := inv_startN S hr.hd e0 hl r C hns kp
  refine PySem.W.kla_codeExpr (wpAny_mono ((hbody (hr.deeper _)).nox.run [] _ _ H Q I q) (fun v s' hq => ?_) fun e s' hq => hq)
  rcases hq with ⟨w', H', J', rv, q⟩
  exact (⟨w', H', J'.os, J'.bare, J'.base, J'.hok, rv, q⟩)
/-- no capture -/
def Tf0 (F : LF) (f : Addr) (H : Hp) : Prop := F.cl = [] ∧ (∃ pm ctv, H f = some (Fz f (F.obj pm ctv))) ∧ H F.c = some (LamX.CodeO F.c F.qual)
/-- one captured name y, its cell at cc holds v -/
def Tf1 (F : LF) (y : Str) (cc : Addr) (v : V) (f : Addr) (H : Hp) : Prop := F.cl = [(y, cc)] ∧ (∃ pm ctv, H f = some (Fz f (F.obj pm ctv))) ∧ H F.c = some (LamX.CodeO F.c F.qual) ∧ ∃ o u, H cc = some (Fz cc o) ∧ o.data = .cell (some u) ∧ RelV v u
section
variable {w : World} {P : Program} {K : PySem.W.Frag} {mg : Str → Option Value} {base : Heap}
open NdefX in
theorem held0 {F : LF} {N : List Str} {a : Str} {tb : TE} {k : Nat} {sp : Sp} (S : NScope N [a] [] F.scope) (hb : ∀ (pm ctv : Value) (us : List Value), us.length = 1 → bindArgs (PySem.W.kla_fn "<lambda>" F.qual F.params F.body F.scope [] pm (.ref F.c) ctv) ⟨us, []⟩ = pure ([a].zip us))
    (hbody : ∀ (f : Addr) (A : Around) (outer : List Env) (s : Shared) (H : Hp), F.cl = [] → Room k (A.deeper (envF F.nf f s.heap.objs.size)) → PE (ncx CX0 P w K mg base N F.nf f A outer s H E0).nox F.body tb)
    (len : ∀ vs H Q, sp vs H Q E0 → vs.length = 1) (hq : ∀ vs H Q, sp vs H Q E0 → tb (startF N vs []) H Q) : HeldL P w K mg base (k + 1) (Tf0 F) sp := by
  refine ⟨fun f H H' ⟨h0, ⟨pm, ctv, h1⟩, h2⟩ s => ⟨h0, ⟨pm, ctv, s _ _ (by simp) h1⟩, s _ _ (by simp) h2⟩, fun f H h ⟨h0, ⟨pm, ctv, h1⟩, h2⟩ hok => ⟨_, _, _, _, fz_at hok h1⟩, fun A outer s H f us vs Q hr e0 ⟨h0, ⟨pm, ctv, h1⟩, h2⟩ r q => ?_⟩
  refine lam_run (ws := []) S (fun us hl => ?_) (fun hr2 => hbody f A outer s H h0 hr2) hr e0 (fz_at e0.hok h1) (codeO_at e0.hok h2) ?_ r (len _ _ _ q) (hq _ _ _ q)
  · rw [h0]; exact hb pm ctv us hl
  · rw [h0]
    exact ⟨rfl, fun y c z => (by cases z), fun x y c z => (by cases z), fun i y z => (by simp at z)⟩
open NdefX in
theorem held1 {F : LF} {N : List Str} {a y : Str} {cc : Addr} {v : V} {tb : TE} {k : Nat} {sp : Sp} (S : NScope N [a] [y] F.scope) (hb : ∀ (pm ctv : Value) (us : List Value), us.length = 1 → bindArgs (PySem.W.kla_fn "<lambda>" F.qual F.params F.body F.scope [(y, cc)] pm (.ref F.c) ctv) ⟨us, []⟩ = pure ([a].zip us))
    (hbody : ∀ (f : Addr) (A : Around) (outer : List Env) (s : Shared) (H : Hp), F.cl = [(y, cc)] → Room k (A.deeper (envF F.nf f s.heap.objs.size)) → PE (ncx CX0 P w K mg base N F.nf f A outer s H E0).nox F.body tb)
    (len : ∀ vs H Q, sp vs H Q E0 → vs.length = 1) (hq : ∀ vs H Q (o : Obj), H cc = some (Fz cc o) → sp vs H Q E0 → tb (startF N vs [some v]) (cut1 H cc) (fun r H2 => Q r (upd H2 cc (Fz cc o)))) : HeldL P w K mg base (k + 1) (Tf1 F y cc v) sp := by
  refine ⟨fun f H H' ⟨h0, ⟨pm, ctv, h1⟩, h2, o, u, h3, h4⟩ s => ⟨h0, ⟨pm, ctv, s _ _ (by simp) h1⟩, s _ _ (by simp) h2, o, u, s _ _ (by simp) h3, h4⟩, fun f H h ⟨h0, ⟨pm, ctv, h1⟩, h2⟩ hok => ⟨_, _, _, _, fz_at hok h1⟩, fun A outer s H f us vs Q hr e0 ⟨h0, ⟨pm, ctv, h1⟩, h2, o, u, h3, h4, h5⟩ r q => ?_⟩
  have ef := fz_at e0.hok h1
  have ec := fz_at e0.hok h3
  refine codeAny_mono (lam_run (ws := [some v]) (Q := fun r H2 => Q r (upd H2 cc (Fz cc o))) (H := cut1 H cc) S (fun us hl => ?_) (fun hr2 => hbody f A outer s (cut1 H cc) h0 hr2) hr (Env0.cut e0 h3) ef (codeO_at e0.hok h2) ?_ r (len _ _ _ q) (hq _ _ _ o h3 q)) fun rs s' h => CR.add e0 h3 h
  · rw [h0]; exact hb pm ctv us hl
  · rw [h0]
    have look : ∀ {z : Str} {c : Addr}, ([(y, cc)] : List (Str × Addr)).lookup z = some c → z = y ∧ c = cc := fun {z c} h => by
      by_cases e : z = y
      · subst e
        simp [List.lookup] at h
        exact ⟨rfl, h.symm⟩
      · have e2 : (z == y) = false := beq_eq_false_iff_ne.mpr e
        simp [List.lookup, e2] at h
    refine ⟨rfl, fun z c h => ?_, fun x z c ha hb' => (look ha).1.trans (look hb').1.symm, fun i z hz => ?_⟩
    · obtain ⟨_, rfl⟩ := look h
      exact ⟨cut1_at, _, o, ec, h4⟩
    · cases i with
      | zero =>
        obtain rfl : y = z := Option.some.inj hz
        refine ⟨cc, by simp [List.lookup], fun v' hv => ?_⟩
        obtain rfl : v = v' := Option.some.inj (Option.some.inj hv)
        exact ⟨u, h5, o, ec, h4⟩
      | succ i => simp at hz
end
/-! ### a lambda is made -/
/-- tables: place, name of the code objects that they tell -/
def tLambda (T : List (Addr × Str)) (P : Addr) (F : Addr → LF) : TE := fun σ H Q => LamX.Tabs T H ∧ ∀ (f c' : Addr) (pm ctv : Value) (H2 : Hp), Sx [P] H H2 → LamX.Tabs T H2 → H f = none → H2 f = none → H2 c' = some (LamX.CodeO c' (F c').qual) → (∀ b, b ≠ c' → H b = none → H2 b = none) →
  Q (.ref f) (upd H2 f (Fz f ((F c').obj pm ctv)))
section
variable {X : Cx}
open LamX in
theorem pe_lambda {T : List (Addr × Str)} {c P : Addr} {params : Arguments} {body : Expr} {scope : Scope} {pos : Pos} {cl : List (Str × Addr)} (TB : TabB X.base X.mg c P) (hcode : X.env.code = .ref c)
    (hm : (P, X.env.qual ++ "<lambda>") ∈ T) (hu : ∀ p ∈ T, p.1 = P → p.2 = X.env.qual ++ "<lambda>") (hdef : defaultsOf params X.env = ([], [])) (hfree : X.Ok → ∀ y ∈ scope.names, y.2 = .free → ∃ c, X.env.cells.lookup y.1 = some c)
    (hcl : cloFrom X.env.cells scope.names [] = cl) : PE X (.Lambda params body scope pos) (tLambda T P fun c' => ⟨X.env.qual ++ "<lambda>", params, body, scope, cl, c'⟩) := by
  subst hcl
  refine ⟨fun pins s σ H Q I ⟨hT, h⟩ => ?_⟩
  rcases hT _ hm with ⟨ps, hP, ht, ha⟩
  have hP : H P = some (.tbl ps) := hP
  have hfree := hfree I.ok
  have bP : (s.heap.BuiltinsAt X.mg P) := TB.bm.keeps I.bk
  have hP' : (s.heap.get? P = some { cls := .none, data := .fields ps }) := I.hok P _ hP
  refine (PySem.W.kla_eval hdef ?_)
  cases hc : (codeAmong pos ps.toList) with
  | some cv =>
    obtain ⟨c', rfl, hco⟩ := ha pos cv hc
    refine (PySem.W.kla_makeFunctionHit (mg := X.mg) (c := c) (P := P) (ps := ps) (closure_ok hfree) I.ok.glob (I.mod.glob.keeps I.bk) hcode (TB.code.keeps I.bk) hP' ht hc bP fun ctv h' tk hx hsz => ?_)
    exact ⟨.ref _, _, I.laid (t' := tk) (fun b o e => Heap.get?_push_of_some _ (hx b o e)) hsz (fz_ok (Heap.get?_push_size _ rfl)), rfl, h h'.objs.size c' _ ctv H (Sx.refl _) hT (I.hok.fresh hsz) (I.hok.fresh hsz) hco fun _ _ n => n⟩
  | none =>
    refine (PySem.W.kla_makeFunction (mg := X.mg) (c := c) (P := P) (ps := ps) (closure_ok hfree) I.ok.glob (I.mod.glob.keeps I.bk) hcode (TB.code.keeps I.bk) hP' ht hc TB.gP bP fun c' ctv h' tk hx hge hlt hrec htb => ?_)
    rcases hrec with ⟨c2, oc, vs, t, e2, hoc, hd, hv⟩
    cases e2
    have nC : (H c' = none) := I.hok.fresh hge
    have hsz : (s.heap.objs.size ≤ h'.objs.size) := Nat.le_trans hge (Nat.le_of_lt hlt)
    have nPc : P ≠ c' := ne_of_none hP nC
    have I1 := inv_table (q := X.env.qual ++ "<lambda>") (t' := tk) (more := #[rawInt pos.line, rawInt pos.col, .ref c']) I hP hx htb hge ⟨oc, vs, t, hoc, hd, hv⟩
    have kH : ∀ b, b ≠ P → b ≠ c' → upd (upd H P (.tbl (ps ++ #[rawInt pos.line, rawInt pos.col, .ref c']))) c' (CodeO c' (X.env.qual ++ "<lambda>")) b = H b := fun b h1 h2 => by rw [upd_ne h2, upd_ne h1]
    have kC : ∀ b o, H b = some o → (∀ qs, o ≠ .tbl qs) → upd (upd H P (.tbl (ps ++ #[rawInt pos.line, rawInt pos.col, .ref c']))) c' (CodeO c' (X.env.qual ++ "<lambda>")) b = some o := fun b o e n => by
      rw [kH b (fun z => n ps (Option.some.inj (e.symm.trans (by rw [z]; exact hP)))) (ne_of_none e nC)]
      exact e
    have I2 := I1.laid (t' := tk) (h' := h'.push (PySem.W.kla_obj "<lambda>" (X.env.qual ++ "<lambda>") params body scope (cloFrom X.env.cells scope.names []) ((X.mg "__name__").getD .none) c' ctv)) (a := h'.objs.size) (o := Fz h'.objs.size (PySem.W.kla_obj "<lambda>" (X.env.qual ++ "<lambda>") params body scope (cloFrom X.env.cells scope.names []) ((X.mg "__name__").getD .none) c' ctv))
      (fun b o e => Heap.get?_push_of_some _ e) (Nat.le_refl _) (fz_ok (Heap.get?_push_size _ rfl))
    refine ⟨.ref _, _, I2, rfl, h h'.objs.size c' _ ctv _ (fun b o hb e => by rw [kH b (by simpa using hb) (ne_of_none e nC)]; exact e) (fun p hp => ?_) (I.hok.fresh hsz) ?_ upd_same fun b hb n => ?_⟩
    · by_cases hb : p.1 = P
      · rw [hu p hp hb, hb]
        have eL : ((ps ++ #[rawInt pos.line, rawInt pos.col, .ref c']).toList = ps.toList ++ [rawInt pos.line, rawInt pos.col, .ref c']) := by simp
        refine ⟨_, by rw [upd_ne nPc, upd_same], by rw [eL]; exact PySem.TriplesOk_snoc _ _ _ _ ht, fun p' cv hcv => ?_⟩
        rw [eL] at hcv
        obtain z | z := among_app _ ht hcv
        · rcases ha p' cv z with ⟨c0, e1, e2⟩
          exact ⟨c0, e1, kC _ _ e2 codeO_ne⟩
        · exact ⟨c', z, upd_same⟩
      · obtain ⟨qs, a1, a2, a3⟩ := hT p hp
        refine ⟨qs, by rw [kH _ hb (ne_of_none a1 nC)]; exact a1, a2, fun p' cv hcv => ?_⟩
        rcases a3 p' cv hcv with ⟨c0, e1, e2⟩
        exact ⟨c0, e1, kC _ _ e2 codeO_ne⟩
    · rw [kH _ (Nat.ne_of_gt (Nat.lt_of_lt_of_le (Heap.lt_size hP') hsz)) (Nat.ne_of_gt hlt)]
      exact I.hok.fresh hsz
    · rw [kH b (fun z => by rw [z, hP] at n; cases n) hb]
      exact n
/-- a call while a cell of the caller's (the name y in slot j) is told to the callee -/
def tCallC (X : Cx) (y : Str) (j : Nat) (sp : Sp) (t : TA) : TE := fun σ H Q => t σ H fun vs H1 => ∃ v, σ[j]? = some (some v) ∧ ∀ (cc : Addr) (oc : Obj) (u : Value), X.env.cells.lookup y = some cc → H1 cc = none → oc.data = .cell (some u) → RelV v u →
  sp vs (upd H1 cc (Fz cc oc)) (fun r H3 => Q r (cut1 H3 cc)) E0
theorem pe_callC {x y : Str} {p pos : Pos} {e : Expr} {es : List Expr} {t : TA} {k j : Nat} {f : Addr} {fd : FuncData} {ps : List Str} {sp : Sp} (F : FnOk X.prog X.w X.K X.mg X.base CX0 k f fd ps sp) (hr : Room k X.A) (hg : Gl X x) (hm : X.mg x = some (.ref f)) (hk : PySem.W.keepIn X.K (.ref f) = true)
    (hb : Binds X.K fd ps []) (ha : PA X (e :: es) t) (hN : X.N[j]? = some y) (hy : X.env.scope.names.lookup y = some .cell) (hfn : X.fn y = true) (hdb : (x == ("__debug__" : Str)) = false := by decide) (he : starEach (e :: es) X.env = (false, eval e X.env) :: starEach es X.env := by rfl) (hpl : (backTo pos (starEach es X.env)).any (·.1) = false := by rfl) :
    PE X (.Call (.Name x p) (e :: es) [] pos) (tCallC X y j sp t) := by
  refine ⟨fun pins s σ H Q I h => wpAny_Call_Name_kw (ld_glob I hg hm ?_ hdb)⟩
  refine PySem.W.callWith_K (h₀ := X.base) I.ok.mod.kin hk (thn (ha.run pos pins s σ H _ I h) fun us s1 ⟨vs, H1, I1, r, v, hv, q⟩ => ⟨I1.kIn, ?_⟩) he hpl
  obtain ⟨cc, hcc⟩ := I1.ok.has y (.inl hy)
  obtain ⟨m, hn, hl⟩ := I1.loc
  obtain ⟨u, ru, l⟩ := hl j y v hN hv (.inr (.inl hy))
  have ⟨oc, ho, hd⟩ : s1.heap.IsCell cc (some u) := by
    rcases l with ⟨z, _⟩ | ⟨_, c2, hc2, z⟩
    · have z' : (X.env.scope.names.lookup y = some .local) := z
      rw [hy] at z'; cases z'
    · rw [hcc] at hc2; cases hc2; exact z
  have nc : H1 cc = none := I1.freeC y cc hcc
  have above : X.s_0.heap.objs.size ≤ cc := I1.ok.cab y cc hfn hcc
  have nf : cc ∉ frs X.stack := fun hb => by
    rcases List.mem_cons.1 (I1.stkSub cc hb) with z | z
    · obtain ⟨ob, es', ep, ho2, hd2, _⟩ := hn
      rw [z, ho2] at ho
      cases ho
      rw [hd2] at hd; cases hd
    · obtain ⟨_, ob, ho2, _⟩ := I1.ok.funs.mem z
      exact Nat.lt_irrefl _ (Nat.lt_of_lt_of_le (Heap.lt_size ho2) above)
  have q := q cc oc u hcc nc hd ru
  have ll : (us ++ []).length = ps.length := by rw [List.append_nil, ← r.length]; exact F.len _ _ _ _ q
  have z := hb s1 us I1.kIn ll
  rw [List.append_nil] at z
  refine wpAny_call (codeAny_mono (F.run X.A X.stack s1 _ ⟨us, []⟩ us vs _ E0 hr (Env0.add I1.env0 nc ho nf (Nat.le_trans I1.ok.bsz above)) z r q) fun rs s' hq => ?_)
  match rs, CR.cut nc ho nf hq with
  | .ok (.ret u'), hq => exact I1.after hq
end
abbrev sPBareTest : Stmt := topS 24
abbrev nPBareTest : List Str := ["test"]
theorem scPBareTest : FnScope nPBareTest ["test"] (defScope sPBareTest) := ⟨rfl, rfl, rfl, by decide +kernel, rfl, by decide +kernel, by decide +kernel⟩
abbrev sPTestsWith : Stmt := topS 33
abbrev nPTestsWith : List Str := ["statement", "word"]
theorem scPTestsWith : FnScope nPTestsWith ["statement", "word"] (defScope sPTestsWith) := ⟨rfl, rfl, rfl, by decide +kernel, rfl, by decide +kernel, by decide +kernel⟩
abbrev sPSumOver : Stmt := topS 34
abbrev nPSumOver : List Str := ["block", "own", "total", "statement", "inner", "times", "part"]
theorem scPSumOver : FnScope nPSumOver ["block", "own"] (defScope sPSumOver) := ⟨rfl, rfl, rfl, by decide +kernel, rfl, by decide +kernel, by decide +kernel⟩
/-! ### sums over statements -/
def Ts.bare : Ts → Ts
  | .not t => t.bare
  | t => t
def Ts.hd : Ts → Str
  | .rest _ _ _ => "rest"
  | .less _ _ => "less"
  | .not _ => "not"
theorem Ts.at_ {H : Hp} {x : V} {t : Ts} (h : Tp H x t.d) : ∃ a xs, x = .ref a ∧ H a = some (.tup (.str t.hd :: xs)) := by
  have e : ∃ ds, t.d = .tuple (.str t.hd :: ds) := by cases t <;> exact ⟨_, rfl⟩
  obtain ⟨ds, e⟩ := e
  rw [e] at h
  obtain ⟨a, xs, rfl, ha, hx⟩ := h.tuple
  cases hx with
  | cons h hs =>
    obtain rfl := tpS h
    exact ⟨a, _, rfl, ha⟩
def Ts.nots : Ts → Nat
  | .not t => t.nots + 1
  | _ => 0
/-- whether it has a test with this word -/
def St.tw (z : Str) : St → Bool
  | .ite t _ _ => decide (V.str t.bare.hd = V.str z)
  | _ => false
mutual
def St.sumO (own : St → Int) : St → Int
  | .ite t y n => own (.ite t y n) + (y.sumO own + n.sumO own)
  | .rep k y => own (.rep k y) + k * y.sumO own
  | s => own s
def Bk.sumO (own : St → Int) : Bk → Int
  | .nil => 0
  | .cons s b => s.sumO own + b.sumO own
end
def St.times : St → Int
  | .rep k _ => k
  | _ => 1
theorem St.sumO_eq (own : St → Int) (s : St) : s.sumO own = own s + s.times * (s.blks.map fun b => b.sumO own).sum := by
  cases s with
  | ite t y n => simp [St.sumO, St.times, St.blks]
  | rep k y => simp [St.sumO, St.times, St.blks]
  | set z e => simp [St.sumO, St.times, St.blks]
  | pay e => simp [St.sumO, St.times, St.blks]
  | stop => simp [St.sumO, St.times, St.blks]
theorem Bk.sumO_lst (own : St → Int) : ∀ b : Bk, b.sumO own = (b.lst.map fun s => s.sumO own).sum
  | .nil => rfl
  | .cons s b => by rw [Bk.sumO, Bk.lst, List.map_cons, List.sum_cons, Bk.sumO_lst own b]
/-- the factors are small, blocks lie at most so deep -/
def Bk.fac (b : Bk) : Nat → Prop
  | 0 => False
  | d + 1 => b.lst.length < 16777216 ∧ ∀ s ∈ b.lst, -1000000 ≤ s.times ∧ s.times ≤ 1000000 ∧ ∀ y ∈ s.blks, y.fac d
theorem sne {x y : Str} (h : (x == y) = false) : ¬ (decide (V.str x = V.str y) = true) := fun z => by
  have e := V.str.inj (of_decide_eq_true z)
  rw [e] at h
  simp at h
def spBare : Sp := fun vs H Q _ => ∃ (v : V) (t : Ts), vs = [v] ∧ Tp H v t.d ∧ ∀ v', Tp H v' t.bare.d → Q v' H
def spTestsWith : Sp := fun vs H Q _ => ∃ (v : V) (s : St) (z : Str), vs = [v, .str z] ∧ Tp H v s.d ∧ Q (.bl (s.tw z)) H
def spOwn (own : St → Int) : Sp := fun vs H Q _ => ∃ (v : V) (s : St), vs = [v] ∧ Tp H v s.d ∧ ∀ H', Sx [] H H' → Q (.int (own s)) H'
def spSum (T : Addr → Hp → Prop) (own : St → Int) (d : Nat) : Sp := fun vs H Q _ => ∃ (v : V) (b : Bk) (f : Addr), vs = [v, .ref f] ∧ Tp H v (.tuple b.ds) ∧ T f H ∧ b.fac d ∧ ∀ H', Sx [] H H' → Q (.int (b.sumO own)) H'
section
variable {w : World} {P : Program} {K : PySem.W.Frag} {mg : Str → Option Value} {base : Heap}
theorem ok_pbare {f : Addr} {fd : FuncData} {k : Nat} (F_pbare_test : Fun K "bare_test" "bare_test" sPBareTest f fd) : FnOk P w K mg base CX0 (k + 1) f fd ["test"] spBare := by
  refine F_pbare_test.ok scPBareTest (fun vs H Q E h => ?_) (fun cdv A outer s H vs Q E hr h => ?_)
  · obtain ⟨_, _, rfl, _⟩ := h
    rfl
  · obtain ⟨v, t, rfl, tt, q⟩ := h
    refine ⟨_, (C8.pss_cut (ps_while PassesOwn.never (pt_cmpR op_eq (pe_ix ix_tup (pv 0) pe_int (fun _ _ => rfl)) pe_str (nomark _)) (pss_one (ps_set (i := 0) scPBareTest.nd rfl (by first | exact Or.inl rfl | exact Or.inr rfl) (pe_ix ix_tup (pv 0) pe_int (fun _ _ => rfl)))))
      (pss_one (ps_ret (pv 0)))), ?_⟩
    refine ⟨fun σ H' => ∃ v', σ = [some v'] ∧ H' = H ∧ Tp H v' t.bare.d, ?_, ?_⟩
    · refine ⟨fun m σ H' => ∃ (v' : V) (t' : Ts), σ = [some v'] ∧ H' = H ∧ Tp H v' t'.d ∧ t'.bare = t.bare ∧ m = t'.nots, ⟨_, v, t, rfl, rfl, tt, rfl, rfl⟩, ?_⟩
      rintro m σ H' ⟨v', t', rfl, rfl, tt', hb, rfl⟩
      obtain ⟨a, xs, rfl, ha⟩ := Ts.at_ tt'
      refine ⟨_, rfl, a, _, _, .str t'.hd, rfl, rfl, SqT.of ha, at0 _ _, rfl, _, rfl, ?_⟩
      cases t' with
      | not u =>
        obtain ⟨a2, p1, p2, ea, hA, t1, t2⟩ := tp2 tt'
        cases ea
        refine iteP (by simp only [Ts.hd]; decide +kernel) ⟨fun σ H2 => σ = [some p2] ∧ H2 = H', fun σ H2 z => ⟨u.nots, Nat.lt_succ_self _, p2, u, z.1, z.2, t2, hb, rfl⟩, ?_⟩
        exact ⟨_, rfl, a, _, _, p2, rfl, rfl, SqT.of hA, rfl, rfl, rfl⟩
      | rest x b r => exact iteN (sne (show (("rest" : Str) == "not") = false by decide +kernel)) ⟨_, rfl, rfl, by rw [← hb]; exact tt'⟩
      | less x y => exact iteN (sne (show (("less" : Str) == "not") = false by decide +kernel)) ⟨_, rfl, rfl, by rw [← hb]; exact tt'⟩
    · rintro _ H' ⟨v', rfl, rfl, t'⟩
      exact ⟨_, rfl, q v' t'⟩
theorem ok_ptests {f fB : Addr} {fd fdB : FuncData} {k : Nat} (F_ptests_with : Fun K "tests_with" "tests_with" sPTestsWith f fd) (F_pbare_test : Fun K "bare_test" "bare_test" sPBareTest fB fdB) (G_pbare_test : FnOk P w K mg base CX0 1 fB fdB ["test"] spBare)
    (b_pbare_test : Binds K fdB ["test"] []) (m_pbare_test : mg "bare_test" = some (.ref fB)) : FnOk P w K mg base CX0 (k + 2) f fd ["statement", "word"] spTestsWith := by
  refine F_ptests_with.ok scPTestsWith (fun vs H Q E h => ?_) (fun cdv A outer s H vs Q E hr h => ?_)
  · obtain ⟨_, _, _, rfl, _⟩ := h
    rfl
  · obtain ⟨v, s, z, rfl, t, q⟩ := h
    refine ⟨_, (pss_one (ps_ret (pe_and (pe_cmpR op_eq (pe_ix ix_tup (pv 0) pe_int (fun _ _ => rfl)) pe_str (nomark _)) (pe_one (pe_cmpR op_eq (pe_ix ix_tup (pe_call G_pbare_test (hr.mono (by omega)) (by rfl) m_pbare_test F_pbare_test.kp b_pbare_test .nil pass0 (pa_cons (pe_ix ix_tup (pv 0) pe_int (fun _ _ => rfl)) pa_nil)) pe_int (fun _ _ => rfl)) (pv 1) (nomark _)))))), ?_⟩
    obtain ⟨a, xs, rfl, ha⟩ := St.at_ t
    refine ⟨_, rfl, a, _, _, .str s.hd, rfl, rfl, SqT.of ha, at0 _ _, rfl, _, rfl, ?_⟩
    cases s with
    | ite ts y n =>
      obtain ⟨a2, p1, p2, p3, p4, ea, hA, t1, t2, t3, t4⟩ := tp4 t
      cases ea
      refine iteP (by simp only [St.hd]; decide +kernel) ?_
      refine ⟨_, rfl, a, _, _, p2, rfl, rfl, SqT.of hA, rfl, p2, ts, rfl, t2, fun v' t' => ?_⟩
      obtain ⟨a3, xs3, rfl, ha3⟩ := Ts.at_ t'
      exact ⟨a3, _, _, .str ts.bare.hd, rfl, rfl, SqT.of ha3, at0 _ _, _, rfl, rfl, q⟩
    | set z e => exact iteN (sne (show (("set" : Str) == "if") = false by decide +kernel)) q
    | pay e => exact iteN (sne (show (("pay" : Str) == "if") = false by decide +kernel)) q
    | stop => exact iteN (sne (show (("stop" : Str) == "if") = false by decide +kernel)) q
    | rep k y => exact iteN (sne (show (("repeat" : Str) == "if") = false by decide +kernel)) q
theorem ok_psum {f fB : Addr} {fd fdB : FuncData} {T : Addr → Hp → Prop} {own : St → Int} (F_psum_over : Fun K "sum_over" "sum_over" sPSumOver f fd) (F_pblocks_of : Fun K "blocks_of" "blocks_of" sPBlocksOf fB fdB) (G_pblocks_of : FnOk P w K mg base CX0 1 fB fdB ["statement"] spBlocks)
    (b_psum_over : Binds K fd ["block", "own"] []) (b_pblocks_of : Binds K fdB ["statement"] []) (m_psum_over : mg "sum_over" = some (.ref f)) (m_pblocks_of : mg "blocks_of" = some (.ref fB)) (z_sum : mg "sum" = none) (hh_own : HeldL P w K mg base 4 T (spOwn own)) :
    ∀ d : Nat, FnOk P w K mg base CX0 (d + 5) f fd ["block", "own"] (spSum T own d) := by
  intro d
  induction d with
  | zero => exact ⟨fun vs H Q E h => by obtain ⟨_, _, _, rfl, _⟩ := h; rfl, fun _ _ _ _ _ _ _ _ _ _ _ _ _ h => by
      obtain ⟨_, _, _, _, _, _, h, _⟩ := h
      exact h.elim⟩
  | succ d G_psum_over =>
    refine F_psum_over.ok scPSumOver (fun vs H Q E h => ?_) (fun cdv A outer s H vs Q E hr h => ?_)
    · obtain ⟨_, _, _, rfl, _⟩ := h
      rfl
    · obtain ⟨v, b, f0, rfl, t, hT, ⟨hlen, hf⟩, q⟩ := h
      refine ⟨_, (pss_cons (ps_set (i := 2) scPSumOver.nd rfl (by first | exact Or.inl rfl | exact Or.inr rfl) pe_int)
      (C8.pss_cut (ps_for PassesOwn.never rfl (pi_tup (pv 0)) (pg_name (i := 3) scPSumOver.nd rfl (by first | exact Or.inl rfl | exact Or.inr rfl)) (pss_cons (ps_set (i := 4) scPSumOver.nd rfl (by first | exact Or.inl rfl | exact Or.inr rfl) (pe_callB (cr_sum rfl) (by rfl) z_sum boot_sum (pa_cons (pe_lc (own := [("part", 6)]) (g := gName 6) (tt := tYes) rfl scPSumOver.nd (pi_tup (pe_call G_pblocks_of (hr.mono (by omega)) (by rfl) m_pblocks_of F_pblocks_of.kp b_pblocks_of .nil pass0 (pa_cons (pv 3) pa_nil))) (blkOk_by (N := nPSumOver) (sc := defScope sPSumOver) (by decide +kernel)) (fun _ _ _ _ _ => (pg_name (i := 6) scPSumOver.nd rfl (by first | exact Or.inl rfl | exact Or.inr rfl))) (fun _ _ _ _ _ => pts_nil) (fun _ _ _ _ _ => (pe_call G_psum_over (hr.mono (by omega)) (by rfl) m_psum_over F_psum_over.kp b_psum_over .nil pass0 (pa_cons (pv 6) (pa_cons (pv 1) pa_nil))))) pa_nil)))
      (C8.pss_cut (ps_set (i := 5) scPSumOver.nd rfl (by first | exact Or.inl rfl | exact Or.inr rfl) (pe_ifExp (pt_cmpR op_eq (pe_ix ix_tup (pv 3) pe_int (fun _ _ => rfl)) pe_str (nomark _)) (pe_ix ix_tup (pv 3) pe_int (fun _ _ => rfl)) pe_int))
      (pss_one (ps_aug (i := 2) scPSumOver.nd rfl (.inl rfl) (pe_op op_add (pe_callT (i := 1) hh_own (hr.mono (by omega)) rfl (by first | exact .inl rfl | exact .inr (.inl rfl)) (pa_cons (pv 3) pa_nil)) (pe_op op_mul (pv 5) (pv 4))) ip_add)))))
      (pss_one (ps_ret (pv 2))))), ?_⟩
      obtain ⟨a, xs, rfl, ha, hx⟩ := t.tuple
      rw [b.ds_lst] at hx
      obtain ⟨hl, hg⟩ := hx.lst
      refine ⟨fun σ H1 => ∃ o3 o4 o5 o6, σ = [some (.ref a), some (.ref f0), some (.int (b.sumO own)), o3, o4, o5, o6] ∧ Sx [] H H1, ?_, ?_⟩
      · refine ⟨_, rfl, a, rfl, ⟨_, SqT.of ha⟩, for_tup (xs := xs)
          (fun i σ H1 => ∃ o3 o4 o5 o6, σ = [some (.ref a), some (.ref f0), some (.int ((b.lst.take i).map fun s => s.sumO own).sum), o3, o4, o5, o6] ∧ Sx [] H H1)
          ⟨_, _, _, _, rfl, Sx.refl _⟩ (fun i σ H1 _ z => by obtain ⟨_, _, _, _, _, z⟩ := z; exact SqT.of (z _ _ (by simp) ha)) (fun i x σ H1 hi z => ?_) (fun σ H1 z => ?_)⟩
        · obtain ⟨o3, o4, o5, o6, rfl, s1⟩ := z
          obtain ⟨st, hst, tst⟩ := hg i x hi
          have hmem : st ∈ b.lst := List.mem_of_getElem? hst
          obtain ⟨f1, f2, f3⟩ := hf st hmem
          have t1 := tst.keep s1.tk0
          refine gnm ?_
          refine ⟨_, rfl, x, st, rfl, t1, fun H2 v2 s2 t2 => ?_⟩
          obtain ⟨a2, ys, rfl, ha2, hy⟩ := t2.tuple
          rw [st.parts_blks] at hy
          obtain ⟨hl2, hg2⟩ := hy.lst
          have hT1 : T f0 H1 := hh_own.st _ _ _ hT s1
          refine ⟨a2, rfl, ⟨_, SqT.of ha2⟩, fun D hD => lc_tup (xs := ys)
            (fun j H3 => Sx [] H2 H3 ∧ H3 D = some (.lst (((st.blks.map fun b => b.sumO own).take j).map V.int))) ⟨Sx.n0 hD, upd_same⟩ (fun i H3 _ p => SqT.of (p.1 _ _ (by simp) ha2)) (fun j y H3 hj p => ?_) (fun H3 p => ?_)⟩
          · obtain ⟨p3, p4⟩ := p
            obtain ⟨b2, hb2, tb2⟩ := hg2 j y hj
            refine ⟨rfl, ?_⟩
            refine ⟨_, rfl, _, rfl, y, b2, f0, rfl, tb2.keep p3.tk0, hh_own.st _ _ _ hT1 (s2.trans p3), f3 b2 (List.mem_of_getElem? hb2), fun H4 s4 => ?_⟩
            have blk2 : st.blks.length ≤ 2 := by cases st <;> simp [St.blks]
            refine ⟨_, s4 _ _ (by simp) p4, lt_line (by rw [List.length_map, List.length_take, List.length_map]; omega), ?_, ?_⟩
            · exact (p3.trans s4).own hD
            · rw [upd_same, List.take_add_one, List.getElem?_map, hb2]
              simp
          · obtain ⟨p3, p4⟩ := p
            rw [hl2, List.take_of_length_le (by rw [List.length_map]; exact Nat.le_refl _)] at p4
            refine ⟨D, _, rfl, SqL.of p4, ?_⟩
            have s3 : Sx [] H H3 := (s1.trans s2).trans p3
            have t3 := tst.keep s3.tk0
            refine ⟨fun σ H4 => ∃ o6, σ = [some (.ref a), some (.ref f0), some (.int ((b.lst.take i).map fun s => s.sumO own).sum), some x, some (.int (st.blks.map fun b => b.sumO own).sum), some (.int st.times), o6] ∧ H4 = H3, ?_, ?_⟩
            · obtain ⟨ax, xs', rfl, hax⟩ := St.at_ t3
              refine ⟨_, rfl, ax, _, _, .str st.hd, rfl, rfl, SqT.of hax, at0 _ _, rfl, _, rfl, ?_⟩
              cases st with
              | rep k y =>
                obtain ⟨a', p1, p2, p3', ea, hA, q1, q2, q3⟩ := tp3 t3
                cases ea
                obtain rfl := tpI q2
                exact iteP (by simp only [St.hd]; decide +kernel) ⟨_, rfl, ax, _, _, _, rfl, rfl, SqT.of hA, rfl, _, rfl, rfl⟩
              | set z e => exact iteN (sne (show (("set" : Str) == "repeat") = false by decide +kernel)) ⟨_, rfl, rfl⟩
              | pay e => exact iteN (sne (show (("pay" : Str) == "repeat") = false by decide +kernel)) ⟨_, rfl, rfl⟩
              | stop => exact iteN (sne (show (("stop" : Str) == "repeat") = false by decide +kernel)) ⟨_, rfl, rfl⟩
              | ite ts y n => exact iteN (sne (show (("if" : Str) == "repeat") = false by decide +kernel)) ⟨_, rfl, rfl⟩
            · rintro _ _ ⟨o6, rfl, rfl⟩
              refine ⟨_, rfl, f0, rfl, hh_own.st _ _ _ hT s3, _, rfl, hh_own.st _ _ _ hT s3, x, st, rfl, t3, fun H5 s5 => ?_⟩
              refine ⟨_, rfl, _, rfl, _, _, rfl, rfl, .inl ⟨by omega, by omega⟩, ?_⟩
              refine ⟨_, _, rfl, rfl, _, _, rfl, rfl, ?_⟩
              have e : ((b.lst.take (i + 1)).map fun s => s.sumO own).sum = ((b.lst.take i).map fun s => s.sumO own).sum + (own st + st.times * (st.blks.map fun b => b.sumO own).sum) := by
                rw [List.take_add_one, hst, List.map_append, List.sum_append, ← St.sumO_eq]
                simp
              exact ⟨some x, some (.int (st.blks.map fun b => b.sumO own).sum), some (.int st.times), o6, by rw [e]; rfl, s3.trans s5⟩
        · obtain ⟨o3, o4, o5, o6, rfl, s1⟩ := z
          exact ⟨o3, o4, o5, o6, by rw [hl, List.take_length, ← Bk.sumO_lst], s1⟩
      · rintro _ H1 ⟨o3, o4, o5, o6, rfl, s1⟩
        exact ⟨_, rfl, q _ s1⟩
end
abbrev sPWeight : Stmt := topS 31
abbrev nPWeight : List Str := ["program"]
theorem scPWeight : FnScope nPWeight ["program"] (defScope sPWeight) := ⟨rfl, rfl, rfl, by decide +kernel, rfl, by decide +kernel, by decide +kernel⟩
abbrev sPTestedIn : Stmt := topS 32
abbrev nPTestedIn : List Str := ["block", "word"]
theorem scPTestedIn : FnScope nPTestedIn ["block", "word"] (defScope sPTestedIn) := ⟨rfl, rfl, rfl, by decide +kernel, rfl, by decide +kernel, by decide +kernel⟩
/-- the lambda at the end of a call that a def returns -/
def lamOf (st : Stmt) : Arguments × Expr × Scope := match defBody st with
  | [.Return (some (.Call _ [_, .Lambda p b s _] _ _)) _] => (p, b, s)
  | _ => (defArgs st, .Constant .none 0 ⟨0, 0, 0, 0⟩, defScope st)
def lamQ (q : Str) : Str := q ++ ".<locals>." ++ "<lambda>"
def TL (PW PT : Addr) : List (Addr × Str) := [(PW, lamQ "weight"), (PT, lamQ "tested_in")]
theorem tl_w {PW PT : Addr} (h : PW ≠ PT) : ∀ p ∈ TL PW PT, p.1 = PW → p.2 = lamQ "weight" := fun p hp e => by
  rcases List.mem_cons.1 hp with rfl | hp
  · rfl
  · rw [List.mem_singleton.mp hp] at e
    exact absurd e.symm h
theorem tl_t {PW PT : Addr} (h : PW ≠ PT) : ∀ p ∈ TL PW PT, p.1 = PT → p.2 = lamQ "tested_in" := fun p hp e => by
  rcases List.mem_cons.1 hp with rfl | hp
  · exact absurd e h
  · rw [(List.mem_singleton.mp hp)]
theorem lamFree0 (st : Stmt) (h : ((lamOf st).2.2.names.all fun y => !decide (y.2 = .free)) = true) : ∀ y ∈ (lamOf st).2.2.names, y.2 ≠ .free := fun y hy e => by
  have := List.all_eq_true.mp h y hy
  rw [e] at this
  simp at this
/-- a def whose code object is known -/
structure FunC (K : PySem.W.Frag) (x qual : Str) (st : Stmt) (f : Addr) (fd : FuncData) (c : Addr) : Prop where
  ex : ∃ (oc : Value) (od : Option Addr) (kV doc pm : Value) (an : Option Addr) (ct : Value) (osl : Array (Option Value)),
    fd = PySem.W.fnOf x qual (defArgs st) (defBody st) (defScope st) .none kV doc pm an (.ref c) ct ∧ K.lookup f = some ⟨oc, od, .func fd, osl⟩ ∧ PySem.W.codeIn K (.ref c) qual = true
  kp : (PySem.W.keepIn K (.ref f) = true)
theorem FunC.ok {P : Program} {w : World} {K : PySem.W.Frag} {mg : Str → Option Value} {base : Heap} {x qual : Str} {st : Stmt} {f c : Addr} {fd : FuncData} {N ps : List Str} {k : Nat} {sp : Sp} (F : FunC K x qual st f fd c) (S : FnScope N ps (defScope st)) (len : ∀ as H Q E, sp as H Q E → as.length = ps.length)
    (hbody : ∀ (A : Around) (outer : List Env) (s : Shared) (H : Hp) (as : List V) (Q : VK) (E : XK), Room k (A.deeper (envOfC qual (defScope st) s.heap.objs.size f (.ref c))) → sp as H Q E →
      ∃ t, PSs (cxOf CX0 P w K mg base N qual (defScope st) f (.ref c) A outer s H E).nox (defBody st) t ∧ t { nx := fun _ H' => Q .non H', rt := Q } (start N as) H) : FnOk P w K mg base CX0 (k + 1) f fd ps sp := by
  obtain ⟨oc, od, kV, doc, pm, an, ct, osl, rfl, lk, hcd⟩ := F.ex
  refine fn_of lk hcd S len fun A outer s H as Q E hr hsp => ?_
  obtain ⟨t, h, q⟩ := hbody A outer s H as Q E hr hsp
  exact ⟨t, h.nox, q⟩
abbrev FW (c' : Addr) : LF := ⟨lamQ "weight", (lamOf sPWeight).1, (lamOf sPWeight).2.1, (lamOf sPWeight).2.2, [], c'⟩
def spWeight (PW PT : Addr) (d : Nat) : Sp := fun vs H Q _ => ∃ (v : V) (b : Bk), vs = [v] ∧ Tp H v (.tuple b.ds) ∧ b.fac d ∧ LamX.Tabs (TL PW PT) H ∧ ∀ H', Sx [PW] H H' → LamX.Tabs (TL PW PT) H' → Q (.int (b.sumO fun _ => 1)) H'
theorem nsW : NdefX.NScope ["statement"] ["statement"] [] (lamOf sPWeight).2.2 := NdefX.nscope_by (by decide +kernel)
theorem nsT : NdefX.NScope ["statement", "word"] ["statement"] ["word"] (lamOf sPTestedIn).2.2 := NdefX.nscope_by (by decide +kernel)
theorem Tabs.sx {T : List (Addr × Str)} {H H' : Hp} (t : LamX.Tabs T H) (s : Sx [] H H') : LamX.Tabs T H' := t.ext fun b o e => s b o (by simp) e
section
variable {w : World} {P : Program} {K : PySem.W.Frag} {mg : Str → Option Value} {base : Heap}
theorem heldW (c' : Addr) : HeldL P w K mg base 4 (Tf0 (FW c')) (spOwn fun _ => 1) := by
  refine held0 (N := ["statement"]) (a := "statement") (k := 3) nsW (fun pm ctv us hl => ?_) (fun f A outer s H _ _ => (pe_int : PE _ (lamOf sPWeight).2.1 _)) (fun vs H Q h => ?_) (fun vs H Q h => ?_)
  · match us, hl with | [_], _ => rfl
  · obtain ⟨_, _, rfl, _⟩ := h
    rfl
  · obtain ⟨v, s, rfl, t, q⟩ := h
    exact q H (Sx.refl _)
theorem ok_pweight {f fS : Addr} {fd fdS : FuncData} {c PW PT : Addr} {D : Nat} (F_pweight : FunC K "weight" "weight" sPWeight f fd c) (F_psum_over : Fun K "sum_over" "sum_over" sPSumOver fS fdS) (TB : LamX.TabB base mg c PW) (hne : PW ≠ PT)
    (G_sum : ∀ (T : Addr → Hp → Prop) (own : St → Int), HeldL P w K mg base 4 T (spOwn own) → ∀ d : Nat, FnOk P w K mg base CX0 (d + 5) fS fdS ["block", "own"] (spSum T own d))
    (b_psum_over : Binds K fdS ["block", "own"] []) (m_psum_over : mg "sum_over" = some (.ref fS)) : FnOk P w K mg base CX0 (D + 6) f fd ["program"] (spWeight PW PT D) := by
  refine F_pweight.ok scPWeight (fun vs H Q E h => ?_) (fun A outer s H vs Q E hr h => ?_)
  · obtain ⟨_, _, rfl, _⟩ := h
    rfl
  · obtain ⟨v, b, rfl, t, hf, hT, q⟩ := h
    have G_psum_over : FnOk P w K mg base CX0 (D + 5) fS fdS ["block", "own"] (fun vs H Q E => ∃ c', spSum (Tf0 (FW c')) (fun _ => 1) D vs H Q E) := FnOk.ex fun c' => G_sum _ _ (heldW c') D
    refine ⟨_, (pss_one (ps_ret (pe_call G_psum_over (hr.mono (by omega)) (by rfl) m_psum_over F_psum_over.kp b_psum_over .nil pass0 (pa_cons (pv 0) (pa_cons (pe_lambda (T := TL PW PT) (cl := []) TB rfl (List.mem_cons_self ..) (tl_w hne) rfl (fun _ y hy e => absurd e (lamFree0 sPWeight (by decide +kernel) y hy)) rfl) pa_nil))))), ?_⟩
    refine ⟨_, rfl, hT, fun f0 c' pm ctv H2 s2 hT2 n1 n2 hc _ => ?_⟩
    refine ⟨c', v, b, f0, rfl, (t.keep (fun b xs e => s2 b _ ?_ e)).new n2, ⟨rfl, ⟨pm, ctv, upd_same⟩, by rw [upd_ne (ne_of_none hc n2)]; exact hc⟩, hf, fun H3 s3 => q H3 (s2.trans ((Sx.n0 n2).trans s3).nil) (Tabs.sx hT2 ((Sx.n0 n2).trans s3))⟩
    intro hb
    obtain ⟨ps, hP, _⟩ := hT _ (List.mem_cons_self ..)
    rw [List.mem_singleton.mp hb, show H PW = _ from hP] at e
    cases e
abbrev FT (c' cc : Addr) : LF := ⟨lamQ "tested_in", (lamOf sPTestedIn).1, (lamOf sPTestedIn).2.1, (lamOf sPTestedIn).2.2, [("word", cc)], c'⟩
def ownT (z : Str) (s : St) : Int := if s.tw z = true then 1 else 0
def spTested (PW PT : Addr) (d : Nat) : Sp := fun vs H Q _ => ∃ (v : V) (b : Bk) (z : Str), vs = [v, .str z] ∧ Tp H v (.tuple b.ds) ∧ b.fac d ∧ LamX.Tabs (TL PW PT) H ∧ ∀ H', Sx [PT] H H' → LamX.Tabs (TL PW PT) H' → Q (.int (b.sumO (ownT z))) H'
theorem lamFree1 : ∀ y ∈ (lamOf sPTestedIn).2.2.names, y.2 = .free → (defScope sPTestedIn).names.lookup y.1 = some .cell := by decide +kernel
theorem heldT {f : Addr} {fd : FuncData} (F_ptests_with : Fun K "tests_with" "tests_with" sPTestsWith f fd) (G_ptests_with : FnOk P w K mg base CX0 2 f fd ["statement", "word"] spTestsWith) (b_ptests_with : Binds K fd ["statement", "word"] []) (m_ptests_with : mg "tests_with" = some (.ref f)) (z_int : mg "int" = none)
    (c' cc : Addr) (z : Str) : HeldL P w K mg base 4 (Tf1 (FT c' cc) "word" cc (.str z)) (spOwn (ownT z)) := by
  refine held1 (N := ["statement", "word"]) (a := "statement") (k := 3) nsT (fun pm ctv us hl => ?_) (fun f A outer s H _ hr => (pe_callTy call_int1 (by rfl) z_int boot_int (pa_cons (pe_call G_ptests_with (hr.mono (by omega)) (by rfl) m_ptests_with F_ptests_with.kp b_ptests_with .nil pass0 (pa_cons (pv 0) (pa_cons (pv 1) pa_nil))) pa_nil) : PE _ (lamOf sPTestedIn).2.1 _)) (fun vs H Q h => ?_) (fun vs H Q o e h => ?_)
  · match us, hl with | [_], _ => rfl
  · obtain ⟨_, _, rfl, _⟩ := h
    rfl
  · obtain ⟨v, s, rfl, t, q⟩ := h
    refine ⟨_, rfl, _, rfl, v, s, z, rfl, t.keep (Tk.cut e), .inr ⟨_, rfl, ?_⟩⟩
    show Q _ (upd (cut1 H cc) cc (Fz cc o))
    rw [upd_cut e]
    exact q H (Sx.refl _)
theorem ok_ptested {f fS fT : Addr} {fd fdS fdT : FuncData} {c PW PT : Addr} {D : Nat} (F_ptested_in : FunC K "tested_in" "tested_in" sPTestedIn f fd c) (F_psum_over : Fun K "sum_over" "sum_over" sPSumOver fS fdS) (TB : LamX.TabB base mg c PT) (hne : PW ≠ PT)
    (F_ptests_with : Fun K "tests_with" "tests_with" sPTestsWith fT fdT) (G_ptests_with : FnOk P w K mg base CX0 2 fT fdT ["statement", "word"] spTestsWith) (b_ptests_with : Binds K fdT ["statement", "word"] []) (m_ptests_with : mg "tests_with" = some (.ref fT)) (z_int : mg "int" = none)
    (G_sum : ∀ (T : Addr → Hp → Prop) (own : St → Int), HeldL P w K mg base 4 T (spOwn own) → ∀ d : Nat, FnOk P w K mg base CX0 (d + 5) fS fdS ["block", "own"] (spSum T own d))
    (b_psum_over : Binds K fdS ["block", "own"] []) (m_psum_over : mg "sum_over" = some (.ref fS)) : FnOk P w K mg base CX0 (D + 6) f fd ["block", "word"] (spTested PW PT D) := by
  refine F_ptested_in.ok scPTestedIn (fun vs H Q E h => ?_) (fun A outer s H vs Q E hr h => ?_)
  · obtain ⟨_, _, _, rfl, _⟩ := h
    rfl
  · obtain ⟨v, b, z, rfl, t, hf, hT, q⟩ := h
    have G_psum_over : FnOk P w K mg base CX0 (D + 5) fS fdS ["block", "own"] (fun vs H Q E => ∃ i : Addr × Addr, spSum (Tf1 (FT i.1 i.2) "word" i.2 (.str z)) (ownT z) D vs H Q E) := FnOk.ex fun i => G_sum _ _ (heldT F_ptests_with G_ptests_with b_ptests_with m_ptests_with z_int i.1 i.2 z) D
    refine ⟨_, (pss_one (ps_ret (pe_callC (j := 1) G_psum_over (hr.mono (by omega)) (by rfl) m_psum_over F_psum_over.kp b_psum_over (pa_cons (pv 0) (pa_cons (pe_lambda (T := TL PW PT) (cl := [("word", s.heap.objs.size + 1)]) TB rfl (List.mem_cons_of_mem _ (List.mem_cons_self ..)) (tl_t hne) rfl (fun ok y hy e => ok.has _ (.inl (lamFree1 y hy e))) rfl) pa_nil)) rfl rfl rfl))), ?_⟩
    refine ⟨_, rfl, hT, fun f0 c' pm ctv H2 s2 hT2 n1 n2 hc _ => ⟨.str z, rfl, fun cc oc u hcc ncc hoc hu => ?_⟩⟩
    have ecc : s.heap.objs.size + 1 = cc := by
      have e : List.lookup ("word" : Str) ([("word", s.heap.objs.size + 1)] : List (Str × Addr)) = some cc := hcc
      simpa [List.lookup] using e
    subst ecc
    have n3 : H2 (s.heap.objs.size + 1) = none := by
      by_cases e : s.heap.objs.size + 1 = f0
      · rw [e]; exact n2
      · rw [upd_ne e] at ncc; exact ncc
    have nf : f0 ≠ s.heap.objs.size + 1 := fun e => by rw [e, upd_same] at ncc; cases ncc
    have kT : Tk H H2 := fun b xs e => s2 b _ (fun hb => by
      obtain ⟨ps, hP, _⟩ := hT _ (List.mem_cons_of_mem _ (List.mem_cons_self ..))
      rw [List.mem_singleton.mp hb, show H PT = _ from hP] at e
      cases e) e
    have hcf : c' ≠ f0 := ne_of_none hc n2
    have hcc2 : c' ≠ s.heap.objs.size + 1 := ne_of_none hc n3
    refine ⟨(c', s.heap.objs.size + 1), v, b, f0, rfl, ((t.keep kT).new n2).new ncc, ⟨rfl, ⟨pm, ctv, by rw [upd_ne nf]; exact upd_same⟩, by rw [upd_ne hcc2, upd_ne hcf]; exact hc, oc, u, upd_same, hoc, hu⟩, hf, fun H3 s3 => ?_⟩
    have s4 : Sx [] H2 (cut1 H3 (s.heap.objs.size + 1)) := (Sx.n0 n2).trans (s3.cut ncc)
    exact q _ (s2.trans s4.nil) (Tabs.sx hT2 s4)
end
abbrev sPIsBetween : Stmt := topS 18
abbrev nPIsBetween : List Str := ["value", "low", "high"]
theorem scPIsBetween : FnScope nPIsBetween ["value", "low", "high"] (defScope sPIsBetween) := ⟨rfl, rfl, rfl, by decide +kernel, rfl, by decide +kernel, by decide +kernel⟩
abbrev sPIsHeaded : Stmt := topS 19
abbrev nPIsHeaded : List Str := ["value", "word", "size"]
theorem scPIsHeaded : FnScope nPIsHeaded ["value", "word", "size"] (defScope sPIsHeaded) := ⟨rfl, rfl, rfl, by decide +kernel, rfl, by decide +kernel, by decide +kernel⟩
abbrev sPIsName : Stmt := topS 20
abbrev nPIsName : List Str := ["value", "letter"]
theorem scPIsName : FnScope nPIsName ["value"] (defScope sPIsName) := ⟨rfl, rfl, rfl, by decide +kernel, rfl, by decide +kernel, by decide +kernel⟩
abbrev sPIsExpression : Stmt := topS 21
abbrev nPIsExpression : List Str := ["value", "deep"]
theorem scPIsExpression : FnScope nPIsExpression ["value", "deep"] (defScope sPIsExpression) := ⟨rfl, rfl, rfl, by decide +kernel, rfl, by decide +kernel, by decide +kernel⟩
abbrev sPIsTest : Stmt := topS 22
abbrev nPIsTest : List Str := ["value", "nots"]
theorem scPIsTest : FnScope nPIsTest ["value", "nots"] (defScope sPIsTest) := ⟨rfl, rfl, rfl, by decide +kernel, rfl, by decide +kernel, by decide +kernel⟩
abbrev sPIsStatement : Stmt := topS 23
abbrev nPIsStatement : List Str := ["value"]
theorem scPIsStatement : FnScope nPIsStatement ["value"] (defScope sPIsStatement) := ⟨rfl, rfl, rfl, by decide +kernel, rfl, by decide +kernel, by decide +kernel⟩
abbrev sPBoundError : Stmt := topS 28
abbrev nPBoundError : List Str := ["program"]
theorem scPBoundError : FnScope nPBoundError ["program"] (defScope sPBoundError) := ⟨rfl, rfl, rfl, by decide +kernel, rfl, by decide +kernel, by decide +kernel⟩
/-! ### what statements look like, of typed ones -/
def Ex.nm : Ex → Prop
  | .int _ => True
  | .name z => NmOk z
  | .plus x y => x.nm ∧ y.nm
  | .minus x y => x.nm ∧ y.nm
  | .times _ x => x.nm
def Ts.nm : Ts → Prop
  | .rest x _ _ => x.nm
  | .less x y => x.nm ∧ y.nm
  | .not t => t.nm
def St.nm : St → Prop
  | .set z e => NmOk z ∧ e.nm
  | .pay e => e.nm
  | .ite t _ _ => t.nm
  | _ => True
def Ex.okB : Ex → Nat → Bool
  | .int i, n => decide (0 < n) && (decide (-99 ≤ i) && decide (i ≤ 99))
  | .name _, n => decide (0 < n)
  | .plus x y, n => decide (0 < n) && (x.okB (n - 1) && y.okB (n - 1))
  | .minus x y, n => decide (0 < n) && (x.okB (n - 1) && y.okB (n - 1))
  | .times f x, n => decide (0 < n) && ((decide (-9 ≤ f) && decide (f ≤ 9)) && x.okB (n - 1))
def Ts.okB : Ts → Nat → Bool
  | .rest x b r, _ => (decide (2 ≤ b) && decide (b ≤ 6)) && (x.okB 3 && (decide (0 ≤ r) && decide (r ≤ b - 1)))
  | .less x y, _ => x.okB 3 && y.okB 3
  | .not t, n => decide (0 < n) && t.okB (n - 1)
def St.okB : St → Bool
  | .set _ e => e.okB 3
  | .pay e => e.okB 3
  | .stop => true
  | .ite t _ _ => t.okB 2
  | .rep k _ => decide (1 ≤ k) && decide (k ≤ 8)
def HdV (H : Hp) (v : V) (hd : Option (Str × Nat)) : Prop := (∃ i, v = .int i ∧ hd = none) ∨ (∃ z, v = .str z ∧ hd = none) ∨ ∃ a h xs, v = .ref a ∧ H a = some (.tup (.str h :: xs)) ∧ hd = some (h, xs.length + 1)
def hdIs (hd : Option (Str × Nat)) (word : Str) (n : Int) : Bool := match hd with
  | none => false
  | some (h, m) => decide (V.int ((m : Nat) : Int) = V.int n) && decide (V.str h = V.str word)
def Ex.hdv : Ex → Option (Str × Nat)
  | .int _ => none
  | .name _ => none
  | .plus _ _ => some ("plus", 3)
  | .minus _ _ => some ("minus", 3)
  | .times _ _ => some ("times", 3)
def Ts.hdv : Ts → Option (Str × Nat)
  | .rest _ _ _ => some ("rest", 4)
  | .less _ _ => some ("less", 3)
  | .not _ => some ("not", 2)
def St.hdv : St → Option (Str × Nat)
  | .set _ _ => some ("set", 3)
  | .pay _ => some ("pay", 2)
  | .stop => some ("stop", 1)
  | .ite _ _ _ => some ("if", 4)
  | .rep _ _ => some ("repeat", 3)
theorem Ex.hdV {H : Hp} {v : V} {e : Ex} (t : Tp H v e.d) : HdV H v e.hdv := by
  cases e with
  | int i => exact .inl ⟨i, tpI t, rfl⟩
  | name z => exact .inr (.inl ⟨z, tpS t, rfl⟩)
  | plus x y => obtain ⟨a, p, q, r, rfl, ha, t1, _⟩ := tp3 t; obtain rfl := tpS t1; exact .inr (.inr ⟨a, _, _, rfl, ha, rfl⟩)
  | minus x y => obtain ⟨a, p, q, r, rfl, ha, t1, _⟩ := tp3 t; obtain rfl := tpS t1; exact .inr (.inr ⟨a, _, _, rfl, ha, rfl⟩)
  | times f x => obtain ⟨a, p, q, r, rfl, ha, t1, _⟩ := tp3 t; obtain rfl := tpS t1; exact .inr (.inr ⟨a, _, _, rfl, ha, rfl⟩)
theorem Ts.hdV {H : Hp} {v : V} {e : Ts} (t : Tp H v e.d) : HdV H v e.hdv := by
  cases e with
  | rest x b r => obtain ⟨a, p, q, r, s, rfl, ha, t1, _⟩ := tp4 t; obtain rfl := tpS t1; exact .inr (.inr ⟨a, _, _, rfl, ha, rfl⟩)
  | less x y => obtain ⟨a, p, q, r, rfl, ha, t1, _⟩ := tp3 t; obtain rfl := tpS t1; exact .inr (.inr ⟨a, _, _, rfl, ha, rfl⟩)
  | not x => obtain ⟨a, p, q, rfl, ha, t1, _⟩ := tp2 t; obtain rfl := tpS t1; exact .inr (.inr ⟨a, _, _, rfl, ha, rfl⟩)
theorem St.hdV {H : Hp} {v : V} {e : St} (t : Tp H v e.d) : HdV H v e.hdv := by
  cases e with
  | set z x => obtain ⟨a, p, q, r, rfl, ha, t1, _⟩ := tp3 t; obtain rfl := tpS t1; exact .inr (.inr ⟨a, _, _, rfl, ha, rfl⟩)
  | pay x => obtain ⟨a, p, q, rfl, ha, t1, _⟩ := tp2 t; obtain rfl := tpS t1; exact .inr (.inr ⟨a, _, _, rfl, ha, rfl⟩)
  | stop => obtain ⟨a, p, rfl, ha, t1⟩ := tp1 t; obtain rfl := tpS t1; exact .inr (.inr ⟨a, _, _, rfl, ha, rfl⟩)
  | ite x y z => obtain ⟨a, p, q, r, s, rfl, ha, t1, _⟩ := tp4 t; obtain rfl := tpS t1; exact .inr (.inr ⟨a, _, _, rfl, ha, rfl⟩)
  | rep k y => obtain ⟨a, p, q, r, rfl, ha, t1, _⟩ := tp3 t; obtain rfl := tpS t1; exact .inr (.inr ⟨a, _, _, rfl, ha, rfl⟩)
theorem hd_no {hd : Option (Str × Nat)} {w : Str} {n : Int} (h : hdIs hd w n = false) {A B : Prop} (q : B) : if hdIs hd w n = true then A else B := by rw [h]; exact q
theorem hd_yes {hd : Option (Str × Nat)} {w : Str} {n : Int} (h : hdIs hd w n = true) {A B : Prop} (q : A) : if hdIs hd w n = true then A else B := by rw [h]; exact q
theorem lc_str {x : Str} {g : TG} {tt : TT} {te : TE} {vs : List Nat} {σ : L2.St} {H1 : Hp} {D : Addr} {Qd : Hp → Prop} (Pv : Nat → Hp → Prop) (h0 : Pv 0 (upd H1 D (.lst [])))
    (hs : ∀ i c H, x.cps[i]? = some c → Pv i H → g (.str ⟨#[c]⟩) (wipe σ vs) H fun σ2 H2 => wipe σ2 vs = wipe σ vs ∧ tt σ2 H2 fun b H3 => if b = true then te σ2 H3 fun y H4 => ∃ acc, H4 D = some (.lst acc) ∧ acc.length < sizeLine ∧ Pv (i + 1) (upd H4 D (.lst (acc ++ [y]))) else Pv (i + 1) H3) (hd : ∀ H, Pv x.cps.size H → Qd H) :
    ∃ W : Nat → Nat → Hp → Prop, (∃ m, W 0 m (upd H1 D (.lst []))) ∧ ∀ i m H, W i m H → ((Its x).stop i H ∧ Qd H) ∨ ((Its x).go i H ∧ ∃ Nx : Hp → Prop, (∀ H', Nx H' → ∃ m', m' < m ∧ W (i + 1) m' H') ∧ ∀ y H', (Its x).yld i H y H' → g y (wipe σ vs) H' fun σ2 H2 => wipe σ2 vs = wipe σ vs ∧ tt σ2 H2 fun b H3 =>
      if (b = true) then te σ2 H3 fun y H4 => ∃ acc, H4 D = some (.lst acc) ∧ acc.length < sizeLine ∧ Nx (upd H4 D (.lst (acc ++ [y]))) else Nx H3) := by
  refine ⟨fun i m H => m = x.cps.size - i ∧ i ≤ x.cps.size ∧ Pv i H, ⟨x.cps.size, by simp, Nat.zero_le _, h0⟩, ?_⟩
  rintro i m H ⟨rfl, hi, p⟩
  by_cases hlt : i < x.cps.size
  · exact .inr ⟨hlt, Pv (i + 1), fun H' p' => ⟨x.cps.size - (i + 1), by omega, rfl, hlt, p'⟩, fun v H' y => by obtain ⟨rfl, c, hc, rfl⟩ := y; exact hs i c _ hc p⟩
  · obtain rfl : i = x.cps.size := by omega
    exact (.inl ⟨Nat.le_refl _, hd H p⟩)
theorem not_word {z : Str} (h : z ∉ WordsK) : inV (.str z) (WordsK.map V.str) = false := by
  unfold inV
  rw [List.any_eq_false]
  intro y hy
  obtain ⟨x, hx, rfl⟩ := List.mem_map.mp hy
  have : x ≠ z := fun e => h (e ▸ hx)
  simp [eqV, this]
theorem ab_all : ((List.range 128).all fun c => !decide (97 ≤ c ∧ c ≤ 122) || decide (c ∈ (Str.ofString "abcdefghijklmnopqrstuvwxyz").cps.toList)) = true := by decide +kernel
theorem ab09_all : ((List.range 128).all fun c => !decide ((97 ≤ c ∧ c ≤ 122) ∨ (48 ≤ c ∧ c ≤ 57)) || decide (c ∈ (Str.ofString "abcdefghijklmnopqrstuvwxyz" ++ Str.ofString "0123456789").cps.toList)) = true := by decide +kernel
theorem ab_mem (c : Nat) (h : 97 ≤ c ∧ c ≤ 122) : c ∈ (Str.ofString "abcdefghijklmnopqrstuvwxyz").cps.toList := by
  have := List.all_eq_true.mp ab_all c (List.mem_range.mpr (by omega))
  rw [decide_eq_true h] at this
  simpa using this
theorem ab09_mem (c : Nat) (h : (97 ≤ c ∧ c ≤ 122) ∨ (48 ≤ c ∧ c ≤ 57)) : c ∈ (Str.ofString "abcdefghijklmnopqrstuvwxyz" ++ Str.ofString "0123456789").cps.toList := by
  have := List.all_eq_true.mp ab09_all c (List.mem_range.mpr (by omega))
  rw [decide_eq_true h] at this
  exact of_decide_eq_true (by simpa using this)
def spBetween : Sp := fun vs H Q _ => ∃ i lo hi : Int, vs = [.int i, .int lo, .int hi] ∧ Q (.bl (decide (lo ≤ i) && decide (i ≤ hi))) H
def spHeaded : Sp := fun vs H Q _ => ∃ (v : V) (hd : Option (Str × Nat)) (word : Str) (n : Int), vs = [v, .str word, .int n] ∧ HdV H v hd ∧ Q (.bl (hdIs hd word n)) H
def spName : Sp := fun vs H Q _ => ∃ z : Str, vs = [.str z] ∧ NmOk z ∧ ∀ H', Sx [] H H' → Q (.bl true) H'
def spIsExpr (m : Nat) : Sp := fun vs H Q _ => ∃ (v : V) (e : Ex) (n : Nat), vs = [v, .int n] ∧ n < m ∧ Tp H v e.d ∧ e.nm ∧ ∀ H', Sx [] H H' → Q (.bl (e.okB n)) H'
def spIsTest (m : Nat) : Sp := fun vs H Q _ => ∃ (v : V) (e : Ts) (n : Nat), vs = [v, .int n] ∧ n < m ∧ Tp H v e.d ∧ e.nm ∧ ∀ H', Sx [] H H' → Q (.bl (e.okB n)) H'
def spIsSt : Sp := fun vs H Q _ => ∃ (v : V) (s : St), vs = [v] ∧ Tp H v s.d ∧ s.nm ∧ ∀ H', Sx [] H H' → Q (.bl s.okB) H'
section
variable {w : World} {P : Program} {K : PySem.W.Frag} {mg : Str → Option Value} {base : Heap}
theorem ok_pbetween {f fI : Addr} {fd fdI : FuncData} {k : Nat} (F_pis_between : Fun K "is_between" "is_between" sPIsBetween f fd) (F_pis_integer : Fun K "is_integer" "is_integer" sPIsInteger fI fdI) (G_pis_integer : FnOk P w K mg base CX0 1 fI fdI ["value"] spIsInt)
    (b_pis_integer : Binds K fdI ["value"] []) (m_pis_integer : mg "is_integer" = some (.ref fI)) : FnOk P w K mg base CX0 (k + 2) f fd ["value", "low", "high"] spBetween := by
  refine F_pis_between.ok scPIsBetween (fun vs H Q E h => ?_) (fun cdv A outer s H vs Q E hr h => ?_)
  · obtain ⟨_, _, _, rfl, _⟩ := h
    rfl
  · obtain ⟨i, lo, hi, rfl, q⟩ := h
    refine ⟨_, (pss_one (ps_ret (pe_and (pe_call G_pis_integer (hr.mono (by omega)) (by rfl) m_pis_integer F_pis_integer.kp b_pis_integer .nil pass0 (pa_cons (pv 0) pa_nil)) (pe_one (pe_chain op_le op_le (pv 1) (pv 0) (pv 2)))))), ?_⟩
    refine ⟨_, rfl, _, true, rfl, .inl ⟨i, rfl, rfl⟩, _, rfl, iteT ?_⟩
    refine (⟨_, rfl, _, rfl, _, _, rfl, rfl, _, rfl, ?_⟩)
    by_cases h : lo ≤ i
    · rw [decide_eq_true h] at q ⊢
      exact iteT ⟨_, rfl, _, _, rfl, rfl, q⟩
    · rw [decide_eq_false h] at q ⊢
      exact iteF q
theorem ok_pheaded {f : Addr} {fd : FuncData} {k : Nat} (F_pis_headed : Fun K "is_headed" "is_headed" sPIsHeaded f fd) (z_isinstance : mg "isinstance" = none) (z_tuple : mg "tuple" = none) (z_len : mg "len" = none) : FnOk P w K mg base CX0 (k + 1) f fd ["value", "word", "size"] spHeaded := by
  refine F_pis_headed.ok scPIsHeaded (fun vs H Q E h => ?_) (fun cdv A outer s H vs Q E hr h => ?_)
  · obtain ⟨_, _, _, _, rfl, _⟩ := h
    rfl
  · obtain ⟨v, hd, word, n, rfl, hv, q⟩ := h
    refine ⟨_, (pss_one (ps_ret (pe_and (pe_callB call_isi (by rfl) z_isinstance (by decide +kernel) (pa_cons (pv 0) (pa_cons (pe_bltn (v := .ty "tuple") (by rfl) z_tuple (by decide +kernel) rfl) pa_nil))) (pe_and (pe_cmpR op_eq (pe_callB call_len_seq (by rfl) z_len boot_len (pa_cons (pv 0) pa_nil)) (pv 2) (nomark _)) (pe_one (pe_cmpR op_eq (pe_ix ix_tup (pv 0) pe_int (fun _ _ => rfl)) (pv 1) (nomark _))))))), ?_⟩
    rcases hv with ⟨i, rfl, rfl⟩ | ⟨z, rfl, rfl⟩ | ⟨a, h, xs, rfl, ha, rfl⟩
    · exact ⟨_, rfl, _, _, _, _, _, rfl, .ty _, .base (.int i), kit_ty (r := false) (by decide +kernel), _, rfl, iteF q⟩
    · exact ⟨_, rfl, _, _, _, _, _, rfl, .ty _, .base (.str z), kit_ty (r := false) (by decide +kernel), _, rfl, iteF q⟩
    · refine ⟨_, rfl, _, _, _, _, _, rfl, .ty _, .base (.tup ha), kit_ty (r := true) (by decide +kernel), _, rfl, iteT ?_⟩
      refine ⟨_, rfl, a, _, rfl, .inr (SqT.of ha), _, rfl, rfl, _, rfl, ?_⟩
      have q : Q (.bl (decide (V.int ((xs.length + 1 : Nat) : Int) = V.int n) && decide (V.str h = V.str word))) H := q
      rw [List.length_cons]
      by_cases e : V.int ((xs.length + 1 : Nat) : Int) = V.int n
      · rw [decide_eq_true e] at q ⊢
        exact iteT ⟨_, rfl, a, _, _, _, rfl, rfl, SqT.of ha, at0 _ _, _, rfl, rfl, q⟩
      · rw [decide_eq_false e] at q ⊢
        exact iteF q
theorem ok_pname {f : Addr} {fd : FuncData} {k : Nat} {a_WORDS : Addr} {tN : Tok} {tL tD : Tok} (F_pis_name : Fun K "is_name" "is_name" sPIsName f fd) (m_MAX_NAME : mg "MAX_NAME" = some (.int 8 tN)) (m_WORDS : mg "WORDS" = some (.ref a_WORDS)) (h_WORDS : ∀ H : Hp, SqT K H a_WORDS (WordsK.map V.str))
    (m_LETTERS : mg "LETTERS" = some (.str "abcdefghijklmnopqrstuvwxyz" tL)) (m_DIGITS : mg "DIGITS" = some (.str "0123456789" tD)) (z_isinstance : mg "isinstance" = none) (z_str : mg "str" = none) (z_len : mg "len" = none) (z_all : mg "all" = none) : FnOk P w K mg base CX0 (k + 1) f fd ["value"] spName := by
  refine F_pis_name.ok scPIsName (fun vs H Q E h => ?_) (fun cdv A outer s H vs Q E hr h => ?_)
  · obtain ⟨_, rfl, _⟩ := h
    rfl
  · obtain ⟨z, rfl, hz, q⟩ := h
    refine ⟨_, (pss_cons (ps_if (PW.pt (pw_or (pt_not (pt_val (pe_callB call_isi (by rfl) z_isinstance (by decide +kernel) (pa_cons (pv 0) (pa_cons (pe_bltn (v := .ty "str") (by rfl) z_str (by decide +kernel) rfl) pa_nil))))) (pw_or1 (pt_not (pt_chain op_le op_le pe_int (pe_callB call_len_str (by rfl) z_len boot_len (pa_cons (pv 0) pa_nil)) (pe_glob (v := .int 8) (by rfl) m_MAX_NAME ⟨_, rfl⟩)))))) (pss_one (ps_ret pe_bl)) pss_nil)
      (pss_cons (ps_if (PW.pt (pw_or (pt_cmpR op_in_seq (pv 0) (pe_glob (v := .ref a_WORDS) (by rfl) m_WORDS rfl) (by with_unfolding_all rfl)) (pw_or1 (pt_cmpR op_notIn_sign (pe_ix ix_str (pv 0) pe_int (fun _ _ => rfl)) (pe_glob (v := .str "abcdefghijklmnopqrstuvwxyz") (by rfl) m_LETTERS ⟨_, rfl⟩) (by with_unfolding_all rfl))))) (pss_one (ps_ret pe_bl)) pss_nil)
      (pss_one (ps_ret (pe_callB (cr_all rfl) (by rfl) z_all boot_all (pa_cons (pe_lc (own := [("letter", 1)]) (g := gName 1) (tt := tYes) rfl scPIsName.nd (pi_str (pv 0)) (blkOk_by (N := nPIsName) (sc := defScope sPIsName) (by decide +kernel)) (fun _ _ _ _ _ => (pg_name (i := 1) scPIsName.nd rfl (by first | exact Or.inl rfl | exact Or.inr rfl))) (fun _ _ _ _ _ => pts_nil) (fun _ _ _ _ _ => (pe_cmpR op_in_sign (pv 1) (pe_op op_add_str (pe_glob (v := .str "abcdefghijklmnopqrstuvwxyz") (by rfl) m_LETTERS ⟨_, rfl⟩) (pe_glob (v := .str "0123456789") (by rfl) m_DIGITS ⟨_, rfl⟩)) (by with_unfolding_all rfl)))) pa_nil)))))), ?_⟩
    have zl : z.length ≤ sizeLine := by have := hz.hi; show z.length ≤ 16777216; omega
    refine ⟨_, rfl, _, _, _, _, _, rfl, .ty _, .base (.str z), kit_ty (r := true) (by decide +kernel), _, rfl, iteF ?_⟩
    have z1 : decide ((1 : Int) ≤ (z.length : Int)) = true := decide_eq_true (by have := hz.lo; omega)
    have z8 : decide ((z.length : Int) ≤ 8) = true := decide_eq_true (by have := hz.hi; omega)
    refine ⟨_, rfl, z, rfl, zl, _, _, rfl, rfl, _, rfl, iteP z1 ⟨_, _, rfl, rfl, _, rfl, ?_⟩⟩
    rw [z8]
    refine iteF ?_
    refine ⟨_, rfl, a_WORDS, _, rfl, .inr (h_WORDS _), rfl, by decide +kernel, _, rfl, ?_⟩
    rw [not_word hz.kw]
    refine iteF ?_
    obtain ⟨c, hc⟩ : ∃ c, z.cps.toList[0]? = some c := by
      have := hz.lo
      cases e : z.cps.toList with
      | nil =>
        have : z.length = z.cps.toList.length := by simp [Str.length]
        rw [e] at this
        simp at this
        omega
      | cons c r => exact ⟨c, rfl⟩
    have c1 := hz.hd c hc
    have c2 := hz.sgn c (List.mem_of_getElem? hc)
    refine ⟨_, rfl, z, 0, c, rfl, rfl, zl, atI_nat (j := 0) hc, c, _, rfl, rfl, _, rfl, ?_⟩
    rw [decide_eq_true (ab_mem c (by omega))]
    refine iteF ?_
    refine ⟨_, rfl, z, rfl, fun D hD => lc_str (fun i H1 => Sx [] H H1 ∧ H1 D = some (.lst ((List.replicate i true).map V.bl))) ⟨Sx.n0 hD, upd_same⟩ (fun i c H1 hi p => ?_) (fun H1 p => ?_)⟩
    · refine ⟨rfl, ?_⟩
      have hm : c ∈ z.cps.toList := by
        rw [← Array.getElem?_toList] at hi
        exact List.mem_of_getElem? hi
      have hlen : i < z.length := (Array.getElem?_eq_some_iff.mp hi).1
      refine ⟨_, rfl, _, _, rfl, rfl, by decide +kernel, c, _, rfl, rfl, ?_⟩
      refine ⟨_, p.2, lt_line (by rw [List.length_map, List.length_replicate]; have := hz.hi; omega), p.1.own hD, ?_⟩
      rw [upd_same, decide_eq_true (ab09_mem c (hz.sgn c hm)), List.replicate_succ', List.map_append]
      rfl
    · refine ⟨D, _, rfl, SqL.of p.2, ?_⟩
      rw [show (List.replicate z.cps.size true).all id = true by simp]
      exact q _ p.1
end
section
variable {w : World} {P : Program} {K : PySem.W.Frag} {mg : Str → Option Value} {base : Heap}
theorem abs_le99 {i : Int} : decide ((if i < 0 then -i else i) ≤ 99) = (decide (-99 ≤ i) && decide (i ≤ 99)) := by
  rw [← Bool.decide_and, decide_eq_decide]
  split <;> omega
theorem ok_pexpr {f fI fB fH fN : Addr} {fd fdI fdB fdH fdN : FuncData} {d1 : List V} {t1 t2 : Tok} (F_pis_expression : FunD K "is_expression" "is_expression" (defArgs sPIsExpression) (defBody sPIsExpression) (defScope sPIsExpression) d1 [] f fd) (F_pis_integer : Fun K "is_integer" "is_integer" sPIsInteger fI fdI)
    (F_pis_between : Fun K "is_between" "is_between" sPIsBetween fB fdB) (F_pis_headed : Fun K "is_headed" "is_headed" sPIsHeaded fH fdH) (F_pis_name : Fun K "is_name" "is_name" sPIsName fN fdN)
    (G_pis_integer : FnOk P w K mg base CX0 1 fI fdI ["value"] spIsInt) (G_pis_between : FnOk P w K mg base CX0 2 fB fdB ["value", "low", "high"] spBetween) (G_pis_headed : FnOk P w K mg base CX0 1 fH fdH ["value", "word", "size"] spHeaded) (G_pis_name : FnOk P w K mg base CX0 1 fN fdN ["value"] spName)
    (b_pis_expression : Binds K fd ["value", "deep"] []) (b_pis_integer : Binds K fdI ["value"] []) (b_pis_between : Binds K fdB ["value", "low", "high"] []) (b_pis_headed : Binds K fdH ["value", "word", "size"] []) (b_pis_name : Binds K fdN ["value"] [])
    (m_pis_expression : mg "is_expression" = some (.ref f)) (m_pis_integer : mg "is_integer" = some (.ref fI)) (m_pis_between : mg "is_between" = some (.ref fB)) (m_pis_headed : mg "is_headed" = some (.ref fH)) (m_pis_name : mg "is_name" = some (.ref fN))
    (m_MAX_CONSTANT : mg "MAX_CONSTANT" = some (.int 99 t1)) (m_MAX_FACTOR : mg "MAX_FACTOR" = some (.int 9 t2)) (z_abs : mg "abs" = none) :
    ∀ m : Nat, FnOk P w K mg base CX0 (m + 3) f fd ["value", "deep"] (spIsExpr m) := by
  intro m
  induction m with
  | zero => exact ⟨fun vs H Q E h => by obtain ⟨_, _, _, rfl, _⟩ := h; rfl, fun _ _ _ _ _ _ _ _ _ _ _ _ _ h => by
      obtain ⟨_, _, _, _, h, _⟩ := h
      omega⟩
  | succ m G_pis_expression =>
    refine F_pis_expression.ok scPIsExpression (fun vs H Q E h => ?_) (fun cdv A outer s H vs Q E hr h => ?_)
    · obtain ⟨_, _, _, rfl, _⟩ := h
      rfl
    · obtain ⟨v, e, n, rfl, hn, t, nm, q⟩ := h
      refine ⟨_, PSs.nox (pss_cons (ps_if (pt_cmpR op_eq (pv 1) pe_int (nomark _)) (pss_one (ps_ret pe_bl)) pss_nil)
      (pss_cons (ps_if (pt_val (pe_call G_pis_integer (hr.mono (by omega)) (by rfl) m_pis_integer F_pis_integer.kp b_pis_integer .nil pass0 (pa_cons (pv 0) pa_nil))) (pss_one (ps_ret (pe_cmpR op_le (pe_callB call_abs (by rfl) z_abs boot_abs (pa_cons (pv 0) pa_nil)) (pe_glob (v := .int 99) (by rfl) m_MAX_CONSTANT ⟨_, rfl⟩) (nomark _)))) pss_nil)
      (pss_cons (ps_if (PW.pt (pw_or (pt_val (pe_call G_pis_headed (hr.mono (by omega)) (by rfl) m_pis_headed F_pis_headed.kp b_pis_headed .nil pass0 (pa_cons (pv 0) (pa_cons pe_str (pa_cons pe_int pa_nil))))) (pw_or1 (pt_val (pe_call G_pis_headed (hr.mono (by omega)) (by rfl) m_pis_headed F_pis_headed.kp b_pis_headed .nil pass0 (pa_cons (pv 0) (pa_cons pe_str (pa_cons pe_int pa_nil)))))))) (pss_one (ps_ret (pe_and (pe_call G_pis_expression (hr.mono (by omega)) (by rfl) m_pis_expression F_pis_expression.kp b_pis_expression .nil pass0 (pa_cons (pe_ix ix_tup (pv 0) pe_int (fun _ _ => rfl)) (pa_cons (pe_op op_sub (pv 1) pe_int) pa_nil))) (pe_one (pe_call G_pis_expression (hr.mono (by omega)) (by rfl) m_pis_expression F_pis_expression.kp b_pis_expression .nil pass0 (pa_cons (pe_ix ix_tup (pv 0) pe_int (fun _ _ => rfl)) (pa_cons (pe_op op_sub (pv 1) pe_int) pa_nil))))))) pss_nil)
      (pss_cons (ps_if (pt_val (pe_call G_pis_headed (hr.mono (by omega)) (by rfl) m_pis_headed F_pis_headed.kp b_pis_headed .nil pass0 (pa_cons (pv 0) (pa_cons pe_str (pa_cons pe_int pa_nil))))) (pss_one (ps_ret (pe_and (pe_call G_pis_between (hr.mono (by omega)) (by rfl) m_pis_between F_pis_between.kp b_pis_between .nil pass0 (pa_cons (pe_ix ix_tup (pv 0) pe_int (fun _ _ => rfl)) (pa_cons (pe_un un_neg (pe_glob (v := .int 9) (by rfl) m_MAX_FACTOR ⟨_, rfl⟩)) (pa_cons (pe_glob (v := .int 9) (by rfl) m_MAX_FACTOR ⟨_, rfl⟩) pa_nil)))) (pe_one (pe_call G_pis_expression (hr.mono (by omega)) (by rfl) m_pis_expression F_pis_expression.kp b_pis_expression .nil pass0 (pa_cons (pe_ix ix_tup (pv 0) pe_int (fun _ _ => rfl)) (pa_cons (pe_op op_sub (pv 1) pe_int) pa_nil))))))) pss_nil)
      (pss_one (ps_ret (pe_call G_pis_name (hr.mono (by omega)) (by rfl) m_pis_name F_pis_name.kp b_pis_name .nil pass0 (pa_cons (pv 0) pa_nil)))))))), ?_⟩
      refine (⟨_, rfl, rfl, _, rfl, ?_⟩)
      cases n with
      | zero =>
        refine iteP (decide_eq_true rfl) ?_
        have := q H (Sx.refl _)
        cases e <;> exact this
      | succ n =>
        refine iteN (fun z => by have := V.int.inj (of_decide_eq_true z); omega) ?_
        have e1 : ((n + 1 : Nat) : Int) - 1 = (n : Int) := by omega
        have q0 := q H (Sx.refl _)
        refine ⟨_, rfl, v, _, rfl, e.isIntV t, ?_⟩
        cases e with
        | int i =>
          obtain rfl := tpI t
          refine ⟨_, rfl, iteT ⟨_, rfl, i, rfl, _, _, rfl, rfl, ?_⟩⟩
          show Q (.bl (decide ((if i < 0 then -i else i) ≤ 99))) H
          rw [abs_le99]
          have q1 : Q (.bl (decide (0 < n + 1) && (decide (-99 ≤ i) && decide (i ≤ 99)))) H := q0
          rw [decide_eq_true (by omega : 0 < n + 1), Bool.true_and] at q1
          exact q1
        | name z =>
          obtain rfl := tpS t
          refine ⟨_, rfl, iteF ⟨_, rfl, _, none, _, _, rfl, .inr (.inl ⟨z, rfl, rfl⟩), _, rfl, hd_no rfl ⟨_, rfl, _, none, _, _, rfl, .inr (.inl ⟨z, rfl, rfl⟩), _, rfl, hd_no rfl ?_⟩⟩⟩
          refine ⟨_, rfl, _, none, _, _, rfl, .inr (.inl ⟨z, rfl, rfl⟩), _, rfl, hd_no rfl ?_⟩
          refine ⟨_, rfl, z, rfl, nm, fun H' s' => ?_⟩
          have := q H' s'
          rw [show (Ex.name z).okB (n + 1) = true from decide_eq_true (by omega)] at this
          exact this
        | plus x y =>
          have hv := Ex.hdV t
          obtain ⟨a, p, u, r, rfl, ha, t1, t2, t3⟩ := tp3 t
          refine ⟨_, rfl, iteF ⟨_, rfl, _, _, _, _, rfl, hv, _, rfl, hd_yes (show hdIs (some ("plus", 3)) "plus" 3 = true by decide +kernel) ?_⟩⟩
          refine ⟨_, rfl, a, _, _, u, rfl, rfl, SqT.of ha, rfl, _, rfl, _, 1, rfl, rfl, u, x, n, by show [u, V.int (((n + 1 : Nat) : Int) - 1)] = [u, V.int (n : Int)]; rw [e1], by omega, t2, nm.1, fun H1 s1 => ⟨_, rfl, ?_⟩⟩
          have q1 : ∀ H', Sx [] H H' → Q (.bl (x.okB n && y.okB n)) H' := fun H' s' => by
            have := q H' s'
            rw [show (Ex.plus x y).okB (n + 1) = (decide (0 < n + 1) && (x.okB n && y.okB n)) from rfl, decide_eq_true (by omega : 0 < n + 1), Bool.true_and] at this
            exact this
          cases hx : x.okB n with
          | false =>
            rw [hx] at q1
            exact iteF (q1 H1 s1)
          | true =>
            rw [hx] at q1
            exact iteT ⟨_, rfl, a, _, _, r, rfl, rfl, SqT.of (s1 _ _ (by simp) ha), rfl, _, rfl, _, 1, rfl, rfl, r, y, n, by show [r, V.int (((n + 1 : Nat) : Int) - 1)] = [r, V.int (n : Int)]; rw [e1], by omega, t3.keep s1.tk0, nm.2, fun H2 s2 => q1 H2 (s1.trans s2)⟩
        | minus x y =>
          have hv := Ex.hdV t
          obtain ⟨a, p, u, r, rfl, ha, t1, t2, t3⟩ := tp3 t
          refine ⟨_, rfl, iteF ⟨_, rfl, _, _, _, _, rfl, hv, _, rfl, hd_no (show hdIs (some ("minus", 3)) "plus" 3 = false by decide +kernel) ⟨_, rfl, _, _, _, _, rfl, hv, _, rfl, hd_yes (show hdIs (some ("minus", 3)) "minus" 3 = true by decide +kernel) ?_⟩⟩⟩
          refine ⟨_, rfl, a, _, _, u, rfl, rfl, SqT.of ha, rfl, _, rfl, _, 1, rfl, rfl, u, x, n, by show [u, V.int (((n + 1 : Nat) : Int) - 1)] = [u, V.int (n : Int)]; rw [e1], by omega, t2, nm.1, fun H1 s1 => ⟨_, rfl, ?_⟩⟩
          have q1 : ∀ H', Sx [] H H' → Q (.bl (x.okB n && y.okB n)) H' := fun H' s' => by
            have := q H' s'
            rw [show (Ex.minus x y).okB (n + 1) = (decide (0 < n + 1) && (x.okB n && y.okB n)) from rfl, decide_eq_true (by omega : 0 < n + 1), Bool.true_and] at this
            exact this
          cases hx : x.okB n with
          | false =>
            rw [hx] at q1
            exact iteF (q1 H1 s1)
          | true =>
            rw [hx] at q1
            exact iteT ⟨_, rfl, a, _, _, r, rfl, rfl, SqT.of (s1 _ _ (by simp) ha), rfl, _, rfl, _, 1, rfl, rfl, r, y, n, by show [r, V.int (((n + 1 : Nat) : Int) - 1)] = [r, V.int (n : Int)]; rw [e1], by omega, t3.keep s1.tk0, nm.2, fun H2 s2 => q1 H2 (s1.trans s2)⟩
        | times k x =>
          have hv := Ex.hdV t
          obtain ⟨a, p, u, r, rfl, ha, t1, t2, t3⟩ := tp3 t
          obtain rfl := tpI t2
          refine ⟨_, rfl, iteF ⟨_, rfl, _, _, _, _, rfl, hv, _, rfl, hd_no (show hdIs (some ("times", 3)) "plus" 3 = false by decide +kernel) ⟨_, rfl, _, _, _, _, rfl, hv, _, rfl, hd_no (show hdIs (some ("times", 3)) "minus" 3 = false by decide +kernel) ?_⟩⟩⟩
          refine ⟨_, rfl, _, _, _, _, rfl, hv, _, rfl, hd_yes (show hdIs (some ("times", 3)) "times" 3 = true by decide +kernel) ?_⟩
          refine ⟨_, rfl, a, _, _, _, rfl, rfl, SqT.of ha, rfl, 9, rfl, k, -9, 9, rfl, _, rfl, ?_⟩
          have q1 : ∀ H', Sx [] H H' → Q (.bl ((decide (-9 ≤ k) && decide (k ≤ 9)) && x.okB n)) H' := fun H' s' => by
            have := q H' s'
            rw [show (Ex.times k x).okB (n + 1) = (decide (0 < n + 1) && ((decide (-9 ≤ k) && decide (k ≤ 9)) && x.okB n)) from rfl, decide_eq_true (by omega : 0 < n + 1), Bool.true_and] at this
            exact this
          cases hx : (decide (-9 ≤ k) && decide (k ≤ 9)) with
          | false =>
            rw [hx] at q1
            exact iteF (q1 H (Sx.refl _))
          | true =>
            rw [hx] at q1
            exact iteT ⟨_, rfl, a, _, _, r, rfl, rfl, SqT.of ha, rfl, _, rfl, _, 1, rfl, rfl, r, x, n, by show [r, V.int (((n + 1 : Nat) : Int) - 1)] = [r, V.int (n : Int)]; rw [e1], by omega, t3, nm, fun H2 s2 => q1 H2 s2⟩
end
section
variable {w : World} {P : Program} {K : PySem.W.Frag} {mg : Str → Option Value} {base : Heap}
theorem ok_ptest {f fE fB fH : Addr} {fd fdE fdB fdH : FuncData} {d1 d2 : List V} {dv : Value} {t1 t2 : Tok} (F_pis_test : FunD K "is_test" "is_test" (defArgs sPIsTest) (defBody sPIsTest) (defScope sPIsTest) d1 [] f fd) (F_pis_expression : FunD K "is_expression" "is_expression" (defArgs sPIsExpression) (defBody sPIsExpression) (defScope sPIsExpression) d2 [] fE fdE)
    (F_pis_between : Fun K "is_between" "is_between" sPIsBetween fB fdB) (F_pis_headed : Fun K "is_headed" "is_headed" sPIsHeaded fH fdH)
    (G_pis_expression : FnOk P w K mg base CX0 7 fE fdE ["value", "deep"] (spIsExpr 4)) (G_pis_between : FnOk P w K mg base CX0 2 fB fdB ["value", "low", "high"] spBetween) (G_pis_headed : FnOk P w K mg base CX0 1 fH fdH ["value", "word", "size"] spHeaded)
    (b_pis_test : Binds K fd ["value", "nots"] []) (b_pis_expression1 : Binds K fdE ["value", "deep"] [dv]) (v_pis_expression : RelV (.int 3) dv) (b_pis_between : Binds K fdB ["value", "low", "high"] []) (b_pis_headed : Binds K fdH ["value", "word", "size"] [])
    (m_pis_test : mg "is_test" = some (.ref f)) (m_pis_expression : mg "is_expression" = some (.ref fE)) (m_pis_between : mg "is_between" = some (.ref fB)) (m_pis_headed : mg "is_headed" = some (.ref fH))
    (m_MIN_BY : mg "MIN_BY" = some (.int 2 t1)) (m_MAX_BY : mg "MAX_BY" = some (.int 6 t2)) :
    ∀ m : Nat, FnOk P w K mg base CX0 (m + 7) f fd ["value", "nots"] (spIsTest m) := by
  intro m
  induction m with
  | zero => exact ⟨fun vs H Q E h => by obtain ⟨_, _, _, rfl, _⟩ := h; rfl, fun _ _ _ _ _ _ _ _ _ _ _ _ _ h => by
      obtain ⟨_, _, _, _, h, _⟩ := h
      omega⟩
  | succ m G_pis_test =>
    refine F_pis_test.ok scPIsTest (fun vs H Q E h => ?_) (fun cdv A outer s H vs Q E hr h => ?_)
    · obtain ⟨_, _, _, rfl, _⟩ := h
      rfl
    · obtain ⟨v, e, n, rfl, hn, t, nm, q⟩ := h
      refine ⟨_, PSs.nox (pss_cons (ps_if (pt_val (pe_call G_pis_headed (hr.mono (by omega)) (by rfl) m_pis_headed F_pis_headed.kp b_pis_headed .nil pass0 (pa_cons (pv 0) (pa_cons pe_str (pa_cons pe_int pa_nil))))) (pss_one (ps_ret (pe_and (pe_cmpR op_gt (pv 1) pe_int (nomark _)) (pe_one (pe_call G_pis_test (hr.mono (by omega)) (by rfl) m_pis_test F_pis_test.kp b_pis_test .nil pass0 (pa_cons (pe_ix ix_tup (pv 0) pe_int (fun _ _ => rfl)) (pa_cons (pe_op op_sub (pv 1) pe_int) pa_nil))))))) pss_nil)
      (pss_cons (ps_if (pt_val (pe_call G_pis_headed (hr.mono (by omega)) (by rfl) m_pis_headed F_pis_headed.kp b_pis_headed .nil pass0 (pa_cons (pv 0) (pa_cons pe_str (pa_cons pe_int pa_nil))))) (pss_one (ps_ret (pe_and (pe_call G_pis_expression (hr.mono (by omega)) (by rfl) m_pis_expression F_pis_expression.kp b_pis_expression1 (.cons v_pis_expression .nil) pass0 (pa_cons (pe_ix ix_tup (pv 0) pe_int (fun _ _ => rfl)) pa_nil)) (pe_one (pe_call G_pis_expression (hr.mono (by omega)) (by rfl) m_pis_expression F_pis_expression.kp b_pis_expression1 (.cons v_pis_expression .nil) pass0 (pa_cons (pe_ix ix_tup (pv 0) pe_int (fun _ _ => rfl)) pa_nil)))))) pss_nil)
      (pss_cons (ps_if (PW.pt (pw_and (pt_val (pe_call G_pis_headed (hr.mono (by omega)) (by rfl) m_pis_headed F_pis_headed.kp b_pis_headed .nil pass0 (pa_cons (pv 0) (pa_cons pe_str (pa_cons pe_int pa_nil))))) (pw_and1 (pt_val (pe_call G_pis_between (hr.mono (by omega)) (by rfl) m_pis_between F_pis_between.kp b_pis_between .nil pass0 (pa_cons (pe_ix ix_tup (pv 0) pe_int (fun _ _ => rfl)) (pa_cons (pe_glob (v := .int 2) (by rfl) m_MIN_BY ⟨_, rfl⟩) (pa_cons (pe_glob (v := .int 6) (by rfl) m_MAX_BY ⟨_, rfl⟩) pa_nil)))))))) (pss_one (ps_ret (pe_and (pe_call G_pis_expression (hr.mono (by omega)) (by rfl) m_pis_expression F_pis_expression.kp b_pis_expression1 (.cons v_pis_expression .nil) pass0 (pa_cons (pe_ix ix_tup (pv 0) pe_int (fun _ _ => rfl)) pa_nil)) (pe_one (pe_call G_pis_between (hr.mono (by omega)) (by rfl) m_pis_between F_pis_between.kp b_pis_between .nil pass0 (pa_cons (pe_ix ix_tup (pv 0) pe_int (fun _ _ => rfl)) (pa_cons pe_int (pa_cons (pe_op op_sub (pe_ix ix_tup (pv 0) pe_int (fun _ _ => rfl)) pe_int) pa_nil)))))))) pss_nil)
      (pss_one (ps_ret pe_bl))))), ?_⟩
      have hv := Ts.hdV t
      cases e with
      | not u =>
        obtain ⟨a, p, x, rfl, ha, t1, t2⟩ := tp2 t
        refine ⟨_, rfl, _, _, _, _, rfl, hv, _, rfl, hd_yes (show hdIs (some ("not", 2)) "not" 2 = true by decide +kernel) ?_⟩
        refine (⟨_, rfl, _, _, rfl, rfl, _, rfl, ?_⟩)
        cases n with
        | zero =>
          refine iteN (by decide) ?_
          exact q H (Sx.refl _)
        | succ n =>
          refine iteP (decide_eq_true (by show ((n + 1 : Nat) : Int) > 0; omega)) ?_
          have e1 : ((n + 1 : Nat) : Int) - 1 = (n : Int) := by omega
          refine ⟨_, rfl, a, _, _, x, rfl, rfl, SqT.of ha, rfl, _, rfl, _, 1, rfl, rfl, x, u, n, by show [x, V.int (((n + 1 : Nat) : Int) - 1)] = [x, V.int (n : Int)]; rw [e1], by omega, t2, nm, fun H' s' => ?_⟩
          have := q H' s'
          rw [show (Ts.not u).okB (n + 1) = (decide (0 < n + 1) && u.okB n) from rfl, decide_eq_true (by omega : 0 < n + 1), Bool.true_and] at this
          exact this
      | less x y =>
        obtain ⟨a, p, u, r, rfl, ha, t1, t2, t3⟩ := tp3 t
        refine ⟨_, rfl, _, _, _, _, rfl, hv, _, rfl, hd_no (show hdIs (some ("less", 3)) "not" 2 = false by decide +kernel) ?_⟩
        refine ⟨_, rfl, _, _, _, _, rfl, hv, _, rfl, hd_yes (show hdIs (some ("less", 3)) "less" 3 = true by decide +kernel) ?_⟩
        refine ⟨_, rfl, a, _, _, u, rfl, rfl, SqT.of ha, rfl, u, x, 3, rfl, by omega, t2, nm.1, fun H1 s1 => ⟨_, rfl, ?_⟩⟩
        have q1 : ∀ H', Sx [] H H' → Q (.bl (x.okB 3 && y.okB 3)) H' := q
        cases hx : x.okB 3 with
        | false =>
          rw [hx] at q1
          exact iteF (q1 H1 s1)
        | true =>
          rw [hx] at q1
          exact iteT ⟨_, rfl, a, _, _, r, rfl, rfl, SqT.of (s1 _ _ (by simp) ha), rfl, r, y, 3, rfl, by omega, t3.keep s1.tk0, nm.2, fun H2 s2 => q1 H2 (s1.trans s2)⟩
      | rest x b r =>
        obtain ⟨a, p, u, y, z, rfl, ha, t1, t2, t3, t4⟩ := tp4 t
        obtain rfl := tpI t3
        obtain rfl := tpI t4
        refine ⟨_, rfl, _, _, _, _, rfl, hv, _, rfl, hd_no (show hdIs (some ("rest", 4)) "not" 2 = false by decide +kernel) ?_⟩
        refine ⟨_, rfl, _, _, _, _, rfl, hv, _, rfl, hd_no (show hdIs (some ("rest", 4)) "less" 3 = false by decide +kernel) ?_⟩
        refine ⟨_, rfl, _, _, _, _, rfl, hv, _, rfl, hd_yes (show hdIs (some ("rest", 4)) "rest" 4 = true by decide +kernel) ?_⟩
        refine ⟨_, rfl, a, _, _, _, rfl, rfl, SqT.of ha, rfl, b, 2, 6, rfl, _, rfl, ?_⟩
        have q1 : ∀ H', Sx [] H H' → Q (.bl ((decide (2 ≤ b) && decide (b ≤ 6)) && (x.okB 3 && (decide (0 ≤ r) && decide (r ≤ b - 1))))) H' := q
        cases hb : (decide (2 ≤ b) && decide (b ≤ 6)) with
        | false =>
          rw [hb] at q1
          exact iteF (q1 H (Sx.refl _))
        | true =>
          rw [hb] at q1
          refine iteT ⟨_, rfl, a, _, _, u, rfl, rfl, SqT.of ha, rfl, u, x, 3, rfl, by omega, t2, nm, fun H1 s1 => ⟨_, rfl, ?_⟩⟩
          cases hx : x.okB 3 with
          | false =>
            rw [hx] at q1
            exact iteF (q1 H1 s1)
          | true =>
            rw [hx] at q1
            have ha1 := s1 _ _ (by simp) ha
            exact iteT ⟨_, rfl, a, _, _, _, rfl, rfl, SqT.of ha1, rfl, _, rfl, a, _, _, _, rfl, rfl, SqT.of ha1, rfl, _, 1, rfl, rfl, r, 0, b - 1, rfl, q1 H1 s1⟩
theorem ok_pstatement {f fE fB fH fN fT : Addr} {fd fdE fdB fdH fdN fdT : FuncData} {d1 d2 : List V} {dv dv2 : Value} {t1 : Tok} (F_pis_statement : Fun K "is_statement" "is_statement" sPIsStatement f fd) (F_pis_test : FunD K "is_test" "is_test" (defArgs sPIsTest) (defBody sPIsTest) (defScope sPIsTest) d1 [] fT fdT) (F_pis_expression : FunD K "is_expression" "is_expression" (defArgs sPIsExpression) (defBody sPIsExpression) (defScope sPIsExpression) d2 [] fE fdE)
    (F_pis_between : Fun K "is_between" "is_between" sPIsBetween fB fdB) (F_pis_headed : Fun K "is_headed" "is_headed" sPIsHeaded fH fdH) (F_pis_name : Fun K "is_name" "is_name" sPIsName fN fdN)
    (G_pis_test : FnOk P w K mg base CX0 10 fT fdT ["value", "nots"] (spIsTest 3)) (G_pis_expression : FnOk P w K mg base CX0 7 fE fdE ["value", "deep"] (spIsExpr 4)) (G_pis_between : FnOk P w K mg base CX0 2 fB fdB ["value", "low", "high"] spBetween) (G_pis_headed : FnOk P w K mg base CX0 1 fH fdH ["value", "word", "size"] spHeaded) (G_pis_name : FnOk P w K mg base CX0 1 fN fdN ["value"] spName)
    (b_pis_test1 : Binds K fdT ["value", "nots"] [dv2]) (v_pis_test : RelV (.int 2) dv2) (b_pis_expression1 : Binds K fdE ["value", "deep"] [dv]) (v_pis_expression : RelV (.int 3) dv) (b_pis_between : Binds K fdB ["value", "low", "high"] []) (b_pis_headed : Binds K fdH ["value", "word", "size"] []) (b_pis_name : Binds K fdN ["value"] [])
    (m_pis_test : mg "is_test" = some (.ref fT)) (m_pis_expression : mg "is_expression" = some (.ref fE)) (m_pis_between : mg "is_between" = some (.ref fB)) (m_pis_headed : mg "is_headed" = some (.ref fH)) (m_pis_name : mg "is_name" = some (.ref fN))
    (m_MAX_TIMES : mg "MAX_TIMES" = some (.int 8 t1)) (z_isinstance : mg "isinstance" = none) (z_tuple : mg "tuple" = none) : FnOk P w K mg base CX0 11 f fd ["value"] spIsSt := by
  refine F_pis_statement.ok scPIsStatement (fun vs H Q E h => ?_) (fun cdv A outer s H vs Q E hr h => ?_)
  · obtain ⟨_, _, rfl, _⟩ := h
    rfl
  · obtain ⟨v, e, rfl, t, nm, q⟩ := h
    refine ⟨_, (pss_cons (ps_if (pt_val (pe_call G_pis_headed (hr.mono (by omega)) (by rfl) m_pis_headed F_pis_headed.kp b_pis_headed .nil pass0 (pa_cons (pv 0) (pa_cons pe_str (pa_cons pe_int pa_nil))))) (pss_one (ps_ret (pe_and (pe_call G_pis_name (hr.mono (by omega)) (by rfl) m_pis_name F_pis_name.kp b_pis_name .nil pass0 (pa_cons (pe_ix ix_tup (pv 0) pe_int (fun _ _ => rfl)) pa_nil)) (pe_one (pe_call G_pis_expression (hr.mono (by omega)) (by rfl) m_pis_expression F_pis_expression.kp b_pis_expression1 (.cons v_pis_expression .nil) pass0 (pa_cons (pe_ix ix_tup (pv 0) pe_int (fun _ _ => rfl)) pa_nil)))))) pss_nil)
      (pss_cons (ps_if (pt_val (pe_call G_pis_headed (hr.mono (by omega)) (by rfl) m_pis_headed F_pis_headed.kp b_pis_headed .nil pass0 (pa_cons (pv 0) (pa_cons pe_str (pa_cons pe_int pa_nil))))) (pss_one (ps_ret (pe_call G_pis_expression (hr.mono (by omega)) (by rfl) m_pis_expression F_pis_expression.kp b_pis_expression1 (.cons v_pis_expression .nil) pass0 (pa_cons (pe_ix ix_tup (pv 0) pe_int (fun _ _ => rfl)) pa_nil)))) pss_nil)
      (pss_cons (ps_if (pt_val (pe_call G_pis_headed (hr.mono (by omega)) (by rfl) m_pis_headed F_pis_headed.kp b_pis_headed .nil pass0 (pa_cons (pv 0) (pa_cons pe_str (pa_cons pe_int pa_nil))))) (pss_one (ps_ret (pe_and (pe_call G_pis_test (hr.mono (by omega)) (by rfl) m_pis_test F_pis_test.kp b_pis_test1 (.cons v_pis_test .nil) pass0 (pa_cons (pe_ix ix_tup (pv 0) pe_int (fun _ _ => rfl)) pa_nil)) (pe_and (pe_callB call_isi (by rfl) z_isinstance (by decide +kernel) (pa_cons (pe_ix ix_tup (pv 0) pe_int (fun _ _ => rfl)) (pa_cons (pe_bltn (v := .ty "tuple") (by rfl) z_tuple (by decide +kernel) rfl) pa_nil))) (pe_one (pe_callB call_isi (by rfl) z_isinstance (by decide +kernel) (pa_cons (pe_ix ix_tup (pv 0) pe_int (fun _ _ => rfl)) (pa_cons (pe_bltn (v := .ty "tuple") (by rfl) z_tuple (by decide +kernel) rfl) pa_nil)))))))) pss_nil)
      (pss_cons (ps_if (pt_val (pe_call G_pis_headed (hr.mono (by omega)) (by rfl) m_pis_headed F_pis_headed.kp b_pis_headed .nil pass0 (pa_cons (pv 0) (pa_cons pe_str (pa_cons pe_int pa_nil))))) (pss_one (ps_ret (pe_and (pe_call G_pis_between (hr.mono (by omega)) (by rfl) m_pis_between F_pis_between.kp b_pis_between .nil pass0 (pa_cons (pe_ix ix_tup (pv 0) pe_int (fun _ _ => rfl)) (pa_cons pe_int (pa_cons (pe_glob (v := .int 8) (by rfl) m_MAX_TIMES ⟨_, rfl⟩) pa_nil)))) (pe_one (pe_callB call_isi (by rfl) z_isinstance (by decide +kernel) (pa_cons (pe_ix ix_tup (pv 0) pe_int (fun _ _ => rfl)) (pa_cons (pe_bltn (v := .ty "tuple") (by rfl) z_tuple (by decide +kernel) rfl) pa_nil))))))) pss_nil)
      (pss_one (ps_ret (pe_call G_pis_headed (hr.mono (by omega)) (by rfl) m_pis_headed F_pis_headed.kp b_pis_headed .nil pass0 (pa_cons (pv 0) (pa_cons pe_str (pa_cons pe_int pa_nil)))))))))), ?_⟩
    have hv := St.hdV t
    cases e with
    | set z x =>
      obtain ⟨a, p, u, r, rfl, ha, t1, t2, t3⟩ := tp3 t
      obtain rfl := tpS t2
      refine ⟨_, rfl, _, _, _, _, rfl, hv, _, rfl, hd_yes (show hdIs (some ("set", 3)) "set" 3 = true by decide +kernel) ?_⟩
      refine ⟨_, rfl, a, _, _, _, rfl, rfl, SqT.of ha, rfl, z, rfl, nm.1, fun H1 s1 => ⟨_, rfl, iteT ?_⟩⟩
      exact ⟨_, rfl, a, _, _, r, rfl, rfl, SqT.of (s1 _ _ (by simp) ha), rfl, r, x, 3, rfl, by omega, t3.keep s1.tk0, nm.2, fun H2 s2 => q H2 (s1.trans s2)⟩
    | pay x =>
      obtain ⟨a, p, u, rfl, ha, t1, t2⟩ := tp2 t
      refine ⟨_, rfl, _, _, _, _, rfl, hv, _, rfl, hd_no (show hdIs (some ("pay", 2)) "set" 3 = false by decide +kernel) ?_⟩
      refine ⟨_, rfl, _, _, _, _, rfl, hv, _, rfl, hd_yes (show hdIs (some ("pay", 2)) "pay" 2 = true by decide +kernel) ?_⟩
      exact ⟨_, rfl, a, _, _, u, rfl, rfl, SqT.of ha, rfl, u, x, 3, rfl, by omega, t2, nm, fun H2 s2 => q H2 s2⟩
    | stop =>
      refine ⟨_, rfl, _, _, _, _, rfl, hv, _, rfl, hd_no (show hdIs (some ("stop", 1)) "set" 3 = false by decide +kernel) ?_⟩
      refine ⟨_, rfl, _, _, _, _, rfl, hv, _, rfl, hd_no (show hdIs (some ("stop", 1)) "pay" 2 = false by decide +kernel) ?_⟩
      refine ⟨_, rfl, _, _, _, _, rfl, hv, _, rfl, hd_no (show hdIs (some ("stop", 1)) "if" 4 = false by decide +kernel) ?_⟩
      refine ⟨_, rfl, _, _, _, _, rfl, hv, _, rfl, hd_no (show hdIs (some ("stop", 1)) "repeat" 3 = false by decide +kernel) ?_⟩
      refine ⟨_, rfl, _, _, _, _, rfl, hv, ?_⟩
      rw [show hdIs St.stop.hdv "stop" 1 = true by decide +kernel]
      exact q H (Sx.refl _)
    | ite x y n =>
      obtain ⟨a, p, u, y', n', rfl, ha, t1, t2, t3, t4⟩ := tp4 t
      refine ⟨_, rfl, _, _, _, _, rfl, hv, _, rfl, hd_no (show hdIs (some ("if", 4)) "set" 3 = false by decide +kernel) ?_⟩
      refine ⟨_, rfl, _, _, _, _, rfl, hv, _, rfl, hd_no (show hdIs (some ("if", 4)) "pay" 2 = false by decide +kernel) ?_⟩
      refine ⟨_, rfl, _, _, _, _, rfl, hv, _, rfl, hd_yes (show hdIs (some ("if", 4)) "if" 4 = true by decide +kernel) ?_⟩
      refine ⟨_, rfl, a, _, _, u, rfl, rfl, SqT.of ha, rfl, u, x, 2, rfl, by omega, t2, nm, fun H1 s1 => ⟨_, rfl, ?_⟩⟩
      have q1 : ∀ H', Sx [] H H' → Q (.bl (x.okB 2)) H' := q
      cases hx : x.okB 2 with
      | false =>
        rw [hx] at q1
        exact iteF (q1 H1 s1)
      | true =>
        rw [hx] at q1
        have ha1 := s1 _ _ (by simp) ha
        obtain ⟨b1, xs1, rfl, hb1, _⟩ := (t3.keep s1.tk0).tuple
        obtain ⟨b2, xs2, rfl, hb2, _⟩ := (t4.keep s1.tk0).tuple
        refine iteT ⟨_, rfl, a, _, _, _, rfl, rfl, SqT.of ha1, rfl, _, _, _, _, _, rfl, .ty _, .base (.tup hb1), kit_ty (r := true) (by decide +kernel), _, rfl, iteT ?_⟩
        exact ⟨_, rfl, a, _, _, _, rfl, rfl, SqT.of ha1, rfl, _, _, _, _, _, rfl, .ty _, .base (.tup hb2), kit_ty (r := true) (by decide +kernel), q1 H1 s1⟩
    | rep k y =>
      obtain ⟨a, p, u, y', rfl, ha, t1, t2, t3⟩ := tp3 t
      obtain rfl := tpI t2
      refine ⟨_, rfl, _, _, _, _, rfl, hv, _, rfl, hd_no (show hdIs (some ("repeat", 3)) "set" 3 = false by decide +kernel) ?_⟩
      refine ⟨_, rfl, _, _, _, _, rfl, hv, _, rfl, hd_no (show hdIs (some ("repeat", 3)) "pay" 2 = false by decide +kernel) ?_⟩
      refine ⟨_, rfl, _, _, _, _, rfl, hv, _, rfl, hd_no (show hdIs (some ("repeat", 3)) "if" 4 = false by decide +kernel) ?_⟩
      refine ⟨_, rfl, _, _, _, _, rfl, hv, _, rfl, hd_yes (show hdIs (some ("repeat", 3)) "repeat" 3 = true by decide +kernel) ?_⟩
      refine ⟨_, rfl, a, _, _, _, rfl, rfl, SqT.of ha, rfl, k, 1, 8, rfl, _, rfl, ?_⟩
      have q1 : ∀ H', Sx [] H H' → Q (.bl (decide (1 ≤ k) && decide (k ≤ 8))) H' := q
      cases hx : (decide (1 ≤ k) && decide (k ≤ 8)) with
      | false =>
        rw [hx] at q1
        exact iteF (q1 H (Sx.refl _))
      | true =>
        rw [hx] at q1
        obtain ⟨b1, xs1, rfl, hb1, _⟩ := t3.tuple
        exact iteT ⟨_, rfl, a, _, _, _, rfl, rfl, SqT.of ha, rfl, _, _, _, _, _, rfl, .ty _, .base (.tup hb1), kit_ty (r := true) (by decide +kernel), q1 H (Sx.refl _)⟩
end
/-- the first bound that is passed -/
def Bk.bnd (b : Bk) : PyData :=
  if 24 < (b.sz : Int) then .tuple [.none, .str "places"] else if 30 < b.sumO (fun _ => 1) then .tuple [.none, .str "weight"]
  else if 2 < b.sumO (ownT "rest") then .tuple [.none, .str "rests"] else if 2 < b.sumO (ownT "less") then .tuple [.none, .str "comparings"] else .none
def spBound (PW PT : Addr) (d : Nat) : Sp := fun vs H Q _ => ∃ (v : V) (b : Bk), vs = [v] ∧ Tp H v (.tuple b.ds) ∧ b.fac d ∧ b.sz < 16777216 ∧ LamX.Tabs (TL PW PT) H ∧ ∀ H' r, Sx [PW, PT] H H' → LamX.Tabs (TL PW PT) H' → Tp H' r b.bnd → Q r H'
theorem tabs_tk {PW PT : Addr} {H H' : Hp} (hT : LamX.Tabs (TL PW PT) H) (s : Sx [PW, PT] H H') : Tk H H' := fun b xs e => s b _ (fun hb => by
  rcases List.mem_cons.1 hb with rfl | hb
  · obtain ⟨ps, hP, _⟩ := hT _ (List.mem_cons_self ..)
    rw [show H b = _ from hP] at e
    cases e
  · obtain ⟨ps, hP, _⟩ := hT _ (List.mem_cons_of_mem _ (List.mem_cons_self ..))
    rw [List.mem_singleton.mp hb, show H PT = _ from hP] at e
    cases e) e
section
variable {w : World} {P : Program} {K : PySem.W.Frag} {mg : Str → Option Value} {base : Heap}
theorem ok_pbound {f fP fW fT : Addr} {fd fdP fdW fdT : FuncData} {c1 c2 PW PT : Addr} {D : Nat} {t1 t2 t3 t4 : Tok} (F_pbound_error : Fun K "bound_error" "bound_error" sPBoundError f fd) (F_pplaces_in : Fun K "places_in" "places_in" sPPlacesIn fP fdP) (F_pweight : FunC K "weight" "weight" sPWeight fW fdW c1) (F_ptested_in : FunC K "tested_in" "tested_in" sPTestedIn fT fdT c2)
    (G_pplaces_in : FnOk P w K mg base CX0 6 fP fdP ["block"] spPlaces) (G_pweight : FnOk P w K mg base CX0 (D + 6) fW fdW ["program"] (spWeight PW PT D)) (G_ptested_in : FnOk P w K mg base CX0 (D + 6) fT fdT ["block", "word"] (spTested PW PT D))
    (b_pplaces_in : Binds K fdP ["block"] []) (b_pweight : Binds K fdW ["program"] []) (b_ptested_in : Binds K fdT ["block", "word"] []) (m_pplaces_in : mg "places_in" = some (.ref fP)) (m_pweight : mg "weight" = some (.ref fW)) (m_ptested_in : mg "tested_in" = some (.ref fT))
    (m_MAX_PLACES : mg "MAX_PLACES" = some (.int 24 t1)) (m_MAX_WEIGHT : mg "MAX_WEIGHT" = some (.int 30 t2)) (m_MAX_RESTS : mg "MAX_RESTS" = some (.int 2 t3)) (m_MAX_COMPARINGS : mg "MAX_COMPARINGS" = some (.int 2 t4)) : FnOk P w K mg base CX0 (D + 7) f fd ["program"] (spBound PW PT D) := by
  refine F_pbound_error.ok scPBoundError (fun vs H Q E h => ?_) (fun cdv A outer s H vs Q E hr h => ?_)
  · obtain ⟨_, _, rfl, _⟩ := h
    rfl
  · obtain ⟨v, b, rfl, t, hf, hz, hT, q⟩ := h
    refine ⟨_, (pss_cons (ps_if (pt_cmpR op_gt (pe_call G_pplaces_in (hr.mono (by omega)) (by rfl) m_pplaces_in F_pplaces_in.kp b_pplaces_in .nil pass0 (pa_cons (pv 0) pa_nil)) (pe_glob (v := .int 24) (by rfl) m_MAX_PLACES ⟨_, rfl⟩) (nomark _)) (pss_one (ps_ret (pe_tup (pa_cons pe_non (pa_cons pe_str pa_nil))))) pss_nil)
      (pss_cons (ps_if (pt_cmpR op_gt (pe_call G_pweight (hr.mono (by omega)) (by rfl) m_pweight F_pweight.kp b_pweight .nil pass0 (pa_cons (pv 0) pa_nil)) (pe_glob (v := .int 30) (by rfl) m_MAX_WEIGHT ⟨_, rfl⟩) (nomark _)) (pss_one (ps_ret (pe_tup (pa_cons pe_non (pa_cons pe_str pa_nil))))) pss_nil)
      (pss_cons (ps_if (pt_cmpR op_gt (pe_call G_ptested_in (hr.mono (by omega)) (by rfl) m_ptested_in F_ptested_in.kp b_ptested_in .nil pass0 (pa_cons (pv 0) (pa_cons pe_str pa_nil))) (pe_glob (v := .int 2) (by rfl) m_MAX_RESTS ⟨_, rfl⟩) (nomark _)) (pss_one (ps_ret (pe_tup (pa_cons pe_non (pa_cons pe_str pa_nil))))) pss_nil)
      (pss_cons (ps_if (pt_cmpR op_gt (pe_call G_ptested_in (hr.mono (by omega)) (by rfl) m_ptested_in F_ptested_in.kp b_ptested_in .nil pass0 (pa_cons (pv 0) (pa_cons pe_str pa_nil))) (pe_glob (v := .int 2) (by rfl) m_MAX_COMPARINGS ⟨_, rfl⟩) (nomark _)) (pss_one (ps_ret (pe_tup (pa_cons pe_non (pa_cons pe_str pa_nil))))) pss_nil)
      (pss_one (ps_ret pe_non)))))), ?_⟩
    unfold Bk.bnd at q
    have told : ∀ (z : Str) {H1 : Hp} {p : Addr}, H1 p = none → Tp (upd H1 p (.tup [.non, .str z])) (.ref p) (.tuple [.none, .str z]) := fun z H1 p hp => .tup upd_same (.cons .non (.cons (.str z) .nil))
    refine ⟨_, rfl, v, b, rfl, t, hz, fun H1 s1 => ⟨_, 24, rfl, rfl, _, rfl, ite2 (fun e => ?_) (fun e => ?_)⟩⟩
    · rw [if_pos (of_decide_eq_true e)] at q
      exact ⟨by show 2 ≤ sizeLine; decide, fun p hp => q _ _ (s1.new hp).nil (Tabs.sx hT (s1.new hp)) (told _ hp)⟩
    · rw [if_neg (fun z => e (decide_eq_true z))] at q
      refine ⟨_, rfl, v, b, rfl, t.keep s1.tk0, hf, Tabs.sx hT s1, fun H2 s2 hT2 => ⟨_, 30, rfl, rfl, _, rfl, ite2 (fun e => ?_) (fun e => ?_)⟩⟩
      · rw [if_pos (of_decide_eq_true e)] at q
        exact ⟨by show 2 ≤ sizeLine; decide, fun p hp => q _ _ ((s1.nil.trans (s2.mono (by simp))).new hp) (Tabs.sx hT2 (Sx.n0 hp)) (told _ hp)⟩
      · rw [if_neg (fun z => e (decide_eq_true z))] at q
        have s12 : Sx [PW, PT] H H2 := s1.nil.trans (s2.mono (by simp))
        refine ⟨_, rfl, v, b, "rest", rfl, t.keep (tabs_tk hT s12), hf, hT2, fun H3 s3 hT3 => ⟨_, 2, rfl, rfl, _, rfl, ite2 (fun e => ?_) (fun e => ?_)⟩⟩
        · rw [if_pos (of_decide_eq_true e)] at q
          exact ⟨by show 2 ≤ sizeLine; decide, fun p hp => q _ _ ((s12.trans (s3.mono (by simp))).new hp) (Tabs.sx hT3 (Sx.n0 hp)) (told _ hp)⟩
        · rw [if_neg (fun z => e (decide_eq_true z))] at q
          have s13 : Sx [PW, PT] H H3 := s12.trans (s3.mono (by simp))
          refine ⟨_, rfl, v, b, "less", rfl, t.keep (tabs_tk hT s13), hf, hT3, fun H4 s4 hT4 => ⟨_, 2, rfl, rfl, _, rfl, ite2 (fun e => ?_) (fun e => ?_)⟩⟩
          · rw [if_pos (of_decide_eq_true e)] at q
            exact ⟨by show 2 ≤ sizeLine; decide, fun p hp => q _ _ ((s13.trans (s4.mono (by simp))).new hp) (Tabs.sx hT4 (Sx.n0 hp)) (told _ hp)⟩
          · rw [if_neg (fun z => e (decide_eq_true z))] at q
            exact q _ _ (s13.trans (s4.mono (by simp))) hT4 .non
end
/-! ### what a run does not wake stays asleep -/
def isRet : Frame → Bool
  | .ret .. => true
  | .gen .. => false
/-- a generator that no run can wake -/
def Poison (x : GenState) : Prop := ∃ w l c p fs cl, x = .suspended (fun _ => .unsupported w) l c p fs cl
def GoodSt : GenState → Prop
  | .suspended _ _ _ _ fs _ => ∀ F ∈ fs, isRet F = true
  | _ => True
def EndRet : End → Prop
  | .ret _ => True
  | .susp _ _ _ _ _ _ fs => ∀ F ∈ fs, isRet F = true
/-- R is X but where X cannot be woken; there both look alike -/
def RelG (R X : Array GenState) : Prop := R.size = X.size ∧ ∀ (i : Nat) (x : GenState), X[i]? = some x → (R[i]? = some x ∧ GoodSt x) ∨ (Poison x ∧ ∃ r : GenState, R[i]? = some r ∧ r.seen = x.seen ∧ r.bare = x.bare)
def KeptG (R X R' X' : Array GenState) : Prop := ∀ (i : Nat) (x : GenState), X[i]? = some x → (Poison x ∨ x = .running) → X'[i]? = some x ∧ R'[i]? = R[i]?
theorem KeptG.refl {R X : Array GenState} : KeptG R X R X := fun _ _ h _ => ⟨h, rfl⟩
theorem KeptG.trans {R X R1 X1 R2 X2 : Array GenState} (a : KeptG R X R1 X1) (b : KeptG R1 X1 R2 X2) : KeptG R X R2 X2 := fun i x h p => by
  obtain ⟨h1, h2⟩ := a i x h p
  obtain ⟨h3, h4⟩ := b i x h1 p
  exact ⟨h3, h4.trans h2⟩
theorem no_run {M : Model} {Γ : PySem.Ctx} {p : Pos} {t : Sem PySem.Fin} {fs : List Frame} {s s' : Shared} {e : End} (h : Runs M Γ p t fs s e s') : ∀ w, t ≠ .unsupported w := by
  induction h with
  | segRet _ _ ih _ => exact ih
  | segGen _ _ ih _ => exact ih
  | segSuspOut _ _ ih => exact ih
  | segSuspGen _ _ _ _ ih _ => exact ih
  | _ => intro w z; cases z
theorem RelG.get {R X : Array GenState} (r : RelG R X) {i : Nat} {x : GenState} (h : X[i]? = some x) (n : ¬ Poison x) : R[i]? = some x ∧ GoodSt x := by
  rcases r.2 i x h with z | z
  · exact z
  · exact absurd z.1 n
theorem RelG.push {R X : Array GenState} {st : GenState} (r : RelG R X) (g : GoodSt st) : RelG (R.push st) (X.push st) ∧ KeptG R X (R.push st) (X.push st) := by
  obtain ⟨hs, hr⟩ := r
  refine ⟨⟨by rw [Array.size_push, Array.size_push, hs], fun i x h => ?_⟩, fun i x h _ => ?_⟩
  · by_cases hi : i = X.size
    · subst hi
      rw [Array.getElem?_push_size] at h
      cases h
      exact .inl ⟨by rw [← hs]; exact Array.getElem?_push_size .., g⟩
    · have h2 : X[i]? = some x := by rw [Array.getElem?_push, if_neg hi] at h; exact h
      have e : ∀ st, (R.push st)[i]? = R[i]? := fun st => by rw [Array.getElem?_push, if_neg (by rw [hs]; exact hi)]
      rw [e]
      exact hr i x h2
  · have hi : i < X.size := (Array.getElem?_eq_some_iff.mp h).1
    exact ⟨by rw [Array.getElem?_push, if_neg (Nat.ne_of_lt hi)]; exact h, by rw [Array.getElem?_push, if_neg (by rw [hs]; exact Nat.ne_of_lt hi)]⟩
theorem RelG.set {R X : Array GenState} {g : Nat} {st : GenState} (r : RelG R X) (hg : GoodSt st) : RelG (R.setIfInBounds g st) (X.setIfInBounds g st) := by
  obtain ⟨hs, hr⟩ := r
  refine ⟨by rw [Array.size_setIfInBounds, Array.size_setIfInBounds, hs], fun i x h => ?_⟩
  by_cases hi : g = i
  · subst hi
    by_cases hb : g < X.size
    · rw [Array.getElem?_setIfInBounds_self_of_lt hb] at h
      cases h
      exact .inl ⟨Array.getElem?_setIfInBounds_self_of_lt (by rw [hs]; exact hb), hg⟩
    · have := (Array.getElem?_eq_some_iff.mp h).1
      rw [Array.size_setIfInBounds] at this
      exact absurd this hb
  · rw [Array.getElem?_setIfInBounds_ne hi] at h ⊢
    exact hr i x h
/-- what is written at g, which was awake to nothing -/
theorem KeptG.at {R X R1 X1 : Array GenState} {g : Nat} {st : GenState} (k : KeptG R X R1 X1) (n : ∀ x, X[g]? = some x → ¬ (Poison x ∨ x = .running)) : KeptG R X (R1.setIfInBounds g st) (X1.setIfInBounds g st) := fun i x h p => by
  have hi : g ≠ i := fun z => by subst z; exact n x h p
  rw [Array.getElem?_setIfInBounds_ne hi, Array.getElem?_setIfInBounds_ne hi]
  exact k i x h p
theorem split_ret : ∀ {fs : List Frame}, (∀ F ∈ fs, isRet F = true) → splitAtGen fs = none
  | [], _ => rfl
  | .ret .. :: r, h => by
    show (splitAtGen r).map _ = none
    rw [split_ret fun F hF => h F (List.mem_cons_of_mem _ hF)]
    rfl
  | .gen .. :: r, h => by have := h _ List.mem_cons_self; cases this
theorem not_poison_fresh {c : Code} : ¬ Poison (.fresh c) := fun ⟨_, _, _, _, _, _, h⟩ => by cases h
theorem not_poison_running : ¬ Poison .running := fun ⟨_, _, _, _, _, _, h⟩ => by cases h
theorem not_poison_finished : ¬ Poison .finished := fun ⟨_, _, _, _, _, _, h⟩ => by cases h
theorem good_of {e : End} (h : EndRet e) : GoodSt e.genState := by
  cases e with
  | ret r => trivial
  | susp => exact h
theorem wake_free {x y : GenState} (h : some x = some y) (n : ¬ Poison x) (m : x ≠ .running) : ¬ (Poison y ∨ y = .running) := by
  cases h
  exact fun z => z.elim n m
theorem not_poison_run {M : Model} {Γ : PySem.Ctx} {p p₂ : Pos} {k : Resume → Sem PySem.Fin} {r : Resume} {fs fs₂ : List Frame} {s s' : Shared} {e : End} {l : List Value} {c : Code} {cl : Bool} {y : GenState} (h : Runs M Γ p (k r) fs s e s') (hy : y = .suspended k l c p₂ fs₂ cl) : ¬ Poison y := fun ⟨w, _, _, _, _, _, z⟩ => by
  rw [hy] at z
  injection z with z1
  exact no_run h w (by rw [z1])
theorem np_at {M : Model} {Γ : PySem.Ctx} {p p₂ : Pos} {k : Resume → Sem PySem.Fin} {r : Resume} {fs fs₂ : List Frame} {s s' : Shared} {e : End} {l : List Value} {c : Code} {cl : Bool} {G : Array GenState} {g : Nat} (_ : G[g]? = some (.suspended k l c p₂ fs₂ cl)) (h : Runs M Γ p (k r) fs s e s') : ¬ Poison (.suspended k l c p₂ fs₂ cl) := not_poison_run h rfl
theorem swap {M : Model} {Γ : PySem.Ctx} {p : Pos} {t : Sem PySem.Fin} {fs : List Frame} {s s' : Shared} {e : End} (h : Runs M Γ p t fs s e s') :
    (∀ F ∈ fs, isRet F = true) → ∀ R, RelG R s.gens → ∃ R', RelG R' s'.gens ∧ KeptG R s.gens R' s'.gens ∧ Runs M Γ p t fs { s with gens := R } e { s' with gens := R' } ∧ EndRet e := by
  induction h with
  | done => intro _ R r; exact ⟨R, r, .refl, .done, trivial⟩
  | raise => intro _ R r; exact ⟨R, r, .refl, .raise, trivial⟩
  | again q _ ih => intro hf R r; obtain ⟨R', r', k, h', e'⟩ := ih hf R r; exact ⟨R', r', k, .again q h', e'⟩
  | rule _ ih => intro hf R r; obtain ⟨R', r', k, h', e'⟩ := ih hf R r; exact ⟨R', r', k, .rule h', e'⟩
  | «at» _ ih => intro hf R r; obtain ⟨R', r', k, h', e'⟩ := ih hf R r; exact ⟨R', r', k, .at h', e'⟩
  | load ho _ ih => intro hf R r; obtain ⟨R', r', k, h', e'⟩ := ih hf R r; exact ⟨R', r', k, .load ho h', e'⟩
  | update ho _ ih => intro hf R r; obtain ⟨R', r', k, h', e'⟩ := ih hf R r; exact ⟨R', r', k, .update ho h', e'⟩
  | loadIfAlive _ ih => intro hf R r; obtain ⟨R', r', k, h', e'⟩ := ih hf R r; exact ⟨R', r', k, .loadIfAlive h', e'⟩
  | point _ ih => intro hf R r; obtain ⟨R', r', k, h', e'⟩ := ih hf R r; exact ⟨R', r', k, .point h', e'⟩
  | alloc _ ih => intro hf R r; obtain ⟨R', r', k, h', e'⟩ := ih hf R r; exact ⟨R', r', k, .alloc h', e'⟩
  | fresh _ ih => intro hf R r; obtain ⟨R', r', k, h', e'⟩ := ih hf R r; exact ⟨R', r', k, .fresh h', e'⟩
  | ask _ ih => intro hf R r; obtain ⟨R', r', k, h', e'⟩ := ih hf R r; exact ⟨R', r', k, .ask h', e'⟩
  | choose hn _ ih => intro hf R r; obtain ⟨R', r', k, h', e'⟩ := ih hf R r; exact ⟨R', r', k, .choose hn h', e'⟩
  | os _ ih => intro hf R r; obtain ⟨R', r', k, h', e'⟩ := ih hf R r; exact ⟨R', r', k, .os h', e'⟩
  | handled _ ih => intro hf R r; obtain ⟨R', r', k, h', e'⟩ := ih hf R r; exact ⟨R', r', k, .handled h', e'⟩
  | genState hg _ ih =>
    intro hf R r
    obtain ⟨R', r', k, h', e'⟩ := ih hf R r
    rcases r.2 _ _ hg with z | ⟨_, st, z1, z2, _⟩
    · exact ⟨R', r', k, .genState z.1 h', e'⟩
    · refine ⟨R', r', k, .genState z1 ?_, e'⟩
      rw [z2]
      exact h'
  | stack _ ih => intro hf R r; obtain ⟨R', r', k, h', e'⟩ := ih hf R r; exact ⟨R', r', k, .stack h', e'⟩
  | thread _ ih => intro hf R r; obtain ⟨R', r', k, h', e'⟩ := ih hf R r; exact ⟨R', r', k, .thread h', e'⟩
  | newGen _ ih =>
    intro hf R r
    obtain ⟨r1, k1⟩ := r.push (st := .fresh _) trivial
    obtain ⟨R', r', k, h', e'⟩ := ih hf _ r1
    refine ⟨R', r', k1.trans k, .newGen ?_, e'⟩
    rw [r.1]
    exact h'
  | call _ _ ih1 ih2 =>
    intro hf R r
    obtain ⟨R1, r1, k1, h1, _⟩ := ih1 (fun _ z => by cases z) R r
    obtain ⟨R2, r2, k2, h2, e2⟩ := ih2 hf R1 r1
    exact ⟨R2, r2, k1.trans k2, .call h1 h2, e2⟩
  | callSusp _ ih =>
    intro hf R r
    obtain ⟨R1, r1, k1, h1, e1⟩ := ih (fun _ z => by cases z) R r
    refine ⟨R1, r1, k1, .callSusp h1, fun F hF => ?_⟩
    rcases List.mem_append.1 hF with z | z
    · exact e1 F z
    · rw [List.mem_singleton.mp z]; rfl
  | yield => intro _ R r; exact ⟨R, r, .refl, .yield, fun _ z => by cases z⟩
  | resumeFresh hg _ hq _ ih1 ih2 =>
    intro hf R r
    obtain ⟨z1, _⟩ := r.get hg not_poison_fresh
    have nf : ∀ x, _ = some x → ¬ (Poison x ∨ x = .running) := fun x hx => wake_free (hg.symm.trans hx) not_poison_fresh (fun z => by cases z)
    have k1 : KeptG R _ _ _ := (KeptG.refl (R := R)).at (st := .running) nf
    obtain ⟨R1, r2, k2, h1, e1⟩ := ih1 (fun _ z => by cases z) _ (r.set (st := .running) trivial)
    obtain ⟨R2, r3, k3, h2, e2⟩ := ih2 hf _ (r2.set (good_of e1))
    exact ⟨R2, r3, ((k1.trans k2).at nf).trans k3, .resumeFresh z1 h1 hq h2, e2⟩
  | resumeSuspended hg hr hq _ ih1 ih2 =>
    intro hf R r
    have np := np_at hg hr
    rcases r.2 _ _ hg with ⟨z1, z2⟩ | ⟨z1, _⟩
    · have nf : ∀ x, _ = some x → ¬ (Poison x ∨ x = .running) := fun x hx => wake_free (hg.symm.trans hx) np (fun z => by cases z)
      have k1 : KeptG R _ _ _ := (KeptG.refl (R := R)).at (st := .running) nf
      obtain ⟨R1, r2, k2, h1, e1⟩ := ih1 z2 _ (r.set (st := .running) trivial)
      obtain ⟨R2, r3, k3, h2, e2⟩ := ih2 hf _ (r2.set (good_of e1))
      exact ⟨R2, r3, ((k1.trans k2).at nf).trans k3, .resumeSuspended z1 h1 hq h2, e2⟩
    · exact absurd z1 np
  | resumeJustStarted hg hv _ ih => intro hf R r; obtain ⟨R', r', k, h', e'⟩ := ih hf R r; exact ⟨R', r', k, .resumeJustStarted (r.get hg not_poison_fresh).1 hv h', e'⟩
  | resumeThrowFresh hg _ ih =>
    intro hf R r
    have nf : ∀ x, _ = some x → ¬ (Poison x ∨ x = .running) := fun x hx => wake_free (hg.symm.trans hx) not_poison_fresh (fun z => by cases z)
    have k1 : KeptG R _ _ _ := (KeptG.refl (R := R)).at (st := .finished) nf
    obtain ⟨R', r', k, h', e'⟩ := ih hf _ (r.set (st := .finished) trivial)
    exact ⟨R', r', k1.trans k, .resumeThrowFresh (r.get hg not_poison_fresh).1 h', e'⟩
  | resumeRunning hg _ ih => intro hf R r; obtain ⟨R', r', k, h', e'⟩ := ih hf R r; exact ⟨R', r', k, .resumeRunning (r.get hg not_poison_running).1 h', e'⟩
  | resumeFinished hg _ ih => intro hf R r; obtain ⟨R', r', k, h', e'⟩ := ih hf R r; exact ⟨R', r', k, .resumeFinished (r.get hg not_poison_finished).1 h', e'⟩
  | segRet _ _ ih1 ih2 =>
    intro hf R r
    obtain ⟨R1, r1, k1, h1, _⟩ := ih1 (fun _ z => by cases z) R r
    obtain ⟨R2, r2, k2, h2, e2⟩ := ih2 (fun F hF => hf F (List.mem_cons_of_mem _ hF)) R1 r1
    exact ⟨R2, r2, k1.trans k2, .segRet h1 h2, e2⟩
  | segGen _ _ ih1 ih2 => intro hf R r; have := hf _ List.mem_cons_self; cases this
  | segSuspOut hs _ ih =>
    intro hf R r
    obtain ⟨R1, r1, k1, h1, e1⟩ := ih (fun _ z => by cases z) R r
    refine ⟨R1, r1, k1, .segSuspOut hs h1, fun F hF => ?_⟩
    rcases List.mem_append.1 hF with z | z
    · exact e1 F z
    · exact hf F z
  | segSuspGen hs _ _ _ ih1 ih2 => intro hf R r; rw [split_ret hf] at hs; cases hs
theorem swap_returns {M : Model} {Γ : PySem.Ctx} {p : Pos} {s s' : Shared} {r : Result} (h : Returns M Γ p s r s') {R : Array GenState} (rr : RelG R s.gens) :
    ∃ R', RelG R' s'.gens ∧ KeptG R s.gens R' s'.gens ∧ Returns M Γ p { s with gens := R } r { s' with gens := R' } := by
  obtain ⟨R', a, b, c, _⟩ := swap h (fun _ z => by cases z) R rr
  exact ⟨R', a, b, c⟩
theorem swap_wakes {M : Model} {Γ : PySem.Ctx} {p : Pos} {g : Nat} {r : Resume} {s s' : Shared} {res : GenResult} (h : Wakes M Γ p g r s res s') {R : Array GenState} (rr : RelG R s.gens) :
    ∃ R', RelG R' s'.gens ∧ KeptG R s.gens R' s'.gens ∧ Wakes M Γ p g r { s with gens := R } res { s' with gens := R' } := by
  unfold Wakes at h
  cases hg : s.gens[g]? with
  | none => rw [hg] at h; exact h.elim
  | some x =>
    rw [hg] at h
    cases x with
    | fresh c =>
      obtain ⟨z1, _⟩ := rr.get hg not_poison_fresh
      have nf : ∀ x, s.gens[g]? = some x → ¬ (Poison x ∨ x = .running) := fun x hx => wake_free (hg.symm.trans hx) not_poison_fresh (fun z => by cases z)
      have fin : ∀ {e₁ : End} {s₁ : Shared}, Runs M (Γ.wake c p) p (M.den c) [] (s.setGen g .running) e₁ s₁ → e₁.quiet = true → ∃ R', RelG R' (s₁.setGen g e₁.genState).gens ∧ KeptG R s.gens R' (s₁.setGen g e₁.genState).gens ∧
          ∃ e s₂, Runs M (Γ.wake c p) p (M.den c) [] (({ s with gens := R } : Shared).setGen g .running) e s₂ ∧ e.quiet = true ∧ e₁.result = e.result ∧ ({ s₁.setGen g e₁.genState with gens := R' } : Shared) = s₂.setGen g e.genState := fun {e₁ s₁} hr hq => by
        obtain ⟨R1, r2, k2, h1, e1⟩ := swap hr (fun _ z => by cases z) _ (rr.set (st := .running) trivial)
        exact ⟨_, r2.set (good_of e1), (((KeptG.refl (R := R)).at (st := .running) nf).trans k2).at nf, e₁, { s₁ with gens := R1 }, h1, hq, rfl, rfl⟩
      cases r with
      | send v =>
        cases v with
        | none =>
          obtain ⟨e₁, s₁, hr, hq, rfl, rfl⟩ := h
          obtain ⟨R', a, b, e, s₂, c1, c2, c3, c4⟩ := fin hr hq
          refine ⟨R', a, b, ?_⟩
          unfold Wakes
          rw [show ({ s with gens := R } : Shared).gens[g]? = some (.fresh c) from z1]
          exact ⟨e, s₂, c1, c2, c3, c4⟩
        | _ =>
          obtain ⟨rfl, rfl⟩ := h
          refine ⟨R, rr, .refl, ?_⟩
          unfold Wakes
          rw [show ({ s' with gens := R } : Shared).gens[g]? = some (.fresh c) from z1]
          exact ⟨rfl, rfl⟩
      | throw x =>
        obtain ⟨rfl, rfl⟩ := h
        refine ⟨_, rr.set (st := .finished) trivial, (KeptG.refl (R := R)).at (st := .finished) nf, ?_⟩
        unfold Wakes
        rw [show ({ s with gens := R } : Shared).gens[g]? = some (.fresh c) from z1]
        exact ⟨rfl, rfl⟩
    | suspended k₀ l₀ c₀ p₀ fs₀ c9 =>
      obtain ⟨e₁, s₁, hr, hq, rfl, rfl⟩ := h
      have np := np_at hg hr
      have nf : ∀ x, s.gens[g]? = some x → ¬ (Poison x ∨ x = .running) := fun x hx => wake_free (hg.symm.trans hx) np (fun z => by cases z)
      obtain ⟨z1, z2⟩ := rr.get hg np
      obtain ⟨R1, r2, k2, h1, e1⟩ := swap hr z2 _ (rr.set (st := .running) trivial)
      refine ⟨_, r2.set (good_of e1), (((KeptG.refl (R := R)).at (st := .running) nf).trans k2).at nf, ?_⟩
      unfold Wakes
      rw [show ({ s with gens := R } : Shared).gens[g]? = some (.suspended k₀ l₀ c₀ p₀ fs₀ c9) from z1]
      exact ⟨e₁, { s₁ with gens := R1 }, h1, hq, rfl, rfl⟩
    | running =>
      obtain ⟨rfl, rfl⟩ := h
      refine ⟨R, rr, .refl, ?_⟩
      unfold Wakes
      rw [show ({ s' with gens := R } : Shared).gens[g]? = some .running from (rr.get hg not_poison_running).1]
      exact ⟨rfl, rfl⟩
    | finished =>
      obtain ⟨rfl, rfl⟩ := h
      refine ⟨R, rr, .refl, ?_⟩
      unfold Wakes
      rw [show ({ s' with gens := R } : Shared).gens[g]? = some .finished from (rr.get hg not_poison_finished).1]
      exact ⟨rfl, rfl⟩
/-- the same end, told of the awake state -/
def PutG {β : Type} (R X : Array GenState) (Q : β → Pos → Shared → Prop) : β → Pos → Shared → Prop := fun a p s' => ∃ X', RelG s'.gens X' ∧ KeptG R X s'.gens X' ∧ Q a p { s' with gens := X' }
theorem PutG.of {β : Type} {R X : Array GenState} {Q : β → Pos → Shared → Prop} {a : β} {p : Pos} {s : Shared} {R' : Array GenState} (r : RelG R' s.gens) (k : KeptG R X R' s.gens) (h : Q a p s) : PutG R X Q a p { s with gens := R' } := ⟨s.gens, r, k, h⟩
theorem PutG.trans {β : Type} {R X R1 X1 : Array GenState} {Q : β → Pos → Shared → Prop} (k : KeptG R X R1 X1) {a : β} {p : Pos} {s : Shared} (h : PutG R1 X1 Q a p s) : PutG R X Q a p s := by
  obtain ⟨X', r, k', q⟩ := h
  exact ⟨X', r, k.trans k', q⟩
open Sem (wp) in
theorem wp_swap {α : Type} (M : Model) (Γ : PySem.Ctx) (t : Sem α) : ∀ (Q : α → Pos → Shared → Prop) (E : Value → Pos → Shared → Prop) (p : Pos) (s : Shared) (R : Array GenState), RelG R s.gens → wp M Γ t Q E p s →
    wp M Γ t (PutG R s.gens Q) (PutG R s.gens E) p { s with gens := R } := by
  induction t with
  | pure a => intro Q E p s R r h; exact .of r .refl h
  | raise e => intro Q E p s R r h; exact .of r .refl h
  | unsupported _ => intro Q E p s R r h; exact h
  | finish _ => intro Q E p s R r h; exact h
  | rule _ k ih => intro Q E p s R r h; exact ih () Q E p s R r h
  | «at» p' k ih => intro Q E p s R r h; exact ih () Q E p' s R r h
  | load a _ k ih => intro Q E p s R r h; obtain ⟨o, ho, h⟩ := h; exact ⟨o, ho, ih o Q E p s R r h⟩
  | update a _ f k ih => intro Q E p s R r h; exact ⟨h.1, ih () Q E p { s with heap := s.heap.update a f } R r h.2⟩
  | loadIfAlive a k ih => intro Q E p s R r h; exact ih _ Q E p s R r h
  | point _ k ih => intro Q E p s R r h; exact ih () Q E p s R r h
  | register _ _ => intro Q E p s R r h; exact h
  | alloc o k ih => intro Q E p s R r h; exact ih _ Q E p { s with heap := s.heap.push o } R r h
  | fresh k ih => intro Q E p s R r h; exact ih _ Q E p { s with toks := s.toks + 1 } R r h
  | ask k ih => intro Q E p s R r h; exact ih _ Q E p s R r h
  | choose src m k ih => intro Q E p s R r h; exact ⟨h.1, ih _ Q E p { s with drawn := s.drawn.bump src } R r h.2⟩
  | os q _ k ih => intro Q E p s R r h; exact ih _ Q E p { s with os := (Os.step s.os q).1 } R r h
  | call c hd _ _ k ih =>
    intro Q E p s R r h
    obtain ⟨x, s₁, hr, h⟩ := h
    obtain ⟨R1, r1, k1, h1⟩ := swap_returns hr r
    exact ⟨x, { s₁ with gens := R1 }, h1, Sem.wp_mono M Γ (k x) (fun a p' s' z => z.trans k1) (fun a p' s' z => z.trans k1) p _ (ih x Q E p s₁ R1 r1 h)⟩
  | handled own k ih => intro Q E p s R r h; exact ih _ Q E p s R r h
  | genState g k ih =>
    intro Q E p s R r h
    obtain ⟨st, hs, h⟩ := h
    rcases r.2 _ _ hs with z | ⟨_, st', z1, z2, _⟩
    · exact ⟨st, z.1, ih _ Q E p s R r h⟩
    · refine ⟨st', z1, ?_⟩
      rw [z2]
      exact ih _ Q E p s R r h
  | newGen c k ih =>
    intro Q E p s R r h
    obtain ⟨r1, k1⟩ := r.push (st := .fresh c) trivial
    have h2 := ih _ Q E p { s with gens := s.gens.push (.fresh c) } _ r1 h
    show wp M Γ (k R.size) _ _ p _
    rw [r.1]
    exact Sem.wp_mono M Γ _ (fun a p' s' z => z.trans k1) (fun a p' s' z => z.trans k1) p _ h2
  | resume g x _ k ih =>
    intro Q E p s R r h
    obtain ⟨res, s₁, hw, h⟩ := h
    obtain ⟨R1, r1, k1, h1⟩ := swap_wakes hw r
    exact ⟨res, { s₁ with gens := R1 }, h1, Sem.wp_mono M Γ (k res) (fun a p' s' z => z.trans k1) (fun a p' s' z => z.trans k1) p _ (ih res Q E p s₁ R1 r1 h)⟩
  | yield _ _ _ _ => intro Q E p s R r h; exact h
  | stack k ih => intro Q E p s R r h; exact ih _ Q E p s R r h
  | fork _ _ => intro Q E p s R r h; exact h
  | thread k ih => intro Q E p s R r h; exact ih _ Q E p s R r h
  | await _ _ _ _ _ => intro Q E p s R r h; exact h
def cleanF (F : Frame) : Frame := .ret (fun _ => .unsupported "asleep") none false [] F.where_.1 F.where_.2 []
def poison : GenState → GenState
  | .suspended _ l c p fs cl => .suspended (fun _ => .unsupported "asleep") l c p (fs.map cleanF) cl
  | x => x
theorem poison_seen (x : GenState) : x.seen = (poison x).seen := by
  cases x with
  | suspended k l c p fs cl =>
    show (_, some ((c, p) :: fs.map Frame.where_)) = (_, some ((c, p) :: (fs.map cleanF).map Frame.where_))
    rw [List.map_map]
    rfl
  | _ => rfl
theorem poison_bare (x : GenState) : x.bare = (poison x).bare := by cases x <;> rfl
theorem relG_poison (G : Array GenState) : RelG G (G.map poison) := by
  refine ⟨(Array.size_map ..).symm, fun i x h => ?_⟩
  rw [Array.getElem?_map] at h
  obtain ⟨y, hy, rfl⟩ := Option.map_eq_some_iff.mp h
  cases y with
  | suspended k l c p fs cl => exact .inr ⟨⟨_, _, _, _, _, _, rfl⟩, _, hy, poison_seen _, poison_bare _⟩
  | _ => exact .inl ⟨hy, trivial⟩
/-- who sleeps (or runs) still does -/
def Slp (G G' : Array GenState) : Prop := ∀ (i : Nat) (y : GenState), G[i]? = some y → (y.status = .suspended ∨ y.status = .running) → G'[i]? = some y
theorem Slp.refl (G : Array GenState) : Slp G G := fun _ _ h _ => h
theorem Slp.trans {G G1 G2 : Array GenState} (a : Slp G G1) (b : Slp G1 G2) : Slp G G2 := fun i y h n => b i y (a i y h n) n
theorem KeptG.slp {G G' X' : Array GenState} (k : KeptG G (G.map poison) G' X') : Slp G G' := fun i y h n => by
  have hx : (G.map poison)[i]? = some (poison y) := by rw [Array.getElem?_map, h]; rfl
  cases y with
  | suspended k' l c p fs cl => rw [(k i _ hx (.inl ⟨_, _, _, _, _, _, rfl⟩)).2]; exact h
  | running => rw [(k i _ hx (.inr rfl)).2]; exact h
  | fresh c => rcases n with n | n <;> cases n
  | finished => rcases n with n | n <;> cases n
theorem RelG.allBare {R X : Array GenState} (r : RelG R X) (b : AllBare X) : AllBare R := fun y hy => by
  rcases Array.mem_iff_getElem.mp hy with ⟨i, hi, e⟩
  have hX : i < X.size := by rw [← r.1]; exact hi
  have eX : X[i]? = some X[i] := Array.getElem?_eq_getElem hX
  have eR : R[i]? = some y := by rw [Array.getElem?_eq_getElem hi, e]
  have bX := b _ (Array.getElem_mem hX)
  rcases r.2 i _ eX with ⟨z, _⟩ | ⟨_, r', z, _, zb⟩
  · rw [eR] at z
    cases z
    exact bX
  · rw [eR] at z
    cases z
    rw [zb]
    exact bX
theorem allBare_poison {G : Array GenState} (b : AllBare G) : AllBare (G.map poison) := fun y hy => by
  obtain ⟨x, hx, rfl⟩ := Array.mem_map.mp hy
  rw [← poison_bare]
  exact b x hx
/-- what is shown while all that sleeps cannot be woken holds of the true run, and they sleep on -/
theorem wpAny_asleep {α : Type} {M : Model} {A : Around} {t : Sem α} {Q : α → Shared → Prop} {E : Value → Shared → Prop} {s : Shared} (h : wpAny M A t Q E { s with gens := s.gens.map poison }) :
    wpAny M A t (fun a s' => ∃ X', Q a { s' with gens := X' } ∧ RelG s'.gens X' ∧ Slp s.gens s'.gens) (fun e s' => ∃ X', E e { s' with gens := X' } ∧ RelG s'.gens X' ∧ Slp s.gens s'.gens) s := fun Γ p hΓ => by
  have h2 := wp_swap M Γ t _ _ p { s with gens := s.gens.map poison } s.gens (relG_poison s.gens) (h Γ p hΓ)
  exact Sem.wp_mono M Γ t (fun a p' s' z => by obtain ⟨X', r, k, q⟩ := z; exact ⟨X', q, r, k.slp⟩) (fun a p' s' z => by obtain ⟨X', r, k, q⟩ := z; exact ⟨X', q, r, k.slp⟩) p s h2
section
variable {X : Cx} {s : Shared} {pins : List (Addr × Obj)} {σ : L2.St} {H : Hp}
theorem inv_gens (I : Inv X pins σ H s) {G : Array GenState} (b : AllBare G) : Inv X pins σ H { s with gens := G } := ⟨I.ok, I.os, b, I.base, I.loc, I.cell, I.free, I.freeC, I.pin, I.hok, I.len⟩
theorem inv_gens' {G : Array GenState} (I : Inv X pins σ H { s with gens := G }) (b : AllBare s.gens) : Inv X pins σ H s := ⟨I.ok, I.os, b, I.base, I.loc, I.cell, I.free, I.freeC, I.pin, I.hok, I.len⟩
theorem sp_gens {D : Ends} {f : Flow} {G : Array GenState} (h : SP X pins D f { s with gens := G }) (r : RelG s.gens G) : SP X pins D f s := by
  cases f with
  | next => obtain ⟨σ', H', I, q⟩ := h; exact ⟨σ', H', inv_gens' I (r.allBare I.bare), q⟩
  | brk => obtain ⟨σ', H', I, q⟩ := h; exact ⟨σ', H', inv_gens' I (r.allBare I.bare), q⟩
  | cont => obtain ⟨σ', H', I, q⟩ := h; exact ⟨σ', H', inv_gens' I (r.allBare I.bare), q⟩
  | ret u => obtain ⟨v, σ', H', I, rv, q⟩ := h; exact ⟨v, σ', H', inv_gens' I (r.allBare I.bare), rv, q⟩
/-- a body leaves asleep what sleeps -/
theorem body_asleep {sts : List Stmt} {t : TS} {D : Ends} (hb : PSs X sts t) (hx : ∀ e s', ¬ X.xe e s') (I : Inv X pins σ H s) (ht : t D σ H) :
    wpAny (model X.prog X.w) X.A (execs sts X.env) (fun f s' => SP X pins D f s' ∧ Slp s.gens s'.gens) (fun _ _ => False) s := by
  refine wpAny_mono (wpAny_asleep (hb.run pins { s with gens := s.gens.map poison } σ H D (inv_gens I (allBare_poison I.bare)) ht)) (fun f s' ⟨X', q, r, k⟩ => ⟨sp_gens q r, k⟩) fun e s' ⟨X', q, _⟩ => hx e _ q
theorem target_asleep {tg : Expr} {g : TG} {v : V} {u : Value} {Q : L2.St → Hp → Prop} (hg : PG X tg g) (hx : ∀ e s', ¬ X.xe e s') (I : Inv X pins σ H s) (r : RelV v u) (h : g v σ H Q) :
    wpAny (model X.prog X.w) X.A (assign tg X.env u) (fun _ s' => (∃ σ' H', Inv X pins σ' H' s' ∧ Q σ' H') ∧ Slp s.gens s'.gens) (fun _ _ => False) s := by
  refine wpAny_mono (wpAny_asleep (hg.run pins { s with gens := s.gens.map poison } σ H v u Q (inv_gens I (allBare_poison I.bare)) r h)) (fun f s' ⟨X', ⟨σ', H', I', q⟩, r', k⟩ => ⟨⟨σ', H', inv_gens' I' (r'.allBare I'.bare), q⟩, k⟩) fun e s' ⟨X', q, _⟩ => hx e _ q
end
/-! ### a generator that is turned by a loop -/
/-- a heap's first n objects -/
def cut (h : Heap) (n : Nat) : Heap := { h with objs := h.objs.extract 0 n }
theorem cut_objs (xs : Array Obj) (n b : Nat) (hb : b < n) : (xs.extract 0 n)[b]? = xs[b]? := by
  rw [Array.getElem?_extract]
  by_cases h1 : b < xs.size
  · rw [if_pos (by omega), Nat.zero_add]
  · rw [if_neg (by omega)]; rw [Array.getElem?_eq_none (by omega)]
theorem cut_sz (xs : Array Obj) (n : Nat) : (xs.extract 0 n).size = min n xs.size := by simp
theorem cut_get {h : Heap} {n : Nat} {b : Addr} (hb : b < n) : (cut h n).get? b = h.get? b := by
  unfold Heap.get? cut
  show (match (h.objs.extract 0 n)[b]? with | some ⟨_, _, .freed, _⟩ => none | o => o) = _
  rw [cut_objs h.objs n b hb]
  rfl
theorem cut_some {h : Heap} {n : Nat} {b : Addr} {o : Obj} (e : (cut h n).get? b = some o) : b < n ∧ h.get? b = some o := by
  have l := Heap.lt_size e
  rw [show (cut h n).objs.size = min n h.objs.size from cut_sz _ _] at l
  have hb : b < n := Nat.lt_of_lt_of_le l (Nat.min_le_left _ _)
  rw [cut_get hb] at e
  exact ⟨hb, e⟩
theorem cut_size {h : Heap} {n : Nat} (l : n ≤ h.objs.size) : (cut h n).objs.size = n := by
  rw [show (cut h n).objs.size = min n h.objs.size from cut_sz _ _]
  exact Nat.min_eq_left l
theorem funs_cut {h base : Heap} {n : Nat} : ∀ {l : List Env}, h.FunFrames base l → (∀ b ∈ frs l, b < n) → (cut h n).FunFrames base l
  | [], _, _ => trivial
  | env :: r, ⟨hk, ⟨L, o, hf, hn, ho, hd⟩, hr⟩, hl => by
    have e : frs (env :: r) = L :: frs r := by unfold frs; rw [List.filterMap_cons, hf]
    exact ⟨hk, ⟨L, o, hf, hn, by rw [cut_get (hl L (by rw [e]; exact List.mem_cons_self))]; exact ho, hd⟩, funs_cut hr fun b hb => hl b (by rw [e]; exact List.mem_cons_of_mem _ hb)⟩
/-- the generator's context: woken at s, H; its frame at n -/
def ycx (P : Program) (w : World) (K : PySem.W.Frag) (mg : Str → Option Value) (base : Heap) (N : List Str) (qual : Str) (scope : Scope) (f : Addr) (cd : Value) (A : Around) (outer : List Env) (n : Nat) (pn : List (Addr × Obj)) (s : Shared) (H : Hp) : Cx where
  prog := P
  w := w
  K := K
  mg := mg
  base := base
  A := A.deeper (envOfC qual scope n f cd)
  N := N
  s_0 := { s with heap := cut s.heap n }
  H_0 := H
  env := envOfC qual scope n f cd
  outer := outer
  stack := envOfC qual scope n f cd :: outer
  ex := []
  calm := true
  fn := fun _ => true
  pn := pn
  xe := fun _ _ => False
/-- what the generator's locals hold, while it sleeps -/
def GLoc (N : List Str) (env : Env) (σ : L2.St) (lo : Obj) : Prop := ∀ h : Heap, h.get? env.locals = some lo → ∃ m, h.Ns env.locals m ∧ ∀ (i : Nat) (x : Str) (v : V), N[i]? = some x → σ[i]? = some (some v) → Vis env.scope x → ∃ u, RelV v u ∧ Look env h m x u
/-- no cells -/
structure NoCells (scope : Scope) : Prop where
  cl : ∀ n : Nat, cellsFrom n scope.names [] = []
  nm : ∀ y ∈ scope.names, y.2 ≠ .cell ∧ y.2 ≠ .free
section
variable {X : Cx} {pins : List (Addr × Obj)} {σ σg : L2.St} {H H' : Hp} {s s' : Shared} {N : List Str} {qual : Str} {scope : Scope} {f : Addr} {cd : Value} {n : Nat} {pn : List (Addr × Obj)} {lo : Obj} {B : Around}
abbrev gcx (X : Cx) (B : Around) (N : List Str) (qual : Str) (scope : Scope) (f : Addr) (cd : Value) (n : Nat) (pn : List (Addr × Obj)) (s : Shared) (H : Hp) : Cx := ycx X.prog X.w X.K X.mg X.base N qual scope f cd B X.stack n pn s H
/-- the consumer's state as the generator sees it when it is woken -/
theorem inv_wake (hk : scope.kind = .function) (nc : NoCells scope) (hd : B.handled = none) (hfr : B.frames = some X.stack) (hX : X.env.locals < n) (hXs : X.s_0.heap.objs.size ≤ n) (hsz : n ≤ s.heap.objs.size)
    (I : Inv X ((n, lo) :: (pn ++ pins)) σ H s) (hpn : ∀ p ∈ pn, p.1 ≠ n ∧ p.1 ∉ frs X.stack) (gl : GLoc N (envOfC qual scope n f cd) σg lo) (hl : σg.length = N.length) : Inv (gcx X B N qual scope f cd n pn s H) [] σg H s := by
  have ec : ∀ x : Str, (envOfC qual scope n f cd).cells.lookup x = none := fun x => by
    show (cellsFrom (n + 1) scope.names []).lookup x = none
    rw [nc.cl]
    rfl
  obtain ⟨pl, ph, pX, _, _⟩ := I.pin (n, lo) (List.mem_append_right _ List.mem_cons_self)
  have flt : ∀ b ∈ frs X.stack, b < n := fun b hb => by
    rcases List.mem_cons.1 (I.stkSub b hb) with e | hb
    · rw [e]; exact hX
    · rcases I.ok.funs.mem hb with ⟨_, o, ho, _⟩
      exact Nat.lt_of_lt_of_le (Heap.lt_size ho) hXs
  have blt : ∀ b o, X.base.get? b = some o → b < n := fun b o e => Nat.lt_of_lt_of_le (Heap.lt_size e) (Nat.le_trans I.ok.bsz hXs)
  refine ⟨⟨I.ok.mod, hk, rfl, rfl, ?_, fun x y c h => ?_, fun x hx => ?_, fun x c _ h => ?_, fun _ => hd, Around.frames_deeper hfr, .inr ⟨rfl, rfl⟩, fun b z => absurd (show b ∈ ([] : List Addr) from z) (by simp), fun b o e => ?_, ?_, fun b o _ z => absurd (show b ∈ ([] : List Addr) from z) (by simp),
    fun b z => absurd (show b ∈ ([] : List Addr) from z) (by simp), ?_, fun b hb => I.stkFree b hb⟩, rfl, I.bare, ?_, gl s.heap pl, fun x c h => ?_, ph, fun x c h => ?_, fun p hp => ?_, I.hok, hl⟩
  · show (cut s.heap n).objs.size ≤ n
    rw [cut_size hsz]
    exact Nat.le_refl _
  · rw [show (gcx X B N qual scope f cd n pn s H).env.cells.lookup x = none from ec x] at h; cases h
  · have hy : scope.names.lookup x = some .cell ∨ scope.names.lookup x = some .free := hx
    rcases hy with hy | hy
    · exact absurd rfl (nc.nm _ (PySem.mem_of_lookup hy)).1
    · exact absurd rfl (nc.nm _ (PySem.mem_of_lookup hy)).2
  · rw [show (gcx X B N qual scope f cd n pn s H).env.cells.lookup x = none from ec x] at h; cases h
  · obtain ⟨e1, e2⟩ := I.bs b o e
    exact ⟨by show (cut s.heap n).get? b = _; rw [cut_get (blt b o e)]; exact e1, e2⟩
  · show X.base.objs.size ≤ (cut s.heap n).objs.size
    rw [cut_size hsz]
    exact Nat.le_trans I.ok.bsz hXs
  · exact funs_cut I.stack flt
  · exact ⟨fun b o e _ _ _ => (cut_some e).2, fun b o e _ _ _ => ⟨o.slots, (cut_some e).2⟩, fun b o _ h _ => h, fun b o e _ => ⟨o, (cut_some e).2⟩, fun _ _ h => h, fun _ _ _ h => h, fun b ps h => ⟨#[], by have h' : H b = some (.tbl ps) := h; rw [h']; simp⟩⟩
  · rw [show (gcx X B N qual scope f cd n pn s H).env.cells.lookup x = none from ec x] at h; cases h
  · rw [show (gcx X B N qual scope f cd n pn s H).env.cells.lookup x = none from ec x] at h; cases h
  · have hp' : p ∈ pn := (List.mem_append.1 hp).elim (fun z => z) fun z => absurd z (by simp)
    obtain ⟨q1, q2, _, _, q5⟩ := I.pin p (List.mem_append_right _ (List.mem_cons_of_mem _ (List.mem_append_left _ hp')))
    exact ⟨q1, q2, (hpn p hp').1, (hpn p hp').2, q5⟩
/-- a namespace outlives its slots -/
theorem ns_slots {h h' : Heap} {a : Addr} {m : Str → Option Value} (hn : h.Ns a m) (hs : ∀ o, h.get? a = some o → ∃ sl, h'.get? a = some { o with slots := sl }) : h'.Ns a m := by
  rcases hn with ⟨o, es, ep, ho, hd, hk, hm⟩
  obtain ⟨sl, e⟩ := hs o ho
  exact ⟨_, es, ep, e, hd, hk, hm⟩
/-- the generator's state as the consumer sees it when it hands something out -/
theorem inv_back {s1 : Shared} {H1 : Hp} (hX : X.env.locals < n) (hXs : X.s_0.heap.objs.size ≤ n) (hXc : ∀ x c, X.env.cells.lookup x = some c → c < n) (hXp : ∀ p ∈ X.pn ++ pins, p.1 < n) (I : Inv X pins σ H1 s1)
    (J : Inv (gcx X B N qual scope f cd n pn s1 H1) [] σg H s) : Inv X pins σ H s := by
  have U := J.base
  have nx : ∀ b : Addr, b ∉ (gcx X B N qual scope f cd n pn s1 H1).ex := fun b z => absurd (show b ∈ ([] : List Addr) from z) (by simp)
  have any : ∀ b o, b < n → s1.heap.get? b = some o → H1 b = none → ∃ sl, s.heap.get? b = some { o with slots := sl } := fun b o hb e q =>
    U.any (by show (cut s1.heap n).get? b = some o; rw [cut_get hb]; exact e) q (nx b)
  obtain ⟨h2, g2, d2, t2, o2⟩ := s
  have ho : o2 = s1.os := J.os
  subst ho
  refine I.step (ch := (List.range s1.heap.objs.size).filter fun b => decide (n ≤ b)) (fun b hb => ?_) (fun b o h1 h2 h3 e q => ?_) (fun b o h1 h2 h3 e q => ?_) (fun b o h3 e q => ?_) (fun b o h3 e => ?_)
    (fun b xs e => U.tups b xs e) (fun b o u e => U.frzs b o u e) (fun b ps e => U.tbls b ps e) (fun m hm => ns_slots hm fun o e => any _ o hX e I.free) J.hok J.bare
  · have hb' : n ≤ b := by
      have := (List.mem_filter.mp hb).2
      exact of_decide_eq_true this
    exact ⟨.inr (Nat.le_trans hXs hb'), fun e => Nat.lt_irrefl _ (Nat.lt_of_lt_of_le (e ▸ hX) hb'), fun x c hc e => Nat.lt_irrefl _ (Nat.lt_of_lt_of_le (e ▸ hXc x c hc) hb'), fun p hp e => Nat.lt_irrefl _ (Nat.lt_of_lt_of_le (e ▸ hXp p hp) hb')⟩
  all_goals
    have lt : b < n := Nat.lt_of_not_le fun hb' => h3 (List.mem_filter.mpr ⟨List.mem_range.mpr (Heap.lt_size e), decide_eq_true hb'⟩)
    have ec : (cut s1.heap n).get? b = some o := by rw [cut_get lt]; exact e
  · exact U.keep b o ec q (fun hb => (List.mem_cons.1 (I.stkSub b hb)).elim h1 h2) (nx b)
  · exact U.any ec q (nx b)
  · exact U.free b o ec q (nx b)
  · exact U.there b o ec (nx b)
/-- the generator's own objects, for the consumer's pins -/
theorem pins_gen {s1 : Shared} {H1 : Hp} (nc : NoCells scope) (hX : X.env.locals < n) (hXs : X.s_0.heap.objs.size ≤ n) (hpn : ∀ p ∈ pn, n < p.1) (I : Inv X pins σ H s) (J : Inv (gcx X B N qual scope f cd n pn s1 H1) [] σg H s) :
    ∃ lo, Inv X ((n, lo) :: (pn ++ pins)) σ H s ∧ GLoc N (envOfC qual scope n f cd) σg lo := by
  have ec : ∀ x : Str, (envOfC qual scope n f cd).cells.lookup x = none := fun x => by
    show (cellsFrom (n + 1) scope.names []).lookup x = none
    rw [nc.cl]
    rfl
  obtain ⟨m, ⟨o, es, ep, ho, hd, hk, hm⟩, look⟩ := J.loc
  have old : ∀ b ∈ X.fs, b < n := fun b hb => by
    rcases I.ok.funs.mem hb with ⟨_, o, ho, _⟩
    exact Nat.lt_of_lt_of_le (Heap.lt_size ho) hXs
  have ho' : s.heap.get? n = some o := ho
  refine ⟨o, I.pins_of fun p hp => ?_, fun h e => ⟨m, ⟨o, es, ep, e, hd, hk, hm⟩, fun i x v h1 h2 h3 => ?_⟩⟩
  · rcases List.mem_cons.1 hp with rfl | hp
    · exact ⟨ho', J.free, fun e => Nat.lt_irrefl _ (e ▸ hX), fun hb => Nat.lt_irrefl _ (old _ hb), fun v q => by rw [hd] at q; cases q⟩
    · rcases List.mem_append.1 hp with hp | hp
      · obtain ⟨q1, q2, _, _, q5⟩ := J.pin p (List.mem_append_left _ hp)
        exact ⟨q1, q2, fun e => Nat.lt_asymm hX (e ▸ hpn p hp), fun hb => Nat.lt_asymm (old _ hb) (hpn p hp), q5⟩
      · exact I.pin p (List.mem_append_right _ hp)
  · obtain ⟨u, ru, lk⟩ := look i x v h1 h2 h3
    rcases lk with ⟨a, b⟩ | ⟨_, c, a, _⟩
    · exact ⟨u, ru, .inl ⟨a, b⟩⟩
    · rw [show (gcx X B N qual scope f cd n pn s1 H1).env.cells.lookup x = none from ec x] at a
      cases a
end
/-! ### its code -/
theorem execs_append_wrap {env : Env} {K : Flow → Sem PySem.Fin} {J : Value → Sem PySem.Fin} {gd : Bool → Bool} {lv : List Value → List Value} {rest : List Stmt} : ∀ pre : List Stmt,
    (execs (pre ++ rest) env).wrap K J gd lv = (execs pre env).wrap (fun f => match f with | .next => (execs rest env).wrap K J gd lv | f => K f) J gd lv
  | [] => rfl
  | st :: pre => by
    rw [List.cons_append]; rw [execs_cons_wrap, execs_cons_wrap]
    congr 1
    funext f
    cases f with
    | next => exact execs_append_wrap pre
    | brk => rfl
    | cont => rfl
    | ret v => rfl
/-- handed out: the consumer's turn -/
def YF (X : Cx) (pins : List (Addr × Obj)) (n : Nat) (pn : List (Addr × Obj)) (g : TG) (tb : TS) (D : Ends) : Protocol := fun _ _ v s kap =>
  ∃ (x : V) (lo : Obj) (σc : L2.St) (H : Hp) (Nx : L2.St → Hp → Prop), RelV x v ∧ Inv X ((n, lo) :: (pn ++ pins)) σc H s ∧ (g x σc H fun σ2 H2 => tb { D with nx := Nx, ct := Nx, bk := D.nx } σ2 H2) ∧
    ∀ s' σ' H', Inv X ((n, lo) :: (pn ++ pins)) σ' H' s' → Nx σ' H' → kap (.send .none) s' ∧ kap (.send (.bool true)) s'
/-- no more to come -/
def RF (X : Cx) (pins : List (Addr × Obj)) (pn : List (Addr × Obj)) (D : Ends) : GenEnd := fun n s₀ r s₁ => ((r = .ok (.ret .none) ∨ r = .ok .next) ∧ (fun (_ : Nat) (_ s : Shared) => ∃ σc H, Inv X (pn ++ pins) σc H s ∧ D.nx σc H) n s₀ s₁) ∨ ∃ e, r = .error e ∧ (fun (_ : Value) (_ : Shared) => False) e s₁
/-- the generator's place in the consumer's run -/
structure Gn (X : Cx) (pins : List (Addr × Obj)) (scope : Scope) (n : Nat) (pn : List (Addr × Obj)) (B : Around) : Prop where
  hk : scope.kind = .function
  co : (scope.isCoroutine = false)
  hi : ∀ (q : Str) (m : Nat) (f : Addr) (cd : Value), interactive (envOfC q scope m f cd) = false
  nc : NoCells scope
  hd : B.handled = none
  hfr : B.frames = some X.stack
  hX : X.env.locals < n
  hXs : X.s_0.heap.objs.size ≤ n
  hXc : ∀ x c, X.env.cells.lookup x = some c → c < n
  hXp : ∀ p ∈ X.pn ++ pins, p.1 < n
  hpn : ∀ p ∈ pn, n < p.1
/-- what a turn reads -/
def Turn (tt : TT) (tas tbs : TS) (te : TE) (g : TG) (tb : TS) (D : Ends) (Hd : Nat → L2.St → L2.St → Hp → Prop) : Prop := ∀ m σg σc H, Hd m σg σc H → tt σg H fun b H1 => if b = true then
  tas { nx := fun σ1 H2 => te σ1 H2 fun x H3 => ∃ Nx : L2.St → Hp → Prop, (g x σc H3 fun σ2 H4 => tb { D with nx := Nx, ct := Nx, bk := D.nx } σ2 H4) ∧ ∀ σ3 H5, Nx σ3 H5 → tbs { nx := fun σ2 H6 => ∃ m', m' < m ∧ Hd m' σ2 σ3 H6, rt := fun _ _ => False } σ1 H5, rt := fun _ _ => False } σg H1
  else D.nx σc H1
section
variable {X : Cx} {pins : List (Addr × Obj)} {N : List Str} {qual : Str} {scope : Scope} {f : Addr} {cd : Value} {n : Nat} {pn : List (Addr × Obj)} {B : Around}
/-- the generator runs, the consumer waits -/
def GJ (X : Cx) (pins : List (Addr × Obj)) (N : List Str) (qual : Str) (scope : Scope) (f : Addr) (cd : Value) (n : Nat) (pn : List (Addr × Obj)) (B : Around) (σg σc : L2.St) (H : Hp) (s : Shared) : Prop :=
  ∃ s1 H1, Inv X pins σc H1 s1 ∧ Inv (gcx X B N qual scope f cd n pn s1 H1) [] σg H s
theorem GJ.back {σg σc : L2.St} {H : Hp} {s : Shared} (W : Gn X pins scope n pn B) (h : GJ X pins N qual scope f cd n pn B σg σc H s) : ∃ lo, Inv X ((n, lo) :: (pn ++ pins)) σc H s ∧ GLoc N (envOfC qual scope n f cd) σg lo := by
  obtain ⟨s1, H1, I, J⟩ := h
  exact pins_gen W.nc W.hX W.hXs W.hpn (inv_back W.hX W.hXs W.hXc W.hXp I J) J
theorem GJ.wake {σg σc : L2.St} {H : Hp} {s : Shared} {lo : Obj} (W : Gn X pins scope n pn B) (I : Inv X ((n, lo) :: (pn ++ pins)) σc H s) (gl : GLoc N (envOfC qual scope n f cd) σg lo) (hl : σg.length = N.length) : GJ X pins N qual scope f cd n pn B σg σc H s := by
  have pl := (I.pin (n, lo) (List.mem_append_right _ List.mem_cons_self)).1
  have hsz : n ≤ s.heap.objs.size := Nat.le_of_lt (Heap.lt_size pl)
  refine ⟨s, H, I.pins_of fun p hp => I.pin p (List.mem_append_right _ (List.mem_cons_of_mem _ (List.mem_append_right _ hp))), inv_wake W.hk W.nc W.hd W.hfr W.hX W.hXs hsz I (fun p hp => ⟨fun e => Nat.lt_irrefl _ (e ▸ W.hpn p hp), fun hb => ?_⟩) gl hl⟩
  have lt : p.1 < n := by
    rcases List.mem_cons.1 (I.stkSub _ hb) with e | hb
    · rw [e]; exact W.hX
    · rcases I.ok.funs.mem hb with ⟨_, o, ho, _⟩
      exact Nat.lt_of_lt_of_le (Heap.lt_size ho) W.hXs
  exact Nat.lt_asymm lt (W.hpn p hp)
theorem GJ.len {σg σc : L2.St} {H : Hp} {s : Shared} (h : GJ X pins N qual scope f cd n pn B σg σc H s) : σg.length = N.length := by
  obtain ⟨s1, H1, I, J⟩ := h
  exact J.len
end
open GenW
section
variable {X : Cx} {pins : List (Addr × Obj)} {N : List Str} {qual : Str} {scope : Scope} {f : Addr} {cd : Value} {n : Nat} {pn : List (Addr × Obj)} {B : Around}
theorem seg_loop {test ye : Expr} {as bs body : List Stmt} {yp pos p : Pos} {tt : TT} {tas tbs : TS} {te : TE} {g : TG} {tb : TS} {D : Ends} {Hd : Nat → L2.St → L2.St → Hp → Prop} (W : Gn X pins scope n pn B)
    (pt : ∀ s H, PT (gcx X B N qual scope f cd n pn s H) test tt) (pas : ∀ s H, PSs (gcx X B N qual scope f cd n pn s H) as tas) (py : ∀ s H, PE (gcx X B N qual scope f cd n pn s H) ye te) (pbs : ∀ s H, PSs (gcx X B N qual scope f cd n pn s H) bs tbs)
    (turn : Turn tt tas tbs te g tb D Hd) {kk : Result → Sem PySem.Fin}
    (hkk : ∀ (k : Nat) (s₀ s : Shared), (∃ σc H, Inv X (pn ++ pins) σc H s ∧ D.nx σc H) → Seg (model X.prog X.w) B (RF X pins pn D) (YF X pins n pn g tb D) k s₀ (.func body (envOfC qual scope n f cd)) (kk (.ok .next)) [] s) :
    ∀ (m k : Nat), m < k → ∀ (σg σc : L2.St) (H : Hp) (s s₀ : Shared), Hd m σg σc H → GJ X pins N qual scope f cd n pn B σg σc H s →
      Seg (model X.prog X.w) B (RF X pins pn D) (YF X pins n pn g tb D) k s₀ (.whileLoop test (as ++ .Expr (.Yield (some ye) yp) pos :: bs) [] (envOfC qual scope n f cd)) ((model X.prog X.w).den (.whileLoop test (as ++ .Expr (.Yield (some ye) yp) pos :: bs) [] (envOfC qual scope n f cd)))
        [.ret kk none false [] (.func body (envOfC qual scope n f cd)) p []] s := by
  have over : B.over (.whileLoop test (as ++ .Expr (.Yield (some ye) yp) pos :: bs) [] (envOfC qual scope n f cd)) [.ret kk none false [] (.func body (envOfC qual scope n f cd)) p []] = B.deeper (envOfC qual scope n f cd) := (over_loop rfl rfl).trans over_func
  intro m
  induction m using _root_.Nat.strongRecOn with
  | ind m ih =>
    intro k hk σg σc H s s₀ hd J
    obtain ⟨s1, H1, I, J1⟩ := J
    refine seg_whileLoop ?_
    rw [over]
    refine wpAny_mono ((pt s1 H1).run [] s σg H _ J1 (turn m σg σc H hd)) (fun b s' hb => ?_) (fun x s' hx => False.elim hx)
    obtain ⟨H2, J2, q⟩ := hb
    cases b with
    | false =>
      rw [if_neg Bool.false_ne_true] at q ⊢
      refine seg_execs_nil ?_
      obtain ⟨lo, I2, _⟩ := GJ.back W ⟨s1, H1, I, J2⟩
      exact seg_leaf (.ok .next) (hkk k s₀ s' ⟨σc, H2, I2.pins_of fun p hp => I2.pin p (List.mem_append_right _ (List.mem_cons_of_mem _ hp)), q⟩)
    | true =>
      rw [if_pos rfl] at q ⊢
      rw [execs_append_wrap]
      refine seg_wrap ?_
      rw [over]
      refine wpAny_mono ((pas s1 H1).run [] s' σg H2 _ J2 q) (fun fl s2 hs => ?_) (fun x s' hx => False.elim hx)
      cases fl with
      | next =>
        obtain ⟨σ1, H3, J3, q3⟩ := hs
        refine seg_execs_cons ?_
        obtain ⟨k', rfl⟩ : ∃ k', k = k' + 1 := ⟨k - 1, by omega⟩
        refine seg_Expr_Yield rfl rfl rfl ?_ W.co (W.hi _ _ _ _)
        rw [over]
        refine wpAny_mono ((py s1 H1).run [] s2 σ1 H3 _ J3 q3) (fun v s3 hv => ?_) (fun x s' hx => False.elim hx)
        obtain ⟨x, H4, J4, rv, Nx, qc, hN⟩ := hv
        intro kap hkap
        obtain ⟨lo, I4, gl⟩ := GJ.back W ⟨s1, H1, I, J4⟩
        refine ⟨x, lo, σc, H4, Nx, rv, I4, qc, fun s5 σ5 H5 I5 n5 => ?_⟩
        refine (fun z => ⟨hkap .none s5 z, hkap (.bool true) s5 z⟩) ?_
        obtain ⟨s6, H6, I6, J6⟩ := GJ.wake W I5 gl J4.len
        refine seg_wrap ?_
        rw [over]
        refine wpAny_mono ((pbs s6 H6).run [] s5 σ1 H5 _ J6 (hN σ5 H5 n5)) (fun fl s7 hs => ?_) (fun x s' hx => False.elim hx)
        cases fl with
        | next =>
          obtain ⟨σ7, H7, J7, m', hm', hd'⟩ := hs
          exact seg_again rfl (ih m' hm' k' (by omega) σ7 σ5 H7 s7 _ hd' ⟨s6, H6, I6, J7⟩)
        | brk => obtain ⟨_, _, _, z⟩ := hs; exact False.elim z
        | cont => obtain ⟨_, _, _, z⟩ := hs; exact False.elim z
        | ret u => obtain ⟨_, _, _, _, _, z⟩ := hs; exact False.elim z
      | brk => obtain ⟨_, _, _, z⟩ := hs; exact False.elim z
      | cont => obtain ⟨_, _, _, z⟩ := hs; exact False.elim z
      | ret u => obtain ⟨_, _, _, _, _, z⟩ := hs; exact False.elim z
theorem seg_gen {test ye : Expr} {pre as bs : List Stmt} {yp pos wpos : Pos} {tt : TT} {tpre tas tbs : TS} {te : TE} {g : TG} {tb : TS} {D : Ends} {Hd : Nat → L2.St → L2.St → Hp → Prop} (W : Gn X pins scope n pn B)
    (ppre : ∀ s H, PSs (gcx X B N qual scope f cd n pn s H) pre tpre) (pt : ∀ s H, PT (gcx X B N qual scope f cd n pn s H) test tt) (pas : ∀ s H, PSs (gcx X B N qual scope f cd n pn s H) as tas) (py : ∀ s H, PE (gcx X B N qual scope f cd n pn s H) ye te) (pbs : ∀ s H, PSs (gcx X B N qual scope f cd n pn s H) bs tbs)
    (turn : Turn tt tas tbs te g tb D Hd) {M : Nat} {σ0 σc : L2.St} {H : Hp} {s s₀ : Shared} (J : GJ X pins N qual scope f cd n pn B σ0 σc H s) (hp : tpre { nx := fun σg H' => ∃ m, m ≤ M ∧ Hd m σg σc H', rt := fun _ _ => False } σ0 H) :
    Seg (model X.prog X.w) B (RF X pins pn D) (YF X pins n pn g tb D) (M + 1) s₀ (.func (pre ++ [.While test (as ++ .Expr (.Yield (some ye) yp) pos :: bs) [] wpos]) (envOfC qual scope n f cd))
      ((model X.prog X.w).den (.func (pre ++ [.While test (as ++ .Expr (.Yield (some ye) yp) pos :: bs) [] wpos]) (envOfC qual scope n f cd))) [] s := by
  refine seg_func ?_
  rw [execs_append_wrap]
  refine seg_wrap ?_
  rw [over_func]
  obtain ⟨s1, H1, I, J1⟩ := J
  refine wpAny_mono ((ppre s1 H1).run [] s σ0 H _ J1 hp) (fun fl s2 hs => ?_) (fun x s' hx => False.elim hx)
  cases fl with
  | next =>
    obtain ⟨σ1, H2, J2, m, hm, hd⟩ := hs
    refine seg_execs_cons ?_
    refine seg_While fun p => ?_
    exact seg_loop W pt pas py pbs turn (fun k s₀ s h => seg_end (.ok (.ret .none)) (.inl ⟨.inl rfl, h⟩)) m (M + 1) (by omega) σ1 σc H2 s2 s₀ hd ⟨s1, H1, I, J2⟩
  | brk => obtain ⟨_, _, _, z⟩ := hs; exact False.elim z
  | cont => obtain ⟨_, _, _, z⟩ := hs; exact False.elim z
  | ret u => obtain ⟨_, _, _, _, _, z⟩ := hs; exact False.elim z
end
theorem letOwned_gen {P : Program} {w : World} {A : Around} {E : Value → Shared → Prop} {s : Shared} {tg : Expr} {a : Addr} {g : Nat} {v : Value} {Q : Unit → Shared → Prop} (hg : s.heap.IsGen a g) (hQ : Q () s) : wpAny (model P w) A (letOwnedTupleGo tg (.ref a) v) Q E s := by
  obtain ⟨o, nm, qn, ho, hc, hd, _⟩ := hg
  unfold letOwnedTupleGo
  split
  all_goals first
    | exact wpAny_pure hQ
    | (cases v with
       | ref T =>
         refine (wpAny_bind (wpAny_load ho ?_))
         rw [hc, hd]
         dsimp only
         rw [if_neg (by simp)]
         exact wpAny_pure hQ
       | _ => exact wpAny_pure hQ)
open GenW
section
variable {X : Cx} {pins : List (Addr × Obj)} {n : Nat}
theorem gen_loop {tg : Expr} {body : List Stmt} {g : TG} {tb : TS} {D : Ends} {a : Addr} {gi : Nat} {go : Obj} (hXh : X.A.handled = none) (hroom : X.A.depth < recursionLimit) (hx : ∀ e s', ¬ X.xe e s') (hgo : ∀ h : Heap, h.get? a = some go → h.IsGen a gi)
    (hg : PG X tg g) (hb : PSs X body tb) {k : Nat} {s : Shared} {σc : L2.St} {H : Hp} {gs : GenState} (hgs : s.gens[gi]? = some gs) (I : Inv X ([(a, go)] ++ pins) σc H s)
    (goes : gs.Goes (model X.prog X.w) X.A.in1 (RF X pins [(a, go)] D) (YF X pins n [(a, go)] g tb D) k (.send .none) (s.setGen gi .running)) :
    codeAny (model X.prog X.w) X.A (.forLoop tg (.ref a) body [] X.env) (fun r s' => match r with | .ok f => SP X pins D f s' | .error e => False) s := by
  refine codeAny_forLoop_any (fun k s => ∃ gs σc H, s.gens[gi]? = some gs ∧ Inv X ([(a, go)] ++ pins) σc H s ∧ gs.Goes (model X.prog X.w) X.A.in1 (RF X pins [(a, go)] D) (YF X pins n [(a, go)] g tb D) k (.send .none) (s.setGen gi .running)) ?_ k ⟨gs, σc, H, hgs, I, goes⟩
  clear goes I hgs
  rintro k s ⟨gs, σc, H, hgs, I, goes⟩
  have lt : gi < s.gens.size := by
    by_cases z : gi < s.gens.size
    · exact z
    · rw [Array.getElem?_eq_none (by omega)] at hgs; cases hgs
  have pa := (I.pin (a, go) (List.mem_append_right _ List.mem_cons_self)).1
  have sub : ∀ {pins' : List (Addr × Obj)} {σ : L2.St} {H : Hp} {s : Shared}, Inv X pins' σ H s → (∀ p ∈ pins, p ∈ pins') → Inv X pins σ H s := fun I h => I.pins_of fun p hp => I.pin p (List.mem_append_right _ (h p hp))
  refine wpAny_gsz (n := gi + 1) lt (wpAny_mono (next_genG (n := k) (Q := fun r s2 => match r with
      | none => SP X pins D .next s2
      | some v => ∃ s₁ gs', s2 = s₁.setGen gi gs' ∧ gs'.bare = true ∧ YF X pins n [(a, go)] g tb D (k - 1) (s.setGen gi .running) v s₁ (fun r' s'' => match k with
        | 0 => False
        | m + 1 => gs'.Goes (model X.prog X.w) X.A.in1 (RF X pins [(a, go)] D) (YF X pins n [(a, go)] g tb D) m r' s''))
    (E := fun _ _ => False) hXh I.nolimit hroom (hgo _ pa) hgs goes (fun v s₁ gs' hb' hY => ⟨s₁, gs', rfl, hb', hY⟩) (fun s₁ hF h' hk => ?_) (fun e s₁ he => False.elim he)) (fun r s2 hr hsz => ?_) (fun e s' h => False.elim h))
  · obtain ⟨σ', H', I', q⟩ := hF
    refine ⟨σ', H', ?_, q⟩
    have I2 := sub I' (fun p hp => List.mem_cons_of_mem _ hp)
    have I3 := inv_gens I2 (allBare_setGen (g := gi) (x := .finished) I2.bare rfl)
    exact I3.kept hk
  · cases r with
    | none => exact (wpAny_execs_nil hr)
    | some v =>
      obtain ⟨s₁, gs', rfl, hb', x, lo, σ1, H1, Nx, rv, I1, qc, hk⟩ := hr
      have hin : gi < s₁.gens.size := by
        have : (s₁.setGen gi gs').gens.size = s₁.gens.size := setGen_size _ _ _
        omega
      have I2 : Inv X ((n, lo) :: ([(a, go)] ++ pins)) σ1 H1 (s₁.setGen gi gs') := inv_gens I1 (allBare_setGen I1.bare hb')
      have pa2 := (I2.pin (a, go) (List.mem_append_right _ (by simp))).1
      have at2 : (s₁.setGen gi gs').gens[gi]? = some gs' := setGen_at hin
      refine letOwned_gen (hgo _ pa2) ?_
      refine wpAny_mono (target_asleep hg hx I2 rv qc) (fun _ s3 h3 => ?_) (fun e s' h => False.elim h)
      obtain ⟨⟨σ3, H3, I3, q3⟩, k3⟩ := h3
      refine wpAny_mono (body_asleep hb hx I3 q3) (fun fl s4 h4 => ?_) (fun e s' h => False.elim h)
      obtain ⟨h4, k4⟩ := h4
      have again : ∀ {σ4 : L2.St} {H4 : Hp}, Inv X ((n, lo) :: ([(a, go)] ++ pins)) σ4 H4 s4 → Nx σ4 H4 → ∃ m, m < k ∧ ∃ gs σc H, s4.gens[gi]? = some gs ∧ Inv X ([(a, go)] ++ pins) σc H s4 ∧ gs.Goes (model X.prog X.w) X.A.in1 (RF X pins [(a, go)] D) (YF X pins n [(a, go)] g tb D) m (.send .none) (s4.setGen gi .running) := by
        intro σ4 H4 I4 n4
        obtain ⟨g1, g2⟩ := hk (s4.setGen gi .running) σ4 H4 (inv_gens I4 (allBare_setGen I4.bare rfl)) n4
        cases k with
        | zero => exact False.elim g1
        | succ m =>
          refine ⟨m, Nat.lt_succ_self m, gs', σ4, H4, ?_, I4.pins_of fun p hp => I4.pin p (List.mem_append_right _ (List.mem_cons_of_mem _ hp)), g1⟩
          cases gs' with
          | suspended k' l c p fs cl => exact k4 _ _ (k3 _ _ at2 (.inl rfl)) (.inl rfl)
          | fresh c => cases g2.1
          | running => exact False.elim g1
          | finished => exact False.elim g1
      cases fl with
      | next => obtain ⟨σ4, H4, I4, n4⟩ := h4; exact again I4 n4
      | cont => obtain ⟨σ4, H4, I4, n4⟩ := h4; exact again I4 n4
      | brk => obtain ⟨σ4, H4, I4, q4⟩ := h4; exact ⟨σ4, H4, sub I4 (fun p hp => List.mem_cons_of_mem _ (List.mem_cons_of_mem _ hp)), q4⟩
      | ret u => obtain ⟨w, σ4, H4, I4, r4, q4⟩ := h4; exact ⟨w, σ4, H4, sub I4 (fun p hp => List.mem_cons_of_mem _ (List.mem_cons_of_mem _ hp)), r4, q4⟩
end
section
variable {X : Cx} {pins : List (Addr × Obj)}
/-- a call of a generator's def makes a generator that has not begun -/
theorem gen_made {x qual : Str} {st : Stmt} {f : Addr} {fd : FuncData} {N ps : List Str} {k : Nat} {σ : L2.St} {H : Hp} {s : Shared} {us : List Value} {vs : List V} (F : Fun X.K x qual st f fd) (S : GScope N ps (defScope st)) (nc : NoCells (defScope st)) (hr : Room (k + 1) X.A) (I : Inv X pins σ H s)
    (hb : BindsTo s fd ⟨us, []⟩ (ps.zip us)) (r : Vals vs us) (hl : vs.length = ps.length) :
    codeAny (model X.prog X.w) X.A (.call (.ref f) ⟨us, []⟩) (fun rs s' => match rs with
      | .ok (.ret u) => ∃ (a : Addr) (gi : Nat) (go lo : Obj) (cd : Value), u = .ref a ∧ (∀ h : Heap, h.get? a = some go → h.IsGen a gi) ∧ s.heap.objs.size < a ∧ s'.gens[gi]? = some (.fresh (.func (defBody st) (envOfC qual (defScope st) s.heap.objs.size f cd))) ∧
          Inv X ((s.heap.objs.size, lo) :: ([(a, go)] ++ pins)) σ H s' ∧ GLoc N (envOfC qual (defScope st) s.heap.objs.size f cd) (start N vs) lo
      | _ => False) s := by
  obtain ⟨o1, o2, k0, dc0, pm0, an0, cdv, ct0, sl0, rfl, lk, hcd⟩ := F.ex
  have KX : X.K.In s.heap := I.kIn
  have lim : s.heap.NoLimit := I.nolimit
  have hkind : ∀ y ∈ ps.zip us, (defScope st).names.lookup y.1 = some .local ∨ ((defScope st).names.lookup y.1 = some .cell ∧ ((cellsFrom (s.heap.objs.size + 1) (defScope st).names []).lookup y.1).isSome = true) := by
    rintro ⟨m, v⟩ hy
    exact (S.par m (List.of_mem_zip hy).1).imp id fun q => ⟨q, PySem.W.cellsFrom_some _ _ _ (.inl q)⟩
  refine codeAny_call_generator hr.depth (KX _ _ lk) rfl S.co S.gen rfl (PySem.W.codeRec_of KX hcd) (hb _ _ _ _ (wpAny_newFunctionEnv_cells S.kind hkind fun env he s1 x => ?_))
  subst he
  refine ⟨lim.keeps x.toInCall.keep, ?_⟩
  obtain ⟨hh1, tk1, es1, hk1⟩ := x.done
  have same_os : s1.os = s.os := by rw [es1]
  have same_gens : s1.gens = s.gens := by rw [es1]
  have grown : s.heap.objs.size < s1.heap.objs.size := x.toInCall.ns.lt
  have kept1 : ∀ b o, s.heap.get? b = some o → s1.heap.get? b = some o := x.toInCall.keep
  have I1 := inv_startG (E := E0) S hr.hd I.env0 hl r x
  obtain ⟨m, ⟨lo, es, ep, ho, hd, hsk, hm⟩, look⟩ := I1.loc
  have ho' : s1.heap.get? s.heap.objs.size = some lo := ho
  have born : ∀ (go : Obj) (n1 n2 : Value) (tk2 : Nat), go.cls = .type "generator" → go.data = .fields #[.int s1.gens.size 0, n1, n2] → go.slots = #[] → (∀ h : Heap, (h.push go).get? h.objs.size = some go) →
      ∃ (a : Addr) (gi : Nat) (go' lo : Obj) (cd : Value), Value.ref s1.heap.objs.size = .ref a ∧ (∀ h : Heap, h.get? a = some go' → h.IsGen a gi) ∧ s.heap.objs.size < a ∧ (s1.gens.push (.fresh (.func (defBody st) (envOfC qual (defScope st) s.heap.objs.size f cdv))))[gi]? = some (.fresh (.func (defBody st) (envOfC qual (defScope st) s.heap.objs.size f cd))) ∧
        Inv X ((s.heap.objs.size, lo) :: ([(a, go')] ++ pins)) σ H { s1 with gens := s1.gens.push (.fresh (.func (defBody st) (envOfC qual (defScope st) s.heap.objs.size f cdv))), toks := tk2, heap := s1.heap.push go } ∧ GLoc N (envOfC qual (defScope st) s.heap.objs.size f cd) (start N vs) lo := by
    intro go n1 n2 tk2 hgc hgd hgs hgp
    have kp2 : ∀ b o, s.heap.get? b = some o → (s1.heap.push go).get? b = some o := fun b o e => Heap.get?_push_of_some _ (kept1 b o e)
    have I2 : Inv X pins σ H { s1 with gens := s1.gens.push (.fresh (.func (defBody st) (envOfC qual (defScope st) s.heap.objs.size f cdv))), toks := tk2, heap := s1.heap.push go } :=
      I.call' (ch := []) same_os (Un.kept kp2) (I.hok.kept kp2) (AllBare.push (by rw [same_gens]; exact I.bare) rfl) fun b z => by simp at z
    refine ⟨s1.heap.objs.size, s1.gens.size, go, lo, cdv, rfl, fun h e => ⟨go, n1, n2, e, hgc, hgd, hgs⟩, grown, Array.getElem?_push_size .., I2.pins_of fun p hp => ?_, fun h e => ⟨m, ⟨lo, es, ep, e, hd, hsk, hm⟩, fun i y v a1 a2 a3 => ?_⟩⟩
    · rcases List.mem_cons.1 hp with rfl | hp
      · exact ⟨Heap.get?_push_of_some _ ho', I1.free, fun e => Nat.lt_irrefl _ (e ▸ I.lt), I.nofs (Nat.le_refl _), fun v q => by rw [hd] at q; cases q⟩
      · rcases List.mem_append.1 hp with hp | hp
        · rw [(List.mem_singleton.mp hp)]
          exact ⟨hgp _, I1.hok.fresh (Nat.le_refl _), fun e => (by
          have e' : s1.heap.objs.size = X.env.locals := e
          have l := I.lt
          rw [← e'] at l
          exact Nat.lt_asymm grown l), I.nofs (Nat.le_of_lt grown), fun v q => by rw [hgd] at q; cases q⟩
        · exact I2.pin p (List.mem_append_right _ hp)
    · obtain ⟨u, ru, lk⟩ := look i y v a1 a2 a3
      refine ⟨u, ru, lk.imp (fun z => z) fun ⟨z1, c, z2, z3⟩ => ?_⟩
      have z4 : (cellsFrom (s.heap.objs.size + 1) (defScope st).names []).lookup y = some c := z2
      rw [nc.cl] at z4
      cases z4
  exact born _ _ _ _ rfl rfl rfl (fun _ => Heap.get?_push_size _ rfl)
end
/-- how a loop over a generator's def reads: Hd tells both sides' states where the generator looks whether to go on -/
def tForG (N ps : List Str) (t : TA) (tpre : TS) (tt : TT) (tas : TS) (te : TE) (tbs : TS) (g : TG) (tb : TS) : TS := fun D σ H => t σ H fun vs H1 => vs.length = ps.length ∧ ∃ (M : Nat) (Hd : Nat → L2.St → L2.St → Hp → Prop),
  tpre { nx := fun σg H' => ∃ m, m ≤ M ∧ Hd m σg σ H', rt := fun _ _ => False } (start N vs) H1 ∧ Turn tt tas tbs te g tb D Hd
/-- the rules of the generator's rows, wherever it is woken -/
structure GenRows (X : Cx) (N : List Str) (qual : Str) (scope : Scope) (f : Addr) (pre as bs : List Stmt) (test ye : Expr) (tpre : TS) (tt : TT) (tas : TS) (te : TE) (tbs : TS) (n : Nat) (cd : Value) (pn : List (Addr × Obj)) (s : Shared) (H : Hp) : Prop where
  pre : PSs (gcx X X.A.in1 N qual scope f cd n pn s H) pre tpre
  test : PT (gcx X X.A.in1 N qual scope f cd n pn s H) test tt
  as : PSs (gcx X X.A.in1 N qual scope f cd n pn s H) as tas
  ye : PE (gcx X X.A.in1 N qual scope f cd n pn s H) ye te
  bs : PSs (gcx X X.A.in1 N qual scope f cd n pn s H) bs tbs
section
variable {X : Cx}
theorem ps_forGen {x y qual : Str} {st : Stmt} {f : Addr} {fd : FuncData} {N ps : List Str} {k : Nat} {pre as bs body : List Stmt} {test ye e tg : Expr} {es : List Expr} {p cpos pos yp ypos wpos : Pos} {tpre tas tbs tb : TS} {tt : TT} {te : TE} {g : TG} {t : TA}
    (F : Fun X.K x qual st f fd) (S : GScope N ps (defScope st)) (nc : NoCells (defScope st)) (shape : defBody st = pre ++ [.While test (as ++ .Expr (.Yield (some ye) yp) ypos :: bs) [] wpos])
    (rules : ∀ n cd pn s H, Room k (X.A.in1.deeper (envOfC qual (defScope st) n f cd)) → GenRows X N qual (defScope st) f pre as bs test ye tpre tt tas te tbs n cd pn s H)
    (hr : Room (k + 2) X.A) (hx : ∀ e s', ¬ X.xe e s') (hg : Gl X y) (hm : X.mg y = some (.ref f)) (hk : PySem.W.keepIn X.K (.ref f) = true) (hb : Binds X.K fd ps []) (ha : PA X (e :: es) t) (hgt : PG X tg g) (hbody : PSs X body tb)
    (hi : ∀ (q : Str) (m : Nat) (f : Addr) (cd : Value), interactive (envOfC q (defScope st) m f cd) = false := by intro _ _ _ _; rfl) (hdb : (y == ("__debug__" : Str)) = false := by decide) (he : starEach (e :: es) X.env = (false, eval e X.env) :: starEach es X.env := by rfl)
    (hpl : (backTo cpos (starEach es X.env)).any (·.1) = false := by rfl) (hs : ∀ z, foldedSetIterable (.Call (.Name y p) (e :: es) [] cpos) X.env z = pure z := by intro _; rfl) :
    PS X (.For tg (.Call (.Name y p) (e :: es) [] cpos) body [] pos) (tForG N ps t tpre tt tas te tbs g tb) := by
  refine (⟨fun pins s σ H D I h => ?_⟩)
  refine wpAny_For (wpAny_Call_Name_kw (ld_glob I hg hm ?_ hdb)) hs
  refine PySem.W.callWith_K (h₀ := X.base) I.ok.mod.kin hk (thn (ha.run cpos pins s σ H _ I h) fun us s1 ⟨vs, H1, I1, r, hl, M, Hd, hpre, turn⟩ => ⟨I1.kIn, ?_⟩) he hpl
  have ll : us.length = ps.length := r.length.symm.trans hl
  have hb1 : BindsTo s1 fd ⟨us, []⟩ (ps.zip us) := by
    have z := hb s1 us I1.kIn (by rw [List.append_nil]; exact ll)
    rw [List.append_nil] at z
    exact z
  refine wpAny_call (codeAny_mono (gen_made (k := k + 1) F S nc hr I1 hb1 r hl) fun rs s' hq => ?_)
  match rs, hq with
  | .ok (.ret u), ⟨a, gi, go, lo, cd, eu, hgo, lta, hgs, I2, gl⟩ =>
    subst eu
    have pa := (I2.pin (a, go) (List.mem_append_right _ (by simp))).1
    refine wpAny_pyIter_gen (hgo _ pa) ?_
    have W : Gn X pins (defScope st) s1.heap.objs.size [(a, go)] X.A.in1 := ⟨S.kind, S.co, hi, nc, hr.hd, I1.ok.frames, I1.lt, I1.sz, fun z c e => (by obtain ⟨v, o, ho, _⟩ := I1.cell z c e; exact Heap.lt_size ho), fun p hp => Heap.lt_size (I1.pin p hp).1, fun p hp => by rw [List.mem_singleton.mp hp]; exact lta⟩
    have R := rules s1.heap.objs.size cd [(a, go)]
    have rm : Room k (X.A.in1.deeper (envOfC qual (defScope st) s1.heap.objs.size f cd)) := (hr.in1).deeper _
    have I3 : Inv X ((s1.heap.objs.size, lo) :: ([(a, go)] ++ pins)) σ H1 (s'.setGen gi .running) := inv_gens I2 (allBare_setGen I2.bare rfl)
    have hl2 : (start N vs).length = N.length := by
      have z := congrArg List.length S.pre
      rw [List.length_take] at z
      unfold L2.start
      rw [List.length_append]; rw [List.length_map, List.length_replicate]
      omega
    refine codeAny_mono (gen_loop (D := D) (k := M + 1) (n := s1.heap.objs.size) hr.hd (by have := hr.dp; omega) hx hgo hgt hbody hgs (I2.pins_of fun p hp => I2.pin p (List.mem_append_right _ (List.mem_cons_of_mem _ hp))) ⟨rfl, ?_⟩) (fun rs s3 h3 => ?_)
    · rw [shape]
      exact seg_gen W (fun s H => (R s H rm).pre) (fun s H => (R s H rm).test) (fun s H => (R s H rm).as) (fun s H => (R s H rm).ye) (fun s H => (R s H rm).bs) turn (GJ.wake W I3 gl hl2) hpre
    · cases rs with
      | ok fl => exact h3
      | error e => exact False.elim h3
end
abbrev sPProgramError : Stmt := topS 27
abbrev nPProgramError : List Str := ["value", "place", "depth", "statement"]
theorem scPProgramError : FnScope nPProgramError ["value"] (defScope sPProgramError) := ⟨rfl, rfl, rfl, by decide +kernel, rfl, by decide +kernel, by decide +kernel⟩
def gW (s : Stmt) : Stmt := (defBody s).getLastD (.Pass ⟨0, 0, 0, 0⟩)
def gWT (s : Stmt) : Expr := match gW s with
  | .While t _ _ _ => t
  | _ => .Name "" ⟨0, 0, 0, 0⟩
def gWB (s : Stmt) : List Stmt := match gW s with
  | .While _ b _ _ => b
  | _ => []
def gYe (s : Stmt) (n : Nat) : Expr := match (gWB s).getD n (.Pass ⟨0, 0, 0, 0⟩) with
  | .Expr (.Yield (some e) _) _ => e
  | _ => .Name "" ⟨0, 0, 0, 0⟩
theorem ncEach : NoCells (defScope sPEachStatement) := ⟨fun _ => rfl, by decide +kernel⟩
def rePre (K : PySem.W.Frag) : TS := tSeq (tAsg (tLc (iTup K (tRevT K (tVar 0))) (gName 4) tYes (tTup (tCons (tC (.int 0)) (tCons (tVar 4) tNil))) [4]) (gName 1)) (tAsg (tC (.int 0)) (gName 2))
def reTest (K : PySem.W.Frag) : TT := fun σ H Q => tVar 1 σ H fun x H' => ∃ k, TruV K x H' k ∧ Q k H'
def reAs (K : PySem.W.Frag) : TS := tAsg (tBM0 K "list" rPop (tVar 1)) (gTup K 2 (gCons (gName 3) (gCons (gName 4) gNil)))
def reYe : TE := tTup (tCons (tVar 2) (tCons (tVar 3) (tCons (tVar 4) tNil)))
def reBs (K : PySem.W.Frag) : TS := tSeq (tAug 2 (tC (.int 1)) (ipI fun i j => i + j)) (tFor (iTup K (tRevT K (tCall spBlocks [] E0 (tCons (tVar 4) tNil)))) (gName 5) (tFor (iTup K (tRevT K (tVar 5))) (gName 6) (tDrop (tBM K "list" rAppend (tVar 1) (tCons (tTup (tCons (tOp (rI0 fun i j => .int (i + j)) (tVar 3) (tC (.int 1))) (tCons (tVar 6) tNil))) tNil)))))
theorem rowsEach {P : Program} {w : World} {K : PySem.W.Frag} {mg : Str → Option Value} {base : Heap} {f fE fB : Addr} {fdB : FuncData} {N0 : List Str} {q0 : Str} {sc0 : Scope} (F_pblocks_of : Fun K "blocks_of" "blocks_of" sPBlocksOf fB fdB) (G_pblocks_of : FnOk P w K mg base CX0 1 fB fdB ["statement"] spBlocks) (b_pblocks_of : Binds K fdB ["statement"] []) (m_pblocks_of : mg "blocks_of" = some (.ref fB)) (cdv : Value) (A : Around) (outer : List Env) (s0 : Shared) (H0 : Hp) (E : XK) (n : Addr) (cd : Value) (pn : List (Addr × Obj)) (s : Shared) (H : Hp)
    (hr : Room 1 ((cxOf CX0 P w K mg base N0 q0 sc0 f cdv A outer s0 H0 E).nox.A.in1.deeper (envOfC "each_statement" (defScope sPEachStatement) n fE cd))) :
    GenRows (cxOf CX0 P w K mg base N0 q0 sc0 f cdv A outer s0 H0 E).nox nPEachStatement "each_statement" (defScope sPEachStatement) fE ((defBody sPEachStatement).take 2) ((gWB sPEachStatement).take 1) ((gWB sPEachStatement).drop 2) (gWT sPEachStatement) (gYe sPEachStatement 1) (rePre K) (reTest K) (reAs K) reYe (reBs K) n cd pn s H := ⟨(pss_cons (ps_setLc (i := 1) (own := [("statement", 4)]) (g := gName 4) (tt := tYes) rfl scPEachStatement.nd rfl rfl (sw_true rfl rfl rfl (by decide +kernel)) (pi_tup (pe_revT (pv 0))) (blkOk_by (N := nPEachStatement) (sc := defScope sPEachStatement) (by decide +kernel)) (fun _ _ _ _ _ => (pg_name (i := 4) scPEachStatement.nd rfl (by first | exact Or.inl rfl | exact Or.inr rfl))) (fun _ _ _ _ _ => pts_nil) (fun _ _ _ _ _ => (pe_tup (pa_cons pe_int (pa_cons (pv 4) pa_nil)))))
      (pss_one (ps_set (i := 2) scPEachStatement.nd rfl (by first | exact Or.inl rfl | exact Or.inr rfl) pe_int))), (pt_truth (pv 1) (fun _ => rfl)), (pss_one (ps_asg (pe_bm0 PySem.F.plainAttrs_list PySem.F.slot_list_pop PySem.F.type_list_pop mt_pop (pv 1)) (pg_tup rfl (pgs_cons (pg_name (i := 3) scPEachStatement.nd rfl (by first | exact Or.inl rfl | exact Or.inr rfl)) (pgs_cons (pg_name (i := 4) scPEachStatement.nd rfl (by first | exact Or.inl rfl | exact Or.inr rfl)) pgs_nil))))), (pe_tup (pa_cons (pv 2) (pa_cons (pv 3) (pa_cons (pv 4) pa_nil)))), (pss_cons (ps_aug (i := 2) scPEachStatement.nd rfl (.inl rfl) pe_int ip_add)
      (pss_one (ps_for PassesOwn.never rfl (pi_tup (pe_revT (pe_call G_pblocks_of (hr.mono (by omega)) (by rfl) m_pblocks_of F_pblocks_of.kp b_pblocks_of .nil pass0 (pa_cons (pv 4) pa_nil)))) (pg_name (i := 5) scPEachStatement.nd rfl (by first | exact Or.inl rfl | exact Or.inr rfl)) (pss_one (ps_for PassesOwn.never rfl (pi_tup (pe_revT (pv 5))) (pg_name (i := 6) scPEachStatement.nd rfl (by first | exact Or.inl rfl | exact Or.inr rfl)) (pss_one (ps_expr (pe_bm PySem.F.plainAttrs_list PySem.F.slot_list_append PySem.F.type_list_append mt_append (pv 1) (pa_cons (pe_tup (pa_cons (pe_op op_add (pv 3) pe_int) (pa_cons (pv 6) pa_nil))) pa_nil)))))))))⟩
/-- the first fault of the rows, or what the bounds tell -/
def perrL : List Rw → PyData → PyData
  | [], e => e
  | (p, d, s) :: r, e => if 3 < d then .tuple [.int p, .str "nest"] else if s.okB = false then .tuple [.int p, .str "statement"] else perrL r e
def Bk.perr (b : Bk) : PyData := perrL (b.rws 0 0) b.bnd
def spPE (PW PT : Addr) (d : Nat) : Sp := fun vs H Q _ => ∃ (v : V) (b : Bk), vs = [v] ∧ Tp H v (.tuple b.ds) ∧ (∀ r ∈ b.rws 0 0, r.2.2.nm) ∧ b.fac d ∧ b.sz < 16777216 ∧ LamX.Tabs (TL PW PT) H ∧ ∀ H' r, Sx [PW, PT] H H' → LamX.Tabs (TL PW PT) H' → Tp H' r b.perr → Q r H'
section
variable {w : World} {P : Program} {K : PySem.W.Frag} {mg : Str → Option Value} {base : Heap}
theorem ok_perr {f fE fB fS fR : Addr} {fd fdE fdB fdS fdR : FuncData} {PW PT : Addr} {D : Nat} {t1 : Tok} (F_pprogram_error : Fun K "program_error" "program_error" sPProgramError f fd) (F_peach_statement : Fun K "each_statement" "each_statement" sPEachStatement fE fdE) (F_pblocks_of : Fun K "blocks_of" "blocks_of" sPBlocksOf fB fdB) (F_pis_statement : Fun K "is_statement" "is_statement" sPIsStatement fS fdS) (F_pbound_error : Fun K "bound_error" "bound_error" sPBoundError fR fdR)
    (G_pblocks_of : FnOk P w K mg base CX0 1 fB fdB ["statement"] spBlocks) (G_pis_statement : FnOk P w K mg base CX0 11 fS fdS ["value"] spIsSt) (G_pbound_error : FnOk P w K mg base CX0 (D + 7) fR fdR ["program"] (spBound PW PT D))
    (b_peach_statement : Binds K fdE ["program"] []) (b_pblocks_of : Binds K fdB ["statement"] []) (b_pis_statement : Binds K fdS ["value"] []) (b_pbound_error : Binds K fdR ["program"] [])
    (m_peach_statement : mg "each_statement" = some (.ref fE)) (m_pblocks_of : mg "blocks_of" = some (.ref fB)) (m_pis_statement : mg "is_statement" = some (.ref fS)) (m_pbound_error : mg "bound_error" = some (.ref fR))
    (m_MAX_NEST : mg "MAX_NEST" = some (.int 3 t1)) (z_isinstance : mg "isinstance" = none) (z_tuple : mg "tuple" = none) : FnOk P w K mg base CX0 (D + 12) f fd ["value"] (spPE PW PT D) := by
  refine F_pprogram_error.ok scPProgramError (fun vs H Q E h => ?_) (fun cdv A outer s H vs Q E hr h => ?_)
  · obtain ⟨_, _, rfl, _⟩ := h
    rfl
  · obtain ⟨v, b, rfl, t, hnm, hf, hz, hT, q⟩ := h
    refine ⟨_, (pss_cons (ps_if (pt_not (pt_val (pe_callB call_isi (by rfl) z_isinstance (by decide +kernel) (pa_cons (pv 0) (pa_cons (pe_bltn (v := .ty "tuple") (by rfl) z_tuple (by decide +kernel) rfl) pa_nil))))) (pss_one (ps_ret (pe_tup (pa_cons pe_non (pa_cons pe_str pa_nil))))) pss_nil)
      (C8.pss_cut (ps_forGen (k := 1) (pre := (defBody sPEachStatement).take 2) (test := gWT sPEachStatement) (as := (gWB sPEachStatement).take 1) (ye := gYe sPEachStatement 1) (bs := (gWB sPEachStatement).drop 2) F_peach_statement scPEachStatement ncEach (by rfl) (fun n cd pn s H hr => rowsEach F_pblocks_of G_pblocks_of b_pblocks_of m_pblocks_of cdv A outer _ _ E n cd pn s H hr) (hr.mono (by omega)) (fun _ _ z => z) (by rfl) m_peach_statement F_peach_statement.kp b_peach_statement (pa_cons (pv 0) pa_nil) (pg_tup rfl (pgs_cons (pg_name (i := 1) scPProgramError.nd rfl (by first | exact Or.inl rfl | exact Or.inr rfl)) (pgs_cons (pg_name (i := 2) scPProgramError.nd rfl (by first | exact Or.inl rfl | exact Or.inr rfl)) (pgs_cons (pg_name (i := 3) scPProgramError.nd rfl (by first | exact Or.inl rfl | exact Or.inr rfl)) pgs_nil)))) (pss_cons (ps_if (pt_cmpR op_gt (pv 2) (pe_glob (v := .int 3) (by rfl) m_MAX_NEST ⟨_, rfl⟩) (nomark _)) (pss_one (ps_ret (pe_tup (pa_cons (pv 1) (pa_cons pe_str pa_nil))))) pss_nil)
      (pss_one (ps_if (pt_not (pt_val (pe_call G_pis_statement (hr.mono (by omega)) (by rfl) m_pis_statement F_pis_statement.kp b_pis_statement .nil pass0 (pa_cons (pv 3) pa_nil)))) (pss_one (ps_ret (pe_tup (pa_cons (pv 1) (pa_cons pe_str pa_nil))))) pss_nil))))
      (pss_one (ps_ret (pe_call G_pbound_error (hr.mono (by omega)) (by rfl) m_pbound_error F_pbound_error.kp b_pbound_error .nil pass0 (pa_cons (pv 0) pa_nil)))))), ?_⟩
    have t0 := t
    obtain ⟨a, xs, rfl, ha, hx⟩ := t.tuple
    rw [b.ds_lst] at hx
    obtain ⟨hl, hg⟩ := hx.lst
    refine ⟨_, rfl, _, _, _, _, _, rfl, .ty _, .base (.tup ha), kit_ty (r := true) (by decide +kernel), _, rfl, iteF ?_⟩
    refine ⟨fun σ H' => ∃ o1 o2 o3, σ = [some (.ref a), o1, o2, o3] ∧ Sx [] H H' ∧ b.bnd = b.perr, ?_, ?_⟩
    · refine ⟨_, rfl, rfl, b.sz, fun m σg σc H' => ∃ (D : Addr) (ws : List (Int × St)) (k : Nat) (o3 o4 o5 o6 c1 c2 c3 : Option V), σg = [some (.ref a), some (.ref D), some (.int k), o3, o4, o5, o6] ∧ σc = [some (.ref a), c1, c2, c3] ∧ H D = none ∧ Sx [] H H' ∧ Stk H' D ws ∧ k + stkSz ws = b.sz ∧ (∀ r ∈ stkRws ws k, r.2.2.nm) ∧ perrL (stkRws ws k) b.bnd = b.perr ∧ m = stkSz ws, ?_, ?_⟩
      · -- the first stack
        refine ⟨_, rfl, a, xs, rfl, SqT.of ha, fun p hp => ⟨p, rfl, ⟨_, SqT.of upd_same⟩, fun D hD => lc_tup (xs := xs.reverse)
          (fun i H1 => Sx [] H H1 ∧ H1 p = some (.tup xs.reverse) ∧ Stk H1 D ((b.lst.drop (b.lst.length - i)).map fun s => (0, s)))
          ⟨(Sx.n0 hp).trans (Sx.n0 hD), by rw [upd_ne (ne_of_none upd_same hD)]; exact upd_same, [], upd_same, by rw [Nat.sub_zero, List.drop_length]; exact .nil⟩ (fun i H1 _ z => SqT.of z.2.1) (fun i x H1 hi z => ?_) (fun H1 z => ?_)⟩⟩
        · obtain ⟨s1, hp1, hv⟩ := z
          obtain ⟨hi1, hi2⟩ := rev_get hi
          rw [hl] at hi1 hi2
          obtain ⟨st, hst, tst⟩ := hg _ x hi2
          refine ⟨rfl, ?_⟩
          refine ⟨_, rfl, by show 2 ≤ sizeLine; decide, fun u hu => ?_⟩
          have hDn : H D = none := by
            cases e : H D with
            | none => rfl
            | some o => have := Sx.n0 (o := .tup xs.reverse) hp D o (by simp) e; rw [hD] at this; cases this
          have bl := bk_le b
          obtain ⟨acc, e1, e2, e3⟩ := (hv.keep (Sx.n0 hu)).push (x := .ref u) (y := (0, st)) (tpPair upd_same ((tst.keep s1.tk0).new hu))
          have npD : p ≠ D := ne_of_none upd_same hD
          refine ⟨acc, e1, lt_line (by rw [e2, List.length_map, List.length_drop]; omega), (s1.new hu).own hDn, ?_, ?_⟩
          · rw [upd_ne npD]; exact Sx.n0 hu _ _ (by simp) hp1
          · rw [drop_back hi1 hst]; exact e3
        · obtain ⟨s1, _, hv⟩ := z
          have hDn : H D = none := by
            cases e : H D with
            | none => rfl
            | some o => have := Sx.n0 (o := .tup xs.reverse) hp D o (by simp) e; rw [hD] at this; cases this
          rw [List.length_reverse, hl, Nat.sub_self, List.drop_zero] at hv
          have e0 : stkSz (b.lst.map fun s => ((0 : Int), s)) = b.sz := stkSz_bk b 0
          have e1 : stkRws (b.lst.map fun s => ((0 : Int), s)) ((0 : Nat) : Int) = b.rws 0 0 := stk_bk b 0 0
          exact ⟨b.sz, Nat.le_refl _, D, b.lst.map fun s => (0, s), 0, _, _, _, _, _, _, _, rfl, rfl, hDn, s1, hv, by rw [e0]; omega, by rw [e1]; exact hnm, by rw [e1]; rfl, e0.symm⟩
      · rintro m σg σc H' ⟨D, ws, k, o3, o4, o5, o6, c1, c2, c3, rfl, rfl, hDn, s2, hs, hk, hnm2, hpe, rfl⟩
        cases ws with
        | nil =>
          refine ⟨_, rfl, false, .inl ⟨_, SqL.of hs.nil_, rfl⟩, iteF ?_⟩
          exact ⟨_, _, _, rfl, s2, hpe⟩
        | cons y ws =>
          obtain ⟨d, st⟩ := y
          obtain ⟨acc, c, x, e1, e2, e3, e4, e5, e6⟩ := hs.pop
          have hk : k + (st.sz + stkSz ws) = b.sz := hk
          have stp := st.sz_pos
          have wle := stk_le ws
          have rowE : stkRws ((d, st) :: ws) k = ((k : Int), d, st) :: (stkRws (kidsOf st.blks (d + 1)) (k + 1) ++ stkRws ws (k + st.sz)) := by
            show st.rws d k ++ stkRws ws _ = _
            rw [st.rws_kids, List.cons_append]
          rw [rowE] at hnm2 hpe
          have nm1 : st.nm := hnm2 _ (List.mem_cons_self ..)
          refine ⟨_, rfl, true, .inl ⟨_, SqL.of e1, ?_⟩, iteT ?_⟩
          · cases acc with
            | nil => simp at e6
            | cons _ _ => rfl
          refine ⟨_, rfl, .inl ⟨rfl, _, SqL.of e1⟩, D, _, _, rfl, rfl, e1, e2, ?_⟩
          have k1 : Tk H' (upd H' D (.lst acc.dropLast)) := Tk.lst e1
          refine gh (H1 := upd H' D (.lst acc.dropLast)) (F := fun H2 => Sx [] H H2 ∧ Tk H' H2 ∧ Stk H2 D ws) ⟨s2.own hDn, k1, e5⟩ (fun H2 ⟨s3, k1, e5⟩ => ?_)
          refine ⟨c, _, rfl, SqT.of (k1 _ _ e3), rfl, _, _, rfl, gnm ⟨_, _, rfl, gnm ⟨rfl, ?_⟩⟩⟩
          refine ⟨_, rfl, _, rfl, _, rfl, by show 3 ≤ sizeLine; decide, fun u hu => ?_⟩
          have tx : Tp (upd H2 u (.tup [.int k, .int d, x])) x st.d := (e4.keep k1).new hu
          have su : Sx [] H2 (upd H2 u (.tup [.int k, .int d, x])) := Sx.n0 hu
          have eu : (upd H2 u (.tup [.int k, .int d, x])) u = some (.tup [.int k, .int d, x]) := upd_same
          refine gh (H1 := upd H2 u (.tup [.int k, .int d, x])) (F := fun H3 => Sx [] H H3 ∧ Stk H3 D ws ∧ Tp H3 x st.d ∧ H3 u = some (.tup [.int k, .int d, x])) ⟨s3.trans su, e5.keep su, tx, eu⟩ (fun H3 ⟨s4, e7, e8, eu⟩ => ?_)
          -- the consumer's turn
          refine ⟨fun σ3 H5 => σ3 = [some (.ref a), some (.int k), some (.int d), some x] ∧ Sx [] H H5 ∧ Stk H5 D ws ∧ Tp H5 x st.d ∧ perrL (stkRws (kidsOf st.blks (d + 1)) (k + 1) ++ stkRws ws (k + st.sz)) b.bnd = b.perr, ?_, ?_⟩
          · refine ⟨u, _, rfl, SqT.of eu, rfl, _, _, rfl, gnm ⟨_, _, rfl, gnm ⟨_, _, rfl, gnm ⟨rfl, ?_⟩⟩⟩⟩
            refine ⟨_, rfl, _, 3, rfl, rfl, _, rfl, ite2 (fun e => ?_) (fun e => ?_)⟩
            · refine ⟨_, rfl, by show 2 ≤ sizeLine; decide, fun p hp => ?_⟩
              have e' : (3 : Int) < d := of_decide_eq_true e
              refine q _ _ (s4.new hp).nil (Tabs.sx hT (s4.new hp)) ?_
              rw [← hpe, perrL, if_pos e']
              exact .tup upd_same (.cons (.int _) (.cons (.str _) .nil))
            · have e' : ¬ (3 : Int) < d := fun z => e (decide_eq_true z)
              rw [perrL, if_neg e'] at hpe
              refine ⟨_, rfl, x, st, rfl, e8, nm1, fun H4 s5 => ⟨_, rfl, ?_⟩⟩
              cases hb : st.okB with
              | false =>
                rw [if_pos hb] at hpe
                refine iteT ⟨_, rfl, by show 2 ≤ sizeLine; decide, fun p hp => ?_⟩
                refine q _ _ ((s4.trans s5).new hp).nil (Tabs.sx hT ((s4.trans s5).new hp)) ?_
                rw [← hpe]
                exact .tup upd_same (.cons (.int _) (.cons (.str _) .nil))
              | true =>
                rw [if_neg (by rw [hb]; simp)] at hpe
                exact iteF ⟨rfl, s4.trans s5, e7.keep s5, e8.keep s5.tk0, hpe⟩
          · rintro _ H5 ⟨rfl, s5, hs5, t5, hpe5⟩
            -- what lies in it
            refine Exists.intro _ ⟨rfl, _, _, rfl, rfl, ?_⟩
            refine ⟨_, rfl, x, st, rfl, t5, fun H4 v4 s6 t4 => ?_⟩
            obtain ⟨a4, xs4, rfl, ha4, hx4⟩ := t4.tuple
            rw [st.parts_blks] at hx4
            obtain ⟨hl4, hg4⟩ := hx4.lst
            refine ⟨a4, xs4, rfl, SqT.of ha4, fun p4 hp4 => ⟨p4, rfl, ⟨_, SqT.of upd_same⟩, for_tup (xs := xs4.reverse)
              (fun i σ H5 => ∃ o5 o6, σ = [some (.ref a), some (.ref D), some (.int (k + 1)), some (.int d), some x, o5, o6] ∧ Sx [] H H5 ∧ H5 p4 = some (.tup xs4.reverse) ∧ Tk H4 H5 ∧ Stk H5 D (kidsOf (st.blks.drop (st.blks.length - i)) (d + 1) ++ ws))
              ⟨_, _, rfl, (s5.trans s6).new hp4, upd_same, (Sx.n0 hp4).tk0, by rw [Nat.sub_zero, List.drop_length]; exact (hs5.keep s6).keep (Sx.n0 hp4)⟩ (fun i σ H5 _ z => by obtain ⟨_, _, _, _, z, _⟩ := z; exact SqT.of z) (fun i y σ H5 hi z => ?_) (fun σ H5 z => ?_)⟩⟩
            · obtain ⟨o5, o6, rfl, s6, hp5, k5, hs5⟩ := z
              obtain ⟨hi1, hi2⟩ := rev_get hi
              rw [hl4] at hi1 hi2
              obtain ⟨bk, hbk, tbk⟩ := hg4 _ y hi2
              have hmem : bk ∈ st.blks := List.mem_of_getElem? hbk
              refine gnm ?_
              obtain ⟨a6, xs6, rfl, ha6, hx6⟩ := (tbk.keep k5).tuple
              rw [bk.ds_lst] at hx6
              obtain ⟨hl6, hg6⟩ := hx6.lst
              rw [drop_back hi1 hbk]
              have bl := bk_le bk
              have kl : (kidsOf (st.blks.drop (st.blks.length - i)) (d + 1)).length + bk.sz ≤ st.sz := by
                have h1 := stk_le (kidsOf (st.blks.drop (st.blks.length - i)) (d + 1))
                have h2 : ∀ (l : List Bk) (n : Nat), ((l.drop n).map Bk.sz).sum ≤ (l.map Bk.sz).sum := fun l n => by
                  have e := congrArg (fun l => (l.map Bk.sz).sum) (List.take_append_drop n l)
                  simp only [List.map_append, List.sum_append] at e
                  omega
                have h3 := h2 st.blks (st.blks.length - (i + 1))
                rw [drop_back hi1 hbk, List.map_cons, List.sum_cons] at h3
                rw [kidsSz] at h1
                rw [st.sz_blks]
                omega
              refine ⟨_, rfl, a6, xs6, rfl, SqT.of ha6, fun p6 hp6 => ⟨p6, rfl, ⟨_, SqT.of upd_same⟩, for_tup (xs := xs6.reverse)
                (fun j σ H6 => ∃ o6, σ = [some (.ref a), some (.ref D), some (.int (k + 1)), some (.int d), some x, some (.ref a6), o6] ∧ Sx [] H H6 ∧ H6 p4 = some (.tup xs4.reverse) ∧ H6 p6 = some (.tup xs6.reverse) ∧ Tk H5 H6 ∧ Stk H6 D ((bk.lst.drop (bk.lst.length - j)).map (fun s => (d + 1, s)) ++ (kidsOf (st.blks.drop (st.blks.length - i)) (d + 1) ++ ws)))
                ⟨_, rfl, s6.new hp6, Sx.n0 hp6 _ _ (by simp) hp5, upd_same, (Sx.n0 hp6).tk0, by rw [Nat.sub_zero, List.drop_length]; exact hs5.keep (Sx.n0 hp6)⟩ (fun j σ H6 _ z => by obtain ⟨_, _, _, _, z, _⟩ := z; exact SqT.of z) (fun j y2 σ H6 hj z => ?_) (fun σ H6 z => ?_)⟩⟩
              · obtain ⟨o6, rfl, s7, hp6a, hp6b, k6, hs6⟩ := z
                obtain ⟨hj1, hj2⟩ := rev_get hj
                rw [hl6] at hj1 hj2
                obtain ⟨st2, hst2, tst2⟩ := hg6 _ y2 hj2
                refine gnm ?_
                obtain ⟨L6, hL6, _⟩ := id hs6
                refine ⟨_, rfl, .inl ⟨rfl, _, SqL.of hL6⟩, _, rfl, d, 1, rfl, rfl, _, rfl, by show 2 ≤ sizeLine; decide, fun u2 hu2 => ?_⟩
                obtain ⟨acc2, g1, g2, g3⟩ := (hs6.keep (Sx.n0 hu2)).push (x := .ref u2) (y := (d + 1, st2)) (tpPair upd_same ((tst2.keep k6).new hu2))
                refine ⟨D, _, _, rfl, rfl, g1, lt_line (by rw [g2, List.length_append, List.length_map, List.length_drop, List.length_append]; omega), ?_⟩
                refine ⟨_, rfl, (s7.new hu2).own hDn, ?_, ?_, (k6.trans (Sx.n0 hu2).tk0).trans (Tk.lst g1), ?_⟩
                · exact ((Sx.n0 hu2).tk0.trans (Tk.lst g1)) _ _ hp6a
                · exact ((Sx.n0 hu2).tk0.trans (Tk.lst g1)) _ _ hp6b
                · rw [drop_back hj1 hst2]; exact g3
              · obtain ⟨o6, rfl, s7, hp6a, hp6b, k6, hs6⟩ := z
                rw [List.length_reverse, hl6, Nat.sub_self, List.drop_zero] at hs6
                refine ⟨_, _, rfl, s7, hp6a, k5.trans k6, ?_⟩
                show Stk H6 D ((bk.stk (d + 1) ++ kidsOf (st.blks.drop (st.blks.length - i)) (d + 1)) ++ ws)
                rw [List.append_assoc]
                exact hs6
            · obtain ⟨o5, o6, rfl, s6, hp5, k5, hs5⟩ := z
              rw [List.length_reverse, hl4, Nat.sub_self, List.drop_zero] at hs5
              have e9 : ((k + 1 : Nat) : Int) = (k : Int) + 1 := by omega
              have rows : stkRws (kidsOf st.blks (d + 1) ++ ws) ((k + 1 : Nat) : Int) = stkRws (kidsOf st.blks (d + 1)) (k + 1) ++ stkRws ws (k + st.sz) := by
                rw [stk_append, e9, kidsSz]
                congr 2
                rw [st.sz_blks]
                omega
              have szE : stkSz (kidsOf st.blks (d + 1) ++ ws) + 1 = st.sz + stkSz ws := by
                rw [stkSz_append, kidsSz, st.sz_blks]
                omega
              refine ⟨_, ?_, D, kidsOf st.blks (d + 1) ++ ws, k + 1, _, _, _, _, _, _, _, by rw [e9], rfl, hDn, s6, hs5, by omega, by rw [rows]; exact fun r hr => hnm2 r (List.mem_cons_of_mem _ hr), by rw [rows]; exact hpe5, rfl⟩
              have e10 : ((d, st) : Int × St).2.sz = st.sz := rfl
              rw [stkSz_cons, e10]
              omega
    · rintro _ H1 ⟨o1, o2, o3, rfl, s1, hpe⟩
      refine ⟨_, rfl, .ref a, b, rfl, t0.keep s1.tk0, hf, hz, Tabs.sx hT s1, fun H2 r s2 hT2 tr => ?_⟩
      exact q H2 r (s1.nil.trans s2) hT2 (by rw [← hpe]; exact tr)
end
abbrev sWhole : Stmt := topS 40
abbrev nWhole : List Str := ["_law_value", "_law_least", "_law_most"]
theorem scWhole : FnScope nWhole ["_law_value", "_law_least", "_law_most"] (defScope sWhole) := ⟨rfl, rfl, rfl, by decide +kernel, rfl, by decide +kernel, by decide +kernel⟩
abbrev sIsName : Stmt := topS 41
abbrev nIsName : List Str := ["_law_value", "_law_kept", "_law_letter"]
theorem scIsName : FnScope nIsName ["_law_value"] (defScope sIsName) := ⟨rfl, rfl, rfl, by decide +kernel, rfl, by decide +kernel, by decide +kernel⟩
abbrev sIsExpression : Stmt := topS 42
abbrev nIsExpression : List Str := ["_law_value", "_law_deep"]
theorem scIsExpression : FnScope nIsExpression ["_law_value", "_law_deep"] (defScope sIsExpression) := ⟨rfl, rfl, rfl, by decide +kernel, rfl, by decide +kernel, by decide +kernel⟩
abbrev sIsRest : Stmt := topS 43
abbrev nIsRest : List Str := ["_law_value"]
theorem scIsRest : FnScope nIsRest ["_law_value"] (defScope sIsRest) := ⟨rfl, rfl, rfl, by decide +kernel, rfl, by decide +kernel, by decide +kernel⟩
abbrev sIsTest : Stmt := topS 44
abbrev nIsTest : List Str := ["_law_value", "_law_nots"]
theorem scIsTest : FnScope nIsTest ["_law_value", "_law_nots"] (defScope sIsTest) := ⟨rfl, rfl, rfl, by decide +kernel, rfl, by decide +kernel, by decide +kernel⟩
abbrev sIsStatement : Stmt := topS 45
abbrev nIsStatement : List Str := ["_law_value", "_law_part_here"]
theorem scIsStatement : FnScope nIsStatement ["_law_value"] (defScope sIsStatement) := ⟨rfl, rfl, rfl, by decide +kernel, rfl, by decide +kernel, by decide +kernel⟩
/-! ### the law reads statements -/
theorem call_isiK {X : Cx} {K : PySem.W.Frag} (h : X.K = K) : CallR X (.builtin "isinstance") (rIsi K) := h ▸ call_isi
/-- the expressions that the law's programs have -/
def Ex.atom : Ex → Prop
  | .int i => -99 ≤ i ∧ i ≤ 99
  | .name z => NmOk z
  | _ => False
def spWhole : Sp := fun vs H Q _ => ∃ i lo hi : Int, vs = [.int i, .int lo, .int hi] ∧ lo ≤ i ∧ i ≤ hi ∧ Q (.bl true) H
def spIsNm : Sp := fun vs H Q _ => ∃ (v : V) (r : Bool), vs = [v] ∧ ((∃ z : Str, v = .str z ∧ NmOk z ∧ r = true) ∨ ∃ i : Int, v = .int i ∧ r = false) ∧ ∀ H', Sx [] H H' → Q (.bl r) H'
def spIsEx : Sp := fun vs H Q _ => ∃ (v : V) (x : Ex) (d : Int), vs = [v, .int d] ∧ 0 < d ∧ Tp H v x.d ∧ x.atom ∧ ∀ H', Sx [] H H' → Q (.bl true) H'
section
variable {w : World} {P : Program} {K : PySem.W.Frag} {mg : Str → Option Value} {base : Heap}
theorem ok_lwhole {f : Addr} {fd : FuncData} {k : Nat} (F_whole : Fun K "_law_whole" "_law_whole" sWhole f fd) (z_isinstance : mg "isinstance" = none) (z_int : mg "int" = none) (z_bool : mg "bool" = none) : FnOk P w K mg base CX0 (k + 1) f fd ["_law_value", "_law_least", "_law_most"] spWhole := by
  refine F_whole.ok scWhole (fun vs H Q E h => ?_) (fun cdv A outer s H vs Q E hr h => ?_)
  · obtain ⟨_, _, _, rfl, _⟩ := h
    rfl
  · obtain ⟨i, lo, hi, rfl, h1, h2, q⟩ := h
    refine ⟨_, (pss_one (ps_ret (pe_and (pe_callB call_isi (by rfl) z_isinstance (by decide +kernel) (pa_cons (pv 0) (pa_cons (pe_bltn (v := .ty "int") (by rfl) z_int (by decide +kernel) rfl) pa_nil))) (pe_and (pe_not (pe_callB call_isi (by rfl) z_isinstance (by decide +kernel) (pa_cons (pv 0) (pa_cons (pe_bltn (v := .ty "bool") (by rfl) z_bool (by decide +kernel) rfl) pa_nil)))) (pe_one (pe_chain op_le op_le (pv 1) (pv 0) (pv 2))))))), ?_⟩
    refine ⟨_, rfl, _, _, _, _, _, rfl, .ty _, .base (.int i), kit_ty (r := true) (by decide +kernel), _, rfl, iteT ?_⟩
    refine ⟨_, rfl, _, _, _, _, _, rfl, .ty _, .base (.int i), kit_ty (r := false) (by decide +kernel), _, rfl, _, rfl, iteT ?_⟩
    refine (⟨_, rfl, _, rfl, _, _, rfl, rfl, _, rfl, ?_⟩)
    rw [decide_eq_true h1]
    refine iteT ⟨_, rfl, _, _, rfl, rfl, ?_⟩
    show Q (.bl (decide (i ≤ hi))) H
    rw [decide_eq_true h2]
    exact q
theorem dig_le : ∀ c ∈ (Str.ofString "0123456789").cps.toList, c ≤ 57 := by decide +kernel
theorem ab09_all2 : ((List.range 128).all fun c => !decide ((97 ≤ c ∧ c ≤ 122) ∨ (48 ≤ c ∧ c ≤ 57)) || decide (c ∈ (Str.ofString "abcdefghijklmnopqrstuvwxyz0123456789").cps.toList)) = true := by decide +kernel
theorem ab09_mem2 (c : Nat) (h : (97 ≤ c ∧ c ≤ 122) ∨ (48 ≤ c ∧ c ≤ 57)) : c ∈ (Str.ofString "abcdefghijklmnopqrstuvwxyz0123456789").cps.toList := by
  have := List.all_eq_true.mp ab09_all2 c (List.mem_range.mpr (by omega))
  rw [decide_eq_true h] at this
  simpa using this
theorem ok_lname {f : Addr} {fd : FuncData} {k : Nat} (F_is_name : Fun K "_law_is_name" "_law_is_name" sIsName f fd) (z_isinstance : mg "isinstance" = none) (z_str : mg "str" = none) (z_len : mg "len" = none) : FnOk P w K mg base CX0 (k + 1) f fd ["_law_value"] spIsNm := by
  refine F_is_name.ok scIsName (fun vs H Q E h => ?_) (fun cdv A outer s H vs Q E hr h => ?_)
  · obtain ⟨_, _, rfl, _⟩ := h
    rfl
  · obtain ⟨v, r, rfl, hv, q⟩ := h
    refine ⟨_, (pss_cons (ps_if (PW.pt (pw_or (pt_not (pt_val (pe_callB call_isi (by rfl) z_isinstance (by decide +kernel) (pa_cons (pv 0) (pa_cons (pe_bltn (v := .ty "str") (by rfl) z_str (by decide +kernel) rfl) pa_nil))))) (pw_or (pt_not (pt_chain op_le op_le pe_int (pe_callB call_len_str (by rfl) z_len boot_len (pa_cons (pv 0) pa_nil)) pe_int)) (pw_or1 (pt_cmpR op_in_sign (pe_ix ix_str (pv 0) pe_int (fun _ _ => rfl)) pe_str (by with_unfolding_all rfl)))))) (pss_one (ps_ret pe_bl)) pss_nil)
      (pss_cons (ps_if (pt_cmpR (op_neD hr.units) (pe_lc (own := [("_law_letter", 2)]) (g := gName 2) (tt := _) rfl scIsName.nd (pi_str (pv 0)) (blkOk_by (N := nIsName) (sc := defScope sIsName) (by decide +kernel)) (fun _ _ _ _ _ => (pg_name (i := 2) scIsName.nd rfl (by first | exact Or.inl rfl | exact Or.inr rfl))) (fun _ _ _ _ _ => pts_one (pt_cmpR op_notIn_sign (pv 2) pe_str (by with_unfolding_all rfl))) (fun _ _ _ _ _ => (pv 2))) (pe_lst pa_nil) (nomark _)) (pss_one (ps_ret pe_bl)) pss_nil)
      (pss_cons (ps_set (i := 1) scIsName.nd rfl (by first | exact Or.inl rfl | exact Or.inr rfl) (pe_lst (pa_cons pe_str (pa_cons pe_str (pa_cons pe_str (pa_cons pe_str (pa_cons pe_str (pa_cons pe_str (pa_cons pe_str (pa_cons pe_str (pa_cons pe_str (pa_cons pe_str (pa_cons pe_str (pa_cons pe_str pa_nil))))))))))))))
      (pss_one (ps_ret (pe_cmpR op_notIn_seq (pv 0) (pv 1) (by with_unfolding_all rfl))))))), ?_⟩
    rcases hv with ⟨z, rfl, hz, rfl⟩ | ⟨i, rfl, rfl⟩
    rotate_left
    · exact ⟨_, rfl, _, _, _, _, _, rfl, .ty _, .base (.int i), kit_ty (r := false) (by decide +kernel), _, rfl, iteT (iteT (q H (Sx.refl _)))⟩
    have zl : z.length ≤ sizeLine := by have := hz.hi; show z.length ≤ 16777216; omega
    refine ⟨_, rfl, _, _, _, _, _, rfl, .ty _, .base (.str z), kit_ty (r := true) (by decide +kernel), _, rfl, iteF ?_⟩
    have z1 : decide ((1 : Int) ≤ (z.length : Int)) = true := decide_eq_true (by have := hz.lo; omega)
    have z8 : decide ((z.length : Int) ≤ 8) = true := decide_eq_true (by have := hz.hi; omega)
    refine ⟨_, rfl, z, rfl, zl, _, _, rfl, rfl, _, rfl, iteP z1 ⟨_, _, rfl, rfl, _, rfl, ?_⟩⟩
    rw [z8]
    refine iteF ?_
    obtain ⟨c, hc⟩ : ∃ c, z.cps.toList[0]? = some c := by
      have := hz.lo
      cases e : z.cps.toList with
      | nil =>
        have : z.length = z.cps.toList.length := by simp [Str.length]
        rw [e] at this
        simp at this
        omega
      | cons c r => exact ⟨c, rfl⟩
    have c1 := hz.hd c hc
    refine ⟨_, rfl, z, 0, c, rfl, rfl, zl, atI_nat (j := 0) hc, c, _, rfl, rfl, _, rfl, ?_⟩
    have nd : ¬ c ∈ (Str.ofString "0123456789").cps.toList := fun h => by have := dig_le c h; omega
    rw [decide_eq_false nd]
    refine iteF ?_
    refine ⟨_, rfl, z, rfl, fun D hD => lc_str (fun i H1 => Sx [] H H1 ∧ H1 D = some (.lst [])) ⟨Sx.n0 hD, upd_same⟩ (fun i c H1 hi p => ?_) (fun H1 p => ?_)⟩
    · refine ⟨rfl, ?_⟩
      have hm : c ∈ z.cps.toList := by
        rw [← Array.getElem?_toList] at hi
        exact List.mem_of_getElem? hi
      refine ⟨_, rfl, c, _, rfl, rfl, _, rfl, ?_⟩
      rw [decide_eq_true (ab09_mem2 c (hz.sgn c hm))]
      exact iteF p
    · refine ⟨by show 0 ≤ sizeLine; decide, fun l hl => ?_⟩
      have s2 := p.1.new (o := .lst []) hl
      refine ⟨.list [], .list [], .lst (SqL.of (Sx.n0 hl _ _ (by simp) p.2)) .nil, .lst (SqL.of upd_same) .nil, by decide, by decide, _, rfl, iteF ?_⟩
      refine ⟨by show 12 ≤ sizeLine; decide, fun L hL => ?_⟩
      refine ⟨_, rfl, _, rfl, L, WordsK.map V.str, rfl, .inl (SqL.of upd_same), rfl, by decide +kernel, ?_⟩
      rw [not_word hz.kw]
      exact q _ (s2.new hL)
theorem ok_lexpr {f fN fW : Addr} {fd fdN fdW : FuncData} {k : Nat} (F_is_expression : Fun K "_law_is_expression" "_law_is_expression" sIsExpression f fd) (F_is_name : Fun K "_law_is_name" "_law_is_name" sIsName fN fdN) (F_whole : Fun K "_law_whole" "_law_whole" sWhole fW fdW)
    (G_is_name : FnOk P w K mg base CX0 1 fN fdN ["_law_value"] spIsNm) (G_whole : FnOk P w K mg base CX0 1 fW fdW ["_law_value", "_law_least", "_law_most"] spWhole) (G_is_expression : FnOk P w K mg base CX0 k f fd ["_law_value", "_law_deep"] (fun _ _ _ _ => False))
    (b_is_expression : Binds K fd ["_law_value", "_law_deep"] []) (b_is_name : Binds K fdN ["_law_value"] []) (b_whole : Binds K fdW ["_law_value", "_law_least", "_law_most"] [])
    (m_is_expression : mg "_law_is_expression" = some (.ref f)) (m_is_name : mg "_law_is_name" = some (.ref fN)) (m_whole : mg "_law_whole" = some (.ref fW)) (hk : 1 ≤ k) (z_isinstance : mg "isinstance" = none) (z_tuple : mg "tuple" = none) (z_str : mg "str" = none) (z_len : mg "len" = none) : FnOk P w K mg base CX0 (k + 1) f fd ["_law_value", "_law_deep"] spIsEx := by
  refine F_is_expression.ok scIsExpression (fun vs H Q E h => ?_) (fun cdv A outer s H vs Q E hr h => ?_)
  · obtain ⟨_, _, _, rfl, _⟩ := h
    rfl
  · obtain ⟨v, x, d, rfl, hd, t, hx, q⟩ := h
    refine ⟨_, (pss_cons (ps_if (pt_not (pt_val (pe_callB call_isi (by rfl) z_isinstance (by decide +kernel) (pa_cons (pv 0) (pa_cons (pe_bltn (v := .ty "tuple") (by rfl) z_tuple (by decide +kernel) rfl) pa_nil))))) (pss_one (ps_ret (pe_and (pe_cmpR op_gt (pv 1) pe_int (nomark _)) (pe_one (pe_or (pe_call G_is_name (hr.mono (by omega)) (by rfl) m_is_name F_is_name.kp b_is_name .nil pass0 (pa_cons (pv 0) pa_nil)) (pe_one (pe_call G_whole (hr.mono (by omega)) (by rfl) m_whole F_whole.kp b_whole .nil pass0 (pa_cons (pv 0) (pa_cons (pe_un un_neg pe_int) (pa_cons pe_int pa_nil)))))))))) pss_nil)
      (pss_cons (ps_if (PW.pt (pw_or (pt_cmpR op_eq (pv 1) pe_int (nomark _)) (pw_or (pt_cmpR op_ne (pe_callB call_len_seq (by rfl) z_len boot_len (pa_cons (pv 0) pa_nil)) pe_int (nomark _)) (pw_or1 (pt_not (pt_val (pe_callB call_isi (by rfl) z_isinstance (by decide +kernel) (pa_cons (pe_ix ix_tup (pv 0) pe_int (fun _ _ => rfl)) (pa_cons (pe_bltn (v := .ty "str") (by rfl) z_str (by decide +kernel) rfl) pa_nil))))))))) (pss_one (ps_ret pe_bl)) pss_nil)
      (pss_cons (ps_if (pt_cmpR op_eq (pe_ix ix_tup (pv 0) pe_int (fun _ _ => rfl)) pe_str (nomark _)) (pss_one (ps_ret (pe_and (pe_call G_whole (hr.mono (by omega)) (by rfl) m_whole F_whole.kp b_whole .nil pass0 (pa_cons (pe_ix ix_tup (pv 0) pe_int (fun _ _ => rfl)) (pa_cons (pe_un un_neg pe_int) (pa_cons pe_int pa_nil)))) (pe_one (pe_call G_is_expression (hr.mono (by omega)) (by rfl) m_is_expression F_is_expression.kp b_is_expression .nil pass0 (pa_cons (pe_ix ix_tup (pv 0) pe_int (fun _ _ => rfl)) (pa_cons (pe_op op_sub (pv 1) pe_int) pa_nil))))))) pss_nil)
      (pss_cons (ps_if (pt_cmpR op_notIn_seq (pe_ix ix_tup (pv 0) pe_int (fun _ _ => rfl)) (pe_lst (pa_cons pe_str (pa_cons pe_str pa_nil))) (by with_unfolding_all rfl)) (pss_one (ps_ret pe_bl)) pss_nil)
      (pss_one (ps_ret (pe_and (pe_call G_is_expression (hr.mono (by omega)) (by rfl) m_is_expression F_is_expression.kp b_is_expression .nil pass0 (pa_cons (pe_ix ix_tup (pv 0) pe_int (fun _ _ => rfl)) (pa_cons (pe_op op_sub (pv 1) pe_int) pa_nil))) (pe_one (pe_call G_is_expression (hr.mono (by omega)) (by rfl) m_is_expression F_is_expression.kp b_is_expression .nil pass0 (pa_cons (pe_ix ix_tup (pv 0) pe_int (fun _ _ => rfl)) (pa_cons (pe_op op_sub (pv 1) pe_int) pa_nil))))))))))), ?_⟩
    cases x with
    | int i =>
      obtain rfl := tpI t
      refine ⟨_, rfl, _, _, _, _, _, rfl, .ty _, .base (.int i), kit_ty (r := false) (by decide +kernel), _, rfl, iteT ?_⟩
      refine ⟨_, rfl, _, _, rfl, rfl, _, rfl, iteP (decide_eq_true hd) ?_⟩
      refine ⟨_, rfl, .int i, false, rfl, .inr ⟨i, rfl, rfl⟩, fun H1 s1 => ⟨_, rfl, iteF ?_⟩⟩
      exact ⟨_, rfl, 99, rfl, i, -99, 99, rfl, hx.1, hx.2, q H1 s1⟩
    | name z =>
      obtain rfl := tpS t
      refine ⟨_, rfl, _, _, _, _, _, rfl, .ty _, .base (.str z), kit_ty (r := false) (by decide +kernel), _, rfl, iteT ?_⟩
      refine ⟨_, rfl, _, _, rfl, rfl, _, rfl, iteP (decide_eq_true hd) ?_⟩
      exact ⟨_, rfl, .str z, true, rfl, .inl ⟨z, rfl, hx, rfl⟩, fun H1 s1 => ⟨_, rfl, iteT (q H1 s1)⟩⟩
    | _ => exact hx.elim
/-- right tests and statements of such expressions -/
def Ts.atom : Ts → Nat → Prop
  | .rest x b r, _ => x.atom ∧ 2 ≤ b ∧ b ≤ 6 ∧ 0 ≤ r ∧ r ≤ b - 1
  | .less x y, _ => x.atom ∧ y.atom
  | .not t, n => 1 ≤ n ∧ t.atom (n - 1)
def St.atom : St → Prop
  | .set z e => NmOk z ∧ e.atom
  | .pay e => e.atom
  | .stop => True
  | .ite t _ _ => t.atom 2
  | .rep k _ => 1 ≤ k ∧ k ≤ 8
def spIsRest : Sp := fun vs H Q _ => ∃ (v : V) (x : Ex) (b r : Int), vs = [v] ∧ Tp H v (Ts.rest x b r).d ∧ (Ts.rest x b r).atom 0 ∧ ∀ H', Sx [] H H' → Q (.bl true) H'
def spIsTs : Sp := fun vs H Q _ => ∃ (v : V) (t : Ts) (n : Nat), vs = [v, .int (n : Int)] ∧ Tp H v t.d ∧ t.atom n ∧ ∀ H', Sx [] H H' → Q (.bl true) H'
theorem ok_lrest {f fE fW : Addr} {fd fdE fdW : FuncData} {k : Nat} (hk : 2 ≤ k) (F_is_rest : Fun K "_law_is_rest" "_law_is_rest" sIsRest f fd) (F_is_expression : Fun K "_law_is_expression" "_law_is_expression" sIsExpression fE fdE) (F_whole : Fun K "_law_whole" "_law_whole" sWhole fW fdW)
    (G_is_expression : FnOk P w K mg base CX0 2 fE fdE ["_law_value", "_law_deep"] spIsEx) (G_whole : FnOk P w K mg base CX0 1 fW fdW ["_law_value", "_law_least", "_law_most"] spWhole) (b_is_expression : Binds K fdE ["_law_value", "_law_deep"] []) (b_whole : Binds K fdW ["_law_value", "_law_least", "_law_most"] [])
    (m_is_expression : mg "_law_is_expression" = some (.ref fE)) (m_whole : mg "_law_whole" = some (.ref fW)) : FnOk P w K mg base CX0 (k + 1) f fd ["_law_value"] spIsRest := by
  refine F_is_rest.ok scIsRest (fun vs H Q E h => ?_) (fun cdv A outer s H vs Q E hr h => ?_)
  · obtain ⟨_, _, _, _, rfl, _⟩ := h
    rfl
  · obtain ⟨v, x, b, r, rfl, t, ⟨hx, h1, h2, h3, h4⟩, q⟩ := h
    refine ⟨_, (pss_cons (ps_if (PW.pt (pw_or (pt_not (pt_val (pe_call G_is_expression (hr.mono (by omega)) (by rfl) m_is_expression F_is_expression.kp b_is_expression .nil pass0 (pa_cons (pe_ix ix_tup (pv 0) pe_int (fun _ _ => rfl)) (pa_cons pe_int pa_nil))))) (pw_or1 (pt_not (pt_val (pe_call G_whole (hr.mono (by omega)) (by rfl) m_whole F_whole.kp b_whole .nil pass0 (pa_cons (pe_ix ix_tup (pv 0) pe_int (fun _ _ => rfl)) (pa_cons pe_int (pa_cons pe_int pa_nil))))))))) (pss_one (ps_ret pe_bl)) pss_nil)
      (pss_one (ps_ret (pe_call G_whole (hr.mono (by omega)) (by rfl) m_whole F_whole.kp b_whole .nil pass0 (pa_cons (pe_ix ix_tup (pv 0) pe_int (fun _ _ => rfl)) (pa_cons pe_int (pa_cons (pe_op op_sub (pe_ix ix_tup (pv 0) pe_int (fun _ _ => rfl)) pe_int) pa_nil))))))), ?_⟩
    obtain ⟨a, p1, p2, p3, p4, rfl, ha, t1, t2, t3, t4⟩ := tp4 t
    obtain rfl := tpI t3
    obtain rfl := tpI t4
    refine ⟨_, rfl, a, _, _, p2, rfl, rfl, SqT.of ha, rfl, p2, x, 3, rfl, by decide, t2, hx, fun H1 s1 => ⟨_, rfl, iteF ?_⟩⟩
    have ha1 := s1 _ _ (by simp) ha
    refine ⟨_, rfl, a, _, _, _, rfl, rfl, SqT.of ha1, rfl, b, 2, 6, rfl, h1, h2, _, rfl, iteF ?_⟩
    exact ⟨_, rfl, a, _, _, _, rfl, rfl, SqT.of ha1, rfl, _, rfl, a, _, _, _, rfl, rfl, SqT.of ha1, rfl, _, _, rfl, rfl, r, 0, b - 1, rfl, h3, h4, q H1 s1⟩
theorem Ex.atom_sh {x : Ex} (h : x.atom) : Sh 1 x.d := by
  cases x with
  | int i => exact .int i
  | name z => exact .str (NmOk.ok h)
  | _ => exact h.elim
theorem Ts.atom_sh : ∀ {t : Ts} {n : Nat}, t.atom n → Sh (n + 4) t.d
  | .rest x b r, n, h => (Sh.tup (.cons (.str (by decide +kernel)) (.cons (Ex.atom_sh h.1) (.cons (.int b) (.cons (.int r) .nil))))).mono (by omega)
  | .less x y, n, h => (Sh.tup (.cons (.str (by decide +kernel)) (.cons (Ex.atom_sh h.1) (.cons (Ex.atom_sh h.2) .nil)))).mono (by omega)
  | .not t, n, h => by
    obtain ⟨m, rfl⟩ : ∃ m : Nat, n = m + 1 := ⟨n - 1, by have := h.1; omega⟩
    exact (Sh.tup (.cons (.str (by decide +kernel)) (.cons (Ts.atom_sh (t := t) (n := m) h.2) .nil))).mono (by omega)
theorem ok_ltest {f fE fR : Addr} {fd fdE fdR : FuncData} (F_is_test : Fun K "_law_is_test" "_law_is_test" sIsTest f fd) (F_is_expression : Fun K "_law_is_expression" "_law_is_expression" sIsExpression fE fdE) (F_is_rest : Fun K "_law_is_rest" "_law_is_rest" sIsRest fR fdR)
    (G_is_expression : FnOk P w K mg base CX0 2 fE fdE ["_law_value", "_law_deep"] spIsEx) (G_is_rest : FnOk P w K mg base CX0 3 fR fdR ["_law_value"] spIsRest) (b_is_test : Binds K fd ["_law_value", "_law_nots"] []) (b_is_expression : Binds K fdE ["_law_value", "_law_deep"] []) (b_is_rest : Binds K fdR ["_law_value"] [])
    (m_is_test : mg "_law_is_test" = some (.ref f)) (m_is_expression : mg "_law_is_expression" = some (.ref fE)) (m_is_rest : mg "_law_is_rest" = some (.ref fR)) (z_isinstance : mg "isinstance" = none) (z_tuple : mg "tuple" = none) (z_str : mg "str" = none) (z_len : mg "len" = none) :
    ∀ n : Nat, FnOk P w K mg base CX0 (n + 4) f fd ["_law_value", "_law_nots"] (fun vs H Q E => ∃ m : Nat, m < n ∧ m ≤ 50 ∧ (∃ v, vs = [v, .int (m : Int)]) ∧ spIsTs vs H Q E) := by
  intro n
  induction n with
  | zero => exact ⟨fun vs H Q E h => by obtain ⟨_, h, _⟩ := h; omega, fun _ _ _ _ _ _ _ _ _ _ _ _ _ h => by
      obtain ⟨_, h, _⟩ := h
      omega⟩
  | succ n G_is_test =>
    refine F_is_test.ok scIsTest (fun vs H Q E h => ?_) (fun cdv A outer s H vs Q E hr h => ?_)
    · obtain ⟨_, _, _, ⟨_, rfl⟩, _⟩ := h
      rfl
    · obtain ⟨m, hm, hm2, ⟨_, rfl⟩, v, t, m', e, tt, ht, q⟩ := h
      obtain rfl : m = m' := by
        have e2 := (List.cons.inj (List.cons.inj e).2).1
        exact Int.ofNat.inj (V.int.inj e2)
      cases e
      refine ⟨_, (pss_cons (ps_if (PW.pt (pw_or (pt_not (pt_val (pe_callB call_isi (by rfl) z_isinstance (by decide +kernel) (pa_cons (pv 0) (pa_cons (pe_bltn (v := .ty "tuple") (by rfl) z_tuple (by decide +kernel) rfl) pa_nil))))) (pw_or (pt_cmpR (op_eqD hr.units) (pv 0) (pe_tup pa_nil) (nomark _)) (pw_or1 (pt_not (pt_val (pe_callB call_isi (by rfl) z_isinstance (by decide +kernel) (pa_cons (pe_ix ix_tup (pv 0) pe_int (fun _ _ => rfl)) (pa_cons (pe_bltn (v := .ty "str") (by rfl) z_str (by decide +kernel) rfl) pa_nil))))))))) (pss_one (ps_ret pe_bl)) pss_nil)
      (pss_cons (ps_if (pt_cmpR op_ne (pe_callB call_len_seq (by rfl) z_len boot_len (pa_cons (pv 0) pa_nil)) (pe_dget2 (hu_of hr) (pe_disp (pps_cons pe_str pe_int (pps_cons pe_str pe_int (pps_cons pe_str pe_int pps_nil))) (by rfl) (by rfl) (fun z => by cases z) (by decide)) (pe_ix ix_tup (pv 0) pe_int (fun _ _ => rfl)) pe_int ⟨rfl, rfl, rfl, rfl⟩) (nomark _)) (pss_one (ps_ret pe_bl)) pss_nil)
      (pss_cons (ps_if (pt_cmpR op_eq (pe_ix ix_tup (pv 0) pe_int (fun _ _ => rfl)) pe_str (nomark _)) (pss_one (ps_ret (pe_and (pe_cmpR op_gt (pv 1) pe_int (nomark _)) (pe_one (pe_call G_is_test (hr.mono (by omega)) (by rfl) m_is_test F_is_test.kp b_is_test .nil pass0 (pa_cons (pe_ix ix_tup (pv 0) pe_int (fun _ _ => rfl)) (pa_cons (pe_op op_sub (pv 1) pe_int) pa_nil))))))) pss_nil)
      (pss_cons (ps_if (pt_cmpR op_eq (pe_ix ix_tup (pv 0) pe_int (fun _ _ => rfl)) pe_str (nomark _)) (pss_one (ps_ret (pe_call G_is_rest (hr.mono (by omega)) (by rfl) m_is_rest F_is_rest.kp b_is_rest .nil pass0 (pa_cons (pv 0) pa_nil)))) pss_nil)
      (pss_one (ps_ret (pe_and (pe_call G_is_expression (hr.mono (by omega)) (by rfl) m_is_expression F_is_expression.kp b_is_expression .nil pass0 (pa_cons (pe_ix ix_tup (pv 0) pe_int (fun _ _ => rfl)) (pa_cons pe_int pa_nil))) (pe_one (pe_call G_is_expression (hr.mono (by omega)) (by rfl) m_is_expression F_is_expression.kp b_is_expression .nil pass0 (pa_cons (pe_ix ix_tup (pv 0) pe_int (fun _ _ => rfl)) (pa_cons pe_int pa_nil))))))))))), ?_⟩
      obtain ⟨a, xs, rfl, ha⟩ := Ts.at_ tt
      have sh := (Ts.atom_sh ht).shaped (by omega)
      refine ⟨_, rfl, _, _, _, _, _, rfl, .ty _, .base (.tup ha), kit_ty (r := true) (by decide +kernel), _, rfl, iteF ?_⟩
      have nn : PyData.eqv t.d (.tuple []) = false := by cases t <;> rfl
      refine ⟨_, rfl, by show 0 ≤ sizeLine; decide, fun u hu => ⟨t.d, .tuple [], (tt.new hu).dp, .tup (SqT.of upd_same) .nil, sh, by decide, _, rfl, ?_⟩⟩
      rw [nn]
      refine iteF ?_
      have ha2 := Sx.n0 (o := .tup []) hu _ _ (by simp) ha
      refine ⟨_, rfl, a, _, _, .str t.hd, rfl, rfl, SqT.of ha2, at0 _ _, _, _, _, _, _, rfl, .ty _, .base (.str _), kit_ty (r := true) (by decide +kernel), _, rfl, iteF ?_⟩
      have hlen : xs.length + 1 = (match t with | .rest _ _ _ => 4 | .less _ _ => 3 | .not _ => 2 : Nat) := by
        cases t with
        | rest x b r => obtain ⟨_, _, _, _, _, e, hA, _⟩ := tp4 tt; cases e; rw [ha] at hA; cases hA; rfl
        | less x y => obtain ⟨_, _, _, _, e, hA, _⟩ := tp3 tt; cases e; rw [ha] at hA; cases hA; rfl
        | not t => obtain ⟨_, _, _, e, hA, _⟩ := tp2 tt; cases e; rw [ha] at hA; cases hA; rfl
      refine ⟨_, rfl, a, _, rfl, .inr (SqT.of ha2), fun p hp => ?_⟩
      have ha3 := Sx.n0 (o := .dK []) hp _ _ (by simp) ha2
      have pa : a ≠ p := ne_of_none ha2 hp
      have ha4 : ∀ o, (upd (upd (upd H u (.tup [])) p (.dK [])) p o) a = some (.tup (.str t.hd :: xs)) := fun o => by rw [upd_ne pa]; exact ha3
      refine ⟨upd_same, [(.inr "less", .int 3), (.inr "rest", .int 4), (.inr "not", .int 2)], rfl, by decide, p, rfl, .inl ⟨_, .inl upd_same⟩, ?_⟩
      refine ⟨_, rfl, a, _, _, .str t.hd, rfl, rfl, SqT.of (ha4 _), at0 _ _, ?_⟩
      have hv : (valV (mergeK [] [((.inr "less" : Key), V.int 3), (.inr "rest", .int 4), (.inr "not", .int 2)]) (.inr t.hd)).getD (.int 0) = V.int (((V.str t.hd :: xs).length : Nat) : Int) := by
        rw [List.length_cons, hlen]
        cases t <;> rfl
      refine ⟨_, .inl ⟨_, .inr t.hd, .inl upd_same, rfl, rfl⟩, ?_⟩
      rw [hv]
      refine ⟨rfl, _, rfl, iteNS rfl ?_⟩
      have s2 : Sx [] H (upd (upd (upd H u (.tup [])) p (.dK [])) p (.dK (mergeK [] [((.inr "less" : Key), V.int 3), (.inr "rest", .int 4), (.inr "not", .int 2)]))) := ((Sx.n0 hu).new hp).own (by
        cases e : H p with
        | none => rfl
        | some o => have := Sx.n0 (o := .tup []) hu p o (by simp) e; rw [hp] at this; cases this)
      have ha5 := s2 _ _ (by simp) ha
      have t5 := tt.keep s2.tk0
      refine ⟨_, rfl, a, _, _, .str t.hd, rfl, rfl, SqT.of ha5, at0 _ _, rfl, _, rfl, ?_⟩
      cases t with
      | not t =>
        obtain ⟨a2, p1, p2, ea, hA, q1, q2⟩ := tp2 t5
        cases ea
        refine iteP (by simp only [Ts.hd]; decide +kernel) ?_
        have h1 := ht.1
        refine ⟨_, rfl, _, _, rfl, rfl, _, rfl, iteP (decide_eq_true (by omega)) ?_⟩
        refine ⟨_, rfl, a, _, _, p2, rfl, rfl, SqT.of hA, rfl, _, rfl, _, _, rfl, rfl, m - 1, by omega, by omega, ⟨p2, by rw [Int.ofNat_sub h1]; rfl⟩, p2, t, m - 1, by rw [Int.ofNat_sub h1]; rfl, q2, ht.2, fun H6 s6 => q H6 (s2.trans s6)⟩
      | rest x b r =>
        refine iteN (sne (show (("rest" : Str) == "not") = false by decide +kernel)) ?_
        refine ⟨_, rfl, a, _, _, .str "rest", rfl, rfl, SqT.of ha5, at0 _ _, rfl, _, rfl, iteP (by decide +kernel) ?_⟩
        exact ⟨_, rfl, .ref a, x, b, r, rfl, t5, ht, fun H6 s6 => q H6 (s2.trans s6)⟩
      | less x y =>
        obtain ⟨a2, p1, p2, p3, ea, hA, q1, q2, q3⟩ := tp3 t5
        cases ea
        refine iteN (sne (show (("less" : Str) == "not") = false by decide +kernel)) ?_
        refine ⟨_, rfl, a, _, _, .str "less", rfl, rfl, SqT.of ha5, at0 _ _, rfl, _, rfl, iteN (sne (show (("less" : Str) == "rest") = false by decide +kernel)) ?_⟩
        refine ⟨_, rfl, a, _, _, p2, rfl, rfl, SqT.of hA, rfl, p2, x, 3, rfl, by decide, q2, ht.1, fun H6 s6 => ⟨_, rfl, iteT ?_⟩⟩
        exact ⟨_, rfl, a, _, _, p3, rfl, rfl, SqT.of (s6 _ _ (by simp) hA), rfl, p3, y, 3, rfl, by decide, q3.keep s6.tk0, ht.2, fun H7 s7 => q H7 ((s2.trans s6).trans s7)⟩
end
def spIsStL : Sp := fun vs H Q _ => ∃ (v : V) (s : St), vs = [v] ∧ Tp H v s.d ∧ s.atom ∧ SeqAt.shaped s.d = true ∧ ∀ H', Sx [] H H' → Q (.bl true) H'
section
variable {w : World} {P : Program} {K : PySem.W.Frag} {mg : Str → Option Value} {base : Heap}
theorem ok_lstat {f fE fN fT fW fP : Addr} {fd fdE fdN fdT fdW fdP : FuncData} (F_is_statement : Fun K "_law_is_statement" "_law_is_statement" sIsStatement f fd) (F_is_expression : Fun K "_law_is_expression" "_law_is_expression" sIsExpression fE fdE) (F_is_name : Fun K "_law_is_name" "_law_is_name" sIsName fN fdN) (F_is_test : Fun K "_law_is_test" "_law_is_test" sIsTest fT fdT) (F_whole : Fun K "_law_whole" "_law_whole" sWhole fW fdW) (F_parts : Fun K "_law_parts" "_law_parts" sParts fP fdP)
    (G_is_expression : FnOk P w K mg base CX0 2 fE fdE ["_law_value", "_law_deep"] spIsEx) (G_is_name : FnOk P w K mg base CX0 1 fN fdN ["_law_value"] spIsNm) (G_is_test : FnOk P w K mg base CX0 7 fT fdT ["_law_value", "_law_nots"] (fun vs H Q E => ∃ m : Nat, m < 3 ∧ m ≤ 50 ∧ (∃ v, vs = [v, .int (m : Int)]) ∧ spIsTs vs H Q E)) (G_whole : FnOk P w K mg base CX0 1 fW fdW ["_law_value", "_law_least", "_law_most"] spWhole) (G_parts : FnOk P w K mg base CX0 1 fP fdP ["_law_row"] spParts)
    (b_is_expression : Binds K fdE ["_law_value", "_law_deep"] []) (b_is_name : Binds K fdN ["_law_value"] []) (b_is_test : Binds K fdT ["_law_value", "_law_nots"] []) (b_whole : Binds K fdW ["_law_value", "_law_least", "_law_most"] []) (b_parts : Binds K fdP ["_law_row"] [])
    (m_is_expression : mg "_law_is_expression" = some (.ref fE)) (m_is_name : mg "_law_is_name" = some (.ref fN)) (m_is_test : mg "_law_is_test" = some (.ref fT)) (m_whole : mg "_law_whole" = some (.ref fW)) (m_parts : mg "_law_parts" = some (.ref fP)) (z_isinstance : mg "isinstance" = none) (z_tuple : mg "tuple" = none) (z_str : mg "str" = none) (z_len : mg "len" = none) :
    FnOk P w K mg base CX0 8 f fd ["_law_value"] spIsStL := by
  refine F_is_statement.ok scIsStatement (fun vs H Q E h => ?_) (fun cdv A outer s H vs Q E hr h => ?_)
  · obtain ⟨_, _, rfl, _⟩ := h
    rfl
  · obtain ⟨v, st, rfl, tt, hs, sh, q⟩ := h
    refine ⟨_, (pss_cons (ps_if (PW.pt (pw_or (pt_not (pt_val (pe_callB call_isi (by rfl) z_isinstance (by decide +kernel) (pa_cons (pv 0) (pa_cons (pe_bltn (v := .ty "tuple") (by rfl) z_tuple (by decide +kernel) rfl) pa_nil))))) (pw_or (pt_cmpR (op_eqD hr.units) (pv 0) (pe_tup pa_nil) (nomark _)) (pw_or1 (pt_not (pt_val (pe_callB call_isi (by rfl) z_isinstance (by decide +kernel) (pa_cons (pe_ix ix_tup (pv 0) pe_int (fun _ _ => rfl)) (pa_cons (pe_bltn (v := .ty "str") (by rfl) z_str (by decide +kernel) rfl) pa_nil))))))))) (pss_one (ps_ret pe_bl)) pss_nil)
      (pss_cons (ps_if (pt_cmpR op_ne (pe_callB call_len_seq (by rfl) z_len boot_len (pa_cons (pv 0) pa_nil)) (pe_dget2 (hu_of hr) (pe_disp (pps_cons pe_str pe_int (pps_cons pe_str pe_int (pps_cons pe_str pe_int (pps_cons pe_str pe_int (pps_cons pe_str pe_int pps_nil))))) (by rfl) (by rfl) (fun z => by cases z) (by decide)) (pe_ix ix_tup (pv 0) pe_int (fun _ _ => rfl)) pe_int ⟨rfl, rfl, rfl, rfl⟩) (nomark _)) (pss_one (ps_ret pe_bl)) pss_nil)
      (pss_cons (ps_if (pt_cmpR op_eq (pe_ix ix_tup (pv 0) pe_int (fun _ _ => rfl)) pe_str (nomark _)) (pss_one (ps_ret (pe_and (pe_call G_is_name (hr.mono (by omega)) (by rfl) m_is_name F_is_name.kp b_is_name .nil pass0 (pa_cons (pe_ix ix_tup (pv 0) pe_int (fun _ _ => rfl)) pa_nil)) (pe_one (pe_call G_is_expression (hr.mono (by omega)) (by rfl) m_is_expression F_is_expression.kp b_is_expression .nil pass0 (pa_cons (pe_ix ix_tup (pv 0) pe_int (fun _ _ => rfl)) (pa_cons pe_int pa_nil))))))) pss_nil)
      (pss_cons (ps_if (pt_cmpR op_eq (pe_ix ix_tup (pv 0) pe_int (fun _ _ => rfl)) pe_str (nomark _)) (pss_one (ps_ret (pe_call G_is_expression (hr.mono (by omega)) (by rfl) m_is_expression F_is_expression.kp b_is_expression .nil pass0 (pa_cons (pe_ix ix_tup (pv 0) pe_int (fun _ _ => rfl)) (pa_cons pe_int pa_nil))))) pss_nil)
      (pss_cons (ps_if (PW.pt (pw_and (pt_cmpR op_eq (pe_ix ix_tup (pv 0) pe_int (fun _ _ => rfl)) pe_str (nomark _)) (pw_and1 (pt_not (pt_val (pe_call G_is_test (hr.mono (by omega)) (by rfl) m_is_test F_is_test.kp b_is_test .nil pass0 (pa_cons (pe_ix ix_tup (pv 0) pe_int (fun _ _ => rfl)) (pa_cons pe_int pa_nil)))))))) (pss_one (ps_ret pe_bl)) pss_nil)
      (pss_cons (ps_if (PW.pt (pw_and (pt_cmpR op_eq (pe_ix ix_tup (pv 0) pe_int (fun _ _ => rfl)) pe_str (nomark _)) (pw_and1 (pt_not (pt_val (pe_call G_whole (hr.mono (by omega)) (by rfl) m_whole F_whole.kp b_whole .nil pass0 (pa_cons (pe_ix ix_tup (pv 0) pe_int (fun _ _ => rfl)) (pa_cons pe_int (pa_cons pe_int pa_nil))))))))) (pss_one (ps_ret pe_bl)) pss_nil)
      (pss_one (ps_ret (pe_cmpR (op_eqD hr.units) (pe_lc (own := [("_law_part_here", 1)]) (g := gName 1) (tt := _) rfl scIsStatement.nd (pi_tup (pe_call G_parts (hr.mono (by omega)) (by rfl) m_parts F_parts.kp b_parts .nil pass0 (pa_cons (pv 0) pa_nil))) (blkOk_by (N := nIsStatement) (sc := defScope sIsStatement) (by decide +kernel)) (fun _ _ _ _ _ => (pg_name (i := 1) scIsStatement.nd rfl (by first | exact Or.inl rfl | exact Or.inr rfl))) (fun _ _ _ _ _ => pts_one (pt_not (pt_val (pe_callB (call_isiK (K := K) rfl) (by rfl) z_isinstance (by decide +kernel) (pa_cons (pv 1) (pa_cons (pe_bltn (v := .ty "tuple") (by rfl) z_tuple (by decide +kernel) rfl) pa_nil)))))) (fun _ _ _ _ _ => (pv 1))) (pe_lst pa_nil) (nomark _)))))))))), ?_⟩
    obtain ⟨a, xs, rfl, ha⟩ := St.at_ tt
    refine ⟨_, rfl, _, _, _, _, _, rfl, .ty _, .base (.tup ha), kit_ty (r := true) (by decide +kernel), _, rfl, iteF ?_⟩
    have nn : PyData.eqv st.d (.tuple []) = false := by cases st <;> rfl
    refine ⟨_, rfl, by show 0 ≤ sizeLine; decide, fun u hu => ⟨st.d, .tuple [], (tt.new hu).dp, .tup (SqT.of upd_same) .nil, sh, by decide, _, rfl, ?_⟩⟩
    rw [nn]
    refine iteF ?_
    have ha2 := Sx.n0 (o := .tup []) hu _ _ (by simp) ha
    refine ⟨_, rfl, a, _, _, .str st.hd, rfl, rfl, SqT.of ha2, at0 _ _, _, _, _, _, _, rfl, .ty _, .base (.str _), kit_ty (r := true) (by decide +kernel), _, rfl, iteF ?_⟩
    have hv : (valV (mergeK [] [((.inr "set" : Key), V.int 3), (.inr "pay", .int 2), (.inr "stop", .int 1), (.inr "if", .int 4), (.inr "repeat", .int 3)]) (.inr st.hd)).getD (.int 0) = V.int (((V.str st.hd :: xs).length : Nat) : Int) := by
      cases st with
      | set z e => obtain ⟨_, _, _, _, e, hA, _⟩ := tp3 tt; cases e; rw [ha] at hA; cases hA; rfl
      | pay e => obtain ⟨_, _, _, e, hA, _⟩ := tp2 tt; cases e; rw [ha] at hA; cases hA; rfl
      | stop => obtain ⟨_, _, e, hA, _⟩ := tp1 tt; cases e; rw [ha] at hA; cases hA; rfl
      | ite t y n => obtain ⟨_, _, _, _, _, e, hA, _⟩ := tp4 tt; cases e; rw [ha] at hA; cases hA; rfl
      | rep k y => obtain ⟨_, _, _, _, e, hA, _⟩ := tp3 tt; cases e; rw [ha] at hA; cases hA; rfl
    refine ⟨_, rfl, a, _, rfl, .inr (SqT.of ha2), fun p hp => ?_⟩
    have pa : a ≠ p := ne_of_none ha2 hp
    have ha3 := Sx.n0 (o := .dK []) hp _ _ (by simp) ha2
    refine ⟨upd_same, [(.inr "set", .int 3), (.inr "pay", .int 2), (.inr "stop", .int 1), (.inr "if", .int 4), (.inr "repeat", .int 3)], rfl, by decide, p, rfl, .inl ⟨_, .inl upd_same⟩, ?_⟩
    refine ⟨_, rfl, a, _, _, .str st.hd, rfl, rfl, SqT.of (by rw [upd_ne pa]; exact ha3), at0 _ _, ?_⟩
    refine ⟨_, .inl ⟨_, .inr st.hd, .inl upd_same, rfl, rfl⟩, ?_⟩
    rw [hv]
    refine ⟨rfl, _, rfl, iteNS rfl ?_⟩
    have s2 : Sx [] H (upd (upd (upd H u (.tup [])) p (.dK [])) p (.dK (mergeK [] [((.inr "set" : Key), V.int 3), (.inr "pay", .int 2), (.inr "stop", .int 1), (.inr "if", .int 4), (.inr "repeat", .int 3)]))) := ((Sx.n0 hu).new hp).own (by
      cases e : H p with
      | none => rfl
      | some o => have := Sx.n0 (o := .tup []) hu p o (by simp) e; rw [hp] at this; cases this)
    have ha5 := s2 _ _ (by simp) ha
    have t5 := tt.keep s2.tk0
    generalize upd (upd (upd H u (.tup [])) p (.dK [])) p (.dK (mergeK [] [((.inr "set" : Key), V.int 3), (.inr "pay", .int 2), (.inr "stop", .int 1), (.inr "if", .int 4), (.inr "repeat", .int 3)])) = H5 at s2 ha5 t5 ⊢
    have w1 : ∀ {z : Str}, (z == "set") = false → ¬ (decide (V.str z = V.str "set") = true) := fun h => sne h
    refine ⟨_, rfl, a, _, _, .str st.hd, rfl, rfl, SqT.of ha5, at0 _ _, rfl, _, rfl, ?_⟩
    cases st with
    | set z e =>
      obtain ⟨_, p1, p2, p3, ea, hA, q1, q2, q3⟩ := tp3 t5
      cases ea
      obtain rfl := tpS q2
      refine iteP (by simp only [St.hd]; decide +kernel) ?_
      refine ⟨_, rfl, a, _, _, _, rfl, rfl, SqT.of hA, rfl, _, true, rfl, .inl ⟨z, rfl, hs.1, rfl⟩, fun H6 s6 => ⟨_, rfl, iteT ?_⟩⟩
      exact ⟨_, rfl, a, _, _, p3, rfl, rfl, SqT.of (s6 _ _ (by simp) hA), rfl, p3, e, 3, rfl, by decide, q3.keep s6.tk0, hs.2, fun H7 s7 => q H7 ((s2.trans s6).trans s7)⟩
    | pay e =>
      obtain ⟨_, p1, p2, ea, hA, q1, q2⟩ := tp2 t5
      cases ea
      refine iteN (sne (show (("pay" : Str) == "set") = false by decide +kernel)) ?_
      refine ⟨_, rfl, a, _, _, .str "pay", rfl, rfl, SqT.of ha5, at0 _ _, rfl, _, rfl, iteP (by decide +kernel) ?_⟩
      exact ⟨_, rfl, a, _, _, p2, rfl, rfl, SqT.of hA, rfl, p2, e, 3, rfl, by decide, q2, hs, fun H7 s7 => q H7 (s2.trans s7)⟩
    | stop =>
      refine iteN (sne (show (("stop" : Str) == "set") = false by decide +kernel)) ?_
      refine ⟨_, rfl, a, _, _, .str "stop", rfl, rfl, SqT.of ha5, at0 _ _, rfl, _, rfl, iteN (sne (show (("stop" : Str) == "pay") = false by decide +kernel)) ?_⟩
      refine ⟨_, rfl, a, _, _, .str "stop", rfl, rfl, SqT.of ha5, at0 _ _, rfl, _, rfl, iteN (sne (show (("stop" : Str) == "if") = false by decide +kernel)) (iteF ?_)⟩
      refine ⟨_, rfl, a, _, _, .str "stop", rfl, rfl, SqT.of ha5, at0 _ _, rfl, _, rfl, iteN (sne (show (("stop" : Str) == "repeat") = false by decide +kernel)) (iteF ?_)⟩
      refine ⟨_, rfl, .ref a, .stop, rfl, t5, fun H7 v7 s7 t7 => ?_⟩
      obtain ⟨a7, ys, rfl, ha7, hy⟩ := t7.tuple
      rw [St.parts_blks] at hy
      obtain ⟨hl7, hg7⟩ := hy.lst
      refine ⟨a7, rfl, ⟨_, SqT.of ha7⟩, fun D hD => lc_tup (xs := ys) (fun j H8 => Sx [] H7 H8 ∧ H8 D = some (.lst [])) ⟨Sx.n0 hD, upd_same⟩ (fun i H8 _ p => SqT.of (p.1 _ _ (by simp) ha7)) (fun j y H8 hj p => ?_) (fun H8 p => ?_)⟩
      · obtain ⟨b2, hb2, tb2⟩ := hg7 j y hj
        obtain ⟨ab, xb, rfl, hab, _⟩ := (tb2.keep p.1.tk0).tuple
        refine ⟨rfl, ?_⟩
        exact ⟨_, rfl, _, _, _, _, _, rfl, .ty _, .base (.tup hab), kit_ty (r := true) (by decide +kernel), _, rfl, iteF p⟩
      · refine ⟨by show 0 ≤ sizeLine; decide, fun l hl => ⟨.list [], .list [], .lst (SqL.of (Sx.n0 hl _ _ (by simp) p.2)) .nil, .lst (SqL.of upd_same) .nil, by decide, by decide, ?_⟩⟩
        exact q _ ((s2.trans s7).trans (p.1.new hl))
    | ite t y n =>
      obtain ⟨_, p1, p2, p3, p4, ea, hA, q1, q2, q3, q4⟩ := tp4 t5
      cases ea
      refine iteN (sne (show (("if" : Str) == "set") = false by decide +kernel)) ?_
      refine ⟨_, rfl, a, _, _, .str "if", rfl, rfl, SqT.of ha5, at0 _ _, rfl, _, rfl, iteN (sne (show (("if" : Str) == "pay") = false by decide +kernel)) ?_⟩
      refine ⟨_, rfl, a, _, _, .str "if", rfl, rfl, SqT.of ha5, at0 _ _, rfl, _, rfl, iteP (by decide +kernel) ?_⟩
      refine ⟨_, rfl, a, _, _, p2, rfl, rfl, SqT.of hA, rfl, 2, by decide, by decide, ⟨p2, rfl⟩, p2, t, 2, rfl, q2, hs, fun H6 s6 => ⟨_, rfl, iteF ?_⟩⟩
      refine ⟨_, rfl, a, _, _, .str "if", rfl, rfl, SqT.of (s6 _ _ (by simp) ha5), at0 _ _, rfl, _, rfl, iteN (sne (show (("if" : Str) == "repeat") = false by decide +kernel)) (iteF ?_)⟩
      refine ⟨_, rfl, .ref a, .ite t y n, rfl, (t5.keep s6.tk0), fun H7 v7 s7 t7 => ?_⟩
      obtain ⟨a7, ys, rfl, ha7, hy⟩ := t7.tuple
      rw [St.parts_blks] at hy
      obtain ⟨hl7, hg7⟩ := hy.lst
      refine ⟨a7, rfl, ⟨_, SqT.of ha7⟩, fun D hD => lc_tup (xs := ys) (fun j H8 => Sx [] H7 H8 ∧ H8 D = some (.lst [])) ⟨Sx.n0 hD, upd_same⟩ (fun i H8 _ p => SqT.of (p.1 _ _ (by simp) ha7)) (fun j y H8 hj p => ?_) (fun H8 p => ?_)⟩
      · obtain ⟨b2, hb2, tb2⟩ := hg7 j y hj
        obtain ⟨ab, xb, rfl, hab, _⟩ := (tb2.keep p.1.tk0).tuple
        refine ⟨rfl, ?_⟩
        exact ⟨_, rfl, _, _, _, _, _, rfl, .ty _, .base (.tup hab), kit_ty (r := true) (by decide +kernel), _, rfl, iteF p⟩
      · refine ⟨by show 0 ≤ sizeLine; decide, fun l hl => ⟨.list [], .list [], .lst (SqL.of (Sx.n0 hl _ _ (by simp) p.2)) .nil, .lst (SqL.of upd_same) .nil, by decide, by decide, ?_⟩⟩
        exact q _ (((s2.trans s6).trans s7).trans (p.1.new hl))
    | rep k y =>
      obtain ⟨_, p1, p2, p3, ea, hA, q1, q2, q3⟩ := tp3 t5
      cases ea
      obtain rfl := tpI q2
      refine iteN (sne (show (("repeat" : Str) == "set") = false by decide +kernel)) ?_
      refine ⟨_, rfl, a, _, _, .str "repeat", rfl, rfl, SqT.of ha5, at0 _ _, rfl, _, rfl, iteN (sne (show (("repeat" : Str) == "pay") = false by decide +kernel)) ?_⟩
      refine ⟨_, rfl, a, _, _, .str "repeat", rfl, rfl, SqT.of ha5, at0 _ _, rfl, _, rfl, iteN (sne (show (("repeat" : Str) == "if") = false by decide +kernel)) (iteF ?_)⟩
      refine ⟨_, rfl, a, _, _, .str "repeat", rfl, rfl, SqT.of ha5, at0 _ _, rfl, _, rfl, iteP (by decide +kernel) ?_⟩
      refine ⟨_, rfl, a, _, _, _, rfl, rfl, SqT.of hA, rfl, k, 1, 8, rfl, hs.1, hs.2, _, rfl, iteF ?_⟩
      refine ⟨_, rfl, .ref a, .rep k y, rfl, t5, fun H7 v7 s7 t7 => ?_⟩
      obtain ⟨a7, ys, rfl, ha7, hy⟩ := t7.tuple
      rw [St.parts_blks] at hy
      obtain ⟨hl7, hg7⟩ := hy.lst
      refine ⟨a7, rfl, ⟨_, SqT.of ha7⟩, fun D hD => lc_tup (xs := ys) (fun j H8 => Sx [] H7 H8 ∧ H8 D = some (.lst [])) ⟨Sx.n0 hD, upd_same⟩ (fun i H8 _ p => SqT.of (p.1 _ _ (by simp) ha7)) (fun j y H8 hj p => ?_) (fun H8 p => ?_)⟩
      · obtain ⟨b2, hb2, tb2⟩ := hg7 j y hj
        obtain ⟨ab, xb, rfl, hab, _⟩ := (tb2.keep p.1.tk0).tuple
        refine ⟨rfl, ?_⟩
        exact ⟨_, rfl, _, _, _, _, _, rfl, .ty _, .base (.tup hab), kit_ty (r := true) (by decide +kernel), _, rfl, iteF p⟩
      · refine ⟨by show 0 ≤ sizeLine; decide, fun l hl => ⟨.list [], .list [], .lst (SqL.of (Sx.n0 hl _ _ (by simp) p.2)) .nil, .lst (SqL.of upd_same) .nil, by decide, by decide, ?_⟩⟩
        exact q _ ((s2.trans s7).trans (p.1.new hl))
end
abbrev sCounts : Stmt := topS 46
abbrev nCounts : List Str := ["_law_block", "_law_found", "_law_row", "_law_test", "_law_own", "_law_part_here", "_law_inner", "_law_times", "_law_k"]
theorem scCounts : FnScope nCounts ["_law_block"] (defScope sCounts) := ⟨rfl, rfl, rfl, by decide +kernel, rfl, by decide +kernel, by decide +kernel⟩
/-! ### the law's counts -/
theorem ix_listK {X : Cx} {K : PySem.W.Frag} (h : X.K = K) : IxR X (rIxL K) := h ▸ ix_list
def cntV (b : Bk) : List V := [.int b.sz, .int (b.sumO fun _ => 1), .int (b.sumO (ownT "rest")), .int (b.sumO (ownT "less"))]
/-- the same of statements one behind the other -/
def cL (l : List St) : List V := [.int (l.map fun s => (s.sz : Int)).sum, .int (l.map fun s => s.sumO fun _ => 1).sum, .int (l.map fun s => s.sumO (ownT "rest")).sum, .int (l.map fun s => s.sumO (ownT "less")).sum]
theorem cL_lst (b : Bk) : cL b.lst = cntV b := by
  unfold cL cntV
  rw [← Bk.sumO_lst, ← Bk.sumO_lst, ← Bk.sumO_lst]
  have h : ∀ l : List St, (l.map fun s => (s.sz : Int)).sum = ((l.map St.sz).sum : Nat) := fun l => by
    induction l with
    | nil => rfl
    | cons x l ih => rw [List.map_cons, List.sum_cons, ih, List.map_cons, List.sum_cons, Int.natCast_add]
  rw [h, ← Bk.sz_lst]
/-- of one statement, with so many of its blocks -/
def oL (s : St) (j : Nat) : List V := [.int (1 + ((s.blks.take j).map fun b => (b.sz : Int)).sum), .int (1 + s.times * ((s.blks.take j).map fun b => b.sumO fun _ => 1).sum), .int (ownT "rest" s + s.times * ((s.blks.take j).map fun b => b.sumO (ownT "rest")).sum), .int (ownT "less" s + s.times * ((s.blks.take j).map fun b => b.sumO (ownT "less")).sum)]
theorem sum_up {α : Type} {l : List α} {f : α → Int} {i : Nat} {a : α} (h : l[i]? = some a) : ((l.take (i + 1)).map f).sum = ((l.take i).map f).sum + f a := by
  rw [List.take_add_one, h, List.map_append, List.sum_append]
  simp
theorem oL_end (st : St) : oL st st.blks.length = [.int st.sz, .int (st.sumO fun _ => 1), .int (st.sumO (ownT "rest")), .int (st.sumO (ownT "less"))] := by
  have h : ∀ l : List Bk, (l.map fun s => (s.sz : Int)).sum = ((l.map Bk.sz).sum : Nat) := fun l => by
    induction l with
    | nil => rfl
    | cons x l ih => rw [List.map_cons, List.sum_cons, ih, List.map_cons, List.sum_cons, Int.natCast_add]
  have hs : (st.sz : Int) = 1 + ((st.blks.map Bk.sz).sum : Nat) := by rw [st.sz_blks]; omega
  have e1 : st.sumO (fun _ => 1) = 1 + st.times * (st.blks.map fun b => b.sumO fun _ => 1).sum := St.sumO_eq _ st
  unfold oL
  rw [List.take_length, h, ← hs, ← e1, ← St.sumO_eq, ← St.sumO_eq]
theorem cL_up {l : List St} {i : Nat} {st : St} (h : l[i]? = some st) : cL (l.take (i + 1)) = [.int (((l.take i).map fun s => (s.sz : Int)).sum + st.sz), .int (((l.take i).map fun s => s.sumO fun _ => 1).sum + st.sumO fun _ => 1), .int (((l.take i).map fun s => s.sumO (ownT "rest")).sum + st.sumO (ownT "rest")), .int (((l.take i).map fun s => s.sumO (ownT "less")).sum + st.sumO (ownT "less"))] := by
  unfold cL
  rw [sum_up h, sum_up h, sum_up h, sum_up h]
/-- the word of its test, without "not" -/
def St.tstw : St → Str
  | .ite t _ _ => t.bare.hd
  | _ => "none"
theorem tw_tstw (st : St) {z : Str} (h : ("none" == z) = false) : st.tw z = decide (V.str st.tstw = V.str z) := by
  cases st with
  | ite t y n => rfl
  | _ => exact (decide_eq_false (fun e => sne h (decide_eq_true e))).symm
theorem oL0 (st : St) : [V.int 1, .int 1, .int (if decide (V.str st.tstw = V.str "rest") = true then 1 else 0), .int (if decide (V.str st.tstw = V.str "less") = true then 1 else 0)] = oL st 0 := by
  unfold oL ownT
  rw [tw_tstw st (z := "rest") (by decide +kernel), tw_tstw st (z := "less") (by decide +kernel)]
  simp
theorem oL_up {st : St} {j : Nat} {y : Bk} (h : st.blks[j]? = some y) : oL st (j + 1) =
    .int (1 + ((st.blks.take j).map fun b => (b.sz : Int)).sum + y.sz) :: [.int (1 + st.times * ((st.blks.take j).map fun b => b.sumO fun _ => 1).sum + st.times * y.sumO fun _ => 1), .int (ownT "rest" st + st.times * ((st.blks.take j).map fun b => b.sumO (ownT "rest")).sum + st.times * y.sumO (ownT "rest")), .int (ownT "less" st + st.times * ((st.blks.take j).map fun b => b.sumO (ownT "less")).sum + st.times * y.sumO (ownT "less"))] := by
  unfold oL
  rw [sum_up h, sum_up h, sum_up h, sum_up h, Int.mul_add, Int.mul_add, Int.mul_add, Int.add_assoc, Int.add_assoc, Int.add_assoc, Int.add_assoc]
def spCounts (d : Nat) : Sp := fun vs H Q _ => ∃ (v : V) (b : Bk), vs = [v] ∧ Tp H v (.tuple b.ds) ∧ b.fac d ∧ ∀ H' l, Sx [] H H' → H l = none → H' l = some (.lst (cntV b)) → Q (.ref l) H'
section
variable {w : World} {P : Program} {K : PySem.W.Frag} {mg : Str → Option Value} {base : Heap}
theorem ok_lcounts {f fP : Addr} {fd fdP : FuncData} (F_counts : Fun K "_law_counts" "_law_counts" sCounts f fd) (F_parts : Fun K "_law_parts" "_law_parts" sParts fP fdP) (G_parts : FnOk P w K mg base CX0 1 fP fdP ["_law_row"] spParts) (b_counts : Binds K fd ["_law_block"] []) (b_parts : Binds K fdP ["_law_row"] [])
    (m_counts : mg "_law_counts" = some (.ref f)) (m_parts : mg "_law_parts" = some (.ref fP)) (z_int : mg "int" = none) (z_range : mg "range" = none) :
    ∀ d : Nat, FnOk P w K mg base CX0 (d + 1) f fd ["_law_block"] (spCounts d) := by
  intro d
  induction d with
  | zero => exact ⟨fun vs H Q E h => by obtain ⟨_, _, rfl, _⟩ := h; rfl, fun _ _ _ _ _ _ _ _ _ _ _ _ _ h => by
      obtain ⟨_, _, _, _, h, _⟩ := h
      exact h.elim⟩
  | succ d G_counts =>
    refine F_counts.ok scCounts (fun vs H Q E h => ?_) (fun cdv A outer s H vs Q E hr h => ?_)
    · obtain ⟨_, _, rfl, _⟩ := h
      rfl
    · obtain ⟨v, b, rfl, t, ⟨hlen, hf⟩, q⟩ := h
      refine ⟨_, (pss_cons (ps_set (i := 1) scCounts.nd rfl (by first | exact Or.inl rfl | exact Or.inr rfl) (pe_lst (pa_cons pe_int (pa_cons pe_int (pa_cons pe_int (pa_cons pe_int pa_nil))))))
      (C8.pss_cut (ps_for PassesOwn.never rfl (pi_tup (pv 0)) (pg_name (i := 2) scCounts.nd rfl (by first | exact Or.inl rfl | exact Or.inr rfl)) (C8.pss_cut (ps_set (i := 3) scCounts.nd rfl (by first | exact Or.inl rfl | exact Or.inr rfl) (pe_ifExp (pt_cmpR op_eq (pe_ix ix_tup (pv 2) pe_int (fun _ _ => rfl)) pe_str (nomark _)) (pe_ix ix_tup (pv 2) pe_int (fun _ _ => rfl)) (pe_tup (pa_cons pe_str pa_nil))))
      (C8.pss_cut (ps_while PassesOwn.never (pt_cmpR op_eq (pe_ix ix_tup (pv 3) pe_int (fun _ _ => rfl)) pe_str (nomark _)) (pss_one (ps_set (i := 3) scCounts.nd rfl (by first | exact Or.inl rfl | exact Or.inr rfl) (pe_ix ix_tup (pv 3) pe_int (fun _ _ => rfl)))))
      (pss_cons (ps_set (i := 4) scCounts.nd rfl (by first | exact Or.inl rfl | exact Or.inr rfl) (pe_lst (pa_cons pe_int (pa_cons pe_int (pa_cons (pe_callTy call_int1 (by rfl) z_int boot_int (pa_cons (pe_cmpR op_eq (pe_ix ix_tup (pv 3) pe_int (fun _ _ => rfl)) pe_str (nomark _)) pa_nil)) (pa_cons (pe_callTy call_int1 (by rfl) z_int boot_int (pa_cons (pe_cmpR op_eq (pe_ix ix_tup (pv 3) pe_int (fun _ _ => rfl)) pe_str (nomark _)) pa_nil)) pa_nil))))))
      (C8.pss_cut (ps_for PassesOwn.never rfl (pi_tup (pe_call G_parts (hr.mono (by omega)) (by rfl) m_parts F_parts.kp b_parts .nil pass0 (pa_cons (pv 2) pa_nil))) (pg_name (i := 5) scCounts.nd rfl (by first | exact Or.inl rfl | exact Or.inr rfl)) (pss_cons (ps_asg (pe_tup (pa_cons (pe_call G_counts (hr.mono (by omega)) (by rfl) m_counts F_counts.kp b_counts .nil pass0 (pa_cons (pv 5) pa_nil)) (pa_cons (pe_ifExp (pt_cmpR op_eq (pe_ix ix_tup (pv 2) pe_int (fun _ _ => rfl)) pe_str (nomark _)) (pe_ix ix_tup (pv 2) pe_int (fun _ _ => rfl)) pe_int) pa_nil))) (pg_tup rfl (pgs_cons (pg_name (i := 6) scCounts.nd rfl (by first | exact Or.inl rfl | exact Or.inr rfl)) (pgs_cons (pg_name (i := 7) scCounts.nd rfl (by first | exact Or.inl rfl | exact Or.inr rfl)) pgs_nil))))
      (pss_one (ps_set (i := 4) scCounts.nd rfl (by first | exact Or.inl rfl | exact Or.inr rfl) (pe_op op_cat (pe_lst (pa_cons (pe_op op_add (pe_ix ix_list (pv 4) pe_int (fun _ _ => rfl)) (pe_ix ix_list (pv 6) pe_int (fun _ _ => rfl))) pa_nil)) (pe_lc (own := [("_law_k", 8)]) (g := gName 8) (tt := tYes) rfl scCounts.nd (pi_range2 (by rfl) z_range (pa_cons pe_int (pa_cons pe_int pa_nil))) (blkOk_by (N := nCounts) (sc := defScope sCounts) (by decide +kernel)) (fun _ _ _ _ _ => (pg_name (i := 8) scCounts.nd rfl (by first | exact Or.inl rfl | exact Or.inr rfl))) (fun _ _ _ _ _ => pts_nil) (fun _ _ _ _ _ => (pe_op op_add (pe_ix (ix_listK (K := K) rfl) (pv 4) (pv 8) (fun _ _ => rfl)) (pe_op op_mul (pv 7) (pe_ix (ix_listK (K := K) rfl) (pv 6) (pv 8) (fun _ _ => rfl)))))))))))
      (pss_one (ps_set (i := 1) scCounts.nd rfl (by first | exact Or.inl rfl | exact Or.inr rfl) (pe_lc (own := [("_law_k", 8)]) (g := gName 8) (tt := tYes) rfl scCounts.nd (pi_range1 (by rfl) z_range (pa_cons pe_int pa_nil)) (blkOk_by (N := nCounts) (sc := defScope sCounts) (by decide +kernel)) (fun _ _ _ _ _ => (pg_name (i := 8) scCounts.nd rfl (by first | exact Or.inl rfl | exact Or.inr rfl))) (fun _ _ _ _ _ => pts_nil) (fun _ _ _ _ _ => (pe_op op_add (pe_ix (ix_listK (K := K) rfl) (pv 1) (pv 8) (fun _ _ => rfl)) (pe_ix (ix_listK (K := K) rfl) (pv 4) (pv 8) (fun _ _ => rfl))))))))))))
      (pss_one (ps_ret (pv 1))))), ?_⟩
      obtain ⟨a, xs, rfl, ha, hx⟩ := t.tuple
      rw [b.ds_lst] at hx
      obtain ⟨hl, hg⟩ := hx.lst
      refine ⟨by show 4 ≤ sizeLine; decide, fun F hF => ?_⟩
      refine ⟨fun σ H1 => ∃ (F2 : Addr) (o2 o3 o4 o5 o6 o7 o8 : Option V), σ = [some (.ref a), some (.ref F2), o2, o3, o4, o5, o6, o7, o8] ∧ Sx [] H H1 ∧ H F2 = none ∧ H1 F2 = some (.lst (cL b.lst)), ?_, ?_⟩
      · refine ⟨_, rfl, a, rfl, ⟨_, SqT.of (by rw [upd_ne (ne_of_none ha hF)]; exact ha)⟩, for_tup (xs := xs)
          (fun i σ H1 => ∃ (F2 : Addr) (o2 o3 o4 o5 o6 o7 o8 : Option V), σ = [some (.ref a), some (.ref F2), o2, o3, o4, o5, o6, o7, o8] ∧ Sx [] H H1 ∧ H F2 = none ∧ H1 F2 = some (.lst (cL (b.lst.take i))))
          ⟨F, _, _, _, _, _, _, _, rfl, Sx.n0 hF, hF, upd_same⟩ (fun i σ H1 _ z => by obtain ⟨_, _, _, _, _, _, _, _, _, z, _⟩ := z; exact SqT.of (z _ _ (by simp) ha)) (fun i0 x σ H1 hi z => ?_) (fun σ H1 z => ?_)⟩
        · obtain ⟨F2, o2, o3, o4, o5, o6, o7, o8, rfl, s1, hF2, eF2⟩ := z
          obtain ⟨st, hst, tst⟩ := hg i0 x hi
          obtain ⟨f1, f2, f3⟩ := hf st (List.mem_of_getElem? hst)
          have t1 := tst.keep s1.tk0
          refine gnm ?_
          obtain ⟨ax, xs', rfl, hax⟩ := St.at_ t1
          -- the test
          refine ⟨fun σ H2 => ∃ (w3 : Str) (v3 : V), σ = [some (.ref a), some (.ref F2), some (.ref ax), some v3, o4, o5, o6, o7, o8] ∧ Sx [] H1 H2 ∧ ((∃ t : Ts, Tp H2 v3 t.d ∧ t.bare.hd = st.tstw) ∨ ∃ a3, v3 = .ref a3 ∧ H2 a3 = some (.tup [.str "none"]) ∧ st.tstw = "none"), ?_, ?_⟩
          · refine ⟨_, rfl, ax, _, _, .str st.hd, rfl, rfl, SqT.of hax, at0 _ _, rfl, _, rfl, ?_⟩
            cases st with
            | ite ts y n =>
              obtain ⟨_, p1, p2, p3, p4, ea, hA, q1, q2, _⟩ := tp4 t1
              cases ea
              exact iteP (by simp only [St.hd]; decide +kernel) ⟨_, rfl, ax, _, _, p2, rfl, rfl, SqT.of hA, rfl, "", p2, rfl, Sx.refl _, .inl ⟨ts, q2, rfl⟩⟩
            | set z e => exact iteN (sne (show (("set" : Str) == "if") = false by decide +kernel)) ⟨by show 1 ≤ sizeLine; decide, fun p hp => ⟨"", _, rfl, Sx.n0 hp, .inr ⟨p, rfl, upd_same, rfl⟩⟩⟩
            | pay e => exact iteN (sne (show (("pay" : Str) == "if") = false by decide +kernel)) ⟨by show 1 ≤ sizeLine; decide, fun p hp => ⟨"", _, rfl, Sx.n0 hp, .inr ⟨p, rfl, upd_same, rfl⟩⟩⟩
            | stop => exact iteN (sne (show (("stop" : Str) == "if") = false by decide +kernel)) ⟨by show 1 ≤ sizeLine; decide, fun p hp => ⟨"", _, rfl, Sx.n0 hp, .inr ⟨p, rfl, upd_same, rfl⟩⟩⟩
            | rep k y => exact iteN (sne (show (("repeat" : Str) == "if") = false by decide +kernel)) ⟨by show 1 ≤ sizeLine; decide, fun p hp => ⟨"", _, rfl, Sx.n0 hp, .inr ⟨p, rfl, upd_same, rfl⟩⟩⟩
          · rintro _ H2 ⟨_, v3, rfl, s2, hv3⟩
            refine ⟨fun σ H' => ∃ (a4 : Addr) (ys : List V), σ = [some (.ref a), some (.ref F2), some (.ref ax), some (.ref a4), o4, o5, o6, o7, o8] ∧ H' = H2 ∧ H2 a4 = some (.tup (.str st.tstw :: ys)), ?_, ?_⟩
            · refine ⟨fun m σ H' => ∃ v4 : V, σ = [some (.ref a), some (.ref F2), some (.ref ax), some v4, o4, o5, o6, o7, o8] ∧ H' = H2 ∧ ((∃ t : Ts, Tp H2 v4 t.d ∧ t.bare.hd = st.tstw ∧ m = t.nots) ∨ ∃ a3, v4 = .ref a3 ∧ H2 a3 = some (.tup [.str "none"]) ∧ st.tstw = "none" ∧ m = 0), ?_, ?_⟩
              · rcases hv3 with ⟨t, u1, u2⟩ | ⟨a3, u1, u2, u3⟩
                · exact ⟨_, v3, rfl, rfl, .inl ⟨t, u1, u2, rfl⟩⟩
                · exact ⟨0, v3, rfl, rfl, .inr ⟨a3, u1, u2, u3, rfl⟩⟩
              · rintro m σ H' ⟨v4, rfl, rfl, hv⟩
                rcases hv with ⟨t, u1, u2, rfl⟩ | ⟨a3, rfl, u2, u3, rfl⟩
                · obtain ⟨a4, ys, rfl, ha4⟩ := Ts.at_ u1
                  refine ⟨_, rfl, a4, _, _, .str t.hd, rfl, rfl, SqT.of ha4, at0 _ _, rfl, _, rfl, ?_⟩
                  cases t with
                  | not u =>
                    obtain ⟨_, p1, p2, ea, hA, r1, r2⟩ := tp2 u1
                    cases ea
                    refine iteP (by simp only [Ts.hd]; decide +kernel) ⟨fun σ H3 => σ = [some (.ref a), some (.ref F2), some (.ref ax), some p2, o4, o5, o6, o7, o8] ∧ H3 = H', fun σ H3 z => ⟨u.nots, Nat.lt_succ_self _, p2, z.1, z.2, .inl ⟨u, r2, u2, rfl⟩⟩, ?_⟩
                    exact ⟨_, rfl, a4, _, _, p2, rfl, rfl, SqT.of hA, rfl, rfl, rfl⟩
                  | rest x b r => exact iteN (sne (show (("rest" : Str) == "not") = false by decide +kernel)) ⟨a4, ys, rfl, rfl, by rw [← u2]; exact ha4⟩
                  | less x y => exact iteN (sne (show (("less" : Str) == "not") = false by decide +kernel)) ⟨a4, ys, rfl, rfl, by rw [← u2]; exact ha4⟩
                · refine ⟨_, rfl, a3, _, _, .str "none", rfl, rfl, SqT.of u2, rfl, rfl, _, rfl, iteN (sne (show (("none" : Str) == "not") = false by decide +kernel)) ?_⟩
                  exact ⟨a3, [], rfl, rfl, by rw [u3]; exact u2⟩
            · rintro _ H3 ⟨a4, ys, rfl, e3, ha4⟩
              subst e3
              refine ⟨_, rfl, a4, _, _, .str st.tstw, rfl, rfl, SqT.of ha4, at0 _ _, rfl, .inr ⟨_, rfl, ?_⟩⟩
              refine ⟨_, rfl, a4, _, _, .str st.tstw, rfl, rfl, SqT.of ha4, at0 _ _, rfl, .inr ⟨_, rfl, ?_⟩⟩
              refine ⟨by show 4 ≤ sizeLine; decide, fun O hO => ?_⟩
              have t3 := t1.keep s2.tk0
              refine ⟨fun σ H5 => ∃ (O2 : Addr) (o5 o6 o7 o8 : Option V), σ = [some (.ref a), some (.ref F2), some (.ref ax), some (.ref a4), some (.ref O2), o5, o6, o7, o8] ∧ Sx [] H3 H5 ∧ H3 O2 = none ∧ H5 O2 = some (.lst (oL st st.blks.length)), ?_, ?_⟩
              · refine ⟨_, rfl, .ref ax, st, rfl, t3.new hO, fun H4 v4 s4 t4 => ?_⟩
                obtain ⟨ap, zs, rfl, hap, hz⟩ := t4.tuple
                rw [St.parts_blks] at hz
                obtain ⟨hlz, hgz⟩ := hz.lst
                have s34 : Sx [] H3 H4 := (Sx.n0 hO).trans s4
                refine ⟨ap, rfl, ⟨_, SqT.of hap⟩, for_tup (xs := zs) (fun j σ H5 => ∃ (O2 : Addr) (o5 o6 o7 o8 : Option V), σ = [some (.ref a), some (.ref F2), some (.ref ax), some (.ref a4), some (.ref O2), o5, o6, o7, o8] ∧ Sx [] H4 H5 ∧ H3 O2 = none ∧ H5 O2 = some (.lst (oL st j)))
                  ⟨O, _, _, _, _, rfl, Sx.refl _, hO, by rw [← oL0]; exact s4 _ _ (by simp) upd_same⟩ (fun j σ H5 _ z => by obtain ⟨_, _, _, _, _, _, z, _⟩ := z; exact SqT.of (z _ _ (by simp) hap)) (fun j y σ H5 hj z => ?_) (fun σ H5 z => ?_)⟩
                · obtain ⟨O2, o5, o6, o7, o8, rfl, s5, hO2, eO2⟩ := z
                  obtain ⟨b2, hb2, tb2⟩ := hgz j y hj
                  refine gnm ?_
                  refine ⟨_, rfl, y, b2, rfl, tb2.keep s5.tk0, f3 b2 (List.mem_of_getElem? hb2), fun H6 l6 s6 n6 e6 => ?_⟩
                  have s36 : Sx [] H3 H6 := (s34.trans s5).trans s6
                  have t6 := t3.keep s36.tk0
                  have hax6 := s36 _ _ (by simp) (s2 _ _ (by simp) hax)
                  have eO6 := s6 _ _ (by simp) eO2
                  have hf1 : -(2 ^ 64) < st.times ∧ st.times < 2 ^ 64 := ⟨by omega, by omega⟩
                  have e6 : H6 l6 = some (.lst [.int b2.sz, .int (b2.sumO fun _ => 1), .int (b2.sumO (ownT "rest")), .int (b2.sumO (ownT "less"))]) := e6
                  refine ⟨_, rfl, ax, _, _, .str st.hd, rfl, rfl, SqT.of hax6, at0 _ _, rfl, _, rfl, ?_⟩
                  obtain ⟨R, eR⟩ : ∃ R, R = (oL st (j + 1)).tail := ⟨_, rfl⟩
                  have eU := oL_up hb2
                  refine ite2 (fun e => ?_) (fun e => ?_)
                  · obtain ⟨kk, yy, rfl⟩ : ∃ kk yy, st = .rep kk yy := by
                      cases st with
                      | rep kk yy => exact ⟨_, _, rfl⟩
                      | _ => exact absurd (V.str.inj (of_decide_eq_true e)) (by simp only [St.hd]; decide +kernel)
                    obtain ⟨_, p1, p2, p3, ea, hA, q1, q2, q3⟩ := tp3 t6
                    cases ea
                    obtain rfl := tpI q2
                    refine ⟨_, rfl, ax, _, _, .int kk, rfl, rfl, SqT.of hA, rfl, ?_⟩
                    clear e hA q1 q2 q3
                    refine ⟨by show 2 ≤ sizeLine; decide, fun p hp => ⟨p, _, rfl, SqT.of upd_same, rfl, _, _, rfl, gnm ⟨_, _, rfl, gnm ⟨rfl, ?_⟩⟩⟩⟩
                    refine gh (H1 := upd H6 p _) (F := fun H7 => Sx [] H6 H7) (Sx.n0 hp) (fun H7 s67 => ?_)
                    have eO7 := s67 _ _ (by simp) eO6
                    have eL7 := s67 _ _ (by simp) e6
                    refine ⟨_, rfl, O2, _, _, _, rfl, rfl, SqL.of eO7, rfl, _, rfl, l6, _, _, _, rfl, rfl, SqL.of eL7, rfl, _, _, rfl, rfl, by show 1 ≤ sizeLine; decide, fun A hA => ?_⟩
                    refine gh (H1 := upd H7 A _) (F := fun H8 => Sx [] H7 H8 ∧ H8 A = some (.lst [_])) ⟨Sx.n0 hA, upd_same⟩ (fun H8 ⟨s78, eA8⟩ => ?_)
                    have eO8 := s78 _ _ (by simp) eO7
                    have eL8 := s78 _ _ (by simp) eL7
                    rw [eU] at eR
                    refine ⟨1, 4, rfl, ⟨by decide, by decide, by decide, by decide⟩, fun D hD => lc_range (lo := 1) (n := ((4 : Int) - 1).toNat) (fun i H' => Sx [] H8 H' ∧ H' D = some (.lst (R.take i))) ⟨Sx.n0 hD, upd_same⟩ (fun i H' hi p => ?_) (fun H' p => ?_)⟩
                    · refine ⟨rfl, ?_⟩
                      have g1 := p.1 _ _ (by simp) eO8
                      have g2 := p.1 _ _ (by simp) eL8
                      have p2 := p.2
                      subst eR
                      match i, hi with
                      | 0, _ => exact ⟨_, rfl, _, rfl, O2, _, _, _, rfl, rfl, SqL.of g1, rfl, _, rfl, _, rfl, _, rfl, l6, _, _, _, rfl, rfl, SqL.of g2, rfl, _, _, rfl, rfl, .inl hf1, _, _, rfl, rfl, _, p2, (by show (0 : Nat) < sizeLine; decide), p.1.own hD, by rw [upd_same]; rfl⟩
                      | 1, _ => exact ⟨_, rfl, _, rfl, O2, _, _, _, rfl, rfl, SqL.of g1, rfl, _, rfl, _, rfl, _, rfl, l6, _, _, _, rfl, rfl, SqL.of g2, rfl, _, _, rfl, rfl, .inl hf1, _, _, rfl, rfl, _, p2, (by show (1 : Nat) < sizeLine; decide), p.1.own hD, by rw [upd_same]; rfl⟩
                      | 2, _ => exact ⟨_, rfl, _, rfl, O2, _, _, _, rfl, rfl, SqL.of g1, rfl, _, rfl, _, rfl, _, rfl, l6, _, _, _, rfl, rfl, SqL.of g2, rfl, _, _, rfl, rfl, .inl hf1, _, _, rfl, rfl, _, p2, (by show (2 : Nat) < sizeLine; decide), p.1.own hD, by rw [upd_same]; rfl⟩
                    · have eA9 := p.1 _ _ (by simp) eA8
                      have eD9 := p.2
                      subst eR
                      refine ⟨A, D, _, _, rfl, rfl, eA9, eD9, by show 4 ≤ sizeLine; decide, fun v hv => ?_⟩
                      exact ⟨v, _, _, _, _, rfl, (s5.trans s6).trans (((s67.trans s78).trans p.1).new hv), (s36.trans ((s67.trans s78).trans p.1)).free (by simp) hv, by rw [upd_same, eU]; rfl⟩
                  · obtain ⟨t9, y9, n9, rfl⟩ : ∃ t y n, st = .ite t y n := by
                      cases st with
                      | ite t y n => exact ⟨_, _, _, rfl⟩
                      | rep kk yy => exact absurd (show decide (V.str (St.rep kk yy).hd = V.str "repeat") = true by simp only [St.hd]; decide +kernel) e
                      | _ => simp [St.blks] at hb2
                    clear e
                    refine ⟨by show 2 ≤ sizeLine; decide, fun p hp => ⟨p, _, rfl, SqT.of upd_same, rfl, _, _, rfl, gnm ⟨_, _, rfl, gnm ⟨rfl, ?_⟩⟩⟩⟩
                    refine gh (H1 := upd H6 p _) (F := fun H7 => Sx [] H6 H7) (Sx.n0 hp) (fun H7 s67 => ?_)
                    have eO7 := s67 _ _ (by simp) eO6
                    have eL7 := s67 _ _ (by simp) e6
                    refine ⟨_, rfl, O2, _, _, _, rfl, rfl, SqL.of eO7, rfl, _, rfl, l6, _, _, _, rfl, rfl, SqL.of eL7, rfl, _, _, rfl, rfl, by show 1 ≤ sizeLine; decide, fun A hA => ?_⟩
                    refine gh (H1 := upd H7 A _) (F := fun H8 => Sx [] H7 H8 ∧ H8 A = some (.lst [_])) ⟨Sx.n0 hA, upd_same⟩ (fun H8 ⟨s78, eA8⟩ => ?_)
                    have eO8 := s78 _ _ (by simp) eO7
                    have eL8 := s78 _ _ (by simp) eL7
                    rw [eU] at eR
                    refine ⟨1, 4, rfl, ⟨by decide, by decide, by decide, by decide⟩, fun D hD => lc_range (lo := 1) (n := ((4 : Int) - 1).toNat) (fun i H' => Sx [] H8 H' ∧ H' D = some (.lst (R.take i))) ⟨Sx.n0 hD, upd_same⟩ (fun i H' hi p => ?_) (fun H' p => ?_)⟩
                    · refine ⟨rfl, ?_⟩
                      have g1 := p.1 _ _ (by simp) eO8
                      have g2 := p.1 _ _ (by simp) eL8
                      have p2 := p.2
                      subst eR
                      match i, hi with
                      | 0, _ => exact ⟨_, rfl, _, rfl, O2, _, _, _, rfl, rfl, SqL.of g1, rfl, _, rfl, _, rfl, _, rfl, l6, _, _, _, rfl, rfl, SqL.of g2, rfl, _, _, rfl, rfl, .inl hf1, _, _, rfl, rfl, _, p2, (by show (0 : Nat) < sizeLine; decide), p.1.own hD, by rw [upd_same]; rfl⟩
                      | 1, _ => exact ⟨_, rfl, _, rfl, O2, _, _, _, rfl, rfl, SqL.of g1, rfl, _, rfl, _, rfl, _, rfl, l6, _, _, _, rfl, rfl, SqL.of g2, rfl, _, _, rfl, rfl, .inl hf1, _, _, rfl, rfl, _, p2, (by show (1 : Nat) < sizeLine; decide), p.1.own hD, by rw [upd_same]; rfl⟩
                      | 2, _ => exact ⟨_, rfl, _, rfl, O2, _, _, _, rfl, rfl, SqL.of g1, rfl, _, rfl, _, rfl, _, rfl, l6, _, _, _, rfl, rfl, SqL.of g2, rfl, _, _, rfl, rfl, .inl hf1, _, _, rfl, rfl, _, p2, (by show (2 : Nat) < sizeLine; decide), p.1.own hD, by rw [upd_same]; rfl⟩
                    · have eA9 := p.1 _ _ (by simp) eA8
                      have eD9 := p.2
                      subst eR
                      refine ⟨A, D, _, _, rfl, rfl, eA9, eD9, by show 4 ≤ sizeLine; decide, fun v hv => ?_⟩
                      exact ⟨v, _, _, _, _, rfl, (s5.trans s6).trans (((s67.trans s78).trans p.1).new hv), (s36.trans ((s67.trans s78).trans p.1)).free (by simp) hv, by rw [upd_same, eU]; rfl⟩
                · obtain ⟨O2, o5, o6, o7, o8, rfl, s5, hO2, eO2⟩ := z
                  rw [hlz] at eO2
                  exact ⟨O2, _, _, _, _, rfl, s34.trans s5, hO2, eO2⟩
              · rintro _ H5 ⟨O2, o5, o6, o7, o8, rfl, s5, hO2, eO2⟩
                have eF5 := s5 _ _ (by simp) (s2 _ _ (by simp) eF2)
                rw [oL_end] at eO2
                have hO5 : H5 O2 = some (.lst [.int st.sz, .int (st.sumO fun _ => 1), .int (st.sumO (ownT "rest")), .int (st.sumO (ownT "less"))]) := eO2
                refine ⟨4, rfl, by decide, by decide, fun D hD => lc_range (lo := 0) (n := (4 : Int).toNat) (fun i H' => Sx [] H5 H' ∧ H' D = some (.lst ((cL (b.lst.take (i0 + 1))).take i))) ⟨Sx.n0 hD, upd_same⟩ (fun i H' hi p => ?_) (fun H' p => ?_)⟩
                · refine ⟨rfl, ?_⟩
                  have g1 : H' F2 = some (.lst (cL (b.lst.take i0))) := p.1 _ _ (by simp) eF5
                  have g2 := p.1 _ _ (by simp) hO5
                  have p2 := p.2
                  rw [cL_up hst] at p2
                  match i, hi with
                  | 0, _ => exact ⟨_, rfl, _, rfl, F2, _, _, _, rfl, rfl, SqL.of g1, rfl, _, rfl, _, rfl, O2, _, _, _, rfl, rfl, SqL.of g2, rfl, _, _, rfl, rfl, _, p2, (by show (0 : Nat) < sizeLine; decide), p.1.own hD, by rw [upd_same, cL_up hst]; rfl⟩
                  | 1, _ => exact ⟨_, rfl, _, rfl, F2, _, _, _, rfl, rfl, SqL.of g1, rfl, _, rfl, _, rfl, O2, _, _, _, rfl, rfl, SqL.of g2, rfl, _, _, rfl, rfl, _, p2, (by show (1 : Nat) < sizeLine; decide), p.1.own hD, by rw [upd_same, cL_up hst]; rfl⟩
                  | 2, _ => exact ⟨_, rfl, _, rfl, F2, _, _, _, rfl, rfl, SqL.of g1, rfl, _, rfl, _, rfl, O2, _, _, _, rfl, rfl, SqL.of g2, rfl, _, _, rfl, rfl, _, p2, (by show (2 : Nat) < sizeLine; decide), p.1.own hD, by rw [upd_same, cL_up hst]; rfl⟩
                  | 3, _ => exact ⟨_, rfl, _, rfl, F2, _, _, _, rfl, rfl, SqL.of g1, rfl, _, rfl, _, rfl, O2, _, _, _, rfl, rfl, SqL.of g2, rfl, _, _, rfl, rfl, _, p2, (by show (3 : Nat) < sizeLine; decide), p.1.own hD, by rw [upd_same, cL_up hst]; rfl⟩
                · have s15 : Sx [] H H5 := (s1.trans s2).trans s5
                  have nD : H D = none := by
                    cases e : H D with
                    | none => rfl
                    | some o => have := s15 _ _ (by simp) e; rw [hD] at this; cases this
                  exact ⟨D, _, _, _, _, _, _, _, rfl, s15.trans p.1, nD, p.2⟩
        · obtain ⟨F2, o2, o3, o4, o5, o6, o7, o8, rfl, s1, hF2, eF2⟩ := z
          rw [hl, List.take_length] at eF2
          exact ⟨F2, _, _, _, _, _, _, _, rfl, s1, hF2, eF2⟩
      · rintro _ H1 ⟨F2, o2, o3, o4, o5, o6, o7, o8, rfl, s1, hF2, eF2⟩
        rw [cL_lst] at eF2
        exact ⟨_, rfl, q H1 F2 s1 hF2 eF2⟩
end
theorem Stk.ext {H : Hp} {L : Addr} {ws es : List (Int × St)} {ys : List V} (h : Stk H L ws) (t : TpAll H ys (es.map prD)) : ∃ acc, H L = some (.lst acc) ∧ acc.length = ws.length ∧ Stk (upd H L (.lst (acc ++ ys.reverse))) L (es ++ ws) := by
  obtain ⟨vals, h1, h2⟩ := h
  have e := h2.len
  rw [List.length_map] at e
  refine ⟨_, h1, by rw [List.length_reverse, e], ys ++ vals, by rw [upd_same, List.reverse_append], ?_⟩
  rw [List.map_append]
  exact (t.keep (Tk.lst h1)).append (h2.keep (Tk.lst h1))
theorem Stk.ls {H : Hp} {L Z : Addr} {ws : List (Int × St)} {xs : List V} {o : HO} (h : Stk H L ws) (hz : H Z = some (.lst xs)) (n : L ≠ Z) : Stk (upd H Z o) L ws := by
  obtain ⟨vals, h1, h2⟩ := h
  exact ⟨vals, by rw [upd_ne n]; exact h1, h2.keep (Tk.lst hz)⟩
abbrev sError : Stmt := topS 47
abbrev nError : List Str := ["_law_value", "_law_waiting", "_law_place", "_law_depth", "_law_row", "_law_inner", "_law_part_here", "_law_found", "_law_k", "_law_word", "_law_item"]
theorem scError : FnScope nError ["_law_value"] (defScope sError) := ⟨rfl, rfl, rfl, by decide +kernel, rfl, by decide +kernel, by decide +kernel⟩
/-! ### the law's own walk of the places -/
theorem TpAll.reverse {H : Hp} : ∀ {vs : List V} {ds : List PyData}, TpAll H vs ds → TpAll H vs.reverse ds.reverse
  | _, _, .nil => .nil
  | _, _, .cons a b => by
    rw [List.reverse_cons]; rw [List.reverse_cons]
    exact (TpAll.reverse b).append (.cons a .nil)
theorem TpAll.dpL {K : PySem.W.Frag} {H : Hp} {l : Addr} {vs : List V} {ds : List PyData} (h : H l = some (.lst vs)) (t : TpAll H vs ds) : Dp K H (.ref l) (.list ds) := .lst (SqL.of h) t.dp
theorem eqvL_nil {ds : List PyData} (h : ds ≠ []) : PyData.eqv (.list ds) (.list []) = false := by
  cases ds with
  | nil => exact absurd rfl h
  | cons _ _ => rfl
theorem Sh.lst' {n : Nat} {es : List PyData} (h : ShA n es) : Sh (n + 1) (.list es) := ⟨by simp only [PyData.canLay0, h.1], by simp only [PyData.depth]; have := h.2; omega⟩
theorem ShA.of_mem {n : Nat} : ∀ {es : List PyData}, (∀ e ∈ es, Sh n e) → ShA n es
  | [], _ => .nil
  | e :: es, h => .cons (h e (List.mem_cons_self ..)) (ShA.of_mem fun x hx => h x (List.mem_cons_of_mem _ hx))
theorem stk_mem : ∀ {ws : List (Int × St)} {k : Int} {x : Int × St}, x ∈ ws → ∃ p, (p, x.1, x.2) ∈ stkRws ws k
  | (d, s) :: ws, k, x, h => by
    rcases List.mem_cons.1 h with rfl | h
    · refine ⟨k, List.mem_append_left _ ?_⟩
      rw [s.rws_kids]
      exact List.mem_cons_self ..
    · obtain ⟨p, hp⟩ := stk_mem (ws := ws) (k := k + s.sz) h
      exact ⟨p, List.mem_append_right _ hp⟩
theorem Ex.atom_ok {x : Ex} (h : x.atom) (n : Nat) (hn : 1 ≤ n) : x.okB n = true := by
  cases x with
  | int i => simp only [Ex.okB, Bool.and_eq_true, decide_eq_true_eq]; exact ⟨by omega, h⟩
  | name z => simp only [Ex.okB, decide_eq_true_eq]; omega
  | _ => exact h.elim
theorem Ts.atom_ok : ∀ {t : Ts} {n : Nat}, t.atom n → t.okB n = true
  | .rest x b r, n, ⟨h0, h1, h2, h3, h4⟩ => by simp only [Ts.okB, Bool.and_eq_true, decide_eq_true_eq]; exact ⟨⟨h1, h2⟩, Ex.atom_ok (x := x) h0 3 (by decide), h3, h4⟩
  | .less x y, n, ⟨h0, h1⟩ => by simp only [Ts.okB, Bool.and_eq_true]; exact ⟨Ex.atom_ok (x := x) h0 3 (by decide), Ex.atom_ok (x := y) h1 3 (by decide)⟩
  | .not t, n, ⟨h0, h1⟩ => by simp only [Ts.okB, Bool.and_eq_true, decide_eq_true_eq]; exact ⟨h0, Ts.atom_ok h1⟩
theorem St.atom_ok {s : St} (h : s.atom) : s.okB = true := by
  cases s with
  | set z e => exact Ex.atom_ok h.2 3 (by decide)
  | pay e => exact Ex.atom_ok h 3 (by decide)
  | stop => rfl
  | ite t y n => exact Ts.atom_ok h
  | rep k y => simp only [St.okB, Bool.and_eq_true, decide_eq_true_eq]; exact h
def okRow (r : Rw) : Prop := r.2.2.atom ∧ Sh 50 r.2.2.d
def spLErr (d : Nat) : Sp := fun vs H Q _ => ∃ (v : V) (b : Bk), vs = [v] ∧ Tp H v (.tuple b.ds) ∧ (∀ r ∈ b.rws 0 0, okRow r) ∧ b.fac d ∧ b.sz < 16777216 ∧ ∀ H' r, Sx [] H H' → Tp H' r b.perr → Q r H'
theorem cnt_at {b : Bk} {F : Addr} {H : Hp} (h : H F = some (.lst (cntV b))) : H F = some (.lst [.int b.sz, .int (b.sumO fun _ => 1), .int (b.sumO (ownT "rest")), .int (b.sumO (ownT "less"))]) := h
def bndW : List Str := ["places", "weight", "rests", "comparings"]
def bndN (b : Bk) : Nat → Int
  | 0 => b.sz
  | 1 => b.sumO fun _ => 1
  | 2 => b.sumO (ownT "rest")
  | _ => b.sumO (ownT "less")
def bndM : Nat → Int
  | 0 => 24
  | 1 => 30
  | _ => 2
theorem bnd_hit {b : Bk} {i : Nat} (hi : i < 4) (hp : ∀ j < i, ¬ bndM j < bndN b j) (h : bndM i < bndN b i) {z : Str} (hz : bndW[i]? = some z) : b.bnd = .tuple [.none, .str z] := by
  match i, hi with
  | 0, _ => cases hz; exact if_pos h
  | 1, _ =>
    cases hz
    have h0 : ¬ 24 < (b.sz : Int) := hp 0 (by decide)
    unfold Bk.bnd
    rw [if_neg h0]
    exact if_pos h
  | 2, _ =>
    cases hz
    have h0 : ¬ 24 < (b.sz : Int) := hp 0 (by decide)
    have h1 : ¬ 30 < b.sumO (fun _ => 1) := hp 1 (by decide)
    unfold Bk.bnd
    rw [if_neg h0, if_neg h1]
    exact if_pos h
  | 3, _ =>
    cases hz
    have h0 : ¬ 24 < (b.sz : Int) := hp 0 (by decide)
    have h1 : ¬ 30 < b.sumO (fun _ => 1) := hp 1 (by decide)
    have h2 : ¬ 2 < b.sumO (ownT "rest") := hp 2 (by decide)
    unfold Bk.bnd
    rw [if_neg h0, if_neg h1, if_neg h2]
    exact if_pos h
theorem bnd_none {b : Bk} (hp : ∀ j < 4, ¬ bndM j < bndN b j) : b.bnd = .none := by
  have h0 : ¬ 24 < (b.sz : Int) := hp 0 (by decide)
  have h1 : ¬ 30 < b.sumO (fun _ => 1) := hp 1 (by decide)
  have h2 : ¬ 2 < b.sumO (ownT "rest") := hp 2 (by decide)
  have h3 := hp 3 (by decide)
  unfold Bk.bnd
  rw [if_neg h0, if_neg h1, if_neg h2]
  exact if_neg h3
section
variable {w : World} {P : Program} {K : PySem.W.Frag} {mg : Str → Option Value} {base : Heap}
theorem ok_lerr {f fS fP fC : Addr} {fd fdS fdP fdC : FuncData} {D : Nat} (F_error : Fun K "_law_error" "_law_error" sError f fd) (F_is_statement : Fun K "_law_is_statement" "_law_is_statement" sIsStatement fS fdS) (F_parts : Fun K "_law_parts" "_law_parts" sParts fP fdP) (F_counts : Fun K "_law_counts" "_law_counts" sCounts fC fdC)
    (G_is_statement : FnOk P w K mg base CX0 8 fS fdS ["_law_value"] spIsStL) (G_parts : FnOk P w K mg base CX0 1 fP fdP ["_law_row"] spParts) (G_counts : FnOk P w K mg base CX0 (D + 1) fC fdC ["_law_block"] (spCounts D))
    (b_is_statement : Binds K fdS ["_law_value"] []) (b_parts : Binds K fdP ["_law_row"] []) (b_counts : Binds K fdC ["_law_block"] [])
    (m_is_statement : mg "_law_is_statement" = some (.ref fS)) (m_parts : mg "_law_parts" = some (.ref fP)) (m_counts : mg "_law_counts" = some (.ref fC)) (z_isinstance : mg "isinstance" = none) (z_tuple : mg "tuple" = none) (z_enumerate : mg "enumerate" = none) :
    FnOk P w K mg base CX0 (D + 10) f fd ["_law_value"] (spLErr D) := by
  refine F_error.ok scError (fun vs H Q E h => ?_) (fun cdv A outer s H vs Q E hr h => ?_)
  · obtain ⟨_, _, rfl, _⟩ := h
    rfl
  · obtain ⟨v, b, rfl, t, hrow, hf, hz, q⟩ := h
    refine ⟨_, (pss_cons (ps_if (pt_not (pt_val (pe_callB call_isi (by rfl) z_isinstance (by decide +kernel) (pa_cons (pv 0) (pa_cons (pe_bltn (v := .ty "tuple") (by rfl) z_tuple (by decide +kernel) rfl) pa_nil))))) (pss_one (ps_ret (pe_tup (pa_cons pe_non (pa_cons pe_str pa_nil))))) pss_nil)
      (pss_cons (ps_par (i := 1) (j := 2) (by rfl) scError.nd rfl rfl (by decide) rfl rfl (pa_cons (pe_revL (pe_lc (own := [("_law_item", 10)]) (g := gName 10) (tt := tYes) rfl scError.nd (pi_tup (pv 0)) (blkOk_by (N := nError) (sc := defScope sError) (by decide +kernel)) (fun _ _ _ _ _ => (pg_name (i := 10) scError.nd rfl (by first | exact Or.inl rfl | exact Or.inr rfl))) (fun _ _ _ _ _ => pts_nil) (fun _ _ _ _ _ => (pe_tup (pa_cons pe_int (pa_cons (pv 10) pa_nil)))))) (pa_cons pe_int pa_nil)) (by rfl))
      (C8.pss_cut (ps_while PassesOwn.never (pt_cmpR (op_neD hr.units) (pv 1) (pe_lst pa_nil) (nomark _)) (pss_cons (ps_asg (pe_bm0 PySem.F.plainAttrs_list PySem.F.slot_list_pop PySem.F.type_list_pop mt_pop (pv 1)) (pg_tup rfl (pgs_cons (pg_name (i := 3) scError.nd rfl (by first | exact Or.inl rfl | exact Or.inr rfl)) (pgs_cons (pg_name (i := 4) scError.nd rfl (by first | exact Or.inl rfl | exact Or.inr rfl)) pgs_nil))))
      (pss_cons (ps_if (pt_cmpR op_gt (pv 3) pe_int (nomark _)) (pss_one (ps_ret (pe_tup (pa_cons (pv 2) (pa_cons pe_str pa_nil))))) pss_nil)
      (pss_cons (ps_if (pt_not (pt_val (pe_call G_is_statement (hr.mono (by omega)) (by rfl) m_is_statement F_is_statement.kp b_is_statement .nil pass0 (pa_cons (pv 4) pa_nil)))) (pss_one (ps_ret (pe_tup (pa_cons (pv 2) (pa_cons pe_str pa_nil))))) pss_nil)
      (pss_cons (ps_set (i := 5) scError.nd rfl (by first | exact Or.inl rfl | exact Or.inr rfl) (pe_lst pa_nil))
      (C8.pss_cut (ps_for PassesOwn.never rfl (pi_tup (pe_call G_parts (hr.mono (by omega)) (by rfl) m_parts F_parts.kp b_parts .nil pass0 (pa_cons (pv 4) pa_nil))) (pg_name (i := 6) scError.nd rfl (by first | exact Or.inl rfl | exact Or.inr rfl)) (pss_one (ps_expr (pe_bm PySem.F.plainAttrs_list PySem.F.slot_list_extend PySem.F.type_list_extend mt_extend (pv 5) (pa_cons (pe_lc (own := [("_law_item", 10)]) (g := gName 10) (tt := tYes) rfl scError.nd (pi_tup (pv 6)) (blkOk_by (N := nError) (sc := defScope sError) (by decide +kernel)) (fun _ _ _ _ _ => (pg_name (i := 10) scError.nd rfl (by first | exact Or.inl rfl | exact Or.inr rfl))) (fun _ _ _ _ _ => pts_nil) (fun _ _ _ _ _ => (pe_tup (pa_cons (pe_op op_add (pv 3) pe_int) (pa_cons (pv 10) pa_nil))))) pa_nil)))))
      (pss_cons (ps_expr (pe_bm PySem.F.plainAttrs_list PySem.F.slot_list_extend PySem.F.type_list_extend mt_extend (pv 1) (pa_cons (pe_revL (pv 5)) pa_nil)))
      (pss_one (ps_set (i := 2) scError.nd rfl (by first | exact Or.inl rfl | exact Or.inr rfl) (pe_op op_add (pv 2) pe_int))))))))))
      (pss_cons (ps_set (i := 7) scError.nd rfl (by first | exact Or.inl rfl | exact Or.inr rfl) (pe_call G_counts (hr.mono (by omega)) (by rfl) m_counts F_counts.kp b_counts .nil pass0 (pa_cons (pv 0) pa_nil)))
      (C8.pss_cut (ps_for PassesOwn.never rfl (pi_enum (by rfl) z_enumerate (pa_cons (pe_lst (pa_cons pe_str (pa_cons pe_str (pa_cons pe_str (pa_cons pe_str pa_nil))))) pa_nil)) (pg_tup rfl (pgs_cons (pg_name (i := 8) scError.nd rfl (by first | exact Or.inl rfl | exact Or.inr rfl)) (pgs_cons (pg_name (i := 9) scError.nd rfl (by first | exact Or.inl rfl | exact Or.inr rfl)) pgs_nil))) (pss_one (ps_if (pt_cmpR op_gt (pe_ix ix_list (pv 7) (pv 8) (fun _ _ => rfl)) (pe_ix ix_list (pe_lst (pa_cons pe_int (pa_cons pe_int (pa_cons pe_int (pa_cons pe_int pa_nil))))) (pv 8) (fun _ _ => rfl)) (nomark _)) (pss_one (ps_ret (pe_tup (pa_cons pe_non (pa_cons (pv 9) pa_nil))))) pss_nil)))
      (pss_one (ps_ret pe_non))))))), ?_⟩
    have t0 := t
    obtain ⟨a, xs, rfl, ha, hx⟩ := t.tuple
    rw [b.ds_lst] at hx
    obtain ⟨hl, hg⟩ := hx.lst
    refine ⟨_, rfl, _, _, _, _, _, rfl, .ty _, .base (.tup ha), kit_ty (r := true) (by decide +kernel), _, rfl, iteF ?_⟩
    have bl := bk_le b
    -- the first stack
    refine ⟨_, rfl, a, rfl, ⟨_, SqT.of ha⟩, fun D0 hD0 => lc_tup (xs := xs)
      (fun i H1 => Sx [] H H1 ∧ ∃ vals, H1 D0 = some (.lst vals) ∧ TpAll H1 vals (((b.lst.take i).map fun s => ((0 : Int), s)).map prD))
      ⟨Sx.n0 hD0, [], upd_same, .nil⟩ (fun i H1 _ z => SqT.of (z.1 _ _ (by simp) ha)) (fun i x H1 hi z => ?_) (fun H1 z => ?_)⟩
    · obtain ⟨s1, vals, e1, e2⟩ := z
      obtain ⟨st, hst, tst⟩ := hg i x hi
      refine ⟨rfl, ?_⟩
      refine ⟨_, rfl, by show 2 ≤ sizeLine; decide, fun u hu => ?_⟩
      have il := List.getElem?_eq_some_iff.mp hst
      have vl := e2.len
      rw [List.length_map, List.length_map, List.length_take] at vl
      refine ⟨vals, Sx.n0 hu _ _ (by simp) e1, lt_line (by omega), (s1.new hu).own hD0, _, upd_same, ?_⟩
      have k1 : Tk H1 (upd (upd H1 u (.tup [.int 0, x])) D0 (.lst (vals ++ [.ref u]))) := (Sx.n0 hu).tk0.trans (Tk.lst (Sx.n0 hu _ _ (by simp) e1))
      rw [List.take_add_one, hst, List.map_append, List.map_append]
      refine (e2.keep k1).append (.cons ?_ .nil)
      exact (tpPair (H := upd H1 u (.tup [.int 0, x])) upd_same ((tst.keep s1.tk0).new hu)).keep (Tk.lst (Sx.n0 hu _ _ (by simp) e1))
    · obtain ⟨s1, vals, e1, e2⟩ := z
      rw [hl, List.take_length] at e2
      refine ⟨D0, vals, rfl, SqL.of e1, fun Z hZ => ?_⟩
      refine ⟨_, _, rfl, ?_⟩
      have hHZ : H Z = none := s1.free (by simp) hZ
      have hs1 : Stk (upd H1 Z (.lst vals.reverse)) Z (b.stk 0) := ⟨vals, upd_same, e2.new hZ⟩
      refine gh (H1 := upd H1 Z (.lst vals.reverse)) (F := fun H2 => Sx [] H H2 ∧ Stk H2 Z (b.stk 0)) ⟨s1.new hZ, hs1⟩ (fun H2 ⟨s2, hs2⟩ => ?_)
      refine ⟨fun σ H' => ∃ (k : Int) (o3 o4 o5 o6 o7 o8 o9 o10 : Option V), σ = [some (.ref a), some (.ref Z), some (.int k), o3, o4, o5, o6, o7, o8, o9, o10] ∧ Sx [] H H' ∧ b.bnd = b.perr, ?_, ?_⟩
      · refine ⟨fun m σ H' => ∃ (ws : List (Int × St)) (k : Nat) (o3 o4 o5 o6 o7 o8 o9 o10 : Option V), σ = [some (.ref a), some (.ref Z), some (.int k), o3, o4, o5, o6, o7, o8, o9, o10] ∧ Sx [] H H' ∧ Stk H' Z ws ∧ k + stkSz ws = b.sz ∧ (∀ r ∈ stkRws ws k, okRow r) ∧ perrL (stkRws ws k) b.bnd = b.perr ∧ m = stkSz ws,
          ⟨_, b.stk 0, 0, _, _, _, _, _, _, _, _, rfl, s2, hs2, by rw [stkSz_bk]; omega, by rw [show ((0 : Nat) : Int) = 0 from rfl, stk_bk]; exact hrow, by rw [show ((0 : Nat) : Int) = 0 from rfl, stk_bk]; rfl, rfl⟩, ?_⟩
        rintro m σ H3 ⟨ws, k, o3, o4, o5, o6, o7, o8, o9, o10, rfl, s3, hs, hk, hrow2, hpe, rfl⟩
        obtain ⟨vals3, h3, t3⟩ := id hs
        have shA : ShA 51 ((ws.map prD).reverse) := ShA.of_mem fun e he => by
          obtain ⟨x, hx, rfl⟩ := List.mem_map.mp (List.mem_reverse.mp he)
          obtain ⟨p, hp⟩ := stk_mem (k := k) hx
          exact .tup (.cons (.int _) (.cons (hrow2 _ hp).2 .nil))
        refine ⟨_, rfl, by show 0 ≤ sizeLine; decide, fun u hu => ⟨_, .list [], TpAll.dpL (Sx.n0 hu _ _ (by simp) h3) (t3.reverse.new hu), .lst (SqL.of upd_same) .nil, (Sh.lst' shA).shaped (by decide), by decide, _, rfl, ?_⟩⟩
        have s4 : Sx [] H (upd H3 u (.lst [])) := s3.new hu
        have hs4 : Stk (upd H3 u (.lst [])) Z ws := hs.keep (Sx.n0 hu)
        generalize upd H3 u (.lst []) = H4 at s4 hs4 ⊢
        clear shA h3 t3 hs
        cases ws with
        | nil => exact iteF ⟨k, _, _, _, _, _, _, _, _, rfl, s4, hpe⟩
        | cons y ws =>
          obtain ⟨d, st⟩ := y
          rw [eqvL_nil (by simp)]
          refine iteT ⟨fun σ' H5 => ∃ m', m' < stkSz ((d, st) :: ws) ∧ ∃ (ws : List (Int × St)) (k : Nat) (o3 o4 o5 o6 o7 o8 o9 o10 : Option V), σ' = [some (.ref a), some (.ref Z), some (.int k), o3, o4, o5, o6, o7, o8, o9, o10] ∧ Sx [] H H5 ∧ Stk H5 Z ws ∧ k + stkSz ws = b.sz ∧ (∀ r ∈ stkRws ws k, okRow r) ∧ perrL (stkRws ws k) b.bnd = b.perr ∧ m' = stkSz ws, fun _ _ z => z, ?_⟩
          obtain ⟨acc, c, x, e1, e2, e3, e4, e5, e6⟩ := hs4.pop
          have hk : k + (st.sz + stkSz ws) = b.sz := hk
          have stp := st.sz_pos
          have wle := stk_le ws
          have rowE : stkRws ((d, st) :: ws) k = ((k : Int), d, st) :: (stkRws (kidsOf st.blks (d + 1)) (k + 1) ++ stkRws ws (k + st.sz)) := by
            show st.rws d k ++ stkRws ws _ = _
            rw [st.rws_kids, List.cons_append]
          rw [rowE] at hrow2 hpe
          have row1 : okRow ((k : Int), d, st) := hrow2 _ (List.mem_cons_self ..)
          refine ⟨_, rfl, .inl ⟨rfl, _, SqL.of e1⟩, Z, _, _, rfl, rfl, e1, e2, ?_⟩
          have k1 : Tk H4 (upd H4 Z (.lst acc.dropLast)) := Tk.lst e1
          refine gh (H1 := upd H4 Z (.lst acc.dropLast)) (F := fun H5 => Sx [] H H5 ∧ Tk H4 H5 ∧ Stk H5 Z ws) ⟨s4.own hHZ, k1, e5⟩ (fun H5 ⟨s5, k5, hs5⟩ => ?_)
          have tx := e4.keep k5
          refine ⟨c, _, rfl, SqT.of (k5 _ _ e3), rfl, _, _, rfl, gnm ⟨_, _, rfl, gnm ⟨rfl, ?_⟩⟩⟩
          refine ⟨_, rfl, _, 3, rfl, rfl, _, rfl, ite2 (fun e => ?_) (fun e => ?_)⟩
          · refine ⟨_, rfl, by show 2 ≤ sizeLine; decide, fun p hp => q _ _ (s5.new hp) ?_⟩
            have e' : (3 : Int) < d := of_decide_eq_true e
            rw [← hpe, perrL, if_pos e']
            exact .tup upd_same (.cons (.int _) (.cons (.str _) .nil))
          have e' : ¬ (3 : Int) < d := fun z => e (decide_eq_true z)
          rw [perrL, if_neg e', if_neg (by rw [St.atom_ok row1.1]; simp)] at hpe
          refine ⟨_, rfl, x, st, rfl, tx, row1.1, row1.2.shaped (by decide), fun H6 s6 => ⟨_, rfl, iteF ?_⟩⟩
          refine ⟨by show 0 ≤ sizeLine; decide, fun I hI => ?_⟩
          have s56 : Sx [] H5 (upd H6 I (.lst [])) := s6.new hI
          have hI5 : H5 I = none := s6.free (by simp) hI
          have hHI : H I = none := s5.free (by simp) hI5
          have IZ : I ≠ Z := fun z => by
            obtain ⟨_, h, _⟩ := hs5
            rw [z, h] at hI5
            cases hI5
          refine gh (H1 := upd H6 I (.lst [])) (F := fun H7 => Sx [] H H7 ∧ Sx [] H5 H7 ∧ H7 I = some (.lst [])) ⟨(s5.trans s6).new hI, s56, upd_same⟩ (fun H7 ⟨s7, s57, eI⟩ => ?_)
          refine ⟨fun σ H8 => ∃ (vals : List V) (o6 o7 o8 o9 o10 : Option V), σ = [some (.ref a), some (.ref Z), some (.int k), some (.int d), some x, some (.ref I), o6, o7, o8, o9, o10] ∧ Sx [] H H8 ∧ Stk H8 Z ws ∧ H8 I = some (.lst vals) ∧ TpAll H8 vals ((kidsOf st.blks (d + 1)).map prD), ?_, ?_⟩
          · refine ⟨_, rfl, x, st, rfl, tx.keep s57.tk0, fun H8 v8 s8 t8 => ?_⟩
            obtain ⟨a4, xs4, rfl, ha4, hx4⟩ := t8.tuple
            rw [st.parts_blks] at hx4
            obtain ⟨hl4, hg4⟩ := hx4.lst
            refine ⟨a4, rfl, ⟨_, SqT.of ha4⟩, for_tup (xs := xs4)
              (fun i σ H9 => ∃ (vals : List V) (o6 o7 o8 o9 o10 : Option V), σ = [some (.ref a), some (.ref Z), some (.int k), some (.int d), some x, some (.ref I), o6, o7, o8, o9, o10] ∧ Sx [] H H9 ∧ Tk H8 H9 ∧ Stk H9 Z ws ∧ H9 I = some (.lst vals) ∧ TpAll H9 vals ((kidsOf (st.blks.take i) (d + 1)).map prD))
              ⟨[], _, _, _, _, _, rfl, s7.trans s8, Tk.refl _, (hs5.keep s57).keep s8, s8 _ _ (by simp) eI, .nil⟩ (fun i σ H9 _ z => by obtain ⟨_, _, _, _, _, _, _, _, z, _⟩ := z; exact SqT.of (z _ _ ha4)) (fun i y σ H9 hi z => ?_) (fun σ H9 z => ?_)⟩
            · obtain ⟨vals, o6, o7, o8, o9, o10, rfl, s9, k9, hs9, eI9, tI9⟩ := z
              obtain ⟨bk, hbk, tbk⟩ := hg4 i y hi
              have hmem : bk ∈ st.blks := List.mem_of_getElem? hbk
              refine gnm ?_
              obtain ⟨a6, xs6, rfl, ha6, hx6⟩ := (tbk.keep k9).tuple
              rw [bk.ds_lst] at hx6
              obtain ⟨hl6, hg6⟩ := hx6.lst
              have bl6 := bk_le bk
              have szb : bk.sz ≤ st.sz := by
                rw [st.sz_blks]
                have := sum_mem (List.mem_map_of_mem (f := Bk.sz) hmem)
                omega
              have vl9 := tI9.len
              have kl9 := stk_le (kidsOf (st.blks.take i) (d + 1))
              have kt : ((st.blks.take i).map Bk.sz).sum + bk.sz ≤ (st.blks.map Bk.sz).sum := by
                have e := congrArg (fun l => (l.map Bk.sz).sum) (List.take_append_drop (i + 1) st.blks)
                rw [List.take_add_one, hbk] at e
                simp only [List.map_append, List.sum_append, Option.toList_some, List.map_cons, List.map_nil, List.sum_cons, List.sum_nil] at e
                omega
              rw [kidsSz] at kl9
              rw [List.length_map] at vl9
              have szs := st.sz_blks
              refine ⟨_, rfl, .inl ⟨rfl, _, SqL.of eI9⟩, _, rfl, a6, rfl, ⟨_, SqT.of ha6⟩, fun D6 hD6 => lc_tup (xs := xs6)
                (fun j H10 => Sx [] H9 H10 ∧ ∃ vs6, H10 D6 = some (.lst vs6) ∧ TpAll H10 vs6 (((bk.lst.take j).map fun s => ((d + 1 : Int), s)).map prD))
                ⟨Sx.n0 hD6, [], upd_same, .nil⟩ (fun j H10 _ z => SqT.of (z.1 _ _ (by simp) ha6)) (fun j y2 H10 hj z => ?_) (fun H10 z => ?_)⟩
              · obtain ⟨s10, vs6, e10, t10⟩ := z
                obtain ⟨st2, hst2, tst2⟩ := hg6 j y2 hj
                refine ⟨rfl, ?_⟩
                refine ⟨_, rfl, d, 1, rfl, rfl, _, rfl, by show 2 ≤ sizeLine; decide, fun u2 hu2 => ?_⟩
                have jl := List.getElem?_eq_some_iff.mp hst2
                have vl := t10.len
                rw [List.length_map, List.length_map, List.length_take] at vl
                refine ⟨vs6, Sx.n0 hu2 _ _ (by simp) e10, lt_line (by omega), (s10.new hu2).own hD6, _, upd_same, ?_⟩
                have k11 : Tk H10 (upd (upd H10 u2 (.tup [.int (d + 1), y2])) D6 (.lst (vs6 ++ [.ref u2]))) := (Sx.n0 hu2).tk0.trans (Tk.lst (Sx.n0 hu2 _ _ (by simp) e10))
                rw [List.take_add_one, hst2, List.map_append, List.map_append]
                refine (t10.keep k11).append (.cons ?_ .nil)
                exact (tpPair (H := upd H10 u2 (.tup [.int (d + 1), y2])) upd_same ((tst2.keep s10.tk0).new hu2)).keep (Tk.lst (Sx.n0 hu2 _ _ (by simp) e10))
              · obtain ⟨s10, vs6, e10, t10⟩ := z
                rw [hl6, List.take_length] at t10
                have eI10 := s10 _ _ (by simp) eI9
                have v6l := t10.len
                rw [List.length_map, List.length_map] at v6l
                refine ⟨I, D6, _, _, rfl, rfl, eI10, e10, le_line (by omega), ?_⟩
                have kk : Tk H10 (upd H10 I (.lst (vals ++ vs6))) := Tk.lst eI10
                refine ⟨_, _, _, _, _, _, rfl, (s9.trans s10).own hHI, (k9.trans s10.tk0).trans kk, (hs9.keep s10).ls eI10 IZ.symm, upd_same, ?_⟩
                rw [List.take_add_one, hbk]
                have ek : kidsOf (st.blks.take i ++ [bk]) (d + 1) = kidsOf (st.blks.take i) (d + 1) ++ bk.stk (d + 1) := by
                  unfold kidsOf
                  simp
                rw [show (some bk).toList = [bk] from rfl, ek, List.map_append]
                exact ((tI9.keep s10.tk0).keep kk).append (t10.keep kk)
            · obtain ⟨vals, o6, o7, o8, o9, o10, rfl, s9, k9, hs9, eI9, tI9⟩ := z
              rw [hl4, List.take_length] at tI9
              exact ⟨vals, _, _, _, _, _, rfl, s9, hs9, eI9, tI9⟩
          · rintro _ H8 ⟨vals, o6, o7, o8, o9, o10, rfl, s8, hs8, eI8, tI8⟩
            obtain ⟨valsZ, hZ8, _⟩ := id hs8
            have vl8 := tI8.len
            have kl8 := stk_le (kidsOf st.blks (d + 1))
            rw [kidsSz] at kl8
            rw [List.length_map] at vl8
            have szs := st.sz_blks
            refine ⟨_, rfl, .inl ⟨rfl, _, SqL.of hZ8⟩, _, rfl, I, vals, rfl, SqL.of eI8, fun l2 hl2 => ?_⟩
            obtain ⟨acc6, g1, g2, g3⟩ := (hs8.keep (Sx.n0 (o := .lst vals.reverse) hl2)).ext (es := kidsOf st.blks (d + 1)) (tI8.new hl2)
            refine ⟨Z, l2, acc6, vals.reverse, rfl, rfl, g1, upd_same, le_line (by rw [g2, List.length_reverse]; omega), ?_⟩
            refine ⟨_, rfl, _, 1, rfl, rfl, ?_⟩
            have e9 : ((k + 1 : Nat) : Int) = (k : Int) + 1 := by omega
            have rows : stkRws (kidsOf st.blks (d + 1) ++ ws) ((k + 1 : Nat) : Int) = stkRws (kidsOf st.blks (d + 1)) (k + 1) ++ stkRws ws (k + st.sz) := by
              rw [stk_append, e9, kidsSz]
              congr 2
              rw [st.sz_blks]
              omega
            have szE : stkSz (kidsOf st.blks (d + 1) ++ ws) + 1 = st.sz + stkSz ws := by
              rw [stkSz_append, kidsSz, st.sz_blks]
              omega
            refine ⟨_, ?_, kidsOf st.blks (d + 1) ++ ws, k + 1, _, _, _, _, _, _, _, _, by rw [e9]; rfl, (s8.new hl2).own hHZ, g3, by omega, by rw [rows]; exact fun r hr => hrow2 r (List.mem_cons_of_mem _ hr), by rw [rows]; exact hpe, rfl⟩
            have e10 : ((d, st) : Int × St).2.sz = st.sz := rfl
            rw [stkSz_cons, e10]
            omega
      · rintro _ H3 ⟨k, o3, o4, o5, o6, o7, o8, o9, o10, rfl, s3, hpe⟩
        refine ⟨_, rfl, .ref a, b, rfl, t0.keep s3.tk0, hf, fun H4 C s4 nC eC => ?_⟩
        have s34 := s3.trans s4
        have eC := cnt_at eC
        refine ⟨fun σ H5 => (∀ j < 4, ¬ bndM j < bndN b j) ∧ Sx [] H H5, ?_, ?_⟩
        · refine ⟨by show 4 ≤ sizeLine; decide, fun L hL => ⟨L, _, rfl, SqL.of upd_same, ?_⟩⟩
          refine for_it (walk_enum (xs := bndW.map V.str)) (fun i σ H5 => ∃ o8 o9, σ = [some (.ref a), some (.ref Z), some (.int k), o3, o4, o5, o6, some (.ref C), o8, o9, o10] ∧ Sx [] H4 H5 ∧ H5 L = some (.lst (bndW.map V.str)) ∧ ∀ j < i, ¬ bndM j < bndN b j) ⟨_, _, rfl, Sx.n0 hL, upd_same, fun j hj => absurd hj (Nat.not_lt_zero _)⟩ (fun i σ H5 _ z => by obtain ⟨_, _, _, _, z, _⟩ := z; exact SqL.of z) (fun i x σ H5 H6 hi z y => ?_) (fun σ H5 z => ?_)
          · obtain ⟨o8, o9, rfl, s5, eL, hlt⟩ := z
            obtain ⟨T, y1, y2, rfl, nT, rfl, h1, h2⟩ := y
            have hi4 : i < 4 := hi
            have h2 : (bndW.map V.str)[i]? = some y2 := h2
            rw [List.getElem?_map] at h2
            obtain ⟨z2, hz2, rfl⟩ := Option.map_eq_some_iff.mp h2
            obtain rfl : V.int (i : Nat) = y1 := Option.some.inj h1
            refine ⟨T, _, rfl, SqT.of upd_same, rfl, _, _, rfl, gnm ⟨_, _, rfl, gnm ⟨rfl, ?_⟩⟩⟩
            have s6 : Sx [] H4 (upd H5 T (.tup [.int (i : Nat), .str z2])) := s5.new nT
            have eL6 := Sx.n0 (o := .tup [.int (i : Nat), .str z2]) nT _ _ (by simp) eL
            generalize upd H5 T (.tup [.int (i : Nat), .str z2]) = H6 at s6 eL6 ⊢
            have eC6 := s6 _ _ (by simp) eC
            have hc1 : atI [V.int (b.sz : Int), .int (b.sumO fun _ => 1), .int (b.sumO (ownT "rest")), .int (b.sumO (ownT "less"))] (i : Int) = some (.int (bndN b i)) := by
              match i, hi4 with
              | 0, _ => rfl
              | 1, _ => rfl
              | 2, _ => rfl
              | 3, _ => rfl
            have hc2 : atI [V.int 24, .int 30, .int 2, .int 2] (i : Int) = some (.int (bndM i)) := by
              match i, hi4 with
              | 0, _ => rfl
              | 1, _ => rfl
              | 2, _ => rfl
              | 3, _ => rfl
            refine ⟨_, rfl, _, rfl, C, _, _, _, rfl, rfl, SqL.of eC6, hc1, by show 4 ≤ sizeLine; decide, fun M hM => ⟨_, rfl, M, _, _, _, rfl, rfl, SqL.of upd_same, hc2, _, _, rfl, rfl, _, rfl, ite2 (fun e => ?_) (fun e => ?_)⟩⟩
            · refine ⟨_, rfl, by show 2 ≤ sizeLine; decide, fun p hp => q _ _ (((s34.trans s6).new hM).new hp) ?_⟩
              rw [← hpe, bnd_hit hi4 hlt (of_decide_eq_true e) hz2]
              exact .tup upd_same (.cons .non (.cons (.str _) .nil))
            · refine ⟨_, _, rfl, s6.new hM, Sx.n0 hM _ _ (by simp) eL6, fun j hj => ?_⟩
              rcases Nat.lt_succ_iff_lt_or_eq.mp hj with h | rfl
              · exact hlt j h
              · exact fun z => e (decide_eq_true z)
          · obtain ⟨o8, o9, rfl, s5, eL, hlt⟩ := z
            exact ⟨hlt, s34.trans s5⟩
        · rintro σ H5 ⟨hlt, s5⟩
          refine q _ _ s5 ?_
          rw [← hpe, bnd_none hlt]
          exact .non
end
/-! ### a tuple so many times -/
theorem tuple_mul1 (l : Addr) (items : Array Value) (n : Nat) (dd : Option Addr) (sl : Array (Option Value)) (u : Tok) (c1 : items.isEmpty = false) :
    Meets (Builtin.«tuple.__mul__» ⟨[.ref l, .int 1 u], []⟩) (fun _ R s => s.heap.get? l = some { cls := .type "tuple", dict := dd, data := .seq items n, slots := sl } ∧
      R (.ok (.ret (Value.ref l))) s) :=
  .of_wp fun pr w A R s h => by
    rcases s with ⟨hp, g, d, tk, os⟩
    obtain ⟨hl, h⟩ := h
    have f1 := AutoSeq1.idx_int
    (wp_walk using wpAny_loadPart' hl)
    repeat (first
      | (refine wpAny_ite_false (decide_eq_false (by decide)) ?_; wp_walk using wpAny_loadPart' hl)
      | (refine wpAny_ite_true (decide_eq_true (by rw [c1]; rfl)) ?_; wp_walk using wpAny_loadPart' hl))
    exact ⟨_, rfl, h⟩
def rRepW (K : PySem.W.Frag) : R2 := fun x y H Q => ∃ l k xs, x = .ref l ∧ y = .int k ∧ SqT K H l xs ∧ xs ≠ [] ∧ 1 ≤ k ∧ k ≤ 10000 ∧ xs.length ≤ 1000 ∧ (k = 1 → Q (.ref l) H) ∧ (2 ≤ k → ∀ p, H p = none → Q (.ref p) (upd H p (.tup (List.replicate k.toNat xs).flatten)))
section
variable {X : Cx}
theorem op_repW : OpR X (binaryOp .Mult) (rRepW X.K) := by
  intro pins s σ H x0 y0 v u Q I rx ry h
  obtain ⟨l, k, xs, rfl, rfl, hT, hne, h1, h2, hz, q1, q⟩ := h
  cases rx
  obtain ⟨t, rfl⟩ := ry
  rcases I.tuple hT with ⟨its, r, ⟨⟨cls, dd, data, sl⟩, ho, hc, n, hd⟩, hs⟩
  simp only at hc hd
  subst hc hd
  have hle : (its.length = xs.length) := r.length.symm
  have hn : (its ≠ []) := fun e => hne (by
    exact List.eq_nil_of_length_eq_zero (e ▸ hle).symm)
  have hi : (its.toArray.isEmpty = false) := by
    cases its with
    | nil => exact absurd rfl hn
    | cons a b => rfl
  have hsz0 : (its.toArray.size = xs.length) := by rw [List.size_toArray, hle]
  by_cases hk : k = 1
  · subst hk
    exact wpAny_binaryOp_repeat_ref (U := "int") (T := "tuple") (by decide) ⟨_, ho, rfl⟩ (fun s' => typeIs_int s' 1 t) noFill_tuple_mul F.fills_int_mul F.slot_int_rmul repeat_tuple F.slot_int_index.lookup
      (call_meets F.slot_int_rmul (typeIs_int s 1 t) F.entry_int_rmul (F.args_int_rmul_2 _ _) (int_rmul_tuple 1 t l its.toArray n dd sl)
        ⟨ho, rfl, ⟨_, ho, rfl⟩, call_meets F.slot_tuple_mul ⟨_, ho, rfl⟩ F.entry_tuple_mul (F.args_tuple_mul_2 _ _) (tuple_mul1 l its.toArray n dd sl t hi) ⟨ho, .ref l, H, I, rfl, q1 rfl⟩⟩)
  have q := q (by omega)
  have hm : ((its.toArray.size : Nat) : Int) * k ≤ 10000000 := by
    rw [hsz0]
    have a1 : (((xs.length : Nat) : Int) * k ≤ 1000 * k) := Int.mul_le_mul_of_nonneg_right (by omega) (by omega)
    omega
  have flen : ((List.replicate k.toNat its).flatten.length ≤ sizeLine) := by
    rw [PyProof.Rows.lm_len_rep_flat]; rw [hle, sizeLine_eq]
    have a1 : k.toNat * xs.length ≤ 10000 * 1000 := Nat.mul_le_mul (by omega) hz
    omega
  have c0 : ((decide (k < -(2 ^ 63)) || decide (k ≥ 2 ^ 63)) = false) := by
    (rw [decide_eq_false (by omega), decide_eq_false (by omega)]; rfl)
  have c1 : ((its.toArray.isEmpty || k == 1) = false) := by
    rw [hi, Bool.false_or]
    exact (beq_eq_false_iff_ne.mpr (by omega))
  have c2 : ((decide (k ≤ 0) || its.toArray.isEmpty) = false) := by
    rw [hi, Bool.or_false]
    exact (decide_eq_false (by omega))
  have c4 : (Builtin.Tuple.tupleTooMany (((its.toArray.size : Nat) : Int) * k) = false) := by
    rw [Builtin.Tuple.tupleTooMany, sizeLine_eq]
    exact (decide_eq_false (by omega))
  refine wpAny_binaryOp_repeat_ref (U := "int") (T := "tuple") (by decide) ⟨_, ho, rfl⟩ (fun s' => typeIs_int s' k t) noFill_tuple_mul F.fills_int_mul F.slot_int_rmul repeat_tuple F.slot_int_index.lookup
    (call_meets F.slot_int_rmul (typeIs_int s k t) F.entry_int_rmul (F.args_int_rmul_2 _ _) (int_rmul_tuple k t l its.toArray n dd sl) ⟨ho, rfl, ⟨_, ho, rfl⟩,
      call_meets F.slot_tuple_mul ⟨_, ho, rfl⟩ F.entry_tuple_mul (F.args_tuple_mul_2 _ _) (tuple_mulW l its.toArray n dd sl k t c0 c1 c2 (by omega) c4 (by rw [size_rep, List.size_toArray]; exact flen)) ⟨ho, ?_⟩⟩)
  rw [size_rep]
  refine (⟨.ref s.heap.objs.size, _, I.laid (t' := s.toks) (o := .tup (List.replicate k.toNat xs).flatten) (fun b ob q => Heap.get?_push_of_some _ q) (Nat.le_refl _) ?_, rfl, q _ (I.hok.fresh (Nat.le_refl _))⟩)
  exact ⟨by rw [PyProof.Rows.lm_len_rep_flat, sizeLine_eq]; have a1 : k.toNat * xs.length ≤ 10000 * 1000 := Nat.mul_le_mul (by omega) hz; omega, _, r.rep k.toNat, IsTup.new _ _⟩
end
abbrev sPart : Stmt := topS 48
abbrev nPart : List Str := ["_law_deck_here", "_law_rows", "_law_block", "_law_k"]
theorem scPart : FnScope nPart ["_law_deck_here"] (defScope sPart) := ⟨rfl, rfl, rfl, by decide +kernel, rfl, by decide +kernel, by decide +kernel⟩
abbrev sUpTo : Stmt := topS 49
abbrev nUpTo : List Str := ["_law_deck_here", "_law_way", "_law_more", "_law_pays", "_law_again", "_law_block", "_law_k"]
theorem scUpTo : FnScope nUpTo ["_law_deck_here"] (defScope sUpTo) := ⟨rfl, rfl, rfl, by decide +kernel, rfl, by decide +kernel, by decide +kernel⟩
/-! ### programs of written statements -/
def Bk.ofL : List St → Bk
  | [] => .nil
  | s :: l => .cons s (Bk.ofL l)
theorem Bk.ofL_lst : ∀ l : List St, (Bk.ofL l).lst = l
  | [] => rfl
  | s :: l => by rw [Bk.ofL, Bk.lst, Bk.ofL_lst l]
theorem Bk.ofL_ds (l : List St) : (Bk.ofL l).ds = l.map St.d := by rw [Bk.ds_lst, Bk.ofL_lst]
theorem Bk.ofL_sz (l : List St) : (Bk.ofL l).sz = (l.map St.sz).sum := by rw [Bk.sz_lst, Bk.ofL_lst]
theorem Bk.ofL_rws : ∀ {l : List St} {e p : Int} {r : Rw}, r ∈ (Bk.ofL l).rws e p → ∃ s ∈ l, ∃ p', r ∈ s.rws e p'
  | [], _, _, _, (h : _ ∈ []) => by cases h
  | s :: l, e, p, r, h => by
    rcases List.mem_append.1 (show r ∈ s.rws e p ++ (Bk.ofL l).rws e (p + s.sz) from h) with h | h
    · exact ⟨s, List.mem_cons_self .., p, h⟩
    · obtain ⟨s', hs', p', hr⟩ := Bk.ofL_rws h
      exact ⟨s', List.mem_cons_of_mem _ hs', p', hr⟩
theorem Bk.fac_mono : ∀ {d e : Nat} {b : Bk}, b.fac d → d ≤ e → b.fac e
  | 0, _, _, h, _ => h.elim
  | d + 1, e, b, h, l => by
    obtain ⟨j, rfl⟩ : ∃ j, e = j + 1 := ⟨e - 1, by omega⟩
    refine ⟨h.1, fun s hs => ?_⟩
    obtain ⟨h1, h2, h3⟩ := h.2 s hs
    exact ⟨h1, h2, fun y hy => Bk.fac_mono (h3 y hy) (by omega)⟩
/-- right statements of atoms, so deep, with so many blocks in one another -/
structure SG (n d : Nat) (s : St) : Prop where
  rw : ∀ e p, ∀ r ∈ s.rws e p, okRow r
  sh : Sh n s.d
  fc : -1000000 ≤ s.times ∧ s.times ≤ 1000000 ∧ ∀ y ∈ s.blks, y.fac d
  nn : 0 ≤ s.sumO fun _ => 1
structure BG (n d : Nat) (b : Bk) : Prop where
  rw : ∀ e p, ∀ r ∈ b.rws e p, okRow r
  sh : ShA n b.ds
  fc : b.fac d
  nn : 0 ≤ b.sumO fun _ => 1
theorem SG.mono {n d m e : Nat} {s : St} (h : SG n d s) (h1 : n ≤ m) (h2 : d ≤ e) : SG m e s := ⟨h.rw, h.sh.mono h1, ⟨h.fc.1, h.fc.2.1, fun y hy => Bk.fac_mono (h.fc.2.2 y hy) h2⟩, h.nn⟩
theorem sum_nn : ∀ {l : List Int}, (∀ x ∈ l, 0 ≤ x) → 0 ≤ l.sum
  | [], _ => Int.le_refl _
  | x :: l, h => by
    rw [List.sum_cons]
    have := h x (List.mem_cons_self ..)
    have := sum_nn fun y hy => h y (List.mem_cons_of_mem _ hy)
    omega
theorem BG.of {n d : Nat} {l : List St} (hl : l.length < 16777216) (h : ∀ s ∈ l, SG n d s) : BG n (d + 1) (Bk.ofL l) := by
  refine ⟨fun e p r hr => ?_, ?_, ⟨by rw [Bk.ofL_lst]; exact hl, fun s hs => ?_⟩, ?_⟩
  · obtain ⟨s, hs, p', hr'⟩ := Bk.ofL_rws hr
    exact (h s hs).rw e p' r hr'
  · rw [Bk.ofL_ds]
    exact ShA.of_mem fun e he => by
      obtain ⟨s, hs, rfl⟩ := List.mem_map.mp he
      exact (h s hs).sh
  · rw [Bk.ofL_lst] at hs
    exact (h s hs).fc
  · rw [Bk.sumO_lst, Bk.ofL_lst]
    exact sum_nn fun x hx => by
      obtain ⟨s, hs, rfl⟩ := List.mem_map.mp hx
      exact (h s hs).nn
theorem BG.nil (n d : Nat) : BG n (d + 1) .nil := BG.of (l := []) (by decide) (fun _ h => by cases h)
theorem Ex.atom_sh0 {x : Ex} (h : x.atom) (n : Nat) : Sh n x.d := by
  cases x with
  | int i => exact .int i
  | name z => exact .str (NmOk.ok h)
  | _ => exact h.elim
theorem SG.pay {x : Ex} (h : x.atom) (d : Nat) : SG 1 d (.pay x) := by
  have sh : Sh 1 (St.pay x).d := .tup (.cons (.str (by decide +kernel)) (.cons (Ex.atom_sh0 (x := x) h 0) .nil))
  exact ⟨fun e p r hr => by obtain rfl := List.mem_singleton.mp hr; exact ⟨h, sh.mono (by decide)⟩, sh, ⟨by show -1000000 ≤ (1 : Int); decide, by show (1 : Int) ≤ 1000000; decide, fun y hy => by cases hy⟩, by show (0 : Int) ≤ 1; decide⟩
theorem SG.set {z : Str} {x : Ex} (hz : NmOk z) (h : x.atom) (d : Nat) : SG 1 d (.set z x) := by
  have sh : Sh 1 (St.set z x).d := .tup (.cons (.str (by decide +kernel)) (.cons (.str hz.ok) (.cons (Ex.atom_sh0 (x := x) h 0) .nil)))
  exact ⟨fun e p r hr => by obtain rfl := List.mem_singleton.mp hr; exact ⟨⟨hz, h⟩, sh.mono (by decide)⟩, sh, ⟨by show -1000000 ≤ (1 : Int); decide, by show (1 : Int) ≤ 1000000; decide, fun y hy => by cases hy⟩, by show (0 : Int) ≤ 1; decide⟩
theorem SG.stop (d : Nat) : SG 1 d .stop := by
  have sh : Sh 1 (St.stop).d := .tup (.cons (.str (by decide +kernel)) .nil)
  exact ⟨fun e p r hr => by obtain rfl := List.mem_singleton.mp hr; exact ⟨trivial, sh.mono (by decide)⟩, sh, ⟨by show -1000000 ≤ (1 : Int); decide, by show (1 : Int) ≤ 1000000; decide, fun y hy => by cases hy⟩, by show (0 : Int) ≤ 1; decide⟩
theorem SG.rep {n d : Nat} {k : Int} {y : Bk} (h1 : 1 ≤ k) (h2 : k ≤ 8) (h : BG n d y) (hn : n ≤ 48) : SG (n + 2) d (.rep k y) := by
  have sh : Sh (n + 2) (St.rep k y).d := .tup (.cons (.str (by decide +kernel)) (.cons (.int k) (.cons (.tup h.sh) .nil)))
  refine ⟨fun e p r hr => ?_, sh, ⟨by show -1000000 ≤ k; omega, by show k ≤ 1000000; omega, fun x hx => by rw [List.mem_singleton.mp (show x ∈ [y] from hx)]; exact h.fc⟩, ?_⟩
  · rcases List.mem_cons.1 (show r ∈ (p, e, St.rep k y) :: y.rws (e + 1) (p + 1) from hr) with rfl | hr
    · exact ⟨⟨h1, h2⟩, sh.mono (by omega)⟩
    · exact h.rw _ _ r hr
  · show 0 ≤ 1 + k * y.sumO fun _ => 1
    have := Int.mul_nonneg (show 0 ≤ k by omega) h.nn
    omega
theorem SG.ite {n d : Nat} {t : Ts} {y z : Bk} (ht : t.atom 2) (hs : Sh (n + 1) t.d) (h : BG n d y) (h' : BG n d z) (hn : n ≤ 48) : SG (n + 2) d (.ite t y z) := by
  have sh : Sh (n + 2) (St.ite t y z).d := .tup (.cons (.str (by decide +kernel)) (.cons hs (.cons (.tup h.sh) (.cons (.tup h'.sh) .nil))))
  refine ⟨fun e p r hr => ?_, sh, ⟨by show -1000000 ≤ (1 : Int); decide, by show (1 : Int) ≤ 1000000; decide, fun x hx => ?_⟩, ?_⟩
  · rcases List.mem_cons.1 (show r ∈ (p, e, St.ite t y z) :: (y.rws (e + 1) (p + 1) ++ z.rws (e + 1) (p + 1 + y.sz)) from hr) with rfl | hr
    · exact ⟨ht, sh.mono (by omega)⟩
    · rcases List.mem_append.1 hr with hr | hr
      · exact h.rw _ _ r hr
      · exact h'.rw _ _ r hr
  · rcases List.mem_cons.1 (show x ∈ [y, z] from hx) with rfl | hx
    · exact h.fc
    · rw [List.mem_singleton.mp hx]; exact h'.fc
  · rw [St.sumO_eq]
    show 0 ≤ 1 + 1 * (y.sumO (fun _ => 1) + (z.sumO (fun _ => 1) + 0))
    have := h.nn
    have := h'.nn
    omega
/-- a list of such statements -/
structure GL (n d z : Nat) (l : List St) : Prop where
  g : ∀ s ∈ l, SG n d s
  z : (l.map St.sz).sum ≤ z
theorem len_sz : ∀ l : List St, l.length ≤ (l.map St.sz).sum
  | [] => Nat.le_refl _
  | s :: l => by
    rw [List.length_cons, List.map_cons, List.sum_cons]
    have := len_sz l
    have := s.sz_pos
    omega
theorem GL.bg {n d z : Nat} {l : List St} (h : GL n d z l) (hz : z < 16777216) : BG n (d + 1) (Bk.ofL l) := BG.of (by have := len_sz l; have := h.z; omega) h.g
theorem GL.mono {n d z m e y : Nat} {l : List St} (h : GL n d z l) (h1 : n ≤ m) (h2 : d ≤ e) (h3 : z ≤ y) : GL m e y l := ⟨fun s hs => (h.g s hs).mono h1 h2, Nat.le_trans h.z h3⟩
theorem GL.app {n d z y : Nat} {l m : List St} (h : GL n d z l) (h' : GL n d y m) : GL n d (z + y) (l ++ m) := ⟨fun s hs => (List.mem_append.1 hs).elim (h.g s) (h'.g s), by rw [List.map_append, List.sum_append]; have := h.z; have := h'.z; omega⟩
theorem sz_rpt (s : St) : ∀ m : Nat, ((List.replicate m s).map St.sz).sum = m * s.sz
  | 0 => by simp
  | m + 1 => by rw [List.replicate_succ, List.map_cons, List.sum_cons, sz_rpt s m, Nat.succ_mul]; omega
theorem GL.rpt {n d : Nat} {s : St} (h : SG n d s) (m : Nat) {z : Nat} (hz : m * s.sz ≤ z) : GL n d z (List.replicate m s) := ⟨fun x hx => by rw [(List.mem_replicate.mp hx).2]; exact h, by rw [sz_rpt]; exact hz⟩
theorem GL.one {n d z : Nat} {s : St} (h : SG n d s) (hz : s.sz ≤ z) : GL n d z [s] := ⟨fun x hx => by rw [List.mem_singleton.mp hx]; exact h, by simpa using hz⟩
theorem flat1 {α : Type} (x : α) : ∀ m : Nat, (List.replicate m [x]).flatten = List.replicate m x
  | 0 => rfl
  | m + 1 => by rw [List.replicate_succ, List.flatten_cons, flat1 x m]; rfl
theorem tp_rpt {H : Hp} {v : V} {d : PyData} (h : Tp H v d) : ∀ m : Nat, TpAll H (List.replicate m v) (List.replicate m d)
  | 0 => .nil
  | m + 1 => .cons h (tp_rpt h m)
/-- a list, or a tuple, of statements -/
def LS (H : Hp) (l : Addr) (ss : List St) : Prop := ∃ vals, H l = some (.lst vals) ∧ TpAll H vals (ss.map St.d)
theorem LS.sx {H H' : Hp} {l : Addr} {ss : List St} {ex : List Addr} (h : LS H l ss) (s : Sx ex H H') (k : Tk H H') (n : l ∉ ex) : LS H' l ss := by
  obtain ⟨vals, h1, h2⟩ := h
  exact ⟨vals, s _ _ n h1, h2.keep k⟩
theorem LS.len {H : Hp} {l : Addr} {ss : List St} (h : LS H l ss) : ∃ vals, H l = some (.lst vals) ∧ TpAll H vals (ss.map St.d) ∧ vals.length = ss.length := by
  obtain ⟨vals, h1, h2⟩ := h
  exact ⟨vals, h1, h2, by rw [h2.len, List.length_map]⟩
theorem nmA : NmOk "a" := nmOk_of (by decide +kernel)
theorem nmN : NmOk "n" := nmOk_of (by decide +kernel)
abbrev st1 : St := .pay (.int 1)
abbrev st2 : St := .set "a" (.name "n")
abbrev st3 : St := .ite (.less (.name "a") (.name "n")) .nil .nil
abbrev st4 : St := .ite (.not (.rest (.name "a") 2 1)) (.cons (.pay (.name "a")) .nil) .nil
theorem at1 : Ex.atom (.int 1) := ⟨by decide, by decide⟩
theorem sg1 (d : Nat) : SG 1 d st1 := .pay at1 d
theorem sg2 (d : Nat) : SG 1 d st2 := .set nmA (show Ex.atom (.name "n") from nmN) d
theorem sg3 : SG 3 1 st3 := (SG.ite (n := 0) (d := 1) (t := .less (.name "a") (.name "n")) ⟨nmA, nmN⟩ (.tup (.cons (.str (by decide +kernel)) (.cons (.str nmA.ok) (.cons (.str nmN.ok) .nil)))) (.nil 0 0) (.nil 0 0) (by decide)).mono (by decide) (by decide)
theorem sh_rest {z : Str} (hz : NmOk z) (b r : Int) : Sh 2 (Ts.not (.rest (.name z) b r)).d := .tup (.cons (.str (by decide +kernel)) (.cons (.tup (.cons (.str (by decide +kernel)) (.cons (.str hz.ok) (.cons (.int b) (.cons (.int r) .nil))))) .nil))
theorem sg4 : SG 3 1 st4 := SG.ite (n := 1) (d := 1) (t := .not (.rest (.name "a") 2 1)) ⟨by decide, nmA, by decide, by decide, by decide, by decide⟩ (sh_rest nmA 2 1) (BG.of (l := [.pay (.name "a")]) (by decide) fun s hs => by rw [List.mem_singleton.mp hs]; exact .pay (show Ex.atom (.name "a") from nmA) 0) (.nil 1 0) (by decide)
/-- the program of statements, with so many draws -/
def spGen (n d z : Nat) (q : Int) : Sp := fun vs H Q _ => ∃ (a c : Addr) (cs : List Int) (k : Int), vs = [.ref a] ∧ Dk H a c cs k ∧ k + q ≤ KB ∧
  ∀ H' cs' k' v l, Sx [a, c] H H' → Dk H' a c cs' k' → k ≤ k' → k' ≤ k + q → Tp H' v (.tuple (l.map St.d)) → GL n d z l → Q v H'
section
variable {w : World} {P : Program} {K : PySem.W.Frag} {mg : Str → Option Value} {base : Heap}
theorem ok_lpart {f fD fO : Addr} {fd fdD fdO : FuncData} (F : Fun K "_law_part" "_law_part" sPart f fd) (F_draw : Fun K "_law_draw" "_law_draw" sDraw fD fdD) (F_one : Fun K "_law_one" "_law_one" sOne fO fdO)
    (G_draw : FnOk P w K mg base CX0 1 fD fdD ["_law_deck_here", "_law_many"] spDraw) (G_one : FnOk P w K mg base CX0 2 fO fdO ["_law_deck_here", "_law_items"] (spOne K))
    (b_draw : Binds K fdD ["_law_deck_here", "_law_many"] []) (b_one : Binds K fdO ["_law_deck_here", "_law_items"] [])
    (m_draw : mg "_law_draw" = some (.ref fD)) (m_one : mg "_law_one" = some (.ref fO)) (z_range : mg "range" = none) (z_tuple : mg "tuple" = none) :
    FnOk P w K mg base CX0 3 f fd ["_law_deck_here"] (spGen 15 7 22 11) := by
  refine F.ok scPart (fun vs H Q E h => ?_) (fun cdv A outer s H vs Q E hr h => ?_)
  · obtain ⟨a, c, cs, k, rfl, _⟩ := h
    rfl
  · obtain ⟨a, c, cs, k, rfl, D, hk, q⟩ := h
    refine ⟨_, (pss_cons (ps_set (i := 1) scPart.nd rfl (by first | exact Or.inl rfl | exact Or.inr rfl) (pe_op op_cat (pe_op op_rep (pe_lst (pa_cons (pe_tup (pa_cons pe_str (pa_cons pe_int pa_nil))) pa_nil)) (pe_call G_draw (hr.mono (by omega)) (by rfl) m_draw F_draw.kp b_draw .nil pass0 (pa_cons (pv 0) (pa_cons pe_int pa_nil)))) (pe_op op_rep (pe_lst (pa_cons (pe_tup (pa_cons pe_str (pa_cons pe_str (pa_cons pe_str pa_nil)))) pa_nil)) (pe_call G_draw (hr.mono (by omega)) (by rfl) m_draw F_draw.kp b_draw .nil pass0 (pa_cons (pv 0) (pa_cons pe_int pa_nil))))))
      (pss_cons (ps_set (i := 1) scPart.nd rfl (by first | exact Or.inl rfl | exact Or.inr rfl) (pe_op op_cat (pv 1) (pe_op op_rep (pe_lst (pa_cons (pe_tup (pa_cons pe_str (pa_cons (pe_tup (pa_cons pe_str (pa_cons pe_str (pa_cons pe_str pa_nil)))) (pa_cons (pe_tup pa_nil) (pa_cons (pe_tup pa_nil) pa_nil))))) pa_nil)) (pe_call G_draw (hr.mono (by omega)) (by rfl) m_draw F_draw.kp b_draw .nil pass0 (pa_cons (pv 0) (pa_cons pe_int pa_nil))))))
      (pss_cons (ps_set (i := 1) scPart.nd rfl (by first | exact Or.inl rfl | exact Or.inr rfl) (pe_op op_cat (pv 1) (pe_op op_rep (pe_lst (pa_cons (pe_tup (pa_cons pe_str (pa_cons (pe_tup (pa_cons pe_str (pa_cons (pe_tup (pa_cons pe_str (pa_cons pe_str (pa_cons pe_int (pa_cons pe_int pa_nil))))) pa_nil))) (pa_cons (pe_tup (pa_cons (pe_tup (pa_cons pe_str (pa_cons pe_str pa_nil))) pa_nil)) (pa_cons (pe_tup pa_nil) pa_nil))))) pa_nil)) (pe_call G_draw (hr.mono (by omega)) (by rfl) m_draw F_draw.kp b_draw .nil pass0 (pa_cons (pv 0) (pa_cons pe_int pa_nil))))))
      (pss_cons (ps_set (i := 2) scPart.nd rfl (by first | exact Or.inl rfl | exact Or.inr rfl) (pe_callTy call_tuple_of (by rfl) z_tuple boot_tuple (pa_cons (pv 1) pa_nil)))
      (C8.pss_cut (ps_for PassesOwn.never rfl (pi_range1 (by rfl) z_range (pa_cons (pe_call G_draw (hr.mono (by omega)) (by rfl) m_draw F_draw.kp b_draw .nil pass0 (pa_cons (pv 0) (pa_cons pe_int pa_nil))) pa_nil)) (pg_name (i := 3) scPart.nd rfl (by first | exact Or.inl rfl | exact Or.inr rfl)) (pss_cons (ps_set (i := 2) scPart.nd rfl (by first | exact Or.inl rfl | exact Or.inr rfl) (pe_tup (pa_cons (pe_tup (pa_cons pe_str (pa_cons (pe_call G_one (hr.mono (by omega)) (by rfl) m_one F_one.kp b_one .nil pass0 (pa_cons (pv 0) (pa_cons (pe_lst (pa_cons pe_int (pa_cons pe_int (pa_cons pe_int (pa_cons pe_int (pa_cons pe_int (pa_cons pe_int pa_nil))))))) pa_nil))) (pa_cons (pv 2) pa_nil)))) pa_nil)))
      (pss_one (ps_if (pt_cmpR op_eq (pe_call G_draw (hr.mono (by omega)) (by rfl) m_draw F_draw.kp b_draw .nil pass0 (pa_cons (pv 0) (pa_cons pe_int pa_nil))) pe_int (nomark _)) (pss_one (ps_set (i := 2) scPart.nd rfl (by first | exact Or.inl rfl | exact Or.inr rfl) (pe_tup (pa_cons (pe_tup (pa_cons pe_str (pa_cons (pe_tup (pa_cons pe_str (pa_cons pe_int (pa_cons pe_str pa_nil)))) (pa_cons (pe_tup pa_nil) (pa_cons (pv 2) pa_nil))))) pa_nil)))) pss_nil))))
      (pss_one (ps_ret (pv 2)))))))), ?_⟩
    have KBe : KB = 1099511627776 := rfl
    -- eight payments at most
    refine ⟨by show 2 ≤ sizeLine; decide, fun p1 hp1 => ⟨by show 1 ≤ sizeLine; decide, fun l1 hl1 => ?_⟩⟩
    have t1 : Tp (upd (upd H p1 (.tup [.str "pay", .int 1])) l1 (.lst [.ref p1])) (.ref p1) st1.d := Tp.new (.tup upd_same (.cons (.str _) (.cons (.int _) .nil))) hl1
    have D1 := (D.new (o := .tup [.str "pay", .int 1]) hp1).new (o := .lst [.ref p1]) hl1
    have s1 : Sx [a, c] H (upd (upd H p1 (.tup [.str "pay", .int 1])) l1 (.lst [.ref p1])) := ((Sx.refl _).new hp1).new hl1
    have nl1 := (D.new (o := .tup [.str "pay", .int 1]) hp1).nw hl1
    have e1 : (upd (upd H p1 (.tup [.str "pay", .int 1])) l1 (.lst [.ref p1])) l1 = some (.lst [.ref p1]) := upd_same
    generalize upd (upd H p1 (.tup [.str "pay", .int 1])) l1 (.lst [.ref p1]) = H1 at t1 D1 s1 e1 ⊢
    refine ⟨_, rfl, a, c, cs, k, 9, rfl, D1, by decide, by decide, by omega, fun H2 cs2 r2 s2 D2 r20 r21 => ?_⟩
    have e2 := s2 _ _ (by simp [nl1.1, nl1.2]) e1
    have t2 := t1.keep (D1.tk s2)
    refine ⟨l1, r2, _, rfl, rfl, e2, by omega, by omega, le_line (by show 1 * r2.toNat ≤ 16777216; omega), fun A hA => ?_⟩
    rw [flat1]
    have nA := D2.nw hA
    have LA : LS (upd H2 A (.lst (List.replicate r2.toNat (.ref p1)))) A (List.replicate r2.toNat st1) := ⟨_, upd_same, by rw [List.map_replicate]; exact (tp_rpt t2 _).new hA⟩
    have D2 := D2.new (o := .lst (List.replicate r2.toNat (.ref p1))) hA
    have s2 := (s1.trans s2).new (o := .lst (List.replicate r2.toNat (.ref p1))) hA
    generalize upd H2 A (.lst (List.replicate r2.toNat (.ref p1))) = H2 at LA D2 s2 ⊢
    clear t1 e1 e2 t2 nl1 D1 s1
    -- settings
    refine ⟨by show 3 ≤ sizeLine; decide, fun p1 hp1 => ⟨by show 1 ≤ sizeLine; decide, fun l1 hl1 => ?_⟩⟩
    have t1 : Tp (upd (upd H2 p1 (.tup [.str "set", .str "a", .str "n"])) l1 (.lst [.ref p1])) (.ref p1) st2.d := Tp.new (.tup upd_same (.cons (.str _) (.cons (.str _) (.cons (.str _) .nil)))) hl1
    have n12 : Sx [] H2 (upd (upd H2 p1 (.tup [.str "set", .str "a", .str "n"])) l1 (.lst [.ref p1])) := ((Sx.refl _).new hp1).new hl1
    have nl1 := (D2.new (o := .tup [.str "set", .str "a", .str "n"]) hp1).nw hl1
    have e1 : (upd (upd H2 p1 (.tup [.str "set", .str "a", .str "n"])) l1 (.lst [.ref p1])) l1 = some (.lst [.ref p1]) := upd_same
    generalize upd (upd H2 p1 (.tup [.str "set", .str "a", .str "n"])) l1 (.lst [.ref p1]) = H3 at t1 n12 e1 ⊢
    have D3 := D2.same n12
    have LA := LA.sx n12 n12.tk0 (by simp)
    refine ⟨_, rfl, a, c, cs2, k + 1, 3, rfl, D3, by decide, by decide, by omega, fun H4 cs4 r4 s4 D4 r40 r41 => ?_⟩
    have e2 := s4 _ _ (by simp [nl1.1, nl1.2]) e1
    have t2 := t1.keep (D3.tk s4)
    have LA := LA.sx s4 (D3.tk s4) (by simp [nA.1, nA.2])
    refine ⟨l1, r4, _, rfl, rfl, e2, by omega, by omega, le_line (by show 1 * r4.toNat ≤ 16777216; omega), fun B hB => ?_⟩
    rw [flat1]
    have LB : LS (upd H4 B (.lst (List.replicate r4.toNat (.ref p1)))) B (List.replicate r4.toNat st2) := ⟨_, upd_same, by rw [List.map_replicate]; exact (tp_rpt t2 _).new hB⟩
    have LA := LA.sx (Sx.n0 (o := .lst (List.replicate r4.toNat (.ref p1))) hB) (Sx.n0 hB).tk0 (by simp)
    have D4 := D4.new (o := .lst (List.replicate r4.toNat (.ref p1))) hB
    have s4 := ((s2.trans n12.nil).trans s4).new (o := .lst (List.replicate r4.toNat (.ref p1))) hB
    generalize upd H4 B (.lst (List.replicate r4.toNat (.ref p1))) = H4 at LA LB D4 s4 ⊢
    clear t1 n12 e1 D3 e2 t2 nl1 nA D2 s2
    obtain ⟨va, a1, a2, a3⟩ := LA.len
    obtain ⟨vb, b1, b2, b3⟩ := LB.len
    rw [List.length_replicate] at a3 b3
    refine ⟨A, B, va, vb, rfl, rfl, a1, b1, le_line (by omega), fun C hC => ?_⟩
    have nC := D4.nw hC
    have LC : LS (upd H4 C (.lst (va ++ vb))) C (List.replicate r2.toNat st1 ++ List.replicate r4.toNat st2) := ⟨_, upd_same, by rw [List.map_append]; exact (a2.append b2).new hC⟩
    have D5 := D4.new (o := .lst (va ++ vb)) hC
    have s5 := s4.new (o := .lst (va ++ vb)) hC
    generalize upd H4 C (.lst (va ++ vb)) = H5 at LC D5 s5 ⊢
    clear LA LB a1 a2 a3 b1 b2 b3 D4 s4
    have G5 : GL 3 1 10 (List.replicate r2.toNat st1 ++ List.replicate r4.toNat st2) := (GL.rpt ((sg1 1).mono (by decide) (by decide)) _ (z := 8) (by show r2.toNat * 1 ≤ 8; omega)).app (GL.rpt ((sg2 1).mono (by decide) (by decide)) _ (z := 2) (by show r4.toNat * 1 ≤ 2; omega))
    generalize List.replicate r2.toNat st1 ++ List.replicate r4.toNat st2 = ls5 at LC G5
    refine gnm ?_
    -- tests
    refine ⟨_, rfl, by show 3 ≤ sizeLine; decide, fun p1 hp1 => ⟨by show 0 ≤ sizeLine; decide, fun p2 hp2 => ⟨by show 0 ≤ sizeLine; decide, fun p3 hp3 => ⟨by show 4 ≤ sizeLine; decide, fun p4 hp4 => ⟨by show 1 ≤ sizeLine; decide, fun l1 hl1 => ?_⟩⟩⟩⟩⟩
    have n1 := Sx.n0 (o := .tup [.str "less", .str "a", .str "n"]) hp1
    have u1 : Tp (upd H5 p1 (.tup [.str "less", .str "a", .str "n"])) (.ref p1) (Ts.less (.name "a") (.name "n")).d := .tup upd_same (.cons (.str _) (.cons (.str _) (.cons (.str _) .nil)))
    generalize upd H5 p1 (.tup [.str "less", .str "a", .str "n"]) = H6 at hp2 hp3 hp4 hl1 n1 u1 ⊢
    have n2 := n1.new (o := .tup []) hp2
    have u2 : Tp (upd H6 p2 (.tup [])) (.ref p2) (.tuple Bk.nil.ds) := .tup upd_same .nil
    have u1 := u1.new (o := .tup []) hp2
    generalize upd H6 p2 (.tup []) = H6 at hp3 hp4 hl1 n2 u1 u2 ⊢
    have n3 := n2.new (o := .tup []) hp3
    have u3 : Tp (upd H6 p3 (.tup [])) (.ref p3) (.tuple Bk.nil.ds) := .tup upd_same .nil
    have u1 := u1.new (o := .tup []) hp3
    have u2 := u2.new (o := .tup []) hp3
    generalize upd H6 p3 (.tup []) = H6 at hp4 hl1 n3 u1 u2 u3 ⊢
    have n4 := n3.new (o := .tup [.str "if", .ref p1, .ref p2, .ref p3]) hp4
    have u4 : Tp (upd H6 p4 (.tup [.str "if", .ref p1, .ref p2, .ref p3])) (.ref p4) st3.d := .tup upd_same (.cons (.str _) (.cons (u1.new hp4) (.cons (u2.new hp4) (.cons (u3.new hp4) .nil))))
    generalize upd H6 p4 (.tup [.str "if", .ref p1, .ref p2, .ref p3]) = H6 at hl1 n4 u4 ⊢
    have nl1 := (D5.same n4).nw hl1
    have n5 := n4.new (o := .lst [.ref p4]) hl1
    have u5 := u4.new (o := .lst [.ref p4]) hl1
    have e1 : (upd H6 l1 (.lst [.ref p4])) l1 = some (.lst [.ref p4]) := upd_same
    generalize upd H6 l1 (.lst [.ref p4]) = H6 at n5 u5 e1 ⊢
    have D6 := D5.same n5
    have LC := LC.sx n5 n5.tk0 (by simp)
    have s6 := s5.trans n5.nil
    clear n1 n2 n3 n4 u1 u2 u3 u4 hp1 hp2 hp3 hp4 D5 s5 n5
    refine ⟨_, rfl, a, c, cs4, k + 1 + 1, 3, rfl, D6, by decide, by decide, by omega, fun H7 cs7 r7 s7 D7 r70 r71 => ?_⟩
    have e2 := s7 _ _ (by simp [nl1.1, nl1.2]) e1
    have t2 := u5.keep (D6.tk s7)
    have LC := LC.sx s7 (D6.tk s7) (by simp [nC.1, nC.2])
    refine ⟨l1, r7, _, rfl, rfl, e2, by omega, by omega, le_line (by show 1 * r7.toNat ≤ 16777216; omega), fun B hB => ?_⟩
    rw [flat1]
    have LB : LS (upd H7 B (.lst (List.replicate r7.toNat (.ref p4)))) B (List.replicate r7.toNat st3) := ⟨_, upd_same, by rw [List.map_replicate]; exact (tp_rpt t2 _).new hB⟩
    have LC := LC.sx (Sx.n0 (o := .lst (List.replicate r7.toNat (.ref p4))) hB) (Sx.n0 hB).tk0 (by simp)
    have D7 := D7.new (o := .lst (List.replicate r7.toNat (.ref p4))) hB
    have s7 := (s6.trans s7).new (o := .lst (List.replicate r7.toNat (.ref p4))) hB
    generalize upd H7 B (.lst (List.replicate r7.toNat (.ref p4))) = H7 at LC LB D7 s7 ⊢
    clear u5 e1 D6 e2 t2 nl1 s6 nC
    obtain ⟨va, a1, a2, a3⟩ := LC.len
    obtain ⟨vb, b1, b2, b3⟩ := LB.len
    have z5 := G5.z
    have z5' := len_sz ls5
    rw [List.length_replicate] at b3
    refine ⟨C, B, va, vb, rfl, rfl, a1, b1, le_line (by omega), fun E2 hE2 => ?_⟩
    have nE := D7.nw hE2
    have LE : LS (upd H7 E2 (.lst (va ++ vb))) E2 (ls5 ++ List.replicate r7.toNat st3) := ⟨_, upd_same, by rw [List.map_append]; exact (a2.append b2).new hE2⟩
    have D8 := D7.new (o := .lst (va ++ vb)) hE2
    have s8 := s7.new (o := .lst (va ++ vb)) hE2
    generalize upd H7 E2 (.lst (va ++ vb)) = H8 at LE D8 s8 ⊢
    clear LC LB a1 a2 a3 b1 b2 b3 D7 s7 z5 z5'
    have G8 : GL 3 1 12 (ls5 ++ List.replicate r7.toNat st3) := G5.app (GL.rpt sg3 _ (z := 2) (by show r7.toNat * 1 ≤ 2; omega))
    generalize ls5 ++ List.replicate r7.toNat st3 = ls8 at LE G8
    refine gnm ?_
    -- denied ones
    refine ⟨_, rfl, by show 4 ≤ sizeLine; decide, fun p1 hp1 => ⟨by show 2 ≤ sizeLine; decide, fun p2 hp2 => ⟨by show 2 ≤ sizeLine; decide, fun p3 hp3 => ⟨by show 1 ≤ sizeLine; decide, fun p4 hp4 => ⟨by show 0 ≤ sizeLine; decide, fun p5 hp5 => ⟨by show 4 ≤ sizeLine; decide, fun p6 hp6 => ⟨by show 1 ≤ sizeLine; decide, fun l1 hl1 => ?_⟩⟩⟩⟩⟩⟩⟩
    have n1 := Sx.n0 (o := .tup [.str "rest", .str "a", .int 2, .int 1]) hp1
    have u1 : Tp (upd H8 p1 (.tup [.str "rest", .str "a", .int 2, .int 1])) (.ref p1) (Ts.rest (.name "a") 2 1).d := .tup upd_same (.cons (.str _) (.cons (.str _) (.cons (.int _) (.cons (.int _) .nil))))
    generalize upd H8 p1 (.tup [.str "rest", .str "a", .int 2, .int 1]) = H9 at hp2 hp3 hp4 hp5 hp6 hl1 n1 u1 ⊢
    have n2 := n1.new (o := .tup [.str "not", .ref p1]) hp2
    have u2 : Tp (upd H9 p2 (.tup [.str "not", .ref p1])) (.ref p2) (Ts.not (.rest (.name "a") 2 1)).d := .tup upd_same (.cons (.str _) (.cons (u1.new hp2) .nil))
    generalize upd H9 p2 (.tup [.str "not", .ref p1]) = H9 at hp3 hp4 hp5 hp6 hl1 n2 u2 ⊢
    have n3 := n2.new (o := .tup [.str "pay", .str "a"]) hp3
    have u3 : Tp (upd H9 p3 (.tup [.str "pay", .str "a"])) (.ref p3) (St.pay (.name "a")).d := .tup upd_same (.cons (.str _) (.cons (.str _) .nil))
    have u2 := u2.new (o := .tup [.str "pay", .str "a"]) hp3
    generalize upd H9 p3 (.tup [.str "pay", .str "a"]) = H9 at hp4 hp5 hp6 hl1 n3 u2 u3 ⊢
    have n4 := n3.new (o := .tup [.ref p3]) hp4
    have u4 : Tp (upd H9 p4 (.tup [.ref p3])) (.ref p4) (.tuple (Bk.cons (.pay (.name "a")) .nil).ds) := .tup upd_same (.cons (u3.new hp4) .nil)
    have u2 := u2.new (o := .tup [.ref p3]) hp4
    generalize upd H9 p4 (.tup [.ref p3]) = H9 at hp5 hp6 hl1 n4 u2 u4 ⊢
    have n5 := n4.new (o := .tup []) hp5
    have u5 : Tp (upd H9 p5 (.tup [])) (.ref p5) (.tuple Bk.nil.ds) := .tup upd_same .nil
    have u2 := u2.new (o := .tup []) hp5
    have u4 := u4.new (o := .tup []) hp5
    generalize upd H9 p5 (.tup []) = H9 at hp6 hl1 n5 u2 u4 u5 ⊢
    have n6 := n5.new (o := .tup [.str "if", .ref p2, .ref p4, .ref p5]) hp6
    have u6 : Tp (upd H9 p6 (.tup [.str "if", .ref p2, .ref p4, .ref p5])) (.ref p6) st4.d := .tup upd_same (.cons (.str _) (.cons (u2.new hp6) (.cons (u4.new hp6) (.cons (u5.new hp6) .nil))))
    generalize upd H9 p6 (.tup [.str "if", .ref p2, .ref p4, .ref p5]) = H9 at hl1 n6 u6 ⊢
    have nl1 := (D8.same n6).nw hl1
    have n7 := n6.new (o := .lst [.ref p6]) hl1
    have u7 := u6.new (o := .lst [.ref p6]) hl1
    have e1 : (upd H9 l1 (.lst [.ref p6])) l1 = some (.lst [.ref p6]) := upd_same
    generalize upd H9 l1 (.lst [.ref p6]) = H9 at n7 u7 e1 ⊢
    have D9 := D8.same n7
    have LE := LE.sx n7 n7.tk0 (by simp)
    have s9 := s8.trans n7.nil
    clear n1 n2 n3 n4 n5 n6 u1 u2 u3 u4 u5 u6 hp1 hp2 hp3 hp4 hp5 hp6 D8 s8 n7
    refine ⟨_, rfl, a, c, cs7, k + 1 + 1 + 1, 3, rfl, D9, by decide, by decide, by omega, fun H10 cs10 r10 s10 D10 r100 r101 => ?_⟩
    have e2 := s10 _ _ (by simp [nl1.1, nl1.2]) e1
    have t2 := u7.keep (D9.tk s10)
    have LE := LE.sx s10 (D9.tk s10) (by simp [nE.1, nE.2])
    refine ⟨l1, r10, _, rfl, rfl, e2, by omega, by omega, le_line (by show 1 * r10.toNat ≤ 16777216; omega), fun B hB => ?_⟩
    rw [flat1]
    have LB : LS (upd H10 B (.lst (List.replicate r10.toNat (.ref p6)))) B (List.replicate r10.toNat st4) := ⟨_, upd_same, by rw [List.map_replicate]; exact (tp_rpt t2 _).new hB⟩
    have LE := LE.sx (Sx.n0 (o := .lst (List.replicate r10.toNat (.ref p6))) hB) (Sx.n0 hB).tk0 (by simp)
    have D10 := D10.new (o := .lst (List.replicate r10.toNat (.ref p6))) hB
    have s10 := (s9.trans s10).new (o := .lst (List.replicate r10.toNat (.ref p6))) hB
    generalize upd H10 B (.lst (List.replicate r10.toNat (.ref p6))) = H10 at LE LB D10 s10 ⊢
    clear u7 e1 D9 e2 t2 nl1 s9 nE
    obtain ⟨va, a1, a2, a3⟩ := LE.len
    obtain ⟨vb, b1, b2, b3⟩ := LB.len
    have z8 := G8.z
    have z8' := len_sz ls8
    rw [List.length_replicate] at b3
    refine ⟨E2, B, va, vb, rfl, rfl, a1, b1, le_line (by omega), fun M hM => ?_⟩
    have G10 : GL 3 1 16 (ls8 ++ List.replicate r10.toNat st4) := G8.app (GL.rpt sg4 _ (z := 4) (by show r10.toNat * 2 ≤ 4; omega))
    have TM : TpAll (upd H10 M (.lst (va ++ vb))) (va ++ vb) ((ls8 ++ List.replicate r10.toNat st4).map St.d) := by rw [List.map_append]; exact (a2.append b2).new hM
    have D11 := D10.new (o := .lst (va ++ vb)) hM
    have s11 := s10.new (o := .lst (va ++ vb)) hM
    have e1 : (upd H10 M (.lst (va ++ vb))) M = some (.lst (va ++ vb)) := upd_same
    generalize upd H10 M (.lst (va ++ vb)) = H11 at TM D11 s11 e1 ⊢
    generalize ls8 ++ List.replicate r10.toNat st4 = ls at TM G10
    generalize va ++ vb = vs at TM e1 ⊢
    clear LE LB a1 a2 a3 b1 b2 b3 D10 s10 z8 z8'
    refine gnm ?_
    -- the block
    refine ⟨_, rfl, M, _, rfl, .inl ⟨SqL.of e1, fun T hT => ?_⟩⟩
    refine gnm ?_
    have TT : Tp (upd H11 T (.tup vs)) (.ref T) (.tuple (ls.map St.d)) := .tup upd_same (TM.new hT)
    have D12 := D11.new (o := .tup vs) hT
    have s12 := s11.new (o := .tup vs) hT
    generalize upd H11 T (.tup vs) = H12 at TT D12 s12 ⊢
    clear TM D11 s11 e1
    refine ⟨fun σ H' => ∃ (cs' : List Int) (k' : Int) (v : V) (l : List St) (o3 : Option V), σ = [some (.ref a), some (.ref M), some v, o3] ∧ Sx [a, c] H H' ∧ Dk H' a c cs' k' ∧ k ≤ k' ∧ k' ≤ k + 11 ∧ Tp H' v (.tuple (l.map St.d)) ∧ GL 15 7 22 l, ?_, ?_⟩
    · refine ⟨_, rfl, a, c, cs10, k + 1 + 1 + 1 + 1, 4, rfl, D12, by decide, by decide, by omega, fun H13 cs13 r13 s13 D13 r130 r131 => ?_⟩
      refine ⟨r13, rfl, by omega, by omega, for_range (n := r13.toNat) (fun i σ' H' => ∃ (cs' : List Int) (k' : Int) (v : V) (l : List St) (o3 : Option V), σ' = [some (.ref a), some (.ref M), some v, o3] ∧ Sx [a, c] H H' ∧ Dk H' a c cs' k' ∧ k ≤ k' ∧ k' ≤ k + 5 + 2 * i ∧ Tp H' v (.tuple (l.map St.d)) ∧ GL (3 + 4 * i) (1 + 2 * i) (16 + 2 * i) l)
        ⟨cs13, _, _, ls, _, rfl, s12.trans s13, D13, by omega, by omega, TT.keep (D12.tk s13), G10⟩ (fun i σ' H' hi h => ?_) (fun σ' H' h => ?_)⟩
      · obtain ⟨cs', k', v, l, o3, rfl, s14, D14, k14a, k14b, T14, G14⟩ := h
        have hi3 : i < 3 := by omega
        refine gnm ?_
        refine ⟨_, rfl, by show 6 ≤ sizeLine; decide, fun L hL => ?_⟩
        have nL := D14.nw hL
        refine ⟨a, c, cs', _, _, rfl, D14.new hL, by omega, .inl ⟨L, _, rfl, .inl (.inl upd_same), by simp, by show 6 ≤ 100000; decide, nL.1, nL.2, fun H15 cs15 x s15 D15 hx => ?_⟩⟩
        obtain ⟨kk, rfl, kk1, kk8⟩ : ∃ kk : Int, x = .int kk ∧ 1 ≤ kk ∧ kk ≤ 8 := by
          simp only [List.not_mem_nil, List.mem_cons, or_false] at hx
          rcases hx with rfl | rfl | rfl | rfl | rfl | rfl
          all_goals exact ⟨_, rfl, by decide, by decide⟩
        have T15 := (T14.new (o := .lst [.int 1, .int 1, .int 2, .int 2, .int 3, .int 8]) hL).keep ((D14.new (o := .lst [.int 1, .int 1, .int 2, .int 2, .int 3, .int 8]) hL).tk s15)
        have s15 := (s14.new (o := .lst [.int 1, .int 1, .int 2, .int 2, .int 3, .int 8]) hL).trans s15
        refine ⟨_, rfl, by show 3 ≤ sizeLine; decide, fun p1 hp1 => ⟨by show 1 ≤ sizeLine; decide, fun p2 hp2 => ?_⟩⟩
        refine gnm ?_
        have T15' : Tp H15 v (.tuple (Bk.ofL l).ds) := by rw [Bk.ofL_ds]; exact T15
        have T16 : Tp (upd (upd H15 p1 (.tup [.str "repeat", .int kk, v])) p2 (.tup [.ref p1])) (.ref p2) (.tuple ([St.rep kk (Bk.ofL l)].map St.d)) :=
          .tup upd_same (.cons (Tp.new (.tup upd_same (.cons (.str _) (.cons (.int _) (.cons (T15'.new hp1) .nil)))) hp2) .nil)
        have D16 := (D15.new (o := .tup [.str "repeat", .int kk, v]) hp1).new (o := .tup [.ref p1]) hp2
        have s16 := (s15.new (o := .tup [.str "repeat", .int kk, v]) hp1).new (o := .tup [.ref p1]) hp2
        generalize upd (upd H15 p1 (.tup [.str "repeat", .int kk, v])) p2 (.tup [.ref p1]) = H16 at T16 D16 s16 ⊢
        have zl := G14.z
        have G16 : GL (3 + 4 * i + 2) (1 + 2 * i + 1) (16 + 2 * i + 1) [St.rep kk (Bk.ofL l)] := GL.one (SG.rep kk1 kk8 (G14.bg (by omega)) (by omega)) (by show 1 + (Bk.ofL l).sz ≤ _; rw [Bk.ofL_sz]; omega)
        refine ⟨_, rfl, a, c, cs15, _, 4, rfl, D16, by decide, by decide, by omega, fun H17 cs17 r17 s17 D17 _ _ => ?_⟩
        have T17 := T16.keep (D16.tk s17)
        have s17 := s16.trans s17
        have T17' : Tp H17 (.ref p2) (.tuple (Bk.ofL [St.rep kk (Bk.ofL l)]).ds) := by rw [Bk.ofL_ds]; exact T17
        refine ⟨rfl, _, rfl, ite2 (fun _ => ?_) (fun _ => ?_)⟩
        · refine ⟨by show 3 ≤ sizeLine; decide, fun p1 hp1 => ⟨by show 0 ≤ sizeLine; decide, fun p2 hp2 => ⟨_, rfl, by show 4 ≤ sizeLine; decide, fun p3 hp3 => ⟨by show 1 ≤ sizeLine; decide, fun p4 hp4 => ?_⟩⟩⟩⟩
          have n1 := Sx.n0 (o := .tup [.str "less", .int 1, .str "n"]) hp1
          have u1 : Tp (upd H17 p1 (.tup [.str "less", .int 1, .str "n"])) (.ref p1) (Ts.less (.int 1) (.name "n")).d := .tup upd_same (.cons (.str _) (.cons (.int _) (.cons (.str _) .nil)))
          generalize upd H17 p1 (.tup [.str "less", .int 1, .str "n"]) = H18 at hp2 hp3 hp4 n1 u1 ⊢
          have n2 := n1.new (o := .tup []) hp2
          have u2 : Tp (upd H18 p2 (.tup [])) (.ref p2) (.tuple Bk.nil.ds) := .tup upd_same .nil
          have u1 := u1.new (o := .tup []) hp2
          generalize upd H18 p2 (.tup []) = H18 at hp3 hp4 n2 u1 u2 ⊢
          have v3 := T17'.keep n2.tk0
          refine ⟨cs17, _, _, [St.ite (.less (.int 1) (.name "n")) .nil (Bk.ofL [St.rep kk (Bk.ofL l)])], _, rfl, ((s17.trans n2.nil).new hp3).new hp4, ((D17.same n2).new hp3).new hp4, ?_, ?_, .tup upd_same (.cons (Tp.new (.tup upd_same (.cons (.str _) (.cons (u1.new hp3) (.cons (u2.new hp3) (.cons (v3.new hp3) .nil))))) hp4) .nil), ?_⟩
          · omega
          · omega
          · refine (GL.one (n := 3 + 4 * i + 2 + 2) (d := 1 + 2 * i + 1 + 1) (z := 16 + 2 * i + 2) (SG.ite (t := .less (.int 1) (.name "n")) ⟨at1, nmN⟩ (Sh.mono (n := 1) (.tup (.cons (.str (by decide +kernel)) (.cons (.int 1) (.cons (.str nmN.ok) .nil)))) (by omega)) (BG.nil _ _) (G16.bg (by omega)) (by omega)) ?_).mono (by omega) (by omega) (by omega)
            show 1 + 0 + (Bk.ofL [St.rep kk (Bk.ofL l)]).sz ≤ _
            have := G16.z
            rw [Bk.ofL_sz]
            omega
        · exact ⟨cs17, _, _, _, _, rfl, s17, D17, by omega, by omega, T17, G16.mono (by omega) (by omega) (by omega)⟩
      · obtain ⟨cs', k', v, l, o3, rfl, s14, D14, k14a, k14b, T14, G14⟩ := h
        exact ⟨cs', k', v, l, o3, rfl, s14, D14, k14a, by omega, T14, G14.mono (by omega) (by omega) (by omega)⟩
    · rintro _ H13 ⟨cs', k', v, l, o3, rfl, s14, D14, k14a, k14b, T14, G14⟩
      exact ⟨v, rfl, q H13 cs' k' v l s14 D14 k14a k14b T14 G14⟩
end
theorem rep_tp {K : PySem.W.Frag} {H : Hp} {l : Addr} {x : V} {d : PyData} {m : Int} {Q : VK} (h : H l = some (.tup [x])) (t : Tp H x d) (h1 : 1 ≤ m) (h2 : m ≤ 10000)
    (q : ∀ H' z, Sx [] H H' → Tp H' z (.tuple (List.replicate m.toNat d)) → Q z H') : rRepW K (.ref l) (.int m) H Q := by
  refine ⟨l, m, [x], rfl, rfl, SqT.of h, by simp, h1, h2, by show 1 ≤ 1000; decide, fun e => ?_, fun _ p hp => ?_⟩
  · subst e
    exact q H _ (Sx.refl _) (.tup h (.cons t .nil))
  · rw [flat1]
    exact q _ _ (Sx.n0 hp) (.tup upd_same ((tp_rpt t _).new hp))
theorem ofL_mk {l : List St} : PyData.tuple (l.map St.d) = .tuple (Bk.ofL l).ds := by rw [Bk.ofL_ds]
abbrev st5 : St := .ite (.not (.rest (.name "n") 2 0)) .nil .nil
abbrev st6 : St := .ite (.less (.name "n") (.int 2)) (.cons .stop .nil) .nil
theorem sg5 : SG 3 1 st5 := SG.ite (n := 1) (d := 1) (t := .not (.rest (.name "n") 2 0)) ⟨by decide, nmN, by decide, by decide, by decide, by decide⟩ (sh_rest nmN 2 0) (.nil 1 0) (.nil 1 0) (by decide)
theorem sg6 : SG 3 1 st6 := SG.ite (n := 1) (d := 1) (t := .less (.name "n") (.int 2)) ⟨nmN, by decide, by decide⟩ (Sh.mono (n := 1) (.tup (.cons (.str (by decide +kernel)) (.cons (.str nmN.ok) (.cons (.int 2) .nil)))) (by decide)) (BG.of (l := [.stop]) (by decide) fun s hs => by rw [List.mem_singleton.mp hs]; exact .stop 0) (.nil 1 0) (by decide)
section
variable {w : World} {P : Program} {K : PySem.W.Frag} {mg : Str → Option Value} {base : Heap}
theorem ok_lup {f fD fO : Addr} {fd fdD fdO : FuncData} (F : Fun K "_law_up_to" "_law_up_to" sUpTo f fd) (F_draw : Fun K "_law_draw" "_law_draw" sDraw fD fdD) (F_one : Fun K "_law_one" "_law_one" sOne fO fdO)
    (G_draw : FnOk P w K mg base CX0 1 fD fdD ["_law_deck_here", "_law_many"] spDraw) (G_one : FnOk P w K mg base CX0 2 fO fdO ["_law_deck_here", "_law_items"] (spOne K))
    (b_draw : Binds K fdD ["_law_deck_here", "_law_many"] []) (b_one : Binds K fdO ["_law_deck_here", "_law_items"] [])
    (m_draw : mg "_law_draw" = some (.ref fD)) (m_one : mg "_law_one" = some (.ref fO)) (z_range : mg "range" = none) :
    FnOk P w K mg base CX0 3 f fd ["_law_deck_here"] (spGen 15 7 31 3) := by
  refine F.ok scUpTo (fun vs H Q E h => ?_) (fun cdv A outer s H vs Q E hr h => ?_)
  · obtain ⟨a, c, cs, k, rfl, _⟩ := h
    rfl
  · obtain ⟨a, c, cs, k, rfl, D, hk, q⟩ := h
    refine ⟨_, (pss_cons (ps_par (i := 1) (j := 2) (by rfl) scUpTo.nd rfl rfl (by decide) rfl rfl (pa_cons (pe_call G_draw (hr.mono (by omega)) (by rfl) m_draw F_draw.kp b_draw .nil pass0 (pa_cons (pv 0) (pa_cons pe_int pa_nil))) (pa_cons (pe_call G_draw (hr.mono (by omega)) (by rfl) m_draw F_draw.kp b_draw .nil pass0 (pa_cons (pv 0) (pa_cons pe_int pa_nil))) pa_nil)) (by rfl))
      (pss_cons (ps_par (i := 3) (j := 4) (by rfl) scUpTo.nd rfl rfl (by decide) rfl rfl (pa_cons (pe_op op_repW (pe_tup (pa_cons (pe_tup (pa_cons pe_str (pa_cons pe_int pa_nil))) pa_nil)) (pe_op op_add pe_int (pv 2))) (pa_cons (pe_call G_one (hr.mono (by omega)) (by rfl) m_one F_one.kp b_one .nil pass0 (pa_cons (pv 0) (pa_cons (pe_lst (pa_cons pe_int (pa_cons pe_int pa_nil))) pa_nil))) pa_nil)) (by rfl))
      (pss_cons (ps_if (pt_cmpR op_eq (pv 1) pe_int (nomark _)) (pss_one (ps_ret (pe_op op_repW (pe_tup (pa_cons (pe_tup (pa_cons pe_str (pa_cons pe_int pa_nil))) pa_nil)) (pe_op op_add pe_int (pv 2))))) pss_nil)
      (pss_cons (ps_if (pt_cmpR op_eq (pv 1) pe_int (nomark _)) (pss_one (ps_ret (pe_op op_catA (pe_tup (pa_cons (pe_tup (pa_cons pe_str (pa_cons pe_int (pa_cons (pe_op op_repW (pe_tup (pa_cons (pe_tup (pa_cons pe_str (pa_cons pe_int pa_nil))) pa_nil)) pe_int) pa_nil)))) pa_nil)) (pv 3)))) pss_nil)
      (pss_cons (ps_if (pt_cmpR op_eq (pv 1) pe_int (nomark _)) (pss_one (ps_ret (pe_tup (pa_cons (pe_tup (pa_cons pe_str (pa_cons (pe_op op_add (pe_op op_fdivN pe_int (pv 4)) (pv 2)) (pa_cons (pe_op op_repW (pe_tup (pa_cons (pe_tup (pa_cons pe_str (pa_cons (pe_tup (pa_cons pe_str (pa_cons (pe_tup (pa_cons pe_str (pa_cons pe_str (pa_cons pe_int (pa_cons pe_int pa_nil))))) pa_nil))) (pa_cons (pe_tup pa_nil) (pa_cons (pe_tup pa_nil) pa_nil))))) pa_nil)) (pv 4)) pa_nil)))) pa_nil)))) pss_nil)
      (pss_cons (ps_if (pt_cmpR op_eq (pv 1) pe_int (nomark _)) (pss_one (ps_ret (pe_tup (pa_cons (pe_tup (pa_cons pe_str (pa_cons (pe_op op_add (pe_op op_fdivN pe_int (pv 4)) (pv 2)) (pa_cons (pe_op op_repW (pe_tup (pa_cons (pe_tup (pa_cons pe_str (pa_cons (pe_tup (pa_cons pe_str (pa_cons pe_str (pa_cons pe_int pa_nil)))) (pa_cons (pe_tup (pa_cons (pe_tup (pa_cons pe_str pa_nil)) pa_nil)) (pa_cons (pe_tup pa_nil) pa_nil))))) pa_nil)) (pv 4)) pa_nil)))) pa_nil)))) pss_nil)
      (pss_cons (ps_set (i := 5) scUpTo.nd rfl (by first | exact Or.inl rfl | exact Or.inr rfl) (pe_tup (pa_cons (pe_tup (pa_cons pe_str pa_nil)) pa_nil)))
      (C8.pss_cut (ps_for PassesOwn.never rfl (pi_range1 (by rfl) z_range (pa_cons (pe_op op_add pe_int (pv 2)) pa_nil)) (pg_name (i := 6) scUpTo.nd rfl (by first | exact Or.inl rfl | exact Or.inr rfl)) (pss_one (ps_set (i := 5) scUpTo.nd rfl (by first | exact Or.inl rfl | exact Or.inr rfl) (pe_tup (pa_cons (pe_tup (pa_cons pe_str (pa_cons pe_int pa_nil))) (pa_cons (pe_tup (pa_cons pe_str (pa_cons pe_int (pa_cons (pv 5) pa_nil)))) pa_nil))))))
      (pss_one (ps_ret (pv 5))))))))))), ?_⟩
    have KBe : KB = 1099511627776 := rfl
    refine ⟨_, rfl, a, c, cs, k, 5, rfl, D, by decide, by decide, by omega, fun H1 cs1 wy s1 D1 w0 w1 => ?_⟩
    refine ⟨_, rfl, a, c, cs1, k + 1, 2, rfl, D1, by decide, by decide, by omega, fun H2 cs2 mo s2 D2 m0 m1 => ?_⟩
    refine ⟨_, _, rfl, ?_⟩
    have s2 := s1.trans s2
    refine ⟨by show 2 ≤ sizeLine; decide, fun p1 hp1 => ⟨by show 1 ≤ sizeLine; decide, fun p2 hp2 => ?_⟩⟩
    have t1 : Tp (upd (upd H2 p1 (.tup [.str "pay", .int 1])) p2 (.tup [.ref p1])) (.ref p1) st1.d := Tp.new (.tup upd_same (.cons (.str _) (.cons (.int _) .nil))) hp2
    have n1 : Sx [] H2 (upd (upd H2 p1 (.tup [.str "pay", .int 1])) p2 (.tup [.ref p1])) := (Sx.n0 hp1).new hp2
    refine ⟨_, rfl, 5, mo, rfl, rfl, rep_tp upd_same t1 (by omega) (by omega) (fun H3 z3 n3 t3 => ?_)⟩
    have n3 := n1.trans n3
    have D3 := D2.same n3
    have s3 := s2.trans n3.nil
    clear t1 n1 n3
    refine ⟨_, rfl, by show 2 ≤ sizeLine; decide, fun L hL => ?_⟩
    have nL := D3.nw hL
    refine ⟨a, c, cs2, _, _, rfl, D3.new hL, by omega, .inl ⟨L, _, rfl, .inl (.inl upd_same), by simp, by show 2 ≤ 100000; decide, nL.1, nL.2, fun H4 cs4 x s4 D4 hx => ?_⟩⟩
    obtain ⟨ag, rfl, ag1, ag2⟩ : ∃ ag : Int, x = .int ag ∧ 1 ≤ ag ∧ ag ≤ 2 := by
      simp only [List.not_mem_nil, List.mem_cons, or_false] at hx
      rcases hx with rfl | rfl
      all_goals exact ⟨_, rfl, by decide, by decide⟩
    have t4 := (t3.new (o := .lst [.int 1, .int 2]) hL).keep ((D3.new (o := .lst [.int 1, .int 2]) hL).tk s4)
    have s4 := (s3.new (o := .lst [.int 1, .int 2]) hL).trans s4
    refine ⟨_, _, rfl, ?_⟩
    clear t3 D3 s3 nL hL
    have pays : ∀ {H : Hp} {z : V} {m : Nat}, Tp H z (.tuple (List.replicate m st1.d)) → Tp H z (.tuple ((List.replicate m st1).map St.d)) := fun {H z m} t => by rw [List.map_replicate]; exact t
    refine ⟨_, rfl, rfl, _, rfl, ite2 (fun _ => ?_) (fun _ => ?_)⟩
    -- payments
    · refine ⟨by show 2 ≤ sizeLine; decide, fun p1 hp1 => ⟨by show 1 ≤ sizeLine; decide, fun p2 hp2 => ?_⟩⟩
      have t1 : Tp (upd (upd H4 p1 (.tup [.str "pay", .int 1])) p2 (.tup [.ref p1])) (.ref p1) st1.d := Tp.new (.tup upd_same (.cons (.str _) (.cons (.int _) .nil))) hp2
      have n1 : Sx [] H4 (upd (upd H4 p1 (.tup [.str "pay", .int 1])) p2 (.tup [.ref p1])) := (Sx.n0 hp1).new hp2
      refine ⟨_, rfl, 24, mo, rfl, rfl, rep_tp upd_same t1 (by omega) (by omega) (fun H5 z5 n5 t5 => ?_)⟩
      exact q H5 cs4 _ z5 _ (s4.trans (n1.trans n5).nil) (D4.same (n1.trans n5)) (by omega) (by omega) (pays t5) (GL.rpt ((sg1 7).mono (by decide) (by decide)) _ (by show (24 + mo).toNat * 1 ≤ 31; omega))
    refine ⟨_, rfl, rfl, _, rfl, ite2 (fun _ => ?_) (fun _ => ?_)⟩
    -- a repeat, and payments
    · refine ⟨by show 2 ≤ sizeLine; decide, fun p1 hp1 => ⟨by show 1 ≤ sizeLine; decide, fun p2 hp2 => ?_⟩⟩
      have t1 : Tp (upd (upd H4 p1 (.tup [.str "pay", .int 1])) p2 (.tup [.ref p1])) (.ref p1) st1.d := Tp.new (.tup upd_same (.cons (.str _) (.cons (.int _) .nil))) hp2
      have n1 : Sx [] H4 (upd (upd H4 p1 (.tup [.str "pay", .int 1])) p2 (.tup [.ref p1])) := (Sx.n0 hp1).new hp2
      dsimp only [tC]
      refine rep_tp (m := 6) upd_same t1 (by decide) (by decide) (fun H5 z5 n5 t5 => ?_)
      refine ⟨by show 3 ≤ sizeLine; decide, fun p3 hp3 => ⟨by show 1 ≤ sizeLine; decide, fun p4 hp4 => ?_⟩⟩
      have n5 := n1.trans n5
      have n6 := (n5.new (o := .tup [.str "repeat", .int 4, z5]) hp3).new (o := .tup [.ref p3]) hp4
      have e6 : (6 : Int).toNat = 6 := rfl
      rw [e6] at t5
      have g6 : GL 1 0 6 (List.replicate 6 st1) := GL.rpt (sg1 0) 6 (by decide)
      have t6 : Tp (upd (upd H5 p3 (.tup [.str "repeat", .int 4, z5])) p4 (.tup [.ref p3])) (.ref p4) (.tuple ([St.rep 4 (Bk.ofL (List.replicate 6 st1))].map St.d)) := by
        have t5' : Tp H5 z5 (.tuple (Bk.ofL (List.replicate 6 st1)).ds) := by rw [← ofL_mk]; exact pays t5
        exact .tup upd_same (.cons (Tp.new (.tup upd_same (.cons (.str _) (.cons (.int _) (.cons (t5'.new hp3) .nil)))) hp4) .nil)
      refine ⟨_, rfl, cat_tp t6 (t4.keep n6.tk0) (by rw [List.length_map, List.length_replicate]; show 1 + (5 + mo).toNat ≤ 16777216; omega) (fun H7 z7 n7 _ t7 => ?_)⟩
      have n7 := n6.trans n7
      refine q H7 cs4 _ z7 ([St.rep 4 (Bk.ofL (List.replicate 6 st1))] ++ List.replicate (5 + mo).toNat st1) (s4.trans n7.nil) (D4.same n7) (by omega) (by omega) (by rw [List.map_append, List.map_replicate]; exact t7) ?_
      refine (GL.app (n := 3) (d := 7) (z := 7) (y := 6) (GL.one ((SG.rep (by decide) (by decide) (g6.bg (by decide)) (by decide)).mono (by decide) (by decide)) (by show 1 + (Bk.ofL (List.replicate 6 st1)).sz ≤ 7; decide)) (GL.rpt ((sg1 7).mono (by decide) (by decide)) _ (by show (5 + mo).toNat * 1 ≤ 6; omega))).mono (by decide) (by decide) (by decide)
    have dv : 1 ≤ (2 : Int).fdiv ag + mo ∧ (2 : Int).fdiv ag + mo ≤ 8 := by
      rcases (show ag = 1 ∨ ag = 2 by omega) with rfl | rfl
      · rw [show (2 : Int).fdiv 1 = 2 from rfl]; omega
      · rw [show (2 : Int).fdiv 2 = 1 from rfl]; omega
    refine ⟨_, rfl, rfl, _, rfl, ite2 (fun _ => ?_) (fun _ => ?_)⟩
    -- rests
    · refine ⟨_, rfl, 2, ag, rfl, rfl, ⟨by omega, by omega⟩, _, rfl, _, mo, rfl, rfl, ?_⟩
      refine ⟨by show 4 ≤ sizeLine; decide, fun p1 hp1 => ⟨by show 2 ≤ sizeLine; decide, fun p2 hp2 => ⟨by show 0 ≤ sizeLine; decide, fun p3 hp3 => ⟨by show 0 ≤ sizeLine; decide, fun p4 hp4 => ⟨by show 4 ≤ sizeLine; decide, fun p5 hp5 => ⟨by show 1 ≤ sizeLine; decide, fun p6 hp6 => ?_⟩⟩⟩⟩⟩⟩
      have n1 := Sx.n0 (o := .tup [.str "rest", .str "n", .int 2, .int 0]) hp1
      have u1 : Tp (upd H4 p1 (.tup [.str "rest", .str "n", .int 2, .int 0])) (.ref p1) (Ts.rest (.name "n") 2 0).d := .tup upd_same (.cons (.str _) (.cons (.str _) (.cons (.int _) (.cons (.int _) .nil))))
      generalize upd H4 p1 (.tup [.str "rest", .str "n", .int 2, .int 0]) = H5 at hp2 hp3 hp4 hp5 hp6 n1 u1 ⊢
      have n2 := n1.new (o := .tup [.str "not", .ref p1]) hp2
      have u2 : Tp (upd H5 p2 (.tup [.str "not", .ref p1])) (.ref p2) (Ts.not (.rest (.name "n") 2 0)).d := .tup upd_same (.cons (.str _) (.cons (u1.new hp2) .nil))
      generalize upd H5 p2 (.tup [.str "not", .ref p1]) = H5 at hp3 hp4 hp5 hp6 n2 u2 ⊢
      have n3 := n2.new (o := .tup []) hp3
      have u3 : Tp (upd H5 p3 (.tup [])) (.ref p3) (.tuple Bk.nil.ds) := .tup upd_same .nil
      have u2 := u2.new (o := .tup []) hp3
      generalize upd H5 p3 (.tup []) = H5 at hp4 hp5 hp6 n3 u2 u3 ⊢
      have n4 := n3.new (o := .tup []) hp4
      have u4 : Tp (upd H5 p4 (.tup [])) (.ref p4) (.tuple Bk.nil.ds) := .tup upd_same .nil
      have u2 := u2.new (o := .tup []) hp4
      have u3 := u3.new (o := .tup []) hp4
      generalize upd H5 p4 (.tup []) = H5 at hp5 hp6 n4 u2 u3 u4 ⊢
      have n5 := n4.new (o := .tup [.str "if", .ref p2, .ref p3, .ref p4]) hp5
      have u5 : Tp (upd H5 p5 (.tup [.str "if", .ref p2, .ref p3, .ref p4])) (.ref p5) st5.d := .tup upd_same (.cons (.str _) (.cons (u2.new hp5) (.cons (u3.new hp5) (.cons (u4.new hp5) .nil))))
      generalize upd H5 p5 (.tup [.str "if", .ref p2, .ref p3, .ref p4]) = H5 at hp6 n5 u5 ⊢
      have n6 := n5.new (o := .tup [.ref p5]) hp6
      refine ⟨_, rfl, rep_tp upd_same (u5.new hp6) ag1 (by omega) (fun H7 z7 n7 t7 => ?_)⟩
      have n7 := n6.trans n7
      refine ⟨by show 3 ≤ sizeLine; decide, fun q1 hq1 => ⟨by show 1 ≤ sizeLine; decide, fun q2 hq2 => ?_⟩⟩
      have g7 : GL 3 1 2 (List.replicate ag.toNat st5) := GL.rpt sg5 _ (by show ag.toNat * 1 ≤ 2; omega)
      have t7' : Tp H7 z7 (.tuple (Bk.ofL (List.replicate ag.toNat st5)).ds) := by rw [← ofL_mk, List.map_replicate]; exact t7
      have n8 := (n7.new (o := .tup [.str "repeat", .int ((2 : Int).fdiv ag + mo), z7]) hq1).new (o := .tup [.ref q1]) hq2
      refine q _ cs4 _ _ [St.rep ((2 : Int).fdiv ag + mo) (Bk.ofL (List.replicate ag.toNat st5))] (s4.trans n8.nil) (D4.same n8) (by omega) (by omega) (.tup upd_same (.cons (Tp.new (.tup upd_same (.cons (.str _) (.cons (.int _) (.cons (t7'.new hq1) .nil)))) hq2) .nil)) ?_
      exact (GL.one (z := 3) (SG.rep dv.1 dv.2 (g7.bg (by decide)) (by decide)) (by show 1 + (Bk.ofL _).sz ≤ 3; rw [Bk.ofL_sz]; have := g7.z; omega)).mono (by decide) (by decide) (by decide)
    refine ⟨_, rfl, rfl, _, rfl, ite2 (fun _ => ?_) (fun _ => ?_)⟩
    -- comparings
    · refine ⟨_, rfl, 2, ag, rfl, rfl, ⟨by omega, by omega⟩, _, rfl, _, mo, rfl, rfl, ?_⟩
      refine ⟨by show 3 ≤ sizeLine; decide, fun p1 hp1 => ⟨by show 1 ≤ sizeLine; decide, fun p2 hp2 => ⟨by show 1 ≤ sizeLine; decide, fun p3 hp3 => ⟨by show 0 ≤ sizeLine; decide, fun p4 hp4 => ⟨by show 4 ≤ sizeLine; decide, fun p5 hp5 => ⟨by show 1 ≤ sizeLine; decide, fun p6 hp6 => ?_⟩⟩⟩⟩⟩⟩
      have n1 := Sx.n0 (o := .tup [.str "less", .str "n", .int 2]) hp1
      have u2 : Tp (upd H4 p1 (.tup [.str "less", .str "n", .int 2])) (.ref p1) (Ts.less (.name "n") (.int 2)).d := .tup upd_same (.cons (.str _) (.cons (.str _) (.cons (.int _) .nil)))
      generalize upd H4 p1 (.tup [.str "less", .str "n", .int 2]) = H5 at hp2 hp3 hp4 hp5 hp6 n1 u2 ⊢
      have n2 := n1.new (o := .tup [.str "stop"]) hp2
      have u1 : Tp (upd H5 p2 (.tup [.str "stop"])) (.ref p2) (St.stop).d := .tup upd_same (.cons (.str _) .nil)
      have u2 := u2.new (o := .tup [.str "stop"]) hp2
      generalize upd H5 p2 (.tup [.str "stop"]) = H5 at hp3 hp4 hp5 hp6 n2 u1 u2 ⊢
      have n3 := n2.new (o := .tup [.ref p2]) hp3
      have u3 : Tp (upd H5 p3 (.tup [.ref p2])) (.ref p3) (.tuple (Bk.cons .stop .nil).ds) := .tup upd_same (.cons (u1.new hp3) .nil)
      have u2 := u2.new (o := .tup [.ref p2]) hp3
      generalize upd H5 p3 (.tup [.ref p2]) = H5 at hp4 hp5 hp6 n3 u2 u3 ⊢
      have n4 := n3.new (o := .tup []) hp4
      have u4 : Tp (upd H5 p4 (.tup [])) (.ref p4) (.tuple Bk.nil.ds) := .tup upd_same .nil
      have u2 := u2.new (o := .tup []) hp4
      have u3 := u3.new (o := .tup []) hp4
      generalize upd H5 p4 (.tup []) = H5 at hp5 hp6 n4 u2 u3 u4 ⊢
      have n5 := n4.new (o := .tup [.str "if", .ref p1, .ref p3, .ref p4]) hp5
      have u5 : Tp (upd H5 p5 (.tup [.str "if", .ref p1, .ref p3, .ref p4])) (.ref p5) st6.d := .tup upd_same (.cons (.str _) (.cons (u2.new hp5) (.cons (u3.new hp5) (.cons (u4.new hp5) .nil))))
      generalize upd H5 p5 (.tup [.str "if", .ref p1, .ref p3, .ref p4]) = H5 at hp6 n5 u5 ⊢
      have n6 := n5.new (o := .tup [.ref p5]) hp6
      refine ⟨_, rfl, rep_tp upd_same (u5.new hp6) ag1 (by omega) (fun H7 z7 n7 t7 => ?_)⟩
      have n7 := n6.trans n7
      refine ⟨by show 3 ≤ sizeLine; decide, fun q1 hq1 => ⟨by show 1 ≤ sizeLine; decide, fun q2 hq2 => ?_⟩⟩
      have g7 : GL 3 1 4 (List.replicate ag.toNat st6) := GL.rpt sg6 _ (by show ag.toNat * 2 ≤ 4; omega)
      have t7' : Tp H7 z7 (.tuple (Bk.ofL (List.replicate ag.toNat st6)).ds) := by rw [← ofL_mk, List.map_replicate]; exact t7
      have n8 := (n7.new (o := .tup [.str "repeat", .int ((2 : Int).fdiv ag + mo), z7]) hq1).new (o := .tup [.ref q1]) hq2
      refine q _ cs4 _ _ [St.rep ((2 : Int).fdiv ag + mo) (Bk.ofL (List.replicate ag.toNat st6))] (s4.trans n8.nil) (D4.same n8) (by omega) (by omega) (.tup upd_same (.cons (Tp.new (.tup upd_same (.cons (.str _) (.cons (.int _) (.cons (t7'.new hq1) .nil)))) hq2) .nil)) ?_
      exact (GL.one (z := 5) (SG.rep dv.1 dv.2 (g7.bg (by decide)) (by decide)) (by show 1 + (Bk.ofL _).sz ≤ 5; rw [Bk.ofL_sz]; have := g7.z; omega)).mono (by decide) (by decide) (by decide)
    -- depth
    refine ⟨by show 1 ≤ sizeLine; decide, fun p1 hp1 => ⟨by show 1 ≤ sizeLine; decide, fun p2 hp2 => ?_⟩⟩
    refine gnm ?_
    have n5 := (Sx.n0 (o := .tup [.str "stop"]) hp1).new (o := .tup [.ref p1]) hp2
    have t5 : Tp (upd (upd H4 p1 (.tup [.str "stop"])) p2 (.tup [.ref p1])) (.ref p2) (.tuple ([St.stop].map St.d)) := .tup upd_same (.cons (Tp.new (.tup upd_same (.cons (.str _) .nil)) hp2) .nil)
    generalize upd (upd H4 p1 (.tup [.str "stop"])) p2 (.tup [.ref p1]) = H5 at n5 t5 ⊢
    have D5 := D4.same n5
    have s5 := s4.trans n5.nil
    refine ⟨fun σ H' => ∃ (v : V) (l : List St) (o6 : Option V), σ = [some (.ref a), some (.int wy), some (.int mo), some z3, some (.int ag), some v, o6] ∧ Sx [] H5 H' ∧ Tp H' v (.tuple (l.map St.d)) ∧ GL 15 7 31 l, ?_, ?_⟩
    · refine ⟨_, rfl, 3, mo, rfl, rfl, _, rfl, by omega, by omega, for_range (n := (3 + mo).toNat) (fun i σ H' => ∃ (v : V) (l : List St) (o6 : Option V), σ = [some (.ref a), some (.int wy), some (.int mo), some z3, some (.int ag), some v, o6] ∧ Sx [] H5 H' ∧ Tp H' v (.tuple (l.map St.d)) ∧ GL (1 + 2 * i) i (1 + 2 * i) l)
        ⟨_, [.stop], _, rfl, Sx.refl _, t5, GL.one (.stop 0) (by decide)⟩ (fun i σ' H' hi h => ?_) (fun σ' H' h => ?_)⟩
      · obtain ⟨v, l, o6, rfl, s6, t6, g6⟩ := h
        refine gnm ?_
        refine ⟨by show 2 ≤ sizeLine; decide, fun p1 hp1 => ⟨_, rfl, by show 3 ≤ sizeLine; decide, fun p2 hp2 => ⟨by show 2 ≤ sizeLine; decide, fun p3 hp3 => ?_⟩⟩⟩
        refine gnm ?_
        have t6' : Tp H' v (.tuple (Bk.ofL l).ds) := by rw [← ofL_mk]; exact t6
        have n1 := Sx.n0 (o := .tup [.str "pay", .int 1]) hp1
        have u1 : Tp (upd H' p1 (.tup [.str "pay", .int 1])) (.ref p1) st1.d := .tup upd_same (.cons (.str _) (.cons (.int _) .nil))
        have u0 := t6'.new (o := .tup [.str "pay", .int 1]) hp1
        generalize upd H' p1 (.tup [.str "pay", .int 1]) = H7 at hp2 hp3 n1 u1 u0 ⊢
        have n2 := n1.new (o := .tup [.str "repeat", .int 1, v]) hp2
        have u2 : Tp (upd H7 p2 (.tup [.str "repeat", .int 1, v])) (.ref p2) (St.rep 1 (Bk.ofL l)).d := .tup upd_same (.cons (.str _) (.cons (.int _) (.cons (u0.new hp2) .nil)))
        have u1 := u1.new (o := .tup [.str "repeat", .int 1, v]) hp2
        have zl := g6.z
        refine ⟨_, [st1, .rep 1 (Bk.ofL l)], _, rfl, s6.trans (n2.new hp3), .tup upd_same (.cons (u1.new hp3) (.cons (u2.new hp3) .nil)), fun s hs => ?_, ?_⟩
        · rcases List.mem_cons.1 hs with rfl | hs
          · exact (sg1 _).mono (by omega) (Nat.le_refl _)
          · rw [List.mem_singleton.mp hs]
            exact (SG.rep (by decide) (by decide) (g6.bg (by omega)) (by omega)).mono (by omega) (by omega)
        · show 1 + (1 + (Bk.ofL l).sz + 0) ≤ _
          rw [Bk.ofL_sz]
          omega
      · obtain ⟨v, l, o6, rfl, s6, t6, g6⟩ := h
        exact ⟨v, l, _, rfl, s6, t6, g6.mono (by omega) (by omega) (by omega)⟩
    · rintro _ H6 ⟨v, l, o6, rfl, s6, t6, g6⟩
      exact ⟨v, rfl, q H6 cs4 _ v l (s5.trans s6.nil) (D5.same s6) (by omega) (by omega) t6 g6⟩
end
/-! ### repr of any data -/
structure RpA (K : PySem.W.Frag) (H : Hp) (v : V) (d : PyData) : Prop where
  r1 : Dp K H v d
  r2 : d.showable = true
  r3 : d.hasDict = false
  r4 : d.depth ≤ 60
  r5 : d.shown.length ≤ 16777216
theorem RpA.of {K : PySem.W.Frag} {H : Hp} {v : V} {d : PyData} {k n : Nat} (h : Dp K H v d) (z : Shw k n d) (hk : k ≤ 60) (hn : n ≤ 8000) : RpA K H v d :=
  ⟨h, z.s, z.h, by have := z.dp; omega, z.len hn⟩
def rReprA (K : PySem.W.Frag) : List V → Hp → VK → Prop := fun xs H Q => ∃ x d, xs = [x] ∧ RpA K H x d ∧ Q (.str d.shown) H
theorem call_reprA {X : Cx} (hgd : X.A.guards = some []) (hu : X.A.units + 64 < cLine) : CallR X (.builtin "repr") (rReprA X.K) := by
  intro pins s σ H xs us Q I r h0; have h := h0
  obtain ⟨x, d, rfl, ⟨hd, hs, hnd, hdp, hz⟩, q⟩ := h
  rcases vals1 r with ⟨u, rfl, rx⟩
  have fin : ∀ {as : List Addr} {a : Addr}, Reads s.heap (.ref a) d as → wpAny (model X.prog X.w) X.A (call (.builtin "repr") [.ref a]) (EP X pins σ Q) X.xe s := fun {as a} rd =>
    repr_of_reads' rd hs (fun h => by rw [hnd] at h; cases h) hgd (by omega) (fun _ _ e => e) (fun h' u' tk hk => ⟨.str d.shown, H, I.kept hk, ⟨u', rfl⟩, q⟩) hz
  obtain ⟨as, rd⟩ := Dp.reads I d x u hd rx
  cases hd with
  | non =>
    cases rx
    have e : PyData.shown .none = "None" := by simp only [PyData.shown]
    rw [e] at q
    exact PySem.P.repr_of_none ⟨.str _, H, I.tok _, ⟨_, rfl⟩, q⟩
  | bl b =>
    cases rx
    have e : (PyData.bool b).shown = (if b then "True" else "False" : Str) := by cases b <;> simp [PyData.shown]
    rw [e] at q
    exact PySem.P.repr_of_bool ⟨.str _, H, I.tok _, ⟨_, rfl⟩, q⟩
  | int i =>
    obtain ⟨t, rfl⟩ := rx
    have hi : i.natAbs.log2 < 1920 := by
      have : (PyData.int i).showable = true := hs
      simpa only [PyData.showable, decide_eq_true_eq] using this
    have e : (PyData.int i).shown = (toString i : String) := by simp only [PyData.shown]
    rw [e] at q
    exact PySem.P.repr_of_int hi ⟨.str _, H, I.tok _, ⟨_, rfl⟩, q⟩
  | str z =>
    obtain ⟨t, rfl⟩ := rx
    have e : (PyData.str z).shown = reprText z := by simp only [PyData.shown]
    rw [e] at q hz
    exact PySem.P.repr_of_str ⟨.str _, H, I.tok _, ⟨_, rfl⟩, q⟩ hz
  | lst hq ha => cases rx; exact fin rd
  | tup hq ha => cases rx; exact fin rd
/-- neither lists nor tables are tuples -/
theorem tk_ex {H H' : Hp} {ex : List Addr} (s : Sx ex H H') (h : ∀ b ∈ ex, ∀ xs, H b ≠ some (.tup xs)) : Tk H H' := fun b xs e => s b _ (fun hb => h b hb xs e) e
theorem tab_at {PW PT : Addr} {H : Hp} (hT : LamX.Tabs (TL PW PT) H) : ∀ b ∈ [PW, PT], ∃ ps, H b = some (.tbl ps) := fun b hb => by
  rcases List.mem_cons.1 hb with rfl | hb
  · obtain ⟨ps, hP, _⟩ := hT _ (List.mem_cons_self ..)
    exact ⟨ps, hP⟩
  · obtain ⟨ps, hP, _⟩ := hT _ (List.mem_cons_of_mem _ (List.mem_cons_self ..))
    rw [List.mem_singleton.mp hb]
    exact ⟨ps, hP⟩
theorem ex_nt {PW PT D c : Addr} {H : Hp} {cs : List Int} {k : Int} (DK : Dk H D c cs k) (hT : LamX.Tabs (TL PW PT) H) : ∀ b ∈ [D, c, PW, PT], ∀ xs, H b ≠ some (.tup xs) := fun b hb xs e => by
  rcases List.mem_cons.1 hb with rfl | hb
  · rw [DK.ha] at e; cases e
  · rcases List.mem_cons.1 hb with rfl | hb
    · rw [DK.hc] at e; cases e
    · obtain ⟨ps, hP⟩ := tab_at hT b hb
      rw [hP] at e; cases e
theorem deck_nt {PW PT D c : Addr} {H : Hp} {cs : List Int} {k : Int} (DK : Dk H D c cs k) (hT : LamX.Tabs (TL PW PT) H) : (∀ b ∈ [D, c], b ∉ [PW, PT]) ∧ ∀ b ∈ [PW, PT], b ∉ [D, c] := by
  have z : ∀ b, b ∈ [D, c] → b ∈ [PW, PT] → False := fun b h1 h2 => by
    obtain ⟨ys, e⟩ := DK.lst b h1
    obtain ⟨ps, e2⟩ := tab_at hT b h2
    rw [e] at e2; cases e2
  exact ⟨fun b h1 h2 => z b h1 h2, fun b h1 h2 => z b h2 h1⟩
/-- the tables stay where the deck is drawn from -/
theorem tabs_deck {PW PT D c : Addr} {H H' : Hp} {cs : List Int} {k : Int} (DK : Dk H D c cs k) (hT : LamX.Tabs (TL PW PT) H) (s : Sx [D, c] H H') : LamX.Tabs (TL PW PT) H' := fun p hp => by
  obtain ⟨ps, h1, h2, h3⟩ := hT p hp
  have hb : p.1 ∈ [PW, PT] := by
    rcases List.mem_cons.1 hp with rfl | hp
    · exact List.mem_cons_self ..
    · rw [List.mem_singleton.mp hp]; exact List.mem_cons_of_mem _ (List.mem_cons_self ..)
  refine ⟨ps, s _ _ ((deck_nt DK hT).2 _ hb) h1, h2, fun pos cv hc => ?_⟩
  obtain ⟨cc, e, h4⟩ := h3 pos cv hc
  exact ⟨cc, e, s _ _ (fun hb => by obtain ⟨ys, e2⟩ := DK.lst cc hb; rw [h4] at e2; cases e2) h4⟩
/-- the deck stays where the tables grow -/
theorem deck_tabs {PW PT D c : Addr} {H H' : Hp} {cs : List Int} {k : Int} (DK : Dk H D c cs k) (hT : LamX.Tabs (TL PW PT) H) (s : Sx [PW, PT] H H') : Dk H' D c cs k := DK.sx s ((deck_nt DK hT).1 _ (List.mem_cons_self ..)) ((deck_nt DK hT).1 _ (List.mem_cons_of_mem _ (List.mem_cons_self ..)))
abbrev sPLaw : Stmt := topS 50
abbrev nPLaw : List Str := ["_law_script", "_law_deck_here", "_law_turn", "_law_part_here", "_law_value", "_law_due"]
theorem scPLaw : FnScope nPLaw ["_law_script"] (defScope sPLaw) := ⟨rfl, rfl, rfl, by decide +kernel, rfl, by decide +kernel, by decide +kernel⟩
/-! ### the law on bounds -/
theorem tpNone' {H : Hp} {v : V} (h : Tp H v .none) : v = .non := by cases h; rfl
theorem tpNone2 {H : Hp} {d : PyData} (h : Tp H .non d) : d = .none := by cases h; rfl
mutual
theorem St.rws_pl : ∀ (s : St) (d p : Int), ∀ r ∈ s.rws d p, p ≤ r.1 ∧ r.1 < p + s.sz
  | .set _ _, d, p, r, h => by obtain rfl := List.mem_singleton.mp h; simp only [St.sz]; omega
  | .pay _, d, p, r, h => by obtain rfl := List.mem_singleton.mp h; simp only [St.sz]; omega
  | .stop, d, p, r, h => by obtain rfl := List.mem_singleton.mp h; simp only [St.sz]; omega
  | .ite t y n, d, p, r, h => by
    simp only [St.rws] at h
    rcases List.mem_cons.1 h with rfl | h
    · simp only [St.sz]; omega
    · rcases List.mem_append.1 h with h | h
      · have := Bk.rws_pl y _ _ r h
        simp only [St.sz]; omega
      · have := Bk.rws_pl n _ _ r h
        simp only [St.sz]; omega
  | .rep k y, d, p, r, h => by
    simp only [St.rws] at h
    rcases List.mem_cons.1 h with rfl | h
    · simp only [St.sz]; omega
    · have := Bk.rws_pl y _ _ r h
      simp only [St.sz]; omega
theorem Bk.rws_pl : ∀ (b : Bk) (d p : Int), ∀ r ∈ b.rws d p, p ≤ r.1 ∧ r.1 < p + b.sz
  | .nil, _, _, r, h => by cases h
  | .cons s b, d, p, r, h => by
    simp only [Bk.rws] at h
    simp only [Bk.sz]
    rcases List.mem_append.1 h with h | h
    · have := St.rws_pl s _ _ r h
      omega
    · have := Bk.rws_pl b _ _ r h
      omega
end
theorem perrL_shw {e : PyData} (he : Shw 1 60 e) : ∀ {l : List Rw}, (∀ r ∈ l, 0 ≤ r.1 ∧ r.1 < 16777216) → Shw 1 60 (perrL l e)
  | [], _ => he
  | (p, d, s) :: l, h => by
    obtain ⟨p0, p1⟩ := h _ (List.mem_cons_self ..)
    have p0 : 0 ≤ p := p0
    have p1 : p < 16777216 := p1
    have hp : Shw 0 24 (.int p) := Shw.int (n := 24) (by have e2 : (2 : Nat) ^ 24 = 16777216 := by decide
                                                         omega) (by decide) (by decide) 0
    rw [perrL]
    split
    · exact (Shw.tup (.cons hp (.cons (Shw.str (n := 10) (by decide +kernel) 0 (by decide)) (.nil 0 0)))).mono (by decide) (by decide)
    · split
      · exact (Shw.tup (.cons hp (.cons (Shw.str (n := 10) (by decide +kernel) 0 (by decide)) (.nil 0 0)))).mono (by decide) (by decide)
      · exact perrL_shw he fun r hr => h r (List.mem_cons_of_mem _ hr)
theorem Shw.non (k n : Nat) (h : 4 ≤ n) : Shw k n .none := ⟨by simp only [PyData.showable], by simp only [PyData.hasDict], by simp only [PyData.leavesShort], by simp only [PyData.depth]; omega, by simp only [PyData.weight]; omega⟩
theorem bnd_shw (b : Bk) : Shw 1 60 b.bnd := by
  have z : ∀ s : Str, PyData.strOk s = true → s.length ≤ 10 → Shw 1 60 (.tuple [.none, .str s]) := fun s h1 h2 => (Shw.tup (.cons (Shw.non 0 4 (by decide)) (.cons (Shw.str (n := 10) h1 0 h2) (.nil 0 0)))).mono (by decide) (by decide)
  unfold Bk.bnd
  split
  · exact z _ (by decide +kernel) (by decide)
  · split
    · exact z _ (by decide +kernel) (by decide)
    · split
      · exact z _ (by decide +kernel) (by decide)
      · split
        · exact z _ (by decide +kernel) (by decide)
        · exact .non 1 60 (by decide)
theorem Bk.perr_shw {b : Bk} (h : b.sz < 16777216) : Shw 1 60 b.perr := perrL_shw (bnd_shw b) fun r hr => by have := Bk.rws_pl b 0 0 r hr; omega
theorem Ex.atom_nm {x : Ex} (h : x.atom) : x.nm := by
  cases x with
  | int i => trivial
  | name z => exact h
  | _ => exact h.elim
theorem Ts.atom_nm : ∀ {t : Ts} {n : Nat}, t.atom n → t.nm
  | .rest x _ _, _, h => Ex.atom_nm (x := x) h.1
  | .less x y, _, h => ⟨Ex.atom_nm (x := x) h.1, Ex.atom_nm (x := y) h.2⟩
  | .not t, _, h => Ts.atom_nm (t := t) h.2
theorem St.atom_nm {s : St} (h : s.atom) : s.nm := by
  cases s with
  | set z e => exact ⟨h.1, Ex.atom_nm h.2⟩
  | pay e => exact Ex.atom_nm (x := e) h
  | stop => trivial
  | ite t y n => exact Ts.atom_nm (t := t) h
  | rep k y => trivial
theorem perrL_ok {e : PyData} : ∀ {l : List Rw}, (∀ r ∈ l, r.2.1 ≤ 3 ∧ r.2.2.okB = true) → perrL l e = e
  | [], _ => rfl
  | (p, d, s) :: l, h => by
    obtain ⟨h1, h2⟩ := h _ (List.mem_cons_self ..)
    have h1 : d ≤ 3 := h1
    have h2 : s.okB = true := h2
    rw [perrL, if_neg (by omega), if_neg (by rw [h2]; simp)]
    exact perrL_ok fun r hr => h r (List.mem_cons_of_mem _ hr)
theorem perr_many {m : Nat} (h : 24 < m) : (Bk.ofL (List.replicate m st1)).perr = .tuple [.none, .str "places"] := by
  unfold Bk.perr
  rw [perrL_ok fun r hr => ?_]
  · unfold Bk.bnd
    rw [if_pos (by rw [Bk.ofL_sz, sz_rpt]; show (24 : Int) < ((m * 1 : Nat) : Int); omega)]
  · obtain ⟨s, hs, p', hr'⟩ := Bk.ofL_rws hr
    obtain rfl := (List.mem_replicate.mp hs).2
    obtain rfl := List.mem_singleton.mp (show r ∈ [((p' : Int), (0 : Int), st1)] from hr')
    exact ⟨by show (0 : Int) ≤ 3; decide, by show st1.okB = true; decide⟩
/-- within all bounds the weight is small -/
theorem perr_none {b : Bk} (h : b.perr = .none) : b.bnd = .none := by
  unfold Bk.perr at h
  generalize b.rws 0 0 = l at h
  induction l with
  | nil => exact h
  | cons x l ih =>
    obtain ⟨p, d, s⟩ := x
    rw [perrL] at h
    split at h
    · cases h
    · split at h
      · cases h
      · exact ih h
theorem bnd_wt {b : Bk} (h : b.bnd = .none) : b.sumO (fun _ => 1) ≤ 30 := by
  unfold Bk.bnd at h
  split at h
  · cases h
  · split at h
    · cases h
    · omega
theorem shown_none : (PyData.none).shown = "None" := by simp only [PyData.shown]
def spLawT (K : PySem.W.Frag) (Pw Pt : Addr) : Sp := fun vs H Q _ => ∃ (a : Addr) (ns : List Int), vs = [.ref a] ∧ SqL K H a (ns.map V.int) ∧ ns.length ≤ 63 ∧ LamX.Tabs (TL Pw Pt) H ∧ ∀ H', Q (.bl true) H'
section
variable {w : World} {P : Program} {K : PySem.W.Frag} {mg : Str → Option Value} {base : Heap}
set_option maxHeartbeats 8000001 in
theorem ok_law23 {f fA fB fC fD fE fF fG fH : Addr} {fd fdA fdB fdC fdD fdE fdF fdG fdH : FuncData} {Pw Pt c1 : Addr} (F_law : Fun K "law" "law" sPLaw f fd)
    (F_deck : Fun K "_law_deck" "_law_deck" sDeck fA fdA) (F_draw : Fun K "_law_draw" "_law_draw" sDraw fB fdB) (F_part : Fun K "_law_part" "_law_part" sPart fC fdC) (F_up_to : Fun K "_law_up_to" "_law_up_to" sUpTo fD fdD)
    (F_error : Fun K "_law_error" "_law_error" sError fE fdE) (F_counts : Fun K "_law_counts" "_law_counts" sCounts fF fdF) (F_pprogram_error : Fun K "program_error" "program_error" sPProgramError fG fdG) (F_pweight : FunC K "weight" "weight" sPWeight fH fdH c1)
    (G_deck : FnOk P w K mg base CX0 1 fA fdA ["_law_script"] (spDeck K)) (G_draw : FnOk P w K mg base CX0 1 fB fdB ["_law_deck_here", "_law_many"] spDraw) (G_part : FnOk P w K mg base CX0 3 fC fdC ["_law_deck_here"] (spGen 15 7 22 11)) (G_up_to : FnOk P w K mg base CX0 3 fD fdD ["_law_deck_here"] (spGen 15 7 31 3))
    (G_error : FnOk P w K mg base CX0 18 fE fdE ["_law_value"] (spLErr 8)) (G_counts : FnOk P w K mg base CX0 9 fF fdF ["_law_block"] (spCounts 8)) (G_pprogram_error : FnOk P w K mg base CX0 20 fG fdG ["value"] (spPE Pw Pt 8)) (G_pweight : FnOk P w K mg base CX0 14 fH fdH ["program"] (spWeight Pw Pt 8))
    (b_deck : Binds K fdA ["_law_script"] []) (b_draw : Binds K fdB ["_law_deck_here", "_law_many"] []) (b_part : Binds K fdC ["_law_deck_here"] []) (b_up_to : Binds K fdD ["_law_deck_here"] []) (b_error : Binds K fdE ["_law_value"] []) (b_counts : Binds K fdF ["_law_block"] []) (b_pprogram_error : Binds K fdG ["value"] []) (b_pweight : Binds K fdH ["program"] [])
    (m_deck : mg "_law_deck" = some (.ref fA)) (m_draw : mg "_law_draw" = some (.ref fB)) (m_part : mg "_law_part" = some (.ref fC)) (m_up_to : mg "_law_up_to" = some (.ref fD)) (m_error : mg "_law_error" = some (.ref fE)) (m_counts : mg "_law_counts" = some (.ref fF)) (m_pprogram_error : mg "program_error" = some (.ref fG)) (m_pweight : mg "weight" = some (.ref fH))
    (z_repr : mg "repr" = none) (z_range : mg "range" = none) : FnG P w K mg base 21 f fd ["_law_script"] (spLawT K Pw Pt) := by
  refine Fun.okG F_law scPLaw (fun vs H Q E h => ?_) (fun cdv A outer s H vs Q E hr hgd h => ?_)
  · obtain ⟨_, _, rfl, _⟩ := h
    rfl
  · obtain ⟨a, ns, rfl, hS, hlen, hT, q⟩ := h
    have hu := hr.units
    have KBe : KB = 1099511627776 := rfl
    refine ⟨_, (pss_cons (ps_set (i := 1) scPLaw.nd rfl (by first | exact Or.inl rfl | exact Or.inr rfl) (pe_call G_deck (hr.mono (by omega)) (by rfl) m_deck F_deck.kp b_deck .nil pass0 (pa_cons (pv 0) pa_nil)))
      (pss_cons (ps_if (pt_cmpR op_ne (pe_callB (call_reprA hgd hu) (by rfl) z_repr boot_repr (pa_cons (pe_call G_pprogram_error (hr.mono (by omega)) (by rfl) m_pprogram_error F_pprogram_error.kp b_pprogram_error .nil pass0 (pa_cons (pe_op op_repW (pe_tup (pa_cons (pe_tup (pa_cons pe_str (pa_cons pe_int pa_nil))) pa_nil)) (pe_op op_add pe_int (pe_call G_draw (hr.mono (by omega)) (by rfl) m_draw F_draw.kp b_draw .nil pass0 (pa_cons (pv 1) (pa_cons pe_int pa_nil))))) pa_nil)) pa_nil)) (pe_callB (call_reprA hgd hu) (by rfl) z_repr boot_repr (pa_cons (pe_tup (pa_cons pe_non (pa_cons pe_str pa_nil))) pa_nil)) (nomark _)) (pss_one (ps_ret pe_bl)) pss_nil)
      (C8.pss_cut (ps_for PassesOwn.never rfl (pi_range1 (by rfl) z_range (pa_cons pe_int pa_nil)) (pg_name (i := 2) scPLaw.nd rfl (by first | exact Or.inl rfl | exact Or.inr rfl)) (pss_cons (ps_set (i := 3) scPLaw.nd rfl (by first | exact Or.inl rfl | exact Or.inr rfl) (pe_call G_part (hr.mono (by omega)) (by rfl) m_part F_part.kp b_part .nil pass0 (pa_cons (pv 1) pa_nil)))
      (pss_one (ps_for PassesOwn.never rfl (pi_list (pe_lst (pa_cons (pv 3) (pa_cons (pe_call G_up_to (hr.mono (by omega)) (by rfl) m_up_to F_up_to.kp b_up_to .nil pass0 (pa_cons (pv 1) pa_nil)) (pa_cons (pe_op op_catA (pv 3) (pe_call G_up_to (hr.mono (by omega)) (by rfl) m_up_to F_up_to.kp b_up_to .nil pass0 (pa_cons (pv 1) pa_nil))) (pa_cons (pe_op op_catA (pe_call G_up_to (hr.mono (by omega)) (by rfl) m_up_to F_up_to.kp b_up_to .nil pass0 (pa_cons (pv 1) pa_nil)) (pe_call G_part (hr.mono (by omega)) (by rfl) m_part F_part.kp b_part .nil pass0 (pa_cons (pv 1) pa_nil))) pa_nil)))))) (pg_name (i := 4) scPLaw.nd rfl (by first | exact Or.inl rfl | exact Or.inr rfl)) (pss_cons (ps_set (i := 5) scPLaw.nd rfl (by first | exact Or.inl rfl | exact Or.inr rfl) (pe_call G_error (hr.mono (by omega)) (by rfl) m_error F_error.kp b_error .nil pass0 (pa_cons (pv 4) pa_nil)))
      (pss_cons (ps_if (pt_cmpR op_ne (pe_callB (call_reprA hgd hu) (by rfl) z_repr boot_repr (pa_cons (pe_call G_pprogram_error (hr.mono (by omega)) (by rfl) m_pprogram_error F_pprogram_error.kp b_pprogram_error .nil pass0 (pa_cons (pv 4) pa_nil)) pa_nil)) (pe_callB (call_reprA hgd hu) (by rfl) z_repr boot_repr (pa_cons (pv 5) pa_nil)) (nomark _)) (pss_one (ps_ret pe_bl)) pss_nil)
      (pss_one (ps_if (PW.pt (pw_and (pt_cmpR op_isN (pv 5) pe_non (nomark _)) (pw_and1 (pt_cmpR op_ne (pe_callB (call_reprA hgd hu) (by rfl) z_repr boot_repr (pa_cons (pe_call G_pweight (hr.mono (by omega)) (by rfl) m_pweight F_pweight.kp b_pweight .nil pass0 (pa_cons (pv 4) pa_nil)) pa_nil)) (pe_callB (call_reprA hgd hu) (by rfl) z_repr boot_repr (pa_cons (pe_ix ix_list (pe_call G_counts (hr.mono (by omega)) (by rfl) m_counts F_counts.kp b_counts .nil pass0 (pa_cons (pv 4) pa_nil)) pe_int (fun _ _ => rfl)) pa_nil)) (nomark _))))) (pss_one (ps_ret pe_bl)) pss_nil))))))))
      (pss_one (ps_ret (pe_and (pe_cmpR op_isN (pe_call G_pprogram_error (hr.mono (by omega)) (by rfl) m_pprogram_error F_pprogram_error.kp b_pprogram_error .nil pass0 (pa_cons (pe_tup pa_nil) pa_nil)) pe_non (nomark _)) (pe_one (pe_cmpR op_eq (pe_callB (call_reprA hgd hu) (by rfl) z_repr boot_repr (pa_cons (pe_call G_pweight (hr.mono (by omega)) (by rfl) m_pweight F_pweight.kp b_pweight .nil pass0 (pa_cons (pe_tup pa_nil) pa_nil)) pa_nil)) pe_str (nomark _))))))))), ?_⟩
    refine ⟨_, rfl, a, ns, rfl, hS, hlen, fun H1 D c cs s1 _ _ DK => ?_⟩
    have hT1 := Tabs.sx hT s1
    -- many payments
    refine ⟨by show 2 ≤ sizeLine; decide, fun p1 hp1 => ⟨by show 1 ≤ sizeLine; decide, fun p2 hp2 => ?_⟩⟩
    have t1 : Tp (upd (upd H1 p1 (.tup [.str "pay", .int 1])) p2 (.tup [.ref p1])) (.ref p1) st1.d := Tp.new (.tup upd_same (.cons (.str _) (.cons (.int _) .nil))) hp2
    have n1 : Sx [] H1 (upd (upd H1 p1 (.tup [.str "pay", .int 1])) p2 (.tup [.ref p1])) := (Sx.n0 hp1).new hp2
    have e1 : (upd (upd H1 p1 (.tup [.str "pay", .int 1])) p2 (.tup [.ref p1])) p2 = some (.tup [.ref p1]) := upd_same
    generalize upd (upd H1 p1 (.tup [.str "pay", .int 1])) p2 (.tup [.ref p1]) = H2 at t1 n1 e1 ⊢
    have D2 := DK.same n1
    have hT2 := Tabs.sx hT1 n1
    refine ⟨_, rfl, D, c, cs, 0, 200, rfl, D2, by decide, by decide, by omega, fun H3 cs3 r3 s3 D3 r30 r31 => ⟨1000, r3, rfl, rfl, ?_⟩⟩
    have hT3 := tabs_deck D2 hT2 s3
    have k3 : Tk H2 H3 := D2.tk s3
    refine rep_tp (k3 _ _ e1) (t1.keep k3) (by omega) (by omega) (fun H4 z4 n4 t4 => ?_)
    have hm : (1000 + r3).toNat < 10000 := by omega
    have g4 : GL 1 0 10000 (List.replicate (1000 + r3).toNat st1) := GL.rpt (sg1 0) _ (by show (1000 + r3).toNat * 1 ≤ 10000; omega)
    have t4' : Tp H4 z4 (.tuple (Bk.ofL (List.replicate (1000 + r3).toNat st1)).ds) := by rw [← ofL_mk, List.map_replicate]; exact t4
    have b4 := g4.bg (by decide)
    have hT4 := Tabs.sx hT3 n4
    have pm : (Bk.ofL (List.replicate (1000 + r3).toNat st1)).perr = .tuple [.none, .str "places"] := perr_many (by omega)
    refine ⟨z4, _, rfl, t4', fun r hr => St.atom_nm (b4.rw _ _ r hr).1, Bk.fac_mono b4.fc (by decide), by rw [Bk.ofL_sz]; have := g4.z; omega, hT4, fun H5 r5 s5 hT5 t5 => ?_⟩
    rw [pm] at t5
    have z5 : Shw 1 60 (.tuple [.none, .str "places"]) := by rw [← pm]; exact Bk.perr_shw (by rw [Bk.ofL_sz]; have := g4.z; omega)
    refine ⟨_, _, rfl, RpA.of t5.dp z5 (by decide) (by decide), ?_⟩
    refine ⟨by show 2 ≤ sizeLine; decide, fun p6 hp6 => ⟨_, _, rfl, RpA.of (d := .tuple [.none, .str "places"]) (Tp.dp (.tup upd_same (.cons .non (.cons (.str _) .nil)))) z5 (by decide) (by decide), ?_⟩⟩
    refine ⟨rfl, _, rfl, iteNS rfl ?_⟩
    have D4 := D3.same n4
    have D5 := (deck_tabs D4 hT4 s5).new (o := .tup [.non, .str "places"]) hp6
    have hT6 := Tabs.sx hT5 (Sx.n0 (o := .tup [.non, .str "places"]) hp6)
    generalize upd H5 p6 (.tup [.non, .str "places"]) = H6 at D5 hT6 ⊢
    clear t1 n1 e1 D2 hT2 hT3 k3 t4 t4' b4 hT4 t5 D4 D3 hT5 z5 g4 pm
    refine ⟨fun _ H' => LamX.Tabs (TL Pw Pt) H', ?_, ?_⟩
    · refine ⟨8, rfl, by decide, by decide, for_range (n := 8) (fun i σ' H' => ∃ o2 o3 o4 o5, σ' = [some (.ref a), some (.ref D), o2, o3, o4, o5] ∧ LamX.Tabs (TL Pw Pt) H' ∧ ∃ cs k, Dk H' D c cs k ∧ k ≤ 1 + (i : Int) * 100)
        ⟨_, _, _, _, rfl, hT6, _, _, D5, by omega⟩ (fun i σ' H' hi h => ?_) (fun σ' H' h => ?_)⟩
      rotate_left
      · obtain ⟨_, _, _, _, _, h, _⟩ := h
        exact h
      obtain ⟨o2, o3, o4, o5, rfl, hT2, cs1, k1, DK1, hk1⟩ := h
      refine gnm ?_
      refine ⟨_, rfl, D, c, cs1, k1, rfl, DK1, by omega, fun H2 cs2 k2 v2 l2 s2 D2 k2a k2b T2 G2 => ?_⟩
      refine gnm ?_
      have hT3 := tabs_deck DK1 hT2 s2
      -- the four values
      refine ⟨_, rfl, _, rfl, D, c, cs2, k2, rfl, D2, by omega, fun H3 cs3 k3 v3 l3 s3 D3 k3a k3b T3 G3 => ?_⟩
      have T2 := T2.keep (D2.tk s3)
      have hT3 := tabs_deck D2 hT3 s3
      refine ⟨_, rfl, _, rfl, D, c, cs3, k3, rfl, D3, by omega, fun H4 cs4 k4 v4 l4 s4 D4 k4a k4b T4 G4 => ?_⟩
      have T2 := T2.keep (D3.tk s4)
      have T3 := T3.keep (D3.tk s4)
      have hT4 := tabs_deck D3 hT3 s4
      have lz2 := len_sz l2
      have lz4 := len_sz l4
      have z2 := G2.z
      have z4 := G4.z
      refine cat_tp T2 T4 (by rw [List.length_map, List.length_map]; omega) (fun H5 v5 n5 _ T5 => ?_)
      rw [← List.map_append] at T5
      have T2 := T2.keep n5.tk0
      have T3 := T3.keep n5.tk0
      have D5 := D4.same n5
      have hT5 := Tabs.sx hT4 n5
      have G5 := G2.app G4
      clear T4 G4 lz4 z4 lz2 z2
      refine ⟨_, rfl, D, c, cs4, k4, rfl, D5, by omega, fun H6 cs6 k6 v6 l6 s6 D6 k6a k6b T6 G6 => ?_⟩
      have T2 := T2.keep (D5.tk s6)
      have T3 := T3.keep (D5.tk s6)
      have T5 := T5.keep (D5.tk s6)
      have hT6 := tabs_deck D5 hT5 s6
      refine ⟨_, rfl, D, c, cs6, k6, rfl, D6, by omega, fun H7 cs7 k7 v7 l7 s7 D7 k7a k7b T7 G7 => ?_⟩
      have T2 := T2.keep (D6.tk s7)
      have T3 := T3.keep (D6.tk s7)
      have T5 := T5.keep (D6.tk s7)
      have T6 := T6.keep (D6.tk s7)
      have hT7 := tabs_deck D6 hT6 s7
      have lz6 := len_sz l6
      have lz7 := len_sz l7
      have z6 := G6.z
      have z7 := G7.z
      refine cat_tp T6 T7 (by rw [List.length_map, List.length_map]; omega) (fun H8 v8 n8 _ T8 => ?_)
      rw [← List.map_append] at T8
      have T2 := T2.keep n8.tk0
      have T3 := T3.keep n8.tk0
      have T5 := T5.keep n8.tk0
      have D8 := D7.same n8
      have hT8 := Tabs.sx hT7 n8
      have G8 := G6.app G7
      refine ⟨by show 4 ≤ sizeLine; decide, fun L hL => ?_⟩
      have nL := D8.nw hL
      have sL := Sx.n0 (o := .lst [v2, v3, v5, v8]) hL
      have T2 := T2.keep sL.tk0
      have T3 := T3.keep sL.tk0
      have T5 := T5.keep sL.tk0
      have T8 := T8.keep sL.tk0
      have D9 := D8.same sL
      have hT9 := Tabs.sx hT8 sL
      have eL : (upd H8 L (.lst [v2, v3, v5, v8])) L = some (.lst [v2, v3, v5, v8]) := upd_same
      generalize upd H8 L (.lst [v2, v3, v5, v8]) = H9 at T2 T3 T5 T8 D9 hT9 eL ⊢
      have each : ∀ (j : Nat) (x : V), [v2, v3, v5, v8][j]? = some x → ∃ l : List St, Tp H9 x (.tuple (l.map St.d)) ∧ GL 15 7 60 l := fun j x hx => by
        match j, hx with
        | 0, hx => cases hx; exact ⟨_, T2, G2.mono (by decide) (by decide) (by decide)⟩
        | 1, hx => cases hx; exact ⟨_, T3, G3.mono (by decide) (by decide) (by decide)⟩
        | 2, hx => cases hx; exact ⟨_, T5, G5.mono (by decide) (by decide) (by decide)⟩
        | 3, hx => cases hx; exact ⟨_, T8, G8.mono (by decide) (by decide) (by decide)⟩
        | j + 4, hx => simp at hx
      have lne : L ∉ [D, c, Pw, Pt] := fun hm => by
        rcases List.mem_cons.1 hm with e | hm
        · exact nL.1 e
        · rcases List.mem_cons.1 hm with e | hm
          · exact nL.2 e
          · obtain ⟨ps, hP⟩ := tab_at hT9 L hm
            rw [eL] at hP; cases hP
      clear T2 T3 T5 T8 T6 T7 lz6 lz7 z6 z7 G2 G3 G5 G6 G7 G8 D2 D3 D4 D5 D6 D7 D8 hT2 hT3 hT4 hT5 hT6 hT7 hT8 n5 n8 sL
      have nt9 := ex_nt D9 hT9
      refine ⟨L, rfl, ⟨_, SqL.of eL⟩, for_list (xs := [v2, v3, v5, v8]) (fun j σ' H' => ∃ o4 o5, σ' = [some (.ref a), some (.ref D), some (.int (0 + (i : Int))), some v2, o4, o5] ∧ Sx [D, c, Pw, Pt] H9 H' ∧ LamX.Tabs (TL Pw Pt) H' ∧ Dk H' D c cs7 k7)
        ⟨_, _, rfl, Sx.refl _, hT9, D9⟩ (fun j σ' H' _ h => by obtain ⟨_, _, _, h, _⟩ := h; exact SqL.of (h _ _ lne eL)) (fun j x σ' H' hx h => ?_) (fun σ' H' h => ?_)⟩
      · obtain ⟨o4, o5, rfl, sB, hTB, DB⟩ := h
        obtain ⟨l, tl, gl⟩ := each j x hx
        have kB : Tk H9 H' := tk_ex sB nt9
        have tx : Tp H' x (.tuple (Bk.ofL l).ds) := by rw [← ofL_mk]; exact tl.keep kB
        have bg := gl.bg (by decide)
        have zz : (Bk.ofL l).sz < 16777216 := by rw [Bk.ofL_sz]; have := gl.z; omega
        generalize Bk.ofL l = b at tx bg zz
        refine gnm ?_
        refine ⟨_, rfl, x, b, rfl, tx, bg.rw 0 0, bg.fc, zz, fun Ha ra sa ta => ?_⟩
        have tx := tx.keep sa.tk0
        have hTa := Tabs.sx hTB sa
        have Da := DB.same sa
        refine ⟨_, rfl, x, b, rfl, tx, fun r hr => St.atom_nm (bg.rw _ _ r hr).1, bg.fc, zz, hTa, fun Hb rb sb hTb tb => ?_⟩
        have kb : Tk Ha Hb := tabs_tk hTa sb
        have Db := deck_tabs Da hTa sb
        have sBb : Sx [D, c, Pw, Pt] H9 Hb := (sB.trans sa.nil).trans (sb.mono (fun z hz => by simp only [List.not_mem_nil, List.mem_cons, or_false] at hz ⊢; rcases hz with hz | hz <;> simp [hz]))
        have zp := Bk.perr_shw zz
        refine ⟨_, _, rfl, RpA.of tb.dp zp (by decide) (by decide), ?_⟩
        refine ⟨_, rfl, _, _, rfl, RpA.of (ta.keep kb).dp zp (by decide) (by decide), ?_⟩
        refine ⟨rfl, _, rfl, iteNS rfl ?_⟩
        by_cases hn : ra = .non
        · subst hn
          have wn := tpNone2 ta
          have wb := bnd_wt (perr_none wn)
          have wn0 := bg.nn
          refine ⟨_, rfl, rfl, _, rfl, iteP (by decide) ?_⟩
          refine ⟨_, rfl, x, b, rfl, tx.keep kb, bg.fc, hTb, fun Hc sc hTc => ?_⟩
          have zw : Shw 0 7 (.int (b.sumO fun _ => 1)) := sm (by omega) (by omega) 0
          refine ⟨_, _, rfl, RpA.of (.int _) zw (by decide) (by decide), ?_⟩
          have kc : Tk Hb Hc := fun bb xs e => sc bb _ (fun hb => by
            obtain ⟨ps, hP⟩ := tab_at hTb bb (by rw [List.mem_singleton.mp hb]; exact List.mem_cons_self ..)
            rw [hP] at e; cases e) e
          refine ⟨_, rfl, x, b, rfl, (tx.keep kb).keep kc, bg.fc, fun Hd C sd nC eC => ?_⟩
          have eC := cnt_at eC
          refine ⟨C, _, _, _, rfl, rfl, SqL.of eC, rfl, ?_⟩
          refine ⟨_, _, rfl, RpA.of (.int _) zw (by decide) (by decide), ?_⟩
          refine ⟨rfl, _, rfl, iteNS rfl ?_⟩
          have sc2 : Sx [Pw, Pt] Hb Hc := sc.mono (by simp)
          exact ⟨_, _, rfl, (sBb.trans (sc2.mono (fun z hz => by simp only [List.not_mem_nil, List.mem_cons, or_false] at hz ⊢; rcases hz with hz | hz <;> simp [hz]))).trans sd.nil, Tabs.sx hTc sd, (deck_tabs Db hTb sc2).same sd⟩
        · refine ⟨_, rfl, rfl, _, rfl, iteN (by simp [hn]) ?_⟩
          exact ⟨_, _, rfl, sBb, hTb, Db⟩
      · obtain ⟨o4, o5, rfl, sB, hTB, DB⟩ := h
        exact ⟨_, _, _, _, rfl, hTB, cs7, k7, DB, by omega⟩
    · rintro σ H7 hT7
      refine ⟨by show 0 ≤ sizeLine; decide, fun t1 h1 => ?_⟩
      have en : Bk.nil.perr = .none := rfl
      refine ⟨.ref t1, .nil, rfl, .tup upd_same .nil, fun r hr => (by cases hr), ⟨by decide, fun s hs => (by cases hs)⟩, by decide, Tabs.sx hT7 (Sx.n0 h1), fun H8 r8 s8 hT8 t8 => ?_⟩
      rw [en] at t8
      obtain rfl := tpNone' t8
      refine ⟨rfl, _, rfl, iteT ?_⟩
      refine ⟨by show 0 ≤ sizeLine; decide, fun t2 h2 => ?_⟩
      refine ⟨.ref t2, .nil, rfl, .tup upd_same .nil, ⟨by decide, fun s hs => by cases hs⟩, Tabs.sx hT8 (Sx.n0 h2), fun H9 s9 hT9 => ?_⟩
      refine ⟨_, _, rfl, RpA.of (.int _) (sm (i := 0) (by decide) (by decide) 0) (by decide) (by decide), ?_⟩
      have es : (PyData.int 0).shown = "0" := by decide +kernel
      rw [show (Bk.nil.sumO fun _ => 1) = 0 from rfl, es]
      exact ⟨rfl, q _⟩
end
/-! ### the end where code objects are made within defs -/
/-- an empty table of code objects -/
abbrev tabNil : Obj := { cls := .none, data := .fields #[] }
theorem law_callGT {P : Program} {w : World} {K : PySem.W.Frag} {mg mb : Str → Option Value} {k : Nat} {fa a : Addr} {cs : List (Addr × Addr)} {fd : FuncData} {x : Str} {sp : Sp} {s : Shared} {vs : List Value} {ns : List Int}
    (KX : K.In s.heap) (h1 : s.heap.Ns mainGlobals mg) (h2 : s.heap.Ns builtinsNs mb) (h3 : ∀ x : Str, x ≠ "__name__" → mb x = bootBuiltins x) (h4 : s.heap.NoLimit) (h5 : s.gens = #[])
    (tE : ∀ p ∈ cs, s.heap.get? p.2 = some tabNil) (tO : ∀ p ∈ cs, K.lookup p.2 = none) (tC : ∀ p ∈ cs, PySem.W.CodeHd s.heap p.1 p.2)
    (tM : ∃ (bm : Addr) (o : Obj), mg "__builtins__" = some (.ref bm) ∧ bm ≠ builtinsNs ∧ s.heap.get? bm = some o ∧ o.cls = .type "module" ∧ o.dict = some builtinsNs ∧ o.data = .plain)
    (ha : s.heap.get? a = some { cls := .type "list", data := .seq vs.toArray }) (hi : IntsAre vs ns) (hl : ns.length ≤ sizeLine) (hr : Room k callerA)
    (F : ∀ base : Heap, K.In base → base.Ns mainGlobals mg → (∀ p ∈ cs, LamX.TabB base mg p.1 p.2) → FnG P w K mg base k fa fd [x] sp) (hb : ∀ (s : Shared) (u : Value), BindsTo s fd ⟨[u], []⟩ [(x, u)])
    (hsp : ∀ H : Hp, (∀ p ∈ cs, H p.2 = some (.tbl #[])) → SqL K H a (ns.map V.int) → sp [.ref a] H (fun v _ => v = .bl true) E0) :
    codeAny (model P w) callerA (.call (.ref fa) ⟨[.ref a], []⟩) (fun r s' => r = .ok (.ret (.bool true)) ∧ OldK s.heap s'.heap ∧ s'.os = s.os ∧ AllBare s'.gens) s := by
  obtain ⟨H0, hO, hS0, hok0, hA, hK⟩ := script_hp (P := P) (w := w) KX ha hi hl
  obtain ⟨T, eT⟩ : ∃ T : List Addr, T = cs.map Prod.snd := ⟨_, rfl⟩
  have inT : ∀ p ∈ cs, p.2 ∈ T := fun p hp => by rw [eT]; exact List.mem_map_of_mem hp
  have ofT : ∀ b ∈ T, ∃ p ∈ cs, p.2 = b := fun b h => by rw [eT] at h; exact List.mem_map.mp h
  have atT : ∀ b ∈ T, s.heap.get? b = some tabNil := fun b h => by
    obtain ⟨p, hp, e⟩ := ofT b h
    exact e ▸ tE p hp
  have aT : a ∉ T := fun z => by
    have e := (atT a z).symm.trans ha
    have e2 : Data.fields #[] = Data.seq vs.toArray _ := congrArg Obj.data (Option.some.inj e)
    cases e2
  obtain ⟨H, Hin, Hout⟩ : ∃ H : Hp, (∀ b ∈ T, H b = some (.tbl #[])) ∧ ∀ b, b ∉ T → H b = H0 b := ⟨fun b => if b ∈ T then some (.tbl #[]) else H0 b, fun b h => if_pos h, fun b h => if_neg h⟩
  have hS : SqL K H a (ns.map V.int) := hS0.imp (fun z => z.imp (fun z => (Hout a aT).trans z) fun ⟨o, z⟩ => ⟨o, (Hout a aT).trans z⟩) id
  have hok : HOk P w H s.heap := fun b u z => by
    by_cases h : b ∈ T
    · have e := (Hin b h).symm.trans z
      cases e
      exact atT b h
    · have z2 := (Hout b h).symm.trans z
      obtain z3 | ⟨ob, xs, z3⟩ := hO b
      · rw [z3] at z2; cases z2
      · have z4 := z3.symm.trans z2
        cases z4
        exact (show ObjOk P w H s.heap b (.frz ob (.lst xs)) from hok0 b _ z3)
  have far : ∀ {b : Addr} {o : Obj}, s.heap.get? b = some o → (∀ us n, o.data ≠ .seq us n) → o.data ≠ .fields #[] → H b = none := fun {b o} e n1 n2 => by
    have hbT : b ∉ T := fun z => by
      have q := (atT b z).symm.trans e
      cases q
      exact n2 rfl
    rw [Hout b hbT]
    cases q : H0 b with
    | none => rfl
    | some u =>
      have z := hA b (by simp [q])
      rw [z] at e
      have q2 := ha.symm.trans e
      cases q2
      exact absurd rfl (n1 _ _)
  have keepB : ∀ {b : Addr} {o : Obj}, s.heap.get? b = some o → H b = none → (hidT s.heap H).get? b = some o := fun e n => hidT_get e n
  have nsB : ∀ {b : Addr} {m : Str → Option Value}, s.heap.Ns b m → (hidT s.heap H).Ns b m := fun {b m} ⟨o, es, ep, e, d, r⟩ => ⟨o, es, ep, keepB e (far e (fun us n z => by rw [d] at z; cases z) fun z => by rw [d] at z; cases z), d, r⟩
  have inB : K.In (hidT s.heap H) := fun b o e => by
    refine keepB (KX b o e) ?_
    by_cases h : b ∈ T
    · obtain ⟨p, hp, rfl⟩ := ofT b h
      rw [tO p hp] at e
      cases e
    · rw [Hout b h]
      cases q : H0 b with
      | none => rfl
      | some u =>
        have z := hA b (by simp [q])
        rw [z] at e q
        rw [hK (by simp [q])] at e
        cases e
  have md : Mod K mg (hidT s.heap H) := ⟨inB, nsB h1, ⟨mb, nsB h2, h3⟩, let ⟨mc, y1, y2⟩ := h4; ⟨mc, nsB y1, y2⟩⟩
  have tabs : ∀ p ∈ cs, LamX.TabB (hidT s.heap H) mg p.1 p.2 := fun p hp => by
    refine ⟨?_, ?_, fun z => ?_⟩
    · rcases tC p hp with ⟨o, us, file, tf, fl, tg, inF, txt, tt, e1, q1, q2, q3, q4⟩
      refine ⟨o, us, file, tf, fl, tg, inF, txt, tt, keepB e1 (far e1 (fun us' n z => by rw [q2] at z; cases z) fun z => ?_), q1, q2, q3, q4⟩
      rw [q2] at z
      cases z
      simp at q3
    · rcases tM with ⟨bm, o, m1, m2, m3, m4, m5, m6⟩
      refine ⟨bm, o, m1, m2, fun z => ?_, fun z => ?_, keepB m3 (far m3 (fun us n z => by rw [m6] at z; cases z) fun z => by rw [m6] at z; cases z), m4, m5, m6⟩
      · rcases h1 with ⟨o1, es, ep, e, d, _⟩
        have q := (z ▸ m3 : s.heap.get? mainGlobals = some o).symm.trans e
        cases q
        rw [m6] at d
        cases d
      · have q := (z ▸ m3 : s.heap.get? p.2 = some o).symm.trans (tE p hp)
        cases q
        cases m6
    · rcases h1 with ⟨o1, es, ep, e, d, _⟩
      have q := (z ▸ tE p hp : s.heap.get? mainGlobals = some tabNil).symm.trans e
      cases q
      cases d
  have e0 : Env0 P w K mg (hidT s.heap H) callerA [] s H := ⟨rfl, md, fun b o e => of_hidT e, Nat.le_of_eq (hidT_size _ _), trivial, (fun b z => absurd (show b ∈ ([] : List Addr) from z) (List.not_mem_nil (a := b))), hok, .of_eq h5⟩
  refine codeAny_mono ((F _ inB (nsB h1) tabs).go callerA [] s H ⟨[.ref a], []⟩ [.ref a] [.ref a] _ hr rfl e0 (hb s (.ref a)) (.cons rfl .nil) (hsp H (fun p hp => Hin _ (inT p hp)) hS)) fun r s' h => ?_
  match r, h with
  | .ok (.ret u), h =>
    rcases h with ⟨v, H', os, bare, un, hok', r', q⟩
    have q' : v = .bl true := q
    subst q'
    have eu : u = Value.bool true := r'
    subst eu
    have old : ∀ b o, b ∉ T → s.heap.get? b = some o → s'.heap.get? b = some o := fun b o hbT e => by
      cases q2 : H b with
      | none => exact un.keep b o e q2 (fun z => absurd (show b ∈ ([] : List Addr) from z) (List.not_mem_nil (a := b))) (by simp)
      | some u =>
        have q3 := (Hout b hbT).symm.trans q2
        obtain z | ⟨ob, xs, z⟩ := hO b
        · rw [z] at q3; cases q3
        · have z' := (Hout b hbT).trans z
          obtain ⟨e1, _⟩ := hok b _ z'
          obtain ⟨e2, _⟩ := hok' b _ (un.frzs b ob _ z')
          have e3 := e.symm.trans e1
          cases e3
          exact e2
    have grow : ∀ p ∈ cs, ∃ us : Array Value, s'.heap.get? p.2 = some { cls := .none, data := .fields us } := fun p hp => by
      obtain ⟨us, z⟩ := un.tbls p.2 #[] (Hin _ (inT p hp))
      exact ⟨_, hok' p.2 _ z⟩
    refine (⟨rfl, ⟨fun b o e => ?_, fun b o e => ?_⟩, os, bare⟩)
    · by_cases h : b ∈ T
      · obtain ⟨p, hp, rfl⟩ := ofT b h
        obtain ⟨us, z⟩ := grow p hp
        have e2 := (tE p hp).symm.trans e
        cases e2
        exact .inr (.inl ⟨((tC p hp).tab (tE p hp)).isCodeTable, rfl, #[], us, rfl, z.trans (by simp)⟩)
      · exact .inl (old b o h e)
    · by_cases h : b ∈ T
      · obtain ⟨p, hp, rfl⟩ := ofT b h
        obtain ⟨us, z⟩ := grow p hp
        exact ⟨_, z⟩
      · exact ⟨o, old b o h e⟩
theorem walk_ofEGT {l : PySem.W.OpenLaw} {n k : Nat} {q : Program} {loose : List Str} {XP : (Str → Option Value) → Heap → Prop} {YP : World → Heap → Prop} {d : DefRec} {x : Str}
    (hn : l.most = some n) (hn2 : n ≤ sizeLine) (hr : Room k callerA) (hdf : d.params.defaults = [])
    (F : ∀ (w : World) (mg : Str → Option Value) (fa : Addr) (h : PySem.Heap), YP w h → h.Ns mainGlobals mg → mg d.name = some (.ref fa) →
      ∃ (K : PySem.W.Frag) (cs : List (Addr × Addr)) (fd : FuncData) (sp : Sp), K.In h ∧ (∀ p ∈ cs, h.get? p.2 = some tabNil) ∧ (∀ p ∈ cs, K.lookup p.2 = none) ∧ (∀ p ∈ cs, PySem.W.CodeHd h p.1 p.2) ∧ (∀ (s : Shared) (u : Value), BindsTo s fd ⟨[u], []⟩ [(x, u)]) ∧
        (∀ (H : Hp) (a : Addr) (ns : List Int), ns.length ≤ n → (∀ p ∈ cs, H p.2 = some (.tbl #[])) → SqL K H a (ns.map V.int) → sp [.ref a] H (fun v _ => v = .bl true) E0) ∧ ∀ base : Heap, K.In base → base.Ns mainGlobals mg → (∀ p ∈ cs, LamX.TabB base mg p.1 p.2) → FnG l.prog w K mg base k fa fd [x] sp) :
    PySem.W.WalkO q loose XP YP l.row.toRowW d [] (fun g us => PySem.call g us) := by
  refine Att.attach_call hn hdf fun w s₀ s₁ mg mb fa o pm cd doc a vs ns G Y _ _ _ hmg hobj hints hlen hg => ?_
  obtain ⟨K, cs, fd, sp, KX, tE, tO, tC, hb, hsp, hF⟩ := F w mg fa _ Y G.T.g hmg
  exact law_callGT KX G.T.g G.T.b G.T.builtins G.T.nolimit hg tE tO tC G.T.bmain hobj hints (Nat.le_trans hlen hn2) hr hF hb fun H hH hS => hsp H a ns hlen hH hS
/-! ### the head, with code objects made within defs -/
theorem Fun.of {K : PySem.W.Frag} {x qual : Str} {st : Stmt} {kws : List (Str × V)} {f : Addr} {fd : FuncData} (F : FunD K x qual (defArgs st) (defBody st) (defScope st) [] kws f fd) : Fun K x qual st f fd := by
  rcases F.ex with ⟨oc, od, dV, kV, doc, pm, an, cdv, ct, osl, rfl, lk, hcd, hD, hK⟩
  obtain ⟨_, rfl⟩ | ⟨e, _⟩ := hD
  · exact ⟨⟨oc, od, kV, doc, pm, an, cdv, ct, osl, rfl, lk, hcd⟩, F.kp⟩
  · exact absurd rfl e
theorem FunC.of {K : PySem.W.Frag} {x qual : Str} {st : Stmt} {kws : List (Str × V)} {p : He.Defn} {fd : FuncData} (F : FunD K x qual (defArgs st) (defBody st) (defScope st) [] kws (He.fAd K p) fd) : FunC K x qual st (He.fAd K p) fd (He.cT K p).1 := by
  rcases F.ex with ⟨oc, od, dV, kV, doc, pm, an, cdv, ct, osl, efd, lk, hcd, hD, hK⟩
  rcases hD with ⟨_, e0⟩ | ⟨e, _⟩
  · obtain ⟨c, ec⟩ := He.codeIn_ref hcd
    subst ec e0 efd
    have e2 : (He.cT K p).1 = c := He.codeOf_eq lk rfl
    exact e2.symm ▸ ⟨⟨oc, od, kV, doc, pm, an, ct, osl, rfl, lk, hcd⟩, F.kp⟩
  · exact absurd rfl e
def dPIsInteger : He.DefD := ⟨("is_integer", none), "is_integer", "is_integer", defArgs sPIsInteger, defBody sPIsInteger, defScope sPIsInteger, [], []⟩
def dPIsBetween : He.DefD := ⟨("is_between", none), "is_between", "is_between", defArgs sPIsBetween, defBody sPIsBetween, defScope sPIsBetween, [], []⟩
def dPIsHeaded : He.DefD := ⟨("is_headed", none), "is_headed", "is_headed", defArgs sPIsHeaded, defBody sPIsHeaded, defScope sPIsHeaded, [], []⟩
def dPIsName : He.DefD := ⟨("is_name", none), "is_name", "is_name", defArgs sPIsName, defBody sPIsName, defScope sPIsName, [], []⟩
def dPIsExpression : He.DefD := ⟨("is_expression", none), "is_expression", "is_expression", defArgs sPIsExpression, defBody sPIsExpression, defScope sPIsExpression, [.int 3], []⟩
def dPIsTest : He.DefD := ⟨("is_test", none), "is_test", "is_test", defArgs sPIsTest, defBody sPIsTest, defScope sPIsTest, [.int 2], []⟩
def dPIsStatement : He.DefD := ⟨("is_statement", none), "is_statement", "is_statement", defArgs sPIsStatement, defBody sPIsStatement, defScope sPIsStatement, [], []⟩
def dPBareTest : He.DefD := ⟨("bare_test", none), "bare_test", "bare_test", defArgs sPBareTest, defBody sPBareTest, defScope sPBareTest, [], []⟩
def dPBlocksOf : He.DefD := ⟨("blocks_of", none), "blocks_of", "blocks_of", defArgs sPBlocksOf, defBody sPBlocksOf, defScope sPBlocksOf, [], []⟩
def dPProgramError : He.DefD := ⟨("program_error", none), "program_error", "program_error", defArgs sPProgramError, defBody sPProgramError, defScope sPProgramError, [], []⟩
def dPBoundError : He.DefD := ⟨("bound_error", none), "bound_error", "bound_error", defArgs sPBoundError, defBody sPBoundError, defScope sPBoundError, [], []⟩
def dPEachStatement : He.DefD := ⟨("each_statement", none), "each_statement", "each_statement", defArgs sPEachStatement, defBody sPEachStatement, defScope sPEachStatement, [], []⟩
def dPPlacesIn : He.DefD := ⟨("places_in", none), "places_in", "places_in", defArgs sPPlacesIn, defBody sPPlacesIn, defScope sPPlacesIn, [], []⟩
def dPWeight : He.DefD := ⟨("weight", none), "weight", "weight", defArgs sPWeight, defBody sPWeight, defScope sPWeight, [], []⟩
def dPTestedIn : He.DefD := ⟨("tested_in", none), "tested_in", "tested_in", defArgs sPTestedIn, defBody sPTestedIn, defScope sPTestedIn, [], []⟩
def dPTestsWith : He.DefD := ⟨("tests_with", none), "tests_with", "tests_with", defArgs sPTestsWith, defBody sPTestsWith, defScope sPTestsWith, [], []⟩
def dPSumOver : He.DefD := ⟨("sum_over", none), "sum_over", "sum_over", defArgs sPSumOver, defBody sPSumOver, defScope sPSumOver, [], []⟩
def dDeck : He.DefD := ⟨("_law_deck", none), "_law_deck", "_law_deck", defArgs sDeck, defBody sDeck, defScope sDeck, [], []⟩
def dDraw : He.DefD := ⟨("_law_draw", none), "_law_draw", "_law_draw", defArgs sDraw, defBody sDraw, defScope sDraw, [], []⟩
def dOne : He.DefD := ⟨("_law_one", none), "_law_one", "_law_one", defArgs sOne, defBody sOne, defScope sOne, [], []⟩
def dParts : He.DefD := ⟨("_law_parts", none), "_law_parts", "_law_parts", defArgs sParts, defBody sParts, defScope sParts, [], []⟩
def dWhole : He.DefD := ⟨("_law_whole", none), "_law_whole", "_law_whole", defArgs sWhole, defBody sWhole, defScope sWhole, [], []⟩
def dIsName : He.DefD := ⟨("_law_is_name", none), "_law_is_name", "_law_is_name", defArgs sIsName, defBody sIsName, defScope sIsName, [], []⟩
def dIsExpression : He.DefD := ⟨("_law_is_expression", none), "_law_is_expression", "_law_is_expression", defArgs sIsExpression, defBody sIsExpression, defScope sIsExpression, [], []⟩
def dIsRest : He.DefD := ⟨("_law_is_rest", none), "_law_is_rest", "_law_is_rest", defArgs sIsRest, defBody sIsRest, defScope sIsRest, [], []⟩
def dIsTest : He.DefD := ⟨("_law_is_test", none), "_law_is_test", "_law_is_test", defArgs sIsTest, defBody sIsTest, defScope sIsTest, [], []⟩
def dIsStatement : He.DefD := ⟨("_law_is_statement", none), "_law_is_statement", "_law_is_statement", defArgs sIsStatement, defBody sIsStatement, defScope sIsStatement, [], []⟩
def dCounts : He.DefD := ⟨("_law_counts", none), "_law_counts", "_law_counts", defArgs sCounts, defBody sCounts, defScope sCounts, [], []⟩
def dError : He.DefD := ⟨("_law_error", none), "_law_error", "_law_error", defArgs sError, defBody sError, defScope sError, [], []⟩
def dPart : He.DefD := ⟨("_law_part", none), "_law_part", "_law_part", defArgs sPart, defBody sPart, defScope sPart, [], []⟩
def dUpTo : He.DefD := ⟨("_law_up_to", none), "_law_up_to", "_law_up_to", defArgs sUpTo, defBody sUpTo, defScope sUpTo, [], []⟩
def dPLaw : He.DefD := ⟨("law", none), "law", "law", defArgs sPLaw, defBody sPLaw, defScope sPLaw, [], []⟩
def fn0 : List He.DefD := [dPIsInteger, dPIsBetween, dPIsHeaded, dPIsName, dPIsExpression, dPIsTest, dPIsStatement, dPBareTest, dPBlocksOf, dPProgramError, dPBoundError, dPEachStatement]
def fn1 : List He.DefD := [dPPlacesIn, dPWeight, dPTestedIn, dPTestsWith, dPSumOver, dDeck, dDraw, dOne, dParts, dWhole, dIsName, dIsExpression]
def fn2 : List He.DefD := [dIsRest, dIsTest, dIsStatement, dCounts, dError, dPart, dUpTo, dPLaw]
def fn : List He.DefD := fn0 ++ fn1 ++ fn2
def fa0 : List He.Fa := [.glo "is_integer", .glo "is_between", .glo "is_headed", .glo "is_name", .glo "is_expression", .glo "is_test", .glo "is_statement", .glo "bare_test", .glo "blocks_of", .glo "program_error", .glo "bound_error", .glo "each_statement", .glo "places_in", .glo "weight", .glo "tested_in", .glo "tests_with", .glo "sum_over", .glo "_law_deck", .glo "_law_draw", .glo "_law_one"]
def fa1 : List He.Fa := [.glo "_law_parts", .glo "_law_whole", .glo "_law_is_name", .glo "_law_is_expression", .glo "_law_is_rest", .glo "_law_is_test", .glo "_law_is_statement", .glo "_law_counts", .glo "_law_error", .glo "_law_part", .glo "_law_up_to", .glo "law", .free "abs", .free "all", .free "bool", .free "enumerate", .free "int", .free "isinstance", .free "len", .free "list"]
def fa2 : List He.Fa := [.free "range", .free "repr", .free "str", .free "sum", .free "tuple", .int "MAX_NAME" 8, .int "MAX_TIMES" 8, .int "MAX_DEEP" 3, .int "MAX_NOTS" 2, .int "MAX_BY" 6, .int "MAX_PLACES" 24, .int "MAX_WEIGHT" 30, .int "MAX_RESTS" 2, .int "MAX_COMPARINGS" 2, .int "MAX_NEST" 3, .int "MAX_CONSTANT" 99, .int "MAX_FACTOR" 9, .int "MIN_BY" 2, .str "LETTERS" "abcdefghijklmnopqrstuvwxyz", .str "DIGITS" "0123456789"]
def fa3 : List He.Fa := [.glo "WORDS"]
def fa : List He.Fa := fa0 ++ fa1 ++ fa2 ++ fa3
def loose0 : List PySem.Str := ["is_integer", "is_between", "is_headed", "is_name", "is_expression", "is_test", "is_statement", "bare_test", "blocks_of", "program_error", "bound_error", "each_statement", "places_in", "weight", "tested_in", "tests_with", "sum_over", "_law_deck", "_law_draw", "_law_one"]
def loose1 : List PySem.Str := ["_law_parts", "_law_whole", "_law_is_name", "_law_is_expression", "_law_is_rest", "_law_is_test", "_law_is_statement", "_law_counts", "_law_error", "_law_part", "_law_up_to", "MAX_NAME", "MAX_TIMES", "MAX_DEEP", "MAX_NOTS", "MAX_BY", "MAX_PLACES", "MAX_WEIGHT", "MAX_RESTS", "MAX_COMPARINGS"]
def loose2 : List PySem.Str := ["MAX_NEST", "MAX_CONSTANT", "MAX_FACTOR", "MIN_BY", "LETTERS", "DIGITS", "WORDS"]
def looseN : List PySem.Str := loose0 ++ loose1 ++ loose2
def dW : He.Defn := ("weight", none)
def dT : He.Defn := ("tested_in", none)
def wordsD : List He.Dv := [.str "box", .str "set", .str "pay", .str "stop", .str "if", .str "else", .str "repeat", .str "pass", .str "rest", .str "of", .str "not", .str "program"]
def exK (K : PySem.W.Frag) : Bool := He.tupB K "WORDS" wordsD && !decide ((He.cT K dW).2 = (He.cT K dT).2)
abbrev R : PySem.W.OpenRow := PySem.W.OpenLaw.row PySem.Challenge.rw_whichheld_k23_bounds_of_programs
abbrev hookH : PySem.W.Hook := He.hookX 4 fa fn [] [dW, dT] exK
def obsH (s : PySem.W.SharedT) : He.AlX := He.obsX 4 fa fn [] [dW, dT] exK (HandSHeadRun.getT s)
theorem obsH_eq (s : PySem.W.SharedT) : obsH s = hookH.obs s.abs := He.obsX_eq (HandSHeadRun.getT_eq s)
set_option maxHeartbeats 0 in
theorem run_head (w : World) : HandSHeadRun.RunEq R (PySem.W.view R.prog [50]) hookH obsH 7000 looseN w := by
  intro os; kernel_rfl
def csK (K : PySem.W.Frag) : List (Addr × Addr) := [He.cT K dW, He.cT K dT]
set_option maxHeartbeats 0 in
theorem facts {w : World} {P : Program} {K : PySem.W.Frag} {h : Heap} {mg : Str → Option Value} {f : Addr} (X : K.In h) (G : h.Ns mainGlobals mg) (hfa : mg ("law" : Str) = some (.ref f)) (cX : He.SaysX fa fn [] [dW, dT] exK w h K) :
    ∃ fd : FuncData, (∀ (s : Shared) (v : Value), BindsTo s fd ⟨[v], []⟩ [("_law_script", v)]) ∧ ∀ base : Heap, K.In base → base.Ns mainGlobals mg → (∀ p ∈ csK K, LamX.TabB base mg p.1 p.2) → FnG P w K mg base 21 f fd ["_law_script"] (spLawT K (He.cT K dW).2 (He.cT K dT).2) := by
  have c := cX.t.d
  obtain ⟨ex1, ex2⟩ := He.ba (show (He.tupB K "WORDS" wordsD && !decide ((He.cT K dW).2 = (He.cT K dT).2)) = true from cX.more)
  have hne : (He.cT K dW).2 ≠ (He.cT K dT).2 := fun e => by rw [decide_eq_true e] at ex2; cases ex2
  have h_WORDS : ∀ H : Hp, SqT K H (He.ga K "WORDS") (WordsK.map V.str) := fun H => He.tupB_ok ex1 H
  obtain ⟨fd_pis_integer, D_pis_integer⟩ := c.def_ 0 (d := dPIsInteger) rfl
  obtain ⟨fd_pis_between, D_pis_between⟩ := c.def_ 1 (d := dPIsBetween) rfl
  obtain ⟨fd_pis_headed, D_pis_headed⟩ := c.def_ 2 (d := dPIsHeaded) rfl
  obtain ⟨fd_pis_name, D_pis_name⟩ := c.def_ 3 (d := dPIsName) rfl
  obtain ⟨fd_pis_expression, D_pis_expression⟩ := c.def_ 4 (d := dPIsExpression) rfl
  obtain ⟨fd_pis_test, D_pis_test⟩ := c.def_ 5 (d := dPIsTest) rfl
  obtain ⟨fd_pis_statement, D_pis_statement⟩ := c.def_ 6 (d := dPIsStatement) rfl
  obtain ⟨fd_pbare_test, D_pbare_test⟩ := c.def_ 7 (d := dPBareTest) rfl
  obtain ⟨fd_pblocks_of, D_pblocks_of⟩ := c.def_ 8 (d := dPBlocksOf) rfl
  obtain ⟨fd_pprogram_error, D_pprogram_error⟩ := c.def_ 9 (d := dPProgramError) rfl
  obtain ⟨fd_pbound_error, D_pbound_error⟩ := c.def_ 10 (d := dPBoundError) rfl
  obtain ⟨fd_peach_statement, D_peach_statement⟩ := c.def_ 11 (d := dPEachStatement) rfl
  obtain ⟨fd_pplaces_in, D_pplaces_in⟩ := c.def_ 12 (d := dPPlacesIn) rfl
  obtain ⟨fd_pweight, D_pweight⟩ := c.def_ 13 (d := dPWeight) rfl
  obtain ⟨fd_ptested_in, D_ptested_in⟩ := c.def_ 14 (d := dPTestedIn) rfl
  obtain ⟨fd_ptests_with, D_ptests_with⟩ := c.def_ 15 (d := dPTestsWith) rfl
  obtain ⟨fd_psum_over, D_psum_over⟩ := c.def_ 16 (d := dPSumOver) rfl
  obtain ⟨fd_deck, D_deck⟩ := c.def_ 17 (d := dDeck) rfl
  obtain ⟨fd_draw, D_draw⟩ := c.def_ 18 (d := dDraw) rfl
  obtain ⟨fd_one, D_one⟩ := c.def_ 19 (d := dOne) rfl
  obtain ⟨fd_parts, D_parts⟩ := c.def_ 20 (d := dParts) rfl
  obtain ⟨fd_whole, D_whole⟩ := c.def_ 21 (d := dWhole) rfl
  obtain ⟨fd_is_name, D_is_name⟩ := c.def_ 22 (d := dIsName) rfl
  obtain ⟨fd_is_expression, D_is_expression⟩ := c.def_ 23 (d := dIsExpression) rfl
  obtain ⟨fd_is_rest, D_is_rest⟩ := c.def_ 24 (d := dIsRest) rfl
  obtain ⟨fd_is_test, D_is_test⟩ := c.def_ 25 (d := dIsTest) rfl
  obtain ⟨fd_is_statement, D_is_statement⟩ := c.def_ 26 (d := dIsStatement) rfl
  obtain ⟨fd_counts, D_counts⟩ := c.def_ 27 (d := dCounts) rfl
  obtain ⟨fd_error, D_error⟩ := c.def_ 28 (d := dError) rfl
  obtain ⟨fd_part, D_part⟩ := c.def_ 29 (d := dPart) rfl
  obtain ⟨fd_up_to, D_up_to⟩ := c.def_ 30 (d := dUpTo) rfl
  obtain ⟨fd_law, D_law⟩ := c.def_ 31 (d := dPLaw) rfl
  have e := hfa.symm.trans (He.glo_ok X G (c.fact 31 (f := .glo "law") rfl))
  cases e
  have bl := FunD.bindsA (ps := ["_law_script"]) D_law fun _ _ _ _ _ _ us hl => match us, hl with | [_], _ => rfl
  refine ⟨fd_law, fun s v => bl s [v] rfl, fun base _ _ TB => ?_⟩
  have TB1 : LamX.TabB base mg (He.cT K dW).1 (He.cT K dW).2 := TB _ (List.mem_cons_self ..)
  have TB2 : LamX.TabB base mg (He.cT K dT).1 (He.cT K dT).2 := TB _ (List.mem_cons_of_mem _ (List.mem_cons_self ..))
  have F_pis_integer : Fun K "is_integer" "is_integer" sPIsInteger (He.ga K "is_integer") fd_pis_integer := Fun.of D_pis_integer
  have b_pis_integer : Binds K fd_pis_integer ["value"] [] := F_pis_integer.binds (ps := ["value"]) fun _ _ _ _ _ _ us hl => match us, hl with | [_], _ => rfl
  have F_pis_between : Fun K "is_between" "is_between" sPIsBetween (He.ga K "is_between") fd_pis_between := Fun.of D_pis_between
  have b_pis_between : Binds K fd_pis_between ["value", "low", "high"] [] := F_pis_between.binds (ps := ["value", "low", "high"]) fun _ _ _ _ _ _ us hl => match us, hl with | [_, _, _], _ => rfl
  have F_pis_headed : Fun K "is_headed" "is_headed" sPIsHeaded (He.ga K "is_headed") fd_pis_headed := Fun.of D_pis_headed
  have b_pis_headed : Binds K fd_pis_headed ["value", "word", "size"] [] := F_pis_headed.binds (ps := ["value", "word", "size"]) fun _ _ _ _ _ _ us hl => match us, hl with | [_, _, _], _ => rfl
  have F_pis_name : Fun K "is_name" "is_name" sPIsName (He.ga K "is_name") fd_pis_name := Fun.of D_pis_name
  have b_pis_name : Binds K fd_pis_name ["value"] [] := F_pis_name.binds (ps := ["value"]) fun _ _ _ _ _ _ us hl => match us, hl with | [_], _ => rfl
  have F_pis_expression : FunD K "is_expression" "is_expression" (defArgs sPIsExpression) (defBody sPIsExpression) (defScope sPIsExpression) [.int 3] [] (He.ga K "is_expression") fd_pis_expression := D_pis_expression
  obtain ⟨ds0_pis_expression, v0_pis_expression, b_pis_expression⟩ := FunD.binds1 (ps := ["value", "deep"]) F_pis_expression 2 1 (by simp) rfl fun _ _ _ _ _ _ _ us its hu hi => match us, its, hu, hi with | [_, _], [_], _, _ => ⟨_, rfl, rfl⟩
  cases v0_pis_expression
  obtain ⟨ds1_pis_expression, v1_pis_expression, b_pis_expression1⟩ := FunD.binds1 (ps := ["value", "deep"]) F_pis_expression 1 0 (by simp) rfl fun _ _ _ _ _ _ _ us its hu hi => match us, its, hu, hi with | [_], [_], _, _ => ⟨_, rfl, rfl⟩
  obtain ⟨dv_pis_expression, e1_pis_expression, v_pis_expression⟩ : ∃ dv, ds1_pis_expression = [dv] ∧ RelV (.int 3) dv := by
    cases v1_pis_expression with
    | cons a b => cases b; exact ⟨_, rfl, a⟩
  subst e1_pis_expression
  have F_pis_test : FunD K "is_test" "is_test" (defArgs sPIsTest) (defBody sPIsTest) (defScope sPIsTest) [.int 2] [] (He.ga K "is_test") fd_pis_test := D_pis_test
  obtain ⟨ds0_pis_test, v0_pis_test, b_pis_test⟩ := FunD.binds1 (ps := ["value", "nots"]) F_pis_test 2 1 (by simp) rfl fun _ _ _ _ _ _ _ us its hu hi => match us, its, hu, hi with | [_, _], [_], _, _ => ⟨_, rfl, rfl⟩
  cases v0_pis_test
  obtain ⟨ds1_pis_test, v1_pis_test, b_pis_test1⟩ := FunD.binds1 (ps := ["value", "nots"]) F_pis_test 1 0 (by simp) rfl fun _ _ _ _ _ _ _ us its hu hi => match us, its, hu, hi with | [_], [_], _, _ => ⟨_, rfl, rfl⟩
  obtain ⟨dv_pis_test, e1_pis_test, v_pis_test⟩ : ∃ dv, ds1_pis_test = [dv] ∧ RelV (.int 2) dv := by
    cases v1_pis_test with
    | cons a b => cases b; exact ⟨_, rfl, a⟩
  subst e1_pis_test
  have F_pis_statement : Fun K "is_statement" "is_statement" sPIsStatement (He.ga K "is_statement") fd_pis_statement := Fun.of D_pis_statement
  have b_pis_statement : Binds K fd_pis_statement ["value"] [] := F_pis_statement.binds (ps := ["value"]) fun _ _ _ _ _ _ us hl => match us, hl with | [_], _ => rfl
  have F_pbare_test : Fun K "bare_test" "bare_test" sPBareTest (He.ga K "bare_test") fd_pbare_test := Fun.of D_pbare_test
  have b_pbare_test : Binds K fd_pbare_test ["test"] [] := F_pbare_test.binds (ps := ["test"]) fun _ _ _ _ _ _ us hl => match us, hl with | [_], _ => rfl
  have F_pblocks_of : Fun K "blocks_of" "blocks_of" sPBlocksOf (He.ga K "blocks_of") fd_pblocks_of := Fun.of D_pblocks_of
  have b_pblocks_of : Binds K fd_pblocks_of ["statement"] [] := F_pblocks_of.binds (ps := ["statement"]) fun _ _ _ _ _ _ us hl => match us, hl with | [_], _ => rfl
  have F_pprogram_error : Fun K "program_error" "program_error" sPProgramError (He.ga K "program_error") fd_pprogram_error := Fun.of D_pprogram_error
  have b_pprogram_error : Binds K fd_pprogram_error ["value"] [] := F_pprogram_error.binds (ps := ["value"]) fun _ _ _ _ _ _ us hl => match us, hl with | [_], _ => rfl
  have F_pbound_error : Fun K "bound_error" "bound_error" sPBoundError (He.ga K "bound_error") fd_pbound_error := Fun.of D_pbound_error
  have b_pbound_error : Binds K fd_pbound_error ["program"] [] := F_pbound_error.binds (ps := ["program"]) fun _ _ _ _ _ _ us hl => match us, hl with | [_], _ => rfl
  have F_peach_statement : Fun K "each_statement" "each_statement" sPEachStatement (He.ga K "each_statement") fd_peach_statement := Fun.of D_peach_statement
  have b_peach_statement : Binds K fd_peach_statement ["program"] [] := F_peach_statement.binds (ps := ["program"]) fun _ _ _ _ _ _ us hl => match us, hl with | [_], _ => rfl
  have F_pplaces_in : Fun K "places_in" "places_in" sPPlacesIn (He.ga K "places_in") fd_pplaces_in := Fun.of D_pplaces_in
  have b_pplaces_in : Binds K fd_pplaces_in ["block"] [] := F_pplaces_in.binds (ps := ["block"]) fun _ _ _ _ _ _ us hl => match us, hl with | [_], _ => rfl
  have F_pweight : Fun K "weight" "weight" sPWeight (He.ga K "weight") fd_pweight := Fun.of D_pweight
  have C_pweight : FunC K "weight" "weight" sPWeight (He.ga K "weight") fd_pweight (He.cT K dW).1 := FunC.of (p := dW) D_pweight
  have b_pweight : Binds K fd_pweight ["program"] [] := F_pweight.binds (ps := ["program"]) fun _ _ _ _ _ _ us hl => match us, hl with | [_], _ => rfl
  have F_ptested_in : Fun K "tested_in" "tested_in" sPTestedIn (He.ga K "tested_in") fd_ptested_in := Fun.of D_ptested_in
  have C_ptested_in : FunC K "tested_in" "tested_in" sPTestedIn (He.ga K "tested_in") fd_ptested_in (He.cT K dT).1 := FunC.of (p := dT) D_ptested_in
  have b_ptested_in : Binds K fd_ptested_in ["block", "word"] [] := F_ptested_in.binds (ps := ["block", "word"]) fun _ _ _ _ _ _ us hl => match us, hl with | [_, _], _ => rfl
  have F_ptests_with : Fun K "tests_with" "tests_with" sPTestsWith (He.ga K "tests_with") fd_ptests_with := Fun.of D_ptests_with
  have b_ptests_with : Binds K fd_ptests_with ["statement", "word"] [] := F_ptests_with.binds (ps := ["statement", "word"]) fun _ _ _ _ _ _ us hl => match us, hl with | [_, _], _ => rfl
  have F_psum_over : Fun K "sum_over" "sum_over" sPSumOver (He.ga K "sum_over") fd_psum_over := Fun.of D_psum_over
  have b_psum_over : Binds K fd_psum_over ["block", "own"] [] := F_psum_over.binds (ps := ["block", "own"]) fun _ _ _ _ _ _ us hl => match us, hl with | [_, _], _ => rfl
  have F_deck : Fun K "_law_deck" "_law_deck" sDeck (He.ga K "_law_deck") fd_deck := Fun.of D_deck
  have b_deck : Binds K fd_deck ["_law_script"] [] := F_deck.binds (ps := ["_law_script"]) fun _ _ _ _ _ _ us hl => match us, hl with | [_], _ => rfl
  have F_draw : Fun K "_law_draw" "_law_draw" sDraw (He.ga K "_law_draw") fd_draw := Fun.of D_draw
  have b_draw : Binds K fd_draw ["_law_deck_here", "_law_many"] [] := F_draw.binds (ps := ["_law_deck_here", "_law_many"]) fun _ _ _ _ _ _ us hl => match us, hl with | [_, _], _ => rfl
  have F_one : Fun K "_law_one" "_law_one" sOne (He.ga K "_law_one") fd_one := Fun.of D_one
  have b_one : Binds K fd_one ["_law_deck_here", "_law_items"] [] := F_one.binds (ps := ["_law_deck_here", "_law_items"]) fun _ _ _ _ _ _ us hl => match us, hl with | [_, _], _ => rfl
  have F_parts : Fun K "_law_parts" "_law_parts" sParts (He.ga K "_law_parts") fd_parts := Fun.of D_parts
  have b_parts : Binds K fd_parts ["_law_row"] [] := F_parts.binds (ps := ["_law_row"]) fun _ _ _ _ _ _ us hl => match us, hl with | [_], _ => rfl
  have F_whole : Fun K "_law_whole" "_law_whole" sWhole (He.ga K "_law_whole") fd_whole := Fun.of D_whole
  have b_whole : Binds K fd_whole ["_law_value", "_law_least", "_law_most"] [] := F_whole.binds (ps := ["_law_value", "_law_least", "_law_most"]) fun _ _ _ _ _ _ us hl => match us, hl with | [_, _, _], _ => rfl
  have F_is_name : Fun K "_law_is_name" "_law_is_name" sIsName (He.ga K "_law_is_name") fd_is_name := Fun.of D_is_name
  have b_is_name : Binds K fd_is_name ["_law_value"] [] := F_is_name.binds (ps := ["_law_value"]) fun _ _ _ _ _ _ us hl => match us, hl with | [_], _ => rfl
  have F_is_expression : Fun K "_law_is_expression" "_law_is_expression" sIsExpression (He.ga K "_law_is_expression") fd_is_expression := Fun.of D_is_expression
  have b_is_expression : Binds K fd_is_expression ["_law_value", "_law_deep"] [] := F_is_expression.binds (ps := ["_law_value", "_law_deep"]) fun _ _ _ _ _ _ us hl => match us, hl with | [_, _], _ => rfl
  have F_is_rest : Fun K "_law_is_rest" "_law_is_rest" sIsRest (He.ga K "_law_is_rest") fd_is_rest := Fun.of D_is_rest
  have b_is_rest : Binds K fd_is_rest ["_law_value"] [] := F_is_rest.binds (ps := ["_law_value"]) fun _ _ _ _ _ _ us hl => match us, hl with | [_], _ => rfl
  have F_is_test : Fun K "_law_is_test" "_law_is_test" sIsTest (He.ga K "_law_is_test") fd_is_test := Fun.of D_is_test
  have b_is_test : Binds K fd_is_test ["_law_value", "_law_nots"] [] := F_is_test.binds (ps := ["_law_value", "_law_nots"]) fun _ _ _ _ _ _ us hl => match us, hl with | [_, _], _ => rfl
  have F_is_statement : Fun K "_law_is_statement" "_law_is_statement" sIsStatement (He.ga K "_law_is_statement") fd_is_statement := Fun.of D_is_statement
  have b_is_statement : Binds K fd_is_statement ["_law_value"] [] := F_is_statement.binds (ps := ["_law_value"]) fun _ _ _ _ _ _ us hl => match us, hl with | [_], _ => rfl
  have F_counts : Fun K "_law_counts" "_law_counts" sCounts (He.ga K "_law_counts") fd_counts := Fun.of D_counts
  have b_counts : Binds K fd_counts ["_law_block"] [] := F_counts.binds (ps := ["_law_block"]) fun _ _ _ _ _ _ us hl => match us, hl with | [_], _ => rfl
  have F_error : Fun K "_law_error" "_law_error" sError (He.ga K "_law_error") fd_error := Fun.of D_error
  have b_error : Binds K fd_error ["_law_value"] [] := F_error.binds (ps := ["_law_value"]) fun _ _ _ _ _ _ us hl => match us, hl with | [_], _ => rfl
  have F_part : Fun K "_law_part" "_law_part" sPart (He.ga K "_law_part") fd_part := Fun.of D_part
  have b_part : Binds K fd_part ["_law_deck_here"] [] := F_part.binds (ps := ["_law_deck_here"]) fun _ _ _ _ _ _ us hl => match us, hl with | [_], _ => rfl
  have F_up_to : Fun K "_law_up_to" "_law_up_to" sUpTo (He.ga K "_law_up_to") fd_up_to := Fun.of D_up_to
  have b_up_to : Binds K fd_up_to ["_law_deck_here"] [] := F_up_to.binds (ps := ["_law_deck_here"]) fun _ _ _ _ _ _ us hl => match us, hl with | [_], _ => rfl
  have F_law : Fun K "law" "law" sPLaw (He.ga K "law") fd_law := Fun.of D_law
  have m_pis_integer : mg "is_integer" = some (.ref (He.ga K "is_integer")) := He.glo_ok X G (c.fact 0 (f := .glo "is_integer") rfl)
  have m_pis_between : mg "is_between" = some (.ref (He.ga K "is_between")) := He.glo_ok X G (c.fact 1 (f := .glo "is_between") rfl)
  have m_pis_headed : mg "is_headed" = some (.ref (He.ga K "is_headed")) := He.glo_ok X G (c.fact 2 (f := .glo "is_headed") rfl)
  have m_pis_name : mg "is_name" = some (.ref (He.ga K "is_name")) := He.glo_ok X G (c.fact 3 (f := .glo "is_name") rfl)
  have m_pis_expression : mg "is_expression" = some (.ref (He.ga K "is_expression")) := He.glo_ok X G (c.fact 4 (f := .glo "is_expression") rfl)
  have m_pis_test : mg "is_test" = some (.ref (He.ga K "is_test")) := He.glo_ok X G (c.fact 5 (f := .glo "is_test") rfl)
  have m_pis_statement : mg "is_statement" = some (.ref (He.ga K "is_statement")) := He.glo_ok X G (c.fact 6 (f := .glo "is_statement") rfl)
  have m_pbare_test : mg "bare_test" = some (.ref (He.ga K "bare_test")) := He.glo_ok X G (c.fact 7 (f := .glo "bare_test") rfl)
  have m_pblocks_of : mg "blocks_of" = some (.ref (He.ga K "blocks_of")) := He.glo_ok X G (c.fact 8 (f := .glo "blocks_of") rfl)
  have m_pprogram_error : mg "program_error" = some (.ref (He.ga K "program_error")) := He.glo_ok X G (c.fact 9 (f := .glo "program_error") rfl)
  have m_pbound_error : mg "bound_error" = some (.ref (He.ga K "bound_error")) := He.glo_ok X G (c.fact 10 (f := .glo "bound_error") rfl)
  have m_peach_statement : mg "each_statement" = some (.ref (He.ga K "each_statement")) := He.glo_ok X G (c.fact 11 (f := .glo "each_statement") rfl)
  have m_pplaces_in : mg "places_in" = some (.ref (He.ga K "places_in")) := He.glo_ok X G (c.fact 12 (f := .glo "places_in") rfl)
  have m_pweight : mg "weight" = some (.ref (He.ga K "weight")) := He.glo_ok X G (c.fact 13 (f := .glo "weight") rfl)
  have m_ptested_in : mg "tested_in" = some (.ref (He.ga K "tested_in")) := He.glo_ok X G (c.fact 14 (f := .glo "tested_in") rfl)
  have m_ptests_with : mg "tests_with" = some (.ref (He.ga K "tests_with")) := He.glo_ok X G (c.fact 15 (f := .glo "tests_with") rfl)
  have m_psum_over : mg "sum_over" = some (.ref (He.ga K "sum_over")) := He.glo_ok X G (c.fact 16 (f := .glo "sum_over") rfl)
  have m_deck : mg "_law_deck" = some (.ref (He.ga K "_law_deck")) := He.glo_ok X G (c.fact 17 (f := .glo "_law_deck") rfl)
  have m_draw : mg "_law_draw" = some (.ref (He.ga K "_law_draw")) := He.glo_ok X G (c.fact 18 (f := .glo "_law_draw") rfl)
  have m_one : mg "_law_one" = some (.ref (He.ga K "_law_one")) := He.glo_ok X G (c.fact 19 (f := .glo "_law_one") rfl)
  have m_parts : mg "_law_parts" = some (.ref (He.ga K "_law_parts")) := He.glo_ok X G (c.fact 20 (f := .glo "_law_parts") rfl)
  have m_whole : mg "_law_whole" = some (.ref (He.ga K "_law_whole")) := He.glo_ok X G (c.fact 21 (f := .glo "_law_whole") rfl)
  have m_is_name : mg "_law_is_name" = some (.ref (He.ga K "_law_is_name")) := He.glo_ok X G (c.fact 22 (f := .glo "_law_is_name") rfl)
  have m_is_expression : mg "_law_is_expression" = some (.ref (He.ga K "_law_is_expression")) := He.glo_ok X G (c.fact 23 (f := .glo "_law_is_expression") rfl)
  have m_is_rest : mg "_law_is_rest" = some (.ref (He.ga K "_law_is_rest")) := He.glo_ok X G (c.fact 24 (f := .glo "_law_is_rest") rfl)
  have m_is_test : mg "_law_is_test" = some (.ref (He.ga K "_law_is_test")) := He.glo_ok X G (c.fact 25 (f := .glo "_law_is_test") rfl)
  have m_is_statement : mg "_law_is_statement" = some (.ref (He.ga K "_law_is_statement")) := He.glo_ok X G (c.fact 26 (f := .glo "_law_is_statement") rfl)
  have m_counts : mg "_law_counts" = some (.ref (He.ga K "_law_counts")) := He.glo_ok X G (c.fact 27 (f := .glo "_law_counts") rfl)
  have m_error : mg "_law_error" = some (.ref (He.ga K "_law_error")) := He.glo_ok X G (c.fact 28 (f := .glo "_law_error") rfl)
  have m_part : mg "_law_part" = some (.ref (He.ga K "_law_part")) := He.glo_ok X G (c.fact 29 (f := .glo "_law_part") rfl)
  have m_up_to : mg "_law_up_to" = some (.ref (He.ga K "_law_up_to")) := He.glo_ok X G (c.fact 30 (f := .glo "_law_up_to") rfl)
  have z_abs : mg "abs" = none := He.free_ok X G (c.fact 32 (f := .free "abs") rfl)
  have z_all : mg "all" = none := He.free_ok X G (c.fact 33 (f := .free "all") rfl)
  have z_bool : mg "bool" = none := He.free_ok X G (c.fact 34 (f := .free "bool") rfl)
  have z_enumerate : mg "enumerate" = none := He.free_ok X G (c.fact 35 (f := .free "enumerate") rfl)
  have z_int : mg "int" = none := He.free_ok X G (c.fact 36 (f := .free "int") rfl)
  have z_isinstance : mg "isinstance" = none := He.free_ok X G (c.fact 37 (f := .free "isinstance") rfl)
  have z_len : mg "len" = none := He.free_ok X G (c.fact 38 (f := .free "len") rfl)
  have z_list : mg "list" = none := He.free_ok X G (c.fact 39 (f := .free "list") rfl)
  have z_range : mg "range" = none := He.free_ok X G (c.fact 40 (f := .free "range") rfl)
  have z_repr : mg "repr" = none := He.free_ok X G (c.fact 41 (f := .free "repr") rfl)
  have z_str : mg "str" = none := He.free_ok X G (c.fact 42 (f := .free "str") rfl)
  have z_sum : mg "sum" = none := He.free_ok X G (c.fact 43 (f := .free "sum") rfl)
  have z_tuple : mg "tuple" = none := He.free_ok X G (c.fact 44 (f := .free "tuple") rfl)
  obtain ⟨t_MAX_NAME, m_MAX_NAME⟩ := He.int_ok X G (c.fact 45 (f := .int "MAX_NAME" 8) rfl)
  obtain ⟨t_MAX_TIMES, m_MAX_TIMES⟩ := He.int_ok X G (c.fact 46 (f := .int "MAX_TIMES" 8) rfl)
  obtain ⟨t_MAX_DEEP, m_MAX_DEEP⟩ := He.int_ok X G (c.fact 47 (f := .int "MAX_DEEP" 3) rfl)
  obtain ⟨t_MAX_NOTS, m_MAX_NOTS⟩ := He.int_ok X G (c.fact 48 (f := .int "MAX_NOTS" 2) rfl)
  obtain ⟨t_MAX_BY, m_MAX_BY⟩ := He.int_ok X G (c.fact 49 (f := .int "MAX_BY" 6) rfl)
  obtain ⟨t_MAX_PLACES, m_MAX_PLACES⟩ := He.int_ok X G (c.fact 50 (f := .int "MAX_PLACES" 24) rfl)
  obtain ⟨t_MAX_WEIGHT, m_MAX_WEIGHT⟩ := He.int_ok X G (c.fact 51 (f := .int "MAX_WEIGHT" 30) rfl)
  obtain ⟨t_MAX_RESTS, m_MAX_RESTS⟩ := He.int_ok X G (c.fact 52 (f := .int "MAX_RESTS" 2) rfl)
  obtain ⟨t_MAX_COMPARINGS, m_MAX_COMPARINGS⟩ := He.int_ok X G (c.fact 53 (f := .int "MAX_COMPARINGS" 2) rfl)
  obtain ⟨t_MAX_NEST, m_MAX_NEST⟩ := He.int_ok X G (c.fact 54 (f := .int "MAX_NEST" 3) rfl)
  obtain ⟨t_MAX_CONSTANT, m_MAX_CONSTANT⟩ := He.int_ok X G (c.fact 55 (f := .int "MAX_CONSTANT" 99) rfl)
  obtain ⟨t_MAX_FACTOR, m_MAX_FACTOR⟩ := He.int_ok X G (c.fact 56 (f := .int "MAX_FACTOR" 9) rfl)
  obtain ⟨t_MIN_BY, m_MIN_BY⟩ := He.int_ok X G (c.fact 57 (f := .int "MIN_BY" 2) rfl)
  obtain ⟨t_LETTERS, m_LETTERS⟩ := He.str_ok X G (c.fact 58 (f := .str "LETTERS" "abcdefghijklmnopqrstuvwxyz") rfl)
  obtain ⟨t_DIGITS, m_DIGITS⟩ := He.str_ok X G (c.fact 59 (f := .str "DIGITS" "0123456789") rfl)
  have m_WORDS : mg "WORDS" = some (.ref (He.ga K "WORDS")) := He.glo_ok X G (c.fact 60 (f := .glo "WORDS") rfl)
  have G_deck : FnOk P w K mg base CX0 1 (He.ga K "_law_deck") fd_deck ["_law_script"] (spDeck K) := by apply ok_deck (k := 0) <;> assumption
  have G_draw : FnOk P w K mg base CX0 1 (He.ga K "_law_draw") fd_draw ["_law_deck_here", "_law_many"] spDraw := by apply ok_draw (k := 0) <;> assumption
  have G_one : FnOk P w K mg base CX0 2 (He.ga K "_law_one") fd_one ["_law_deck_here", "_law_items"] (spOne K) := by apply ok_one (k := 0) <;> assumption
  have G_parts : FnOk P w K mg base CX0 1 (He.ga K "_law_parts") fd_parts ["_law_row"] spParts := ok_parts (k := 0) F_parts
  have G_pis_integer : FnOk P w K mg base CX0 1 (He.ga K "is_integer") fd_pis_integer ["value"] spIsInt := ok_pis_integer (k := 0) F_pis_integer z_isinstance z_int z_bool
  have G_pblocks_of : FnOk P w K mg base CX0 1 (He.ga K "blocks_of") fd_pblocks_of ["statement"] spBlocks := ok_pblocks_of (k := 0) F_pblocks_of
  have G_peach : GFn P w K mg base 2 (He.ga K "each_statement") fd_peach_statement ["program"] spEach := ok_peach F_peach_statement F_pblocks_of G_pblocks_of b_pblocks_of m_pblocks_of
  have G_pplaces : FnOk P w K mg base CX0 6 (He.ga K "places_in") fd_pplaces_in ["block"] spPlaces := ok_pplaces F_pplaces_in F_peach_statement G_peach b_peach_statement m_peach_statement z_len z_list
  have G_pis_between : FnOk P w K mg base CX0 2 (He.ga K "is_between") fd_pis_between ["value", "low", "high"] spBetween := ok_pbetween (k := 0) F_pis_between F_pis_integer G_pis_integer b_pis_integer m_pis_integer
  have G_pis_headed : FnOk P w K mg base CX0 1 (He.ga K "is_headed") fd_pis_headed ["value", "word", "size"] spHeaded := ok_pheaded (k := 0) F_pis_headed z_isinstance z_tuple z_len
  have G_pis_name : FnOk P w K mg base CX0 1 (He.ga K "is_name") fd_pis_name ["value"] spName := ok_pname (k := 0) F_pis_name m_MAX_NAME m_WORDS h_WORDS m_LETTERS m_DIGITS z_isinstance z_str z_len z_all
  have G_pexpr : ∀ m : Nat, FnOk P w K mg base CX0 (m + 3) (He.ga K "is_expression") fd_pis_expression ["value", "deep"] (spIsExpr m) := by apply ok_pexpr <;> assumption
  have G_pis_expression : FnOk P w K mg base CX0 7 (He.ga K "is_expression") fd_pis_expression ["value", "deep"] (spIsExpr 4) := G_pexpr 4
  have G_ptest : ∀ m : Nat, FnOk P w K mg base CX0 (m + 7) (He.ga K "is_test") fd_pis_test ["value", "nots"] (spIsTest m) := by apply ok_ptest <;> assumption
  have G_pis_test : FnOk P w K mg base CX0 10 (He.ga K "is_test") fd_pis_test ["value", "nots"] (spIsTest 3) := G_ptest 3
  have G_pis_statement : FnOk P w K mg base CX0 11 (He.ga K "is_statement") fd_pis_statement ["value"] spIsSt := by apply ok_pstatement <;> assumption
  have G_pbare_test : FnOk P w K mg base CX0 1 (He.ga K "bare_test") fd_pbare_test ["test"] spBare := ok_pbare (k := 0) F_pbare_test
  have G_ptests_with : FnOk P w K mg base CX0 2 (He.ga K "tests_with") fd_ptests_with ["statement", "word"] spTestsWith := ok_ptests (k := 0) F_ptests_with F_pbare_test G_pbare_test b_pbare_test m_pbare_test
  have G_sum : ∀ (T : Addr → Hp → Prop) (own : St → Int), HeldL P w K mg base 4 T (spOwn own) → ∀ d : Nat, FnOk P w K mg base CX0 (d + 5) (He.ga K "sum_over") fd_psum_over ["block", "own"] (spSum T own d) := fun T own hh => ok_psum F_psum_over F_pblocks_of G_pblocks_of b_psum_over b_pblocks_of m_psum_over m_pblocks_of z_sum hh
  have G_pweight : FnOk P w K mg base CX0 14 (He.ga K "weight") fd_pweight ["program"] (spWeight (He.cT K dW).2 (He.cT K dT).2 8) := ok_pweight (D := 8) C_pweight F_psum_over TB1 hne G_sum b_psum_over m_psum_over
  have G_ptested_in : FnOk P w K mg base CX0 14 (He.ga K "tested_in") fd_ptested_in ["block", "word"] (spTested (He.cT K dW).2 (He.cT K dT).2 8) := ok_ptested (D := 8) C_ptested_in F_psum_over TB2 hne F_ptests_with G_ptests_with b_ptests_with m_ptests_with z_int G_sum b_psum_over m_psum_over
  have G_pbound_error : FnOk P w K mg base CX0 15 (He.ga K "bound_error") fd_pbound_error ["program"] (spBound (He.cT K dW).2 (He.cT K dT).2 8) := ok_pbound (D := 8) F_pbound_error F_pplaces_in C_pweight C_ptested_in G_pplaces G_pweight G_ptested_in b_pplaces_in b_pweight b_ptested_in m_pplaces_in m_pweight m_ptested_in m_MAX_PLACES m_MAX_WEIGHT m_MAX_RESTS m_MAX_COMPARINGS
  have G_pprogram_error : FnOk P w K mg base CX0 20 (He.ga K "program_error") fd_pprogram_error ["value"] (spPE (He.cT K dW).2 (He.cT K dT).2 8) := ok_perr (D := 8) F_pprogram_error F_peach_statement F_pblocks_of F_pis_statement F_pbound_error G_pblocks_of G_pis_statement G_pbound_error b_peach_statement b_pblocks_of b_pis_statement b_pbound_error m_peach_statement m_pblocks_of m_pis_statement m_pbound_error m_MAX_NEST z_isinstance z_tuple
  -- the law's own reading
  have G_whole : FnOk P w K mg base CX0 1 (He.ga K "_law_whole") fd_whole ["_law_value", "_law_least", "_law_most"] spWhole := ok_lwhole (k := 0) F_whole z_isinstance z_int z_bool
  have G_is_name : FnOk P w K mg base CX0 1 (He.ga K "_law_is_name") fd_is_name ["_law_value"] spIsNm := ok_lname (k := 0) F_is_name z_isinstance z_str z_len
  have G_is_expression : FnOk P w K mg base CX0 2 (He.ga K "_law_is_expression") fd_is_expression ["_law_value", "_law_deep"] spIsEx := ok_lexpr (k := 1) F_is_expression F_is_name F_whole G_is_name G_whole ⟨fun _ _ _ _ h => h.elim, fun _ _ _ _ _ _ _ _ _ _ _ _ _ h => h.elim⟩ b_is_expression b_is_name b_whole m_is_expression m_is_name m_whole (Nat.le_refl _) z_isinstance z_tuple z_str z_len
  have G_is_rest : FnOk P w K mg base CX0 3 (He.ga K "_law_is_rest") fd_is_rest ["_law_value"] spIsRest := by apply ok_lrest (k := 2) (Nat.le_refl _) <;> assumption
  have G_is_test : FnOk P w K mg base CX0 7 (He.ga K "_law_is_test") fd_is_test ["_law_value", "_law_nots"] (fun vs H Q E => ∃ m : Nat, m < 3 ∧ m ≤ 50 ∧ (∃ v, vs = [v, .int (m : Int)]) ∧ spIsTs vs H Q E) := ok_ltest F_is_test F_is_expression F_is_rest G_is_expression G_is_rest b_is_test b_is_expression b_is_rest m_is_test m_is_expression m_is_rest z_isinstance z_tuple z_str z_len 3
  have G_is_statement : FnOk P w K mg base CX0 8 (He.ga K "_law_is_statement") fd_is_statement ["_law_value"] spIsStL := by apply ok_lstat <;> assumption
  have G_counts : FnOk P w K mg base CX0 9 (He.ga K "_law_counts") fd_counts ["_law_block"] (spCounts 8) := ok_lcounts F_counts F_parts G_parts b_counts b_parts m_counts m_parts z_int z_range 8
  have G_error : FnOk P w K mg base CX0 18 (He.ga K "_law_error") fd_error ["_law_value"] (spLErr 8) := ok_lerr (D := 8) F_error F_is_statement F_parts F_counts G_is_statement G_parts G_counts b_is_statement b_parts b_counts m_is_statement m_parts m_counts z_isinstance z_tuple z_enumerate
  have G_part : FnOk P w K mg base CX0 3 (He.ga K "_law_part") fd_part ["_law_deck_here"] (spGen 15 7 22 11) := ok_lpart F_part F_draw F_one G_draw G_one b_draw b_one m_draw m_one z_range z_tuple
  have G_up_to : FnOk P w K mg base CX0 3 (He.ga K "_law_up_to") fd_up_to ["_law_deck_here"] (spGen 15 7 31 3) := ok_lup F_up_to F_draw F_one G_draw G_one b_draw b_one m_draw m_one z_range
  exact ok_law23 F_law F_deck F_draw F_part F_up_to F_error F_counts F_pprogram_error C_pweight G_deck G_draw G_part G_up_to G_error G_counts G_pprogram_error G_pweight b_deck b_draw b_part b_up_to b_error b_counts b_pprogram_error b_pweight m_deck m_draw m_part m_up_to m_error m_counts m_pprogram_error m_pweight z_repr z_range
end GA
open PyProof.Rows PySem PySem.W PySem.Calls
set_option maxHeartbeats 0 in
set_option maxRecDepth 200000 in
theorem PySem.Challenge.cw_whichheld_k23_bounds_of_programs_holds : PySem.Challenge.rw_whichheld_k23_bounds_of_programs.Holds := by
  w_on; o_law
  refine HandSHeadRun.head_any (r := GA.R) (q := view GA.R.prog [50]) (H := GA.hookH) (ob := GA.obsH) (M := 7000) (loose := GA.looseN) (d := HandSHeadRun.topDef GA.R.prog 50) (kwd := []) GA.obsH_eq
    (by kernel_rfl) (fun s => by kernel_rfl) GA.run_head (by kernel_rfl) (by kernel_rfl) (by kernel_rfl) (by rfl) (by first | assumption | decide +kernel) (by decide +kernel) ⟨rfl, rfl, rfl, rfl, rfl, by decide +kernel⟩ ?hw ?hc
  case hw => w_witness2
  case hc =>
    refine GA.walk_ofEGT (l := PySem.Challenge.rw_whichheld_k23_bounds_of_programs) (n := 63) (k := 21) (x := "_law_script") rfl (by decide) ⟨rfl, by decide, by decide⟩ (by kernel_rfl) ?F
    intro w mg fa h Y G hmg0; obtain ⟨K, KX, c⟩ := Y
    have hmg : mg ("law" : PySem.Str) = some (.ref fa) := (show (HandSHeadRun.topDef GA.R.prog 50).name = ("law" : PySem.Str) by kernel_rfl) ▸ hmg0
    obtain ⟨fd, hb, hF⟩ := GA.facts (P := (PySem.Challenge.rw_whichheld_k23_bounds_of_programs).prog) (w := w) KX G hmg c
    have two : ∀ {A : PySem.Addr × PySem.Addr → Prop}, (∀ p ∈ [GA.dW, GA.dT], A (He.cT K p)) → ∀ p ∈ GA.csK K, A p := fun {A} z p hp => by
      rcases List.mem_cons.1 hp with rfl | hp
      · exact z _ (List.mem_cons_self ..)
      · rw [List.mem_singleton.1 hp]; exact z _ (List.mem_cons_of_mem _ (List.mem_cons_self ..))
    refine ⟨K, GA.csK K, fd, GA.spLawT K (He.cT K GA.dW).2 (He.cT K GA.dT).2, KX, two c.empty, two c.out, two fun p hp => codeHd_of_K KX (c.hd p hp), hb, fun H a ns hl hT hS => ⟨a, ns, rfl, hS, hl, fun p hp => ?_, fun _ => rfl⟩, hF⟩
    rcases List.mem_cons.1 hp with rfl | hp
    · exact LamX.TabS.nil (hT _ (List.mem_cons_self ..))
    · rw [List.mem_singleton.1 hp]; exact LamX.TabS.nil (hT _ (List.mem_cons_of_mem _ (List.mem_cons_self ..)))
