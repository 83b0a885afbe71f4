import PyProof.Rows.All
import Wide.All
import OpenK.AllK
import Wide.FinOn
import KE.KStateDown
import HandS.ForMost
import HandS.Wide
import HandS.TupAny
import HandS.Codes
import KE.GoesMore
import KE.DataMinKey
import KE.SortData
import PyProof.DictUpdate
import PyProof.DictDisplay
import HandS.IsInst
import HandS.Style
import HandS.GenList
import HandS.GenYield
import HandS.Nested
import HandS.Lambda
import HandS.Defaults
import HandS.Walk
import HandS.TupMul
import HandS.NoneIn
import HandS.Conv
import HandS.Star
import HandS.SortKw
import HandS.DictTup
import HandS.TupSets
import HandS.Deep
import HandS.HeadEnd
import HandS.Head0
import HandS.Head1
import HandS.Head2
import HandS.HeadHook1
import HandS.HeadHook2
import PySem.Challenge.RW_whichheld_k34_kinds_told
set_option Elab.async false
set_option linter.all false
set_option maxRecDepth 100000
namespace GA
open L2 PySem PySem.Spec PyProof.Rows
def topS (i : Nat) : Stmt := PySem.Challenge.pw_whichheld_k34_kinds_told.main.body.getD i (.Pass ⟨0, 0, 0, 0⟩)
def dPIsInteger : He.DefD := ⟨("is_integer", none), "is_integer", "is_integer", defArgs (topS 1), defBody (topS 1), defScope (topS 1), [], []⟩
def dPBareTest : He.DefD := ⟨("bare_test", none), "bare_test", "bare_test", defArgs (topS 2), defBody (topS 2), defScope (topS 2), [], []⟩
def dPBlocksOf : He.DefD := ⟨("blocks_of", none), "blocks_of", "blocks_of", defArgs (topS 3), defBody (topS 3), defScope (topS 3), [], []⟩
def dPEachStatement : He.DefD := ⟨("each_statement", none), "each_statement", "each_statement", defArgs (topS 5), defBody (topS 5), defScope (topS 5), [], []⟩
def dPTestsWith : He.DefD := ⟨("tests_with", none), "tests_with", "tests_with", defArgs (topS 6), defBody (topS 6), defScope (topS 6), [], []⟩
def dPSignParts : He.DefD := ⟨("sign_parts", none), "sign_parts", "sign_parts", defArgs (topS 8), defBody (topS 8), defScope (topS 8), [], []⟩
def dPEndsOf : He.DefD := ⟨("ends_of", none), "ends_of", "ends_of", defArgs (topS 9), defBody (topS 9), defScope (topS 9), [], []⟩
def dPWaysOf : He.DefD := ⟨("ways_of", none), "ways_of", "ways_of", defArgs (topS 10), defBody (topS 10), defScope (topS 10), [], []⟩
def dPPartsBy : He.DefD := ⟨("parts_by", none), "parts_by", "parts_by", defArgs (topS 11), defBody (topS 11), defScope (topS 11), [], []⟩
def dPPartsBelow : He.DefD := ⟨("parts_below", none), "parts_below", "parts_below", defArgs (topS 12), defBody (topS 12), defScope (topS 12), [], []⟩
def dPLineOf : He.DefD := ⟨("line_of", none), "line_of", "line_of", defArgs (topS 13), defBody (topS 13), defScope (topS 13), [], []⟩
def dPTimesLine : He.DefD := ⟨("times_line", none), "times_line", "times_line", defArgs (topS 14), defBody (topS 14), defScope (topS 14), [], []⟩
def dPSumLine : He.DefD := ⟨("sum_line", none), "sum_line", "sum_line", defArgs (topS 15), defBody (topS 15), defScope (topS 15), [], []⟩
def dPTighterLow : He.DefD := ⟨("tighter_low", none), "tighter_low", "tighter_low", defArgs (topS 16), defBody (topS 16), defScope (topS 16), [], []⟩
def dPTighterHigh : He.DefD := ⟨("tighter_high", none), "tighter_high", "tighter_high", defArgs (topS 17), defBody (topS 17), defScope (topS 17), [], []⟩
def dPSignsOf : He.DefD := ⟨("signs_of", none), "signs_of", "signs_of", defArgs (topS 19), defBody (topS 19), defScope (topS 19), [], []⟩
def dPKindsOf : He.DefD := ⟨("kinds_of", none), "kinds_of", "kinds_of", defArgs (topS 20), defBody (topS 20), defScope (topS 20), [], []⟩
def dPOrderOf : He.DefD := ⟨("order_of", none), "order_of", "order_of", defArgs (topS 21), defBody (topS 21), defScope (topS 21), [], []⟩
def dPFirstOf : He.DefD := ⟨("first_of", none), "first_of", "first_of", defArgs (topS 22), defBody (topS 22), defScope (topS 22), [], []⟩
def dPHasOne : He.DefD := ⟨("has_one", none), "has_one", "has_one", defArgs (topS 23), defBody (topS 23), defScope (topS 23), [], []⟩
def dPTableOf : He.DefD := ⟨("table_of", none), "table_of", "table_of", defArgs (topS 24), defBody (topS 24), defScope (topS 24), [], []⟩
def dPColumnOf : He.DefD := ⟨("column_of", none), "column_of", "column_of", defArgs (topS 25), defBody (topS 25), defScope (topS 25), [], []⟩
def dPCrossed : He.DefD := ⟨("crossed", none), "crossed", "crossed", defArgs (topS 26), defBody (topS 26), defScope (topS 26), [], []⟩
def dPJoined : He.DefD := ⟨("joined", none), "joined", "joined", defArgs (topS 27), defBody (topS 27), defScope (topS 27), [], []⟩
def dPLeastCommon : He.DefD := ⟨("least_common", none), "least_common", "least_common", defArgs (topS 28), defBody (topS 28), defScope (topS 28), [], []⟩
def dPBezout : He.DefD := ⟨("bezout", none), "bezout", "bezout", defArgs (topS 29), defBody (topS 29), defScope (topS 29), [], []⟩
def dDeck : He.DefD := ⟨("_law_deck", none), "_law_deck", "_law_deck", defArgs (topS 31), defBody (topS 31), defScope (topS 31), [], []⟩
def dDraw : He.DefD := ⟨("_law_draw", none), "_law_draw", "_law_draw", defArgs (topS 32), defBody (topS 32), defScope (topS 32), [], []⟩
def dOne : He.DefD := ⟨("_law_one", none), "_law_one", "_law_one", defArgs (topS 33), defBody (topS 33), defScope (topS 33), [], []⟩
def dRank : He.DefD := ⟨("_law_rank", none), "_law_rank", "_law_rank", defArgs (topS 34), defBody (topS 34), defScope (topS 34), [], []⟩
def dSmall : He.DefD := ⟨("_law_small", none), "_law_small", "_law_small", defArgs (topS 35), defBody (topS 35), defScope (topS 35), [], []⟩
def dFirstOf : He.DefD := ⟨("_law_first_of", none), "_law_first_of", "_law_first_of", defArgs (topS 36), defBody (topS 36), defScope (topS 36), [], []⟩
def dNames : He.DefD := ⟨("_law_names", none), "_law_names", "_law_names", defArgs (topS 37), defBody (topS 37), defScope (topS 37), [], []⟩
def dExpression : He.DefD := ⟨("_law_expression", none), "_law_expression", "_law_expression", defArgs (topS 38), defBody (topS 38), defScope (topS 38), [], []⟩
def dTest : He.DefD := ⟨("_law_test", none), "_law_test", "_law_test", defArgs (topS 39), defBody (topS 39), defScope (topS 39), [], []⟩
def dRow : He.DefD := ⟨("_law_row", none), "_law_row", "_law_row", defArgs (topS 40), defBody (topS 40), defScope (topS 40), [], []⟩
def dBlock : He.DefD := ⟨("_law_block", none), "_law_block", "_law_block", defArgs (topS 41), defBody (topS 41), defScope (topS 41), [], []⟩
def dProgram : He.DefD := ⟨("_law_program", none), "_law_program", "_law_program", defArgs (topS 42), defBody (topS 42), defScope (topS 42), [], []⟩
def dLittle : He.DefD := ⟨("_law_little", none), "_law_little", "_law_little", defArgs (topS 43), defBody (topS 43), defScope (topS 43), [], []⟩
def dFamily : He.DefD := ⟨("_law_family", none), "_law_family", "_law_family", defArgs (topS 44), defBody (topS 44), defScope (topS 44), [], []⟩
def dValue : He.DefD := ⟨("_law_value", none), "_law_value", "_law_value", defArgs (topS 45), defBody (topS 45), defScope (topS 45), [], []⟩
def dIsTrue : He.DefD := ⟨("_law_is_true", none), "_law_is_true", "_law_is_true", defArgs (topS 46), defBody (topS 46), defScope (topS 46), [], []⟩
def dSign : He.DefD := ⟨("_law_sign", none), "_law_sign", "_law_sign", defArgs (topS 47), defBody (topS 47), defScope (topS 47), [], []⟩
def dSigns : He.DefD := ⟨("_law_signs", none), "_law_signs", "_law_signs", defArgs (topS 48), defBody (topS 48), defScope (topS 48), [], []⟩
def dNear : He.DefD := ⟨("_law_near", none), "_law_near", "_law_near", defArgs (topS 49), defBody (topS 49), defScope (topS 49), [], []⟩
def dPLaw : He.DefD := ⟨("law", none), "law", "law", defArgs (topS 50), defBody (topS 50), defScope (topS 50), [], []⟩
def fn0 : List He.DefD := [dPIsInteger, dPBareTest, dPBlocksOf, dPEachStatement, dPTestsWith, dPSignParts, dPEndsOf, dPWaysOf, dPPartsBy, dPPartsBelow, dPLineOf, dPTimesLine]
def fn1 : List He.DefD := [dPSumLine, dPTighterLow, dPTighterHigh, dPSignsOf, dPKindsOf, dPOrderOf, dPFirstOf, dPHasOne, dPTableOf, dPColumnOf, dPCrossed, dPJoined]
def fn2 : List He.DefD := [dPLeastCommon, dPBezout, dDeck, dDraw, dOne, dRank, dSmall, dFirstOf, dNames, dExpression, dTest, dRow]
def fn3 : List He.DefD := [dBlock, dProgram, dLittle, dFamily, dValue, dIsTrue, dSign, dSigns, dNear, dPLaw]
def fn : List He.DefD := fn0 ++ fn1 ++ fn2 ++ fn3
def fa0 : List He.Fa := [.glo "is_integer", .glo "bare_test", .glo "blocks_of", .glo "each_statement", .glo "tests_with", .glo "sign_parts", .glo "ends_of", .glo "ways_of", .glo "parts_by", .glo "parts_below", .glo "line_of", .glo "times_line", .glo "sum_line", .glo "tighter_low", .glo "tighter_high", .glo "signs_of", .glo "kinds_of", .glo "order_of", .glo "first_of", .glo "has_one"]
def fa1 : List He.Fa := [.glo "table_of", .glo "column_of", .glo "crossed", .glo "joined", .glo "least_common", .glo "bezout", .glo "_law_deck", .glo "_law_draw", .glo "_law_one", .glo "_law_rank", .glo "_law_small", .glo "_law_first_of", .glo "_law_names", .glo "_law_expression", .glo "_law_test", .glo "_law_row", .glo "_law_block", .glo "_law_program", .glo "_law_little", .glo "_law_family"]
def fa2 : List He.Fa := [.glo "_law_value", .glo "_law_is_true", .glo "_law_sign", .glo "_law_signs", .glo "_law_near", .glo "law", .free "abs", .free "bool", .free "enumerate", .free "int", .free "isinstance", .free "len", .free "list", .free "max", .free "min", .free "range", .free "repr", .free "sorted", .free "str", .free "tuple"]
def fa3 : List He.Fa := [.free "set"]
def fa : List He.Fa := fa0 ++ fa1 ++ fa2 ++ fa3
def loose0 : List PySem.Str := ["is_integer", "bare_test", "blocks_of", "each_statement", "tests_with", "sign_parts", "ends_of", "ways_of", "parts_by", "parts_below", "line_of", "times_line", "sum_line", "tighter_low", "tighter_high", "signs_of", "kinds_of", "order_of", "first_of", "has_one"]
def loose1 : List PySem.Str := ["table_of", "column_of", "crossed", "joined", "least_common", "bezout", "_law_deck", "_law_draw", "_law_one", "_law_rank", "_law_small", "_law_first_of", "_law_names", "_law_expression", "_law_test", "_law_row", "_law_block", "_law_program", "_law_little", "_law_family"]
def loose2 : List PySem.Str := ["_law_value", "_law_is_true", "_law_sign", "_law_signs", "_law_near"]
def looseN : List PySem.Str := loose0 ++ loose1 ++ loose2
abbrev R : PySem.W.OpenRow := PySem.W.OpenLaw.row PySem.Challenge.rw_whichheld_k34_kinds_told
abbrev hookH : PySem.W.Hook := He.hookD 4 fa fn
def obsH (s : PySem.W.SharedT) : He.AlD := He.obsDG 4 fa fn (HandSHeadRun.getT s)
theorem obsH_eq (s : PySem.W.SharedT) : obsH s = hookH.obs s.abs := He.obsDG_eq (HandSHeadRun.getT_eq s)
set_option maxHeartbeats 0 in
theorem run_head (w : World) : HandSHeadRun.RunEq R (PySem.W.view R.prog [50]) hookH obsH 9000 looseN w := by
  intro os; kernel_rfl
abbrev sDeck : Stmt := topS 31
abbrev nDeck : List Str := ["_law_script", "_law_cell"]
theorem scDeck : FnScope nDeck ["_law_script"] (defScope sDeck) := ⟨rfl, rfl, rfl, by decide +kernel, rfl, by decide +kernel, by decide +kernel⟩
abbrev sDraw : Stmt := topS 32
abbrev nDraw : List Str := ["_law_deck_here", "_law_many", "_law_cell", "_law_at", "_law_mixed"]
theorem scDraw : FnScope nDraw ["_law_deck_here", "_law_many"] (defScope sDraw) := ⟨rfl, rfl, rfl, by decide +kernel, rfl, by decide +kernel, by decide +kernel⟩
abbrev sOne : Stmt := topS 33
abbrev nOne : List Str := ["_law_deck_here", "_law_items"]
theorem scOne : FnScope nOne ["_law_deck_here", "_law_items"] (defScope sOne) := ⟨rfl, rfl, rfl, by decide +kernel, rfl, by decide +kernel, by decide +kernel⟩
abbrev sNames : Stmt := topS 37
abbrev nNames : List Str := ["_law_deck_here", "_law_letters", "_law_signs_here", "_law_size", "_law_at", "_law_usual", "_law_front", "_law_back", "_law_k"]
theorem scNames : FnScope nNames ["_law_deck_here"] (defScope sNames) := ⟨rfl, rfl, rfl, by decide +kernel, rfl, by decide +kernel, by decide +kernel⟩
abbrev sExpression : Stmt := topS 38
abbrev nExpression : List Str := ["_law_deck_here", "_law_names_here", "_law_deep", "_law_way", "_law_factor", "_law_first"]
theorem scExpression : FnScope nExpression ["_law_deck_here", "_law_names_here", "_law_deep"] (defScope sExpression) := ⟨rfl, rfl, rfl, by decide +kernel, rfl, by decide +kernel, by decide +kernel⟩
abbrev sTest : Stmt := topS 39
abbrev nTest : List Str := ["_law_deck_here", "_law_names_here", "_law_room", "_law_times", "_law_nots", "_law_way", "_law_test_here", "_law_by", "_law_first", "_law_k"]
theorem scTest : FnScope nTest ["_law_deck_here", "_law_names_here", "_law_room", "_law_times"] (defScope sTest) := ⟨rfl, rfl, rfl, by decide +kernel, rfl, by decide +kernel, by decide +kernel⟩
abbrev sRow : Stmt := topS 40
abbrev nRow : List Str := ["_law_deck_here", "_law_names_here", "_law_room", "_law_times", "_law_depth", "_law_way", "_law_name", "_law_test_here", "_law_first", "_law_again"]
theorem scRow : FnScope nRow ["_law_deck_here", "_law_names_here", "_law_room", "_law_times", "_law_depth"] (defScope sRow) := ⟨rfl, rfl, rfl, by decide +kernel, rfl, by decide +kernel, by decide +kernel⟩
abbrev sBlock : Stmt := topS 41
abbrev nBlock : List Str := ["_law_deck_here", "_law_names_here", "_law_room", "_law_times", "_law_depth", "_law_many", "_law_rows", "_law_k", "_law_row_here"]
theorem scBlock : FnScope nBlock ["_law_deck_here", "_law_names_here", "_law_room", "_law_times", "_law_depth"] (defScope sBlock) := ⟨rfl, rfl, rfl, by decide +kernel, rfl, by decide +kernel, by decide +kernel⟩
abbrev sProgram : Stmt := topS 42
abbrev nProgram : List Str := ["_law_deck_here", "_law_names_here", "_law_room", "_law_program_here", "_law_k"]
theorem scProgram : FnScope nProgram ["_law_deck_here", "_law_names_here"] (defScope sProgram) := ⟨rfl, rfl, rfl, by decide +kernel, rfl, by decide +kernel, by decide +kernel⟩
/-! ### heaps: all but some stand as they stood -/
def Sx (ex : List Addr) (H H' : Hp) : Prop := ∀ b o, b ∉ ex → H b = some o → H' b = some o
theorem Sx.refl {ex : List Addr} (H : Hp) : Sx ex H H := fun _ _ _ h => h
theorem Sx.trans {ex : List Addr} {H H1 H2 : Hp} (a : Sx ex H H1) (b : Sx ex H1 H2) : Sx ex H H2 := fun x o n h => b x o n (a x o n h)
theorem Sx.mono {ex fx : List Addr} {H H' : Hp} (a : Sx ex H H') (h : ∀ b ∈ ex, b ∈ fx) : Sx fx H H' := fun x o n e => a x o (fun z => n (h x z)) e
theorem Sx.nil {ex : List Addr} {H H' : Hp} (a : Sx [] H H') : Sx ex H H' := a.mono (fun _ z => by cases z)
theorem Sx.put {ex : List Addr} {H H' : Hp} {p : Addr} {o : HO} (a : Sx ex H H') (h : p ∈ ex) : Sx ex H (upd H' p o) := fun x u n e => by
  rw [upd_ne (fun z => n (by rw [z]; exact h))]
  exact a x u n e
/-- what was not there ahead may change -/
theorem Sx.own {ex : List Addr} {H H' : Hp} {p : Addr} {o : HO} (a : Sx ex H H') (h : H p = none) : Sx ex H (upd H' p o) := fun x u n e => by
  rw [upd_ne (ne_of_none e h)]
  exact a x u n e
theorem Sx.new {ex : List Addr} {H H' : Hp} {p : Addr} {o : HO} (a : Sx ex H H') (h : H' p = none) : Sx ex H (upd H' p o) := fun x u n e => by
  rw [upd_ne (ne_of_none (a x u n e) h)]
  exact a x u n e
theorem Sx.same {H H' : Hp} (a : Sx [] H H') : Same H H' := fun b o e => a b o (fun z => by cases z) e
theorem Sx.of {ex : List Addr} {H H' : Hp} (a : Same H H') : Sx ex H H' := fun b o _ e => a b o e
/-- free behind is free ahead, but for what may go -/
theorem Sx.free {ex : List Addr} {H H' : Hp} {p : Addr} (a : Sx ex H H') (hx : p ∉ ex) (h : H' p = none) : H p = none := by
  cases e : H p with
  | none => rfl
  | some o => rw [a p o hx e] at h; cases h
/-! ### the deck -/
/-- the deck at a: its cells at c, k numbers drawn -/
structure Dk (H : Hp) (a c : Addr) (cs : List Int) (k : Int) : Prop where
  ha : H a = some (.lst [.ref c, .int k])
  hc : H c = some (.lst (cs.map V.int))
  pos : ∀ x ∈ cs, 0 ≤ x
  len : cs.length ≤ 63
  k0 : 0 ≤ k
theorem Dk.ne {H : Hp} {a c : Addr} {cs : List Int} {k : Int} (D : Dk H a c cs k) : a ≠ c := fun e => by
  have h1 := D.ha
  rw [e, D.hc] at h1
  match cs, h1 with
  | [x, y], h1 => simp at h1
theorem Dk.sx {H H' : Hp} {a c : Addr} {cs : List Int} {k : Int} {ex : List Addr} (D : Dk H a c cs k) (s : Sx ex H H') (h1 : a ∉ ex) (h2 : c ∉ ex) : Dk H' a c cs k := ⟨s _ _ h1 D.ha, s _ _ h2 D.hc, D.pos, D.len, D.k0⟩
theorem Dk.same {H H' : Hp} {a c : Addr} {cs : List Int} {k : Int} (D : Dk H a c cs k) (s : Sx [] H H') : Dk H' a c cs k := D.sx s (by simp) (by simp)
/-- so many numbers may be drawn in all -/
abbrev KB : Int := 1099511627776
/-- go on from any heap of which as much is known -/
theorem gh {R F : Hp → Prop} {H1 : Hp} (f : F H1) (h : ∀ H2, F H2 → R H2) : R H1 := h H1 f
theorem lt_line {n : Nat} (h : n < 16777216) : n < sizeLine := h
theorem le_line {n : Nat} (h : n ≤ 16777216) : n ≤ sizeLine := h
theorem ixN_of {n j : Nat} {i : Int} (e : i = (j : Int)) (hj : j < n) : ixN n i = some j := by
  subst e
  unfold ixN
  rw [if_pos (by omega)]; rw [if_pos (by omega)]; simp
theorem Sx.rd {ex : List Addr} {H H' : Hp} {p : Addr} {u : HO} (a : Sx ex H H') (h : p ∉ ex) (r : Rd H p u) : Rd H' p u := by
  rcases r with r | ⟨o, r⟩
  · exact .inl (a _ _ h r)
  · exact .inr ⟨o, a _ _ h r⟩
theorem Sx.seqL {ex : List Addr} {H H' : Hp} {K : PySem.W.Frag} {p : Addr} {xs : List V} (a : Sx ex H H') (h : p ∉ ex) (r : SqL K H p xs) : SqL K H' p xs := r.imp (a.rd h) id
theorem Sx.seqT {ex : List Addr} {H H' : Hp} {K : PySem.W.Frag} {p : Addr} {xs : List V} (a : Sx ex H H') (h : p ∉ ex) (r : SqT K H p xs) : SqT K H' p xs := r.imp (a.rd h) id
theorem ix_or {X : Cx} {r r' : R2} (h : IxR X r) (h' : IxR X r') : IxR X (fun x y H Q => r x y H Q ∨ r' x y H Q) := by
  intro e1 e2 pins s σ H x y v u Q I rx ry q hs
  rcases q with q | q
  · exact h e1 e2 pins s σ H x y v u Q I rx ry q hs
  · exact h' e1 e2 pins s σ H x y v u Q I rx ry q hs
theorem cr_or {X : Cx} {f : Value} {r r' : List V → Hp → VK → Prop} (h : CallR X f r) (h' : CallR X f r') : CallR X f (fun x H Q => r x H Q ∨ r' x H Q) := by
  intro pins s σ H xs us Q I rx q
  rcases q with q | q
  · exact h pins s σ H xs us Q I rx q
  · exact h' pins s σ H xs us Q I rx q
/-! ### data of tuples -/
mutual
/-- v is the data d, tuples of ints and texts within one another -/
inductive Tp (H : Hp) : V → PyData → Prop where
  | non : Tp H .non .none
  | bl (b : Bool) : Tp H (.bl b) (.bool b)
  | int (i : Int) : Tp H (.int i) (.int i)
  | str (x : Str) : Tp H (.str x) (.str x)
  | tup {a : Addr} {xs : List V} {ds : List PyData} : H a = some (.tup xs) → TpAll H xs ds → Tp H (.ref a) (.tuple ds)
inductive TpAll (H : Hp) : List V → List PyData → Prop where
  | nil : TpAll H [] []
  | cons {v : V} {vs : List V} {d : PyData} {ds : List PyData} : Tp H v d → TpAll H vs ds → TpAll H (v :: vs) (d :: ds)
end
/-- the tuples stand as they stood -/
def Tk (H H' : Hp) : Prop := ∀ b xs, H b = some (.tup xs) → H' b = some (.tup xs)
theorem Tk.refl (H : Hp) : Tk H H := fun _ _ h => h
theorem Tk.trans {H H1 H2 : Hp} (a : Tk H H1) (b : Tk H1 H2) : Tk H H2 := fun x o h => b x o (a x o h)
theorem Sx.tk {ex : List Addr} {H H' : Hp} (s : Sx ex H H') (h : ∀ b ∈ ex, ∃ ys, H b = some (.lst ys)) : Tk H H' := fun b xs e => s b _ (fun hb => by
  obtain ⟨ys, e'⟩ := h b hb
  rw [e] at e'
  cases e') e
theorem Sx.tk0 {H H' : Hp} (s : Sx [] H H') : Tk H H' := s.tk (fun _ z => by cases z)
mutual
theorem Tp.keep {H H' : Hp} (s : Tk H H') : ∀ {v : V} {d : PyData}, Tp H v d → Tp H' v d
  | _, _, .non => .non
  | _, _, .bl b => .bl b
  | _, _, .int i => .int i
  | _, _, .str x => .str x
  | _, _, .tup h a => .tup (s _ _ h) (TpAll.keep s a)
theorem TpAll.keep {H H' : Hp} (s : Tk H H') : ∀ {vs : List V} {ds : List PyData}, TpAll H vs ds → TpAll H' vs ds
  | _, _, .nil => .nil
  | _, _, .cons a b => .cons (Tp.keep s a) (TpAll.keep s b)
end
mutual
theorem Tp.dp {K : PySem.W.Frag} {H : Hp} : ∀ {v : V} {d : PyData}, Tp H v d → Dp K H v d
  | _, _, .non => .non
  | _, _, .bl b => .bl b
  | _, _, .int i => .int i
  | _, _, .str x => .str x
  | _, _, .tup h a => .tup (SqT.of h) (TpAll.dp a)
theorem TpAll.dp {K : PySem.W.Frag} {H : Hp} : ∀ {vs : List V} {ds : List PyData}, TpAll H vs ds → DpAll K H vs ds
  | _, _, .nil => .nil
  | _, _, .cons a b => .cons (Tp.dp a) (TpAll.dp b)
end
theorem TpAll.len {H : Hp} : ∀ {vs : List V} {ds : List PyData}, TpAll H vs ds → vs.length = ds.length
  | _, _, .nil => rfl
  | _, _, .cons _ b => by rw [List.length_cons, List.length_cons, TpAll.len b]
theorem TpAll.get {H : Hp} : ∀ {vs : List V} {ds : List PyData} {i : Nat} {v : V}, TpAll H vs ds → vs[i]? = some v → ∃ d, ds[i]? = some d ∧ Tp H v d
  | _, _, 0, _, .cons a _, e => ⟨_, rfl, by cases e; exact a⟩
  | _, _, i + 1, _, .cons _ b, e => TpAll.get (i := i) b e
theorem TpAll.append {H : Hp} : ∀ {vs ws : List V} {ds es : List PyData}, TpAll H vs ds → TpAll H ws es → TpAll H (vs ++ ws) (ds ++ es)
  | _, _, _, _, .nil, h => h
  | _, _, _, _, .cons a b, h => .cons a (TpAll.append b h)
theorem Tp.tuple {H : Hp} {v : V} {ds : List PyData} (h : Tp H v (.tuple ds)) : ∃ a xs, v = .ref a ∧ H a = some (.tup xs) ∧ TpAll H xs ds := by
  cases h with
  | tup h a => exact ⟨_, _, rfl, h, a⟩
theorem Tp.new {H : Hp} {v : V} {d : PyData} {p : Addr} {o : HO} (h : Tp H v d) (n : H p = none) : Tp (upd H p o) v d := h.keep ((Sx.refl _).new n).tk0
theorem TpAll.new {H : Hp} {vs : List V} {ds : List PyData} {p : Addr} {o : HO} (h : TpAll H vs ds) (n : H p = none) : TpAll (upd H p o) vs ds := h.keep ((Sx.refl _).new n).tk0
theorem Dk.new {H : Hp} {a c p : Addr} {cs : List Int} {k : Int} {o : HO} (D : Dk H a c cs k) (n : H p = none) : Dk (upd H p o) a c cs k := D.same ((Sx.refl _).new n)
/-- what is shown once and used on several ways -/
theorem share {B G : Prop} (hB : B) (h : B → G) : G := h hB
theorem Sx.step {ex fx : List Addr} {H H1 H2 : Hp} (a : Sx ex H H1) (b : Sx fx H1 H2) (h : ∀ x ∈ fx, x ∈ ex ∨ H x = none) : Sx ex H H2 := fun x o n e =>
  b x o (fun z => (h x z).elim n (fun y => by rw [e] at y; cases y)) (a x o n e)
theorem gnm {i : Nat} {v : V} {σ : L2.St} {H : Hp} {Qf : L2.St → Hp → Prop} (h : Qf (σ.set i (some v)) H) : gName i v σ H Qf := h
/-! ### what the generator makes -/
/-- expressions over the names, at most so many in one another -/
inductive ExD (ns : List Str) : Nat → PyData → Prop where
  | int {d : Nat} (i : Int) : -99 ≤ i → i ≤ 99 → ExD ns (d + 1) (.int i)
  | name {d : Nat} (z : Str) : z ∈ ns → ExD ns (d + 1) (.str z)
  | plus {d : Nat} {x y : PyData} : ExD ns d x → ExD ns d y → ExD ns (d + 1) (.tuple [.str "plus", x, y])
  | minus {d : Nat} {x y : PyData} : ExD ns d x → ExD ns d y → ExD ns (d + 1) (.tuple [.str "minus", x, y])
  | times {d : Nat} {x : PyData} (f : Int) : -9 ≤ f → f ≤ 9 → ExD ns d x → ExD ns (d + 1) (.tuple [.str "times", .int f, x])
/-- so many draws at most -/
def cE : Nat → Int
  | 0 => 0
  | d + 1 => 2 * cE d + 3
theorem cE_pos : ∀ d, 0 ≤ cE d
  | 0 => Int.le_refl _
  | d + 1 => by have := cE_pos d; show 0 ≤ 2 * cE d + 3; omega
theorem cE_one (d : Nat) : cE (d + 1) = 2 * cE d + 3 := rfl
/-- a name: one to eight small letters and digits, none of the words -/
def WordsK : List Str := ["box", "set", "pay", "stop", "if", "else", "repeat", "pass", "rest", "of", "not", "program"]
structure NmOk (z : Str) : Prop where
  lo : 1 ≤ z.length
  hi : z.length ≤ 8
  sgn : ∀ x ∈ z.cps.toList, (97 ≤ x ∧ x ≤ 122) ∨ (48 ≤ x ∧ x ≤ 57)
  hd : ∀ x, z.cps.toList[0]? = some x → 97 ≤ x
  kw : z ∉ WordsK
theorem NmOk.ok {z : Str} (h : NmOk z) : PyData.strOk z = true := by
  unfold PyData.strOk
  rw [Array.all_eq_true']
  intro x hx
  have := h.sgn x (Array.mem_toList_iff.mpr hx)
  refine decide_eq_true ?_; omega
/-- names at nm -/
structure Nms (K : PySem.W.Frag) (H : Hp) (nm : Addr) (ns : List Str) : Prop where
  tr : H nm = some (.lst (ns.map V.str))
  ne : ns ≠ []
  len : ns.length ≤ 1000
  ok : ∀ z ∈ ns, NmOk z
  hn : ("n" : Str) ∈ ns
  two : ∃ z ∈ ns, ns[1]? = some z
theorem Nms.keep {K : PySem.W.Frag} {H H' : Hp} {nm : Addr} {ns : List Str} {ex : List Addr} (N : Nms K H nm ns) (s : Sx ex H H') (h : nm ∉ ex) : Nms K H' nm ns := ⟨s _ _ h N.tr, N.ne, N.len, N.ok, N.hn, N.two⟩
theorem Nms.at_ {K : PySem.W.Frag} {H : Hp} {nm : Addr} {ns : List Str} (N : Nms K H nm ns) : SqL K H nm (ns.map V.str) := .inl (.inl N.tr)
theorem Nms.nw {K : PySem.W.Frag} {H : Hp} {nm p : Addr} {ns : List Str} (N : Nms K H nm ns) (h : H p = none) : nm ≠ p := fun z => (by rw [← z, N.tr] at h; cases h)
theorem Dk.lst {H : Hp} {a c : Addr} {cs : List Int} {k : Int} (D : Dk H a c cs k) : ∀ b ∈ [a, c], ∃ ys, H b = some (.lst ys) := fun b hb => by
  rcases List.mem_cons.1 hb with rfl | hb
  · exact ⟨_, D.ha⟩
  · rw [List.mem_singleton.mp hb]; exact ⟨_, D.hc⟩
theorem Dk.tk {H H' : Hp} {a c : Addr} {cs : List Int} {k : Int} (D : Dk H a c cs k) (s : Sx [a, c] H H') : Tk H H' := s.tk D.lst
/-- a new object is none of the deck's -/
theorem Dk.nw {H : Hp} {a c p : Addr} {cs : List Int} {k : Int} (D : Dk H a c cs k) (h : H p = none) : p ≠ a ∧ p ≠ c :=
  ⟨fun e => (by rw [e, D.ha] at h; cases h), fun e => (by rw [e, D.hc] at h; cases h)⟩
/-- tests with at most so many "not"; true: of a rest -/
inductive TsD (ns : List Str) : Nat → Bool → PyData → Prop where
  | rest {n : Nat} {x : PyData} (b r : Int) : ExD ns 3 x → 2 ≤ b → b ≤ 6 → 0 ≤ r → r < b → TsD ns n true (.tuple [.str "rest", x, .int b, .int r])
  | less {n : Nat} {x y : PyData} : ExD ns 3 x → ExD ns 3 y → TsD ns n false (.tuple [.str "less", x, y])
  | not {n : Nat} {b : Bool} {t : PyData} : TsD ns n b t → TsD ns (n + 1) b (.tuple [.str "not", t])
def bI (b : Bool) : Int := if b then 1 else 0
mutual
/-- statements whose blocks lie at most so deep: with its places, weight, rests, comparings -/
inductive StD (ns : List Str) : Nat → Int → Int → Int → Int → PyData → Prop where
  | set {d : Nat} {e : PyData} (z : Str) : z ∈ ns → ExD ns 3 e → StD ns d 1 1 0 0 (.tuple [.str "set", .str z, e])
  | pay {d : Nat} {e : PyData} : ExD ns 3 e → StD ns d 1 1 0 0 (.tuple [.str "pay", e])
  | stop {d : Nat} : StD ns d 1 1 0 0 (.tuple [.str "stop"])
  | ite {d : Nat} {t : PyData} {b : Bool} {n1 w1 r1 c1 n2 w2 r2 c2 : Int} {ys zs : List PyData} : TsD ns 2 b t → BkD ns d n1 w1 r1 c1 ys → BkD ns d n2 w2 r2 c2 zs →
      StD ns d (1 + n1 + n2) (1 + w1 + w2) (bI b + r1 + r2) (bI (!b) + c1 + c2) (.tuple [.str "if", t, .tuple ys, .tuple zs])
  | rep {d : Nat} {n1 w1 r1 c1 : Int} {ys : List PyData} (k : Int) : 1 ≤ k → k ≤ 8 → BkD ns d n1 w1 r1 c1 ys → StD ns d (1 + n1) (1 + k * w1) (k * r1) (k * c1) (.tuple [.str "repeat", .int k, .tuple ys])
inductive BkD (ns : List Str) : Nat → Int → Int → Int → Int → List PyData → Prop where
  | nil {d : Nat} : BkD ns d 0 0 0 0 []
  | cons {d : Nat} {n1 w1 r1 c1 n2 w2 r2 c2 : Int} {s : PyData} {ss : List PyData} : StD ns d n1 w1 r1 c1 s → BkD ns (d + 1) n2 w2 r2 c2 ss → BkD ns (d + 1) (n1 + n2) (w1 + w2) (r1 + r2) (c1 + c2) (s :: ss)
end
/-! ### such data may be compared -/
def Sh (n : Nat) (e : PyData) : Prop := e.canLay0 = true ∧ e.depth ≤ n
def ShA (n : Nat) (es : List PyData) : Prop := PyData.canLayAll0 es = true ∧ PyData.depthAll es ≤ n
theorem ShA.nil {n : Nat} : ShA n [] := ⟨by simp only [PyData.canLayAll0], by simp only [PyData.depthAll]; omega⟩
theorem ShA.cons {n : Nat} {e : PyData} {es : List PyData} (h : Sh n e) (hs : ShA n es) : ShA n (e :: es) :=
  ⟨by simp only [PyData.canLayAll0, h.1, hs.1, Bool.and_self], by simp only [PyData.depthAll]; have := h.2; have := hs.2; omega⟩
theorem Sh.tup {n : Nat} {es : List PyData} (h : ShA n es) : Sh (n + 1) (.tuple es) := ⟨by simp only [PyData.canLay0, h.1], by simp only [PyData.depth]; have := h.2; omega⟩
theorem Sh.int {n : Nat} (i : Int) : Sh n (.int i) := ⟨by simp only [PyData.canLay0], by simp only [PyData.depth]; omega⟩
theorem Sh.str {n : Nat} {z : Str} (h : PyData.strOk z = true) : Sh n (.str z) := ⟨by simp only [PyData.canLay0, h], by simp only [PyData.depth]; omega⟩
theorem Sh.mono {n m : Nat} {e : PyData} (h : Sh n e) (l : n ≤ m) : Sh m e := ⟨h.1, Nat.le_trans h.2 l⟩
theorem ShA.mono {n m : Nat} {e : List PyData} (h : ShA n e) (l : n ≤ m) : ShA m e := ⟨h.1, Nat.le_trans h.2 l⟩
theorem Sh.shaped {n : Nat} {e : PyData} (h : Sh n e) (l : n ≤ 64) : SeqAt.shaped e = true := by
  unfold SeqAt.shaped
  rw [h.1, decide_eq_true (Nat.le_trans h.2 l)]
  rfl
theorem ExD.sh {ns : List Str} (hn : ∀ z ∈ ns, NmOk z) {d : Nat} {e : PyData} (h : ExD ns d e) : Sh d e := by
  induction h with
  | int i _ _ => exact .int i
  | name z hz => exact .str (hn z hz).ok
  | plus _ _ h1 h2 => exact .tup (.cons (.str (by decide +kernel)) (.cons h1 (.cons h2 .nil)))
  | minus _ _ h1 h2 => exact .tup (.cons (.str (by decide +kernel)) (.cons h1 (.cons h2 .nil)))
  | times f _ _ _ h1 => exact .tup (.cons (.str (by decide +kernel)) (.cons (.int f) (.cons h1 .nil)))
theorem TsD.sh {ns : List Str} (hn : ∀ z ∈ ns, NmOk z) {n : Nat} {b : Bool} {e : PyData} (h : TsD ns n b e) : Sh (n + 4) e := by
  induction h with
  | rest b r hx _ _ _ _ => exact (Sh.tup (.cons (.str (by decide +kernel)) (.cons (hx.sh hn) (.cons (.int b) (.cons (.int r) .nil))))).mono (by omega)
  | less hx hy => exact (Sh.tup (.cons (.str (by decide +kernel)) (.cons (hx.sh hn) (.cons (hy.sh hn) .nil)))).mono (by omega)
  | not _ ih => exact .tup (.cons (.str (by decide +kernel)) (.cons ih .nil))
theorem TsD.up {ns : List Str} {n m : Nat} {b : Bool} {e : PyData} (h : TsD ns n b e) (l : n ≤ m) : TsD ns m b e := by
  induction h generalizing m with
  | rest b r h1 h2 h3 h4 h5 => exact .rest b r h1 h2 h3 h4 h5
  | less h1 h2 => exact .less h1 h2
  | not _ ih =>
    obtain ⟨j, rfl⟩ : ∃ j, m = j + 1 := ⟨m - 1, by omega⟩
    exact .not (ih (by omega))
mutual
theorem StD.sh {ns : List Str} (hn : ∀ z ∈ ns, NmOk z) : ∀ {d : Nat} {n w r c : Int} {e : PyData}, StD ns d n w r c e → Sh (2 * d + 9) e
  | _, _, _, _, _, _, .set z hz hx => (Sh.tup (.cons (.str (by decide +kernel)) (.cons (.str (hn z hz).ok) (.cons (hx.sh hn) .nil)))).mono (by omega)
  | _, _, _, _, _, _, .pay hx => (Sh.tup (.cons (.str (by decide +kernel)) (.cons (hx.sh hn) .nil))).mono (by omega)
  | _, _, _, _, _, _, .stop => (Sh.tup (n := 0) (.cons (.str (by decide +kernel)) .nil)).mono (by omega)
  | d, _, _, _, _, _, .ite ht hy hz => (Sh.tup (n := 2 * d + 8) (.cons (.str (by decide +kernel)) (.cons ((ht.sh hn).mono (by omega)) (.cons ((Sh.tup (BkD.sh hn hy)).mono (by omega)) (.cons ((Sh.tup (BkD.sh hn hz)).mono (by omega)) .nil))))).mono (by omega)
  | d, _, _, _, _, _, .rep k _ _ hy => (Sh.tup (n := 2 * d + 8) (.cons (.str (by decide +kernel)) (.cons (.int k) (.cons ((Sh.tup (BkD.sh hn hy)).mono (by omega)) .nil)))).mono (by omega)
theorem BkD.sh {ns : List Str} (hn : ∀ z ∈ ns, NmOk z) : ∀ {d : Nat} {n w r c : Int} {es : List PyData}, BkD ns d n w r c es → ShA (2 * d + 7) es
  | _, _, _, _, _, _, .nil => .nil
  | _, _, _, _, _, _, .cons h hs => .cons ((StD.sh hn h).mono (by omega)) (BkD.sh hn hs)
end
/-- the room at rm -/
structure Rm (H : Hp) (rm : Addr) (r0 r1 r2 r3 : Int) : Prop where
  at_ : H rm = some (.lst [.int r0, .int r1, .int r2, .int r3])
  p0 : 0 ≤ r0
  p1 : 0 ≤ r1
  p2 : 0 ≤ r2
  p3 : 0 ≤ r3
theorem Rm.sx {H H' : Hp} {rm : Addr} {r0 r1 r2 r3 : Int} {ex : List Addr} (R : Rm H rm r0 r1 r2 r3) (s : Sx ex H H') (h : rm ∉ ex) : Rm H' rm r0 r1 r2 r3 := ⟨s _ _ h R.at_, R.p0, R.p1, R.p2, R.p3⟩
theorem Rm.new {H : Hp} {rm p : Addr} {r0 r1 r2 r3 : Int} {o : HO} (R : Rm H rm r0 r1 r2 r3) (n : H p = none) : Rm (upd H p o) rm r0 r1 r2 r3 := R.sx ((Sx.refl (ex := []) _).new n) (by simp)
theorem Rm.nw {H : Hp} {rm p : Addr} {r0 r1 r2 r3 : Int} (R : Rm H rm r0 r1 r2 r3) (n : H p = none) : p ≠ rm := fun e => (by rw [e, R.at_] at n; cases n)
theorem lst3 {H : Hp} {a c rm : Addr} {cs : List Int} {k r0 r1 r2 r3 : Int} (D : Dk H a c cs k) (R : Rm H rm r0 r1 r2 r3) : ∀ b ∈ [a, c, rm], ∃ ys, H b = some (.lst ys) := fun b hb => by
  simp only [List.not_mem_nil, List.mem_cons, or_false] at hb
  obtain rfl | rfl | rfl := hb
  · exact ⟨_, D.ha⟩
  · exact ⟨_, D.hc⟩
  · exact ⟨_, R.at_⟩
theorem Rm.cast {H : Hp} {rm : Addr} {r0 r1 r2 r3 q0 q1 q2 q3 : Int} (R : Rm H rm r0 r1 r2 r3) (e0 : r0 = q0) (e1 : r1 = q1) (e2 : r2 = q2) (e3 : r3 = q3) : Rm H rm q0 q1 q2 q3 := by
  subst e0 e1 e2 e3
  exact R
theorem BkD.snoc {ns : List Str} {d : Nat} {n2 w2 r2 c2 : Int} {s : PyData} (hs : StD ns d n2 w2 r2 c2 s) : ∀ (xs : List PyData) {n w r c : Int}, BkD ns (d + 1) n w r c xs → BkD ns (d + 1) (n + n2) (w + w2) (r + r2) (c + c2) (xs ++ [s])
  | [], _, _, _, _, .nil => by
    have h : BkD ns (d + 1) (n2 + 0) (w2 + 0) (r2 + 0) (c2 + 0) [s] := .cons hs .nil
    have e : ∀ x : Int, x + 0 = 0 + x := fun x => Int.add_comm _ _
    rw [e, e, e, e] at h
    exact h
  | x :: xs, _, _, _, _, .cons (n1 := n1) (w1 := w1) (r1 := r1) (c1 := c1) (n2 := n3) (w2 := w3) (r2 := r3) (c2 := c3) hx hxs => by
    have h := BkD.cons hx (BkD.snoc hs xs hxs)
    rw [← Int.add_assoc, ← Int.add_assoc, ← Int.add_assoc, ← Int.add_assoc] at h
    exact h
/-- not () -/
def ne0 (e : PyData) : Bool := !PyData.eqv e (.tuple [])
theorem StD.ne0 {ns : List Str} {d : Nat} {n w r c : Int} {e : PyData} (h : StD ns d n w r c e) : GA.ne0 e = true := by
  cases h <;> rfl
theorem ne0_nil : ne0 (.tuple []) = false := rfl
theorem ExD.up {ns : List Str} {n m : Nat} {e : PyData} (h : ExD ns n e) (l : n ≤ m) : ExD ns m e := by
  induction h generalizing m with
  | int i h1 h2 => obtain ⟨j, rfl⟩ : ∃ j, m = j + 1 := ⟨m - 1, by omega⟩; exact .int i h1 h2
  | name z h1 => obtain ⟨j, rfl⟩ : ∃ j, m = j + 1 := ⟨m - 1, by omega⟩; exact .name z h1
  | plus _ _ h1 h2 => obtain ⟨j, rfl⟩ : ∃ j, m = j + 1 := ⟨m - 1, by omega⟩; exact .plus (h1 (by omega)) (h2 (by omega))
  | minus _ _ h1 h2 => obtain ⟨j, rfl⟩ : ∃ j, m = j + 1 := ⟨m - 1, by omega⟩; exact .minus (h1 (by omega)) (h2 (by omega))
  | times f a b _ h1 => obtain ⟨j, rfl⟩ : ∃ j, m = j + 1 := ⟨m - 1, by omega⟩; exact .times f a b (h1 (by omega))
theorem bI_nn (b : Bool) : 0 ≤ bI b := by cases b <;> decide
mutual
theorem StD.pos {ns : List Str} : ∀ {d : Nat} {n w r c : Int} {e : PyData}, StD ns d n w r c e → 1 ≤ n ∧ 1 ≤ w ∧ 0 ≤ r ∧ 0 ≤ c
  | _, _, _, _, _, _, .set z hz hx => by omega
  | _, _, _, _, _, _, .pay hx => by omega
  | _, _, _, _, _, _, .stop => by omega
  | _, _, _, _, _, _, .ite (b := b) ht hy hz => by
    have h1 := BkD.pos hy
    have h2 := BkD.pos hz
    have h3 := bI_nn b
    have h4 := bI_nn (!b)
    omega
  | _, _, _, _, _, _, .rep (w1 := w1) (r1 := r1) (c1 := c1) k hk _ hy => by
    have h1 := BkD.pos hy
    have h2 : 0 ≤ k * w1 := Int.mul_nonneg (by omega) (by omega)
    have h3 : 0 ≤ k * r1 := Int.mul_nonneg (by omega) (by omega)
    have h4 : 0 ≤ k * c1 := Int.mul_nonneg (by omega) (by omega)
    omega
theorem BkD.pos {ns : List Str} : ∀ {d : Nat} {n w r c : Int} {es : List PyData}, BkD ns d n w r c es → (es.length : Int) ≤ n ∧ (es.length : Int) ≤ w ∧ 0 ≤ r ∧ 0 ≤ c
  | _, _, _, _, _, _, .nil => by simp
  | _, _, _, _, _, _, .cons h hs => by
    have h1 := StD.pos h
    have h2 := BkD.pos hs
    rw [List.length_cons]
    omega
end
theorem BkD.append {ns : List Str} {d : Nat} {n2 w2 r2 c2 : Int} {ys : List PyData} (hy : BkD ns (d + 1) n2 w2 r2 c2 ys) : ∀ (xs : List PyData) {n w r c : Int}, BkD ns (d + 1) n w r c xs → BkD ns (d + 1) (n + n2) (w + w2) (r + r2) (c + c2) (xs ++ ys)
  | [], _, _, _, _, .nil => by
    rw [Int.zero_add, Int.zero_add, Int.zero_add, Int.zero_add]
    exact hy
  | x :: xs, _, _, _, _, .cons hx hxs => by
    have h := BkD.cons hx (BkD.append hy xs hxs)
    rw [← Int.add_assoc, ← Int.add_assoc, ← Int.add_assoc, ← Int.add_assoc] at h
    exact h
/-- a tuple and a tuple -/
theorem cat_tp {K : PySem.W.Frag} {H : Hp} {v u : V} {ds es : List PyData} {Q : VK} (h1 : Tp H v (.tuple ds)) (h2 : Tp H u (.tuple es)) (hl : ds.length + es.length ≤ 16777216)
    (q : ∀ H' z, Sx [] H H' → (∀ b, H' b = none → H b = none) → Tp H' z (.tuple (ds ++ es)) → Q z H') : rCatA K v u H Q := by
  obtain ⟨a, xs, rfl, ha, hx⟩ := h1.tuple
  obtain ⟨b, ys, rfl, hb, hy⟩ := h2.tuple
  refine ⟨a, b, xs, ys, rfl, rfl, .inl (.inl ha), .inl (.inl hb), by rw [hx.len, hy.len]; exact hl, fun e => ?_, fun _ e => ?_, fun _ _ p hp => ?_⟩
  · subst e
    cases hx
    exact q H _ (Sx.refl _) (fun _ h => h) (.tup hb hy)
  · subst e
    cases hy
    rw [List.append_nil] at q
    exact q H _ (Sx.refl _) (fun _ h => h) (.tup ha hx)
  · refine q _ _ ((Sx.refl _).new hp) (fun z hz => ?_) (.tup upd_same ((hx.append hy).new hp))
    by_cases e : z = p
    · rw [e]; exact hp
    · rw [upd_ne e] at hz; exact hz
def cP : Int := 700000
def spProgram (K : PySem.W.Frag) : Sp := fun vs H Q _ => ∃ (a c : Addr) (cs : List Int) (k : Int) (nm : Addr) (ns : List Str), vs = [.ref a, .ref nm] ∧ Dk H a c cs k ∧ Nms K H nm ns ∧ nm ≠ a ∧ nm ≠ c ∧ k + cP ≤ KB ∧
  ∀ H' cs' k' v es n w r cc, Sx [a, c] H H' → Dk H' a c cs' k' → k ≤ k' → k' ≤ k + cP → Tp H' v (.tuple es) → BkD ns 4 n w r cc es → n ≤ 24 → w ≤ 30 → r ≤ 2 → cc ≤ 2 → Q v H'
def cB : Nat → Int
  | 0 => 0
  | d + 1 => 1 + 4 * (71 + 2 * cB d)
theorem cB_pos : ∀ d, 0 ≤ cB d
  | 0 => Int.le_refl _
  | d + 1 => by have := cB_pos d; show 0 ≤ 1 + 4 * (71 + 2 * cB d); omega
theorem cB_one (d : Nat) : cB (d + 1) = 1 + 4 * (71 + 2 * cB d) := rfl
def spBlock (K : PySem.W.Frag) (d : Nat) : Sp := fun vs H Q _ => ∃ (a c : Addr) (cs : List Int) (k : Int) (nm : Addr) (ns : List Str) (rm : Addr) (r0 r1 r2 r3 t : Int), vs = [.ref a, .ref nm, .ref rm, .int t, .int (4 - (d : Int))] ∧ Dk H a c cs k ∧ Nms K H nm ns ∧ Rm H rm r0 r1 r2 r3 ∧
  nm ≠ a ∧ nm ≠ c ∧ nm ≠ rm ∧ rm ≠ a ∧ rm ≠ c ∧ 1 ≤ t ∧ r1 ≤ 30 ∧ k + cB d ≤ KB ∧
  ∀ H' cs' k' v es n w r cc, Sx [a, c, rm] H H' → Dk H' a c cs' k' → k ≤ k' → k' ≤ k + cB d → Tp H' v (.tuple es) → BkD ns d n w r cc es → Rm H' rm (r0 - n) (r1 - t * w) (r2 - t * r) (r3 - t * cc) → 0 ≤ w → r1 - t * w ≤ r1 → Q v H'
def spRow (K : PySem.W.Frag) (d : Nat) : Sp := fun vs H Q _ => ∃ (a c : Addr) (cs : List Int) (k : Int) (nm : Addr) (ns : List Str) (rm : Addr) (r0 r1 r2 r3 t : Int), vs = [.ref a, .ref nm, .ref rm, .int t, .int (3 - (d : Int))] ∧ Dk H a c cs k ∧ Nms K H nm ns ∧ Rm H rm r0 r1 r2 r3 ∧
  nm ≠ a ∧ nm ≠ c ∧ nm ≠ rm ∧ rm ≠ a ∧ rm ≠ c ∧ 1 ≤ t ∧ r1 ≤ 30 ∧ k + (71 + 2 * cB d) ≤ KB ∧
  ∀ H' cs' k' v e, Sx [a, c, rm] H H' → Dk H' a c cs' k' → k ≤ k' → k' ≤ k + (71 + 2 * cB d) → Tp H' v e →
    ((e = .tuple [] ∧ Rm H' rm r0 r1 r2 r3) ∨ ∃ n w r cc, StD ns d n w r cc e ∧ Rm H' rm (r0 - n) (r1 - t * w) (r2 - t * r) (r3 - t * cc) ∧ 0 ≤ w ∧ r1 - t * w ≤ r1) → Q v H'
def spNames (K : PySem.W.Frag) : Sp := fun vs H Q _ => ∃ (a c : Addr) (cs : List Int) (k : Int), vs = [.ref a] ∧ Dk H a c cs k ∧ k + 20 ≤ KB ∧
  ∀ H' cs' k' p ns, Sx [a, c] H H' → Dk H' a c cs' k' → k ≤ k' → k' ≤ k + 20 → H p = none → p ≠ a → p ≠ c → Nms K H' p ns → Q (.ref p) H'
/-- a text of one sign -/
abbrev s1 (x : Nat) : Str := ⟨#[x]⟩
theorem join_s1 : ∀ ls : List Nat, Txt.join (Str.ofString "") (ls.map s1) = ⟨ls.toArray⟩ := fun ls => by
  have e0 : (Str.ofString "" : Str) = SX.S [] := by decide +kernel
  have e1 : ls.map s1 = (ls.map fun x => [x]).map SX.S := by rw [List.map_map]; rfl
  have e2 : ∀ l : List Nat, TL.joinL [] (l.map fun x => [x]) = l := by
    intro l
    induction l with
    | nil => rfl
    | cons x r ih =>
      cases r with
      | nil => rfl
      | cons y r => show [x] ++ ([] ++ TL.joinL [] ((y :: r).map fun x => [x])) = _; rw [ih]; rfl
  rw [e0, e1, SX.join_S, e2]
theorem sum_s1 (ls : List Nat) : ((ls.map s1).map (·.length)).sum = ls.length := by
  induction ls with
  | nil => rfl
  | cons x r ih => rw [List.map_cons, List.map_cons, List.sum_cons, ih, List.length_cons, Nat.add_comm]; rfl
/-- so many signs of z stand in the list at Z -/
def Pz (H0 : Hp) (a c : Addr) (k : Int) (Z : Addr) (z : Str) (i : Nat) (H' : Hp) : Prop := Sx [a, c] H0 H' ∧ (∃ cs', Dk H' a c cs' (k + i)) ∧ ∃ ls : List Nat, H' Z = some (.lst ((ls.map s1).map V.str)) ∧ ls.length = i ∧ ∀ x ∈ ls, x ∈ z.cps.toList
theorem Pz.zero {H0 : Hp} {a c : Addr} {cs : List Int} {k : Int} {Z : Addr} {z : Str} (D : Dk H0 a c cs k) (h : H0 Z = none) : Pz H0 a c k Z z 0 (upd H0 Z (.lst [])) :=
  ⟨(Sx.refl _).new h, ⟨cs, by have := D.new (o := .lst []) h; rw [show k + ((0 : Nat) : Int) = k by omega]; exact this⟩, [], upd_same, rfl, fun _ z => by simp at z⟩
theorem Pz.step {H0 H' H2 : Hp} {a c : Addr} {cs : List Int} {k : Int} {Z : Addr} {z : Str} {i : Nat} {x : Nat} (h0 : H0 Z = none) (D0 : Dk H0 a c cs k) (p : Pz H0 a c k Z z i H') (s : Sx [a, c] H' H2) {cs2 : List Int} (D : Dk H2 a c cs2 (k + i + 1)) (hx : x ∈ z.cps.toList) (hi : i < 1000) :
    ∃ acc, H2 Z = some (.lst acc) ∧ acc.length < sizeLine ∧ Pz H0 a c k Z z (i + 1) (upd H2 Z (.lst (acc ++ [.str (s1 x)]))) := by
  obtain ⟨p1, _, ls, p3, p4, p5⟩ := p
  obtain ⟨Za, Zc⟩ := D0.nw h0
  refine ⟨_, s _ _ (by simp [Za, Zc]) p3, lt_line (by rw [List.length_map, List.length_map]; omega), (p1.trans s).own h0, ⟨cs2, ?_⟩, ls ++ [x], ?_, by rw [List.length_append, p4]; rfl, fun y hy => ?_⟩
  · rw [show k + ((i + 1 : Nat) : Int) = k + i + 1 by omega]
    exact D.sx ((Sx.refl (ex := [Z]) _).put (by simp)) (by simp [Za.symm]) (by simp [Zc.symm])
  · rw [upd_same, List.map_append, List.map_append]
    rfl
  · rcases List.mem_append.1 hy with w | w
    · exact p5 y w
    · rw [List.mem_singleton.mp w]; exact hx
/-- whether a text is a name -/
def nmOkB (z : Str) : Bool := decide (1 ≤ z.length) && decide (z.length ≤ 8) && z.cps.toList.all (fun x => (decide (97 ≤ x) && decide (x ≤ 122)) || (decide (48 ≤ x) && decide (x ≤ 57))) && (match z.cps.toList with | [] => true | x :: _ => decide (97 ≤ x)) && !WordsK.contains z
theorem nmOk_of {z : Str} (h : nmOkB z = true) : NmOk z := by
  unfold nmOkB at h
  simp only [Bool.and_eq_true, decide_eq_true_eq, Bool.not_eq_true', List.all_eq_true, Bool.or_eq_true] at h
  obtain ⟨⟨⟨⟨h1, h2⟩, h3⟩, h4⟩, h5⟩ := h
  refine ⟨h1, h2, fun x hx => h3 x hx, fun x hx => ?_, fun hm => ?_⟩
  · cases e : z.cps.toList with
    | nil => rw [e] at hx; simp at hx
    | cons y r =>
      rw [e] at hx h4
      have : y = x := Option.some.inj hx
      rw [← this]
      exact of_decide_eq_true h4
  · rw [List.contains_eq_mem, decide_eq_true hm] at h5
    cases h5
theorem words_no : ∀ z ∈ WordsK, ∀ x ∈ z.cps.toList, x ≠ 113 ∧ x ≠ 118 ∧ x ≠ 122 := by decide +kernel
theorem ab_az : ∀ x ∈ (Str.ofString "abcdefghijklmnopqrstuvwxyz").cps.toList, 97 ≤ x ∧ x ≤ 122 := by decide +kernel
theorem ab_09 : ∀ x ∈ (Str.ofString "abcdefghijklmnopqrstuvwxyz" ++ Str.ofString "0123456789").cps.toList, (97 ≤ x ∧ x ≤ 122) ∨ (48 ≤ x ∧ x ≤ 57) := by decide +kernel
theorem nm_made {ls gs : List Nat} {x : Nat} (hl : ∀ y ∈ ls, 97 ≤ y ∧ y ≤ 122) (hg : ∀ y ∈ gs, (97 ≤ y ∧ y ≤ 122) ∨ (48 ≤ y ∧ y ≤ 57)) (hx : x = 113 ∨ x = 118 ∨ x = 122) (hn : ls.length + gs.length ≤ 7) :
    NmOk ((⟨ls.toArray⟩ : Str) ++ s1 x ++ (⟨gs.toArray⟩ : Str)) := by
  have e : ((⟨ls.toArray⟩ : Str) ++ s1 x ++ (⟨gs.toArray⟩ : Str)) = ⟨(ls ++ [x] ++ gs).toArray⟩ := by
    show (⟨ls.toArray ++ #[x] ++ gs.toArray⟩ : Str) = _
    simp
  rw [e]
  have el : (⟨(ls ++ [x] ++ gs).toArray⟩ : Str).length = ls.length + 1 + gs.length := by
    show (ls ++ [x] ++ gs).toArray.size = _
    simp
    omega
  refine ⟨by omega, by omega, fun y hy => ?_, fun y hy => ?_, fun hm => ?_⟩
  · have hy' : y ∈ ls ++ [x] ++ gs := by simpa using hy
    simp only [List.mem_append, List.mem_singleton] at hy'
    rcases hy' with (h | h) | h
    · exact .inl (hl y h)
    · omega
    · exact hg y h
  · have hy' : (ls ++ [x] ++ gs)[0]? = some y := by simpa using hy
    cases ls with
    | nil => have : x = y := Option.some.inj (by simpa using hy'); omega
    | cons u r => have : u = y := Option.some.inj (by simpa using hy'); have := hl u (by simp); omega
  · have := words_no _ hm x (by simp)
    omega
section
variable {w : World} {P : Program} {K : PySem.W.Frag} {mg : Str → Option Value} {base : Heap}
def spDeck (K : PySem.W.Frag) : Sp := fun vs H Q _ => ∃ (a : Addr) (ns : List Int), vs = [.ref a] ∧ SqL K H a (ns.map V.int) ∧ ns.length ≤ 63 ∧
  ∀ H' p c cs, Sx [] H H' → H p = none → H c = none → Dk H' p c cs 0 → Q (.ref p) H'
theorem ok_deck {f : Addr} {fd : FuncData} {k : Nat} (F : Fun K "_law_deck" "_law_deck" sDeck f fd) (ma : mg "abs" = none) : FnOk P w K mg base CX0 (k + 1) f fd ["_law_script"] (spDeck K) := by
  refine F.ok scDeck (fun vs H Q E h => ?_) (fun cdv A outer s H vs Q E hr h => ?_)
  · obtain ⟨a, ns, rfl, _⟩ := h
    rfl
  · rcases h with ⟨a, ns, rfl, hS, hlen, q⟩
    refine ⟨_, pss_one (ps_ret (pe_lst (pa_cons
      (pe_lc (own := [("_law_cell", 1)]) (g := gName 1) (tt := tYes) rfl scDeck.nd (pi_list (pe_slice sl_list (pv 0) po_none (po_some pe_int))) (blkOk_by (N := nDeck) (sc := defScope sDeck) (by decide +kernel))
        (fun _ _ _ _ _ => pg_name (i := 1) scDeck.nd rfl (Or.inl rfl)) (fun _ _ _ _ _ => pts_nil) (fun _ _ _ _ _ => pe_callB call_abs (by rfl) ma (by decide +kernel) (pa_cons (pv 1) pa_nil)))
      (pa_cons pe_int pa_nil)))), ?_⟩
    refine ⟨_, rfl, 63, rfl, a, ns.map V.int, rfl, hS, fun l hl => ?_⟩
    have cut : cutV (ns.map V.int) none (some 63) = ns.map V.int := by
      unfold cutV
      rw [HT.sIx_none, show HT.sIx (ns.map V.int).length (ns.map V.int).length (some 63) = min 63 (ns.map V.int).length from HT.sIx_nat _ _ 63, List.drop_zero, Nat.sub_zero, List.length_map, Nat.min_eq_right hlen]
      exact List.take_of_length_le (by rw [List.length_map]; exact Nat.le_refl _)
    rw [cut]
    have s1 : Sx [] H (upd H l (.lst (ns.map V.int))) := Sx.new (Sx.refl _) hl
    refine ⟨l, rfl, ⟨_, .inl (.inl upd_same)⟩, fun D hD => lc_list (xs := ns.map V.int)
      (fun i H' => Sx [] H H' ∧ H' l = some (.lst (ns.map V.int)) ∧ H' D = some (.lst ((ns.map fun x => V.int (if x < 0 then -x else x)).take i))) ⟨s1.new hD, ?_, upd_same⟩ (fun i H' _ p => .inl (.inl p.2.1)) (fun i x H' hx p => ?_) (fun H' p => ?_)⟩
    · have hlD : l ≠ D := fun e => by
        rw [← e, upd_same] at hD
        cases hD
      rw [upd_ne hlD, upd_same]
    · obtain ⟨p1, p2, p3⟩ := p
      rw [List.getElem?_map] at hx
      obtain ⟨y, hy, rfl⟩ := Option.map_eq_some_iff.mp hx
      refine ⟨rfl, ?_⟩
      refine ⟨.int y, rfl, y, rfl, _, p3, ?_, ?_, ?_, ?_⟩
      · rw [List.length_take, List.length_map]
        have : (63 : Nat) < sizeLine := by decide
        omega
      · exact p1.own (s1.free (by simp) hD)
      · have hlD : l ≠ D := fun e => by
          rw [← e, upd_same] at hD
          cases hD
        rw [upd_ne hlD]
        exact p2
      · rw [upd_same, List.take_add_one, List.getElem?_map, hy]
        rfl
    · obtain ⟨p1, p2, p3⟩ := p
      refine ⟨by (show 2 ≤ sizeLine); decide, fun p hp => ?_⟩
      have hDp : D ≠ p := ne_of_none p3 hp
      rw [List.length_map, List.take_of_length_le (by rw [List.length_map]; exact Nat.le_refl _)] at p3
      refine q _ p D (ns.map fun x => if x < 0 then -x else x) (p1.new hp) (p1.free (by simp) hp) (s1.free (by simp) hD) ⟨upd_same, ?_, ?_, by rw [List.length_map]; exact hlen, Int.le_refl _⟩
      · rw [upd_ne hDp, p3, List.map_map]
        rfl
      · intro x hx
        obtain ⟨y, _, rfl⟩ := List.mem_map.mp hx
        split <;> omega
def spDraw : Sp := fun vs H Q _ => ∃ (a c : Addr) (cs : List Int) (k m : Int), vs = [.ref a, .int m] ∧ Dk H a c cs k ∧ 0 < m ∧ m < 1073741824 ∧ k < KB ∧
  ∀ H' cs' r, Sx [a, c] H H' → Dk H' a c cs' (k + 1) → 0 ≤ r → r < m → Q (.int r) H'
theorem ok_draw {f : Addr} {fd : FuncData} {k : Nat} (F : Fun K "_law_draw" "_law_draw" sDraw f fd) (z_len : mg "len" = none) (z_int : mg "int" = none) : FnOk P w K mg base CX0 (k + 1) f fd ["_law_deck_here", "_law_many"] spDraw := by
  refine F.ok scDraw (fun vs H Q E h => ?_) (fun cdv A outer s H vs Q E hr h => ?_)
  · obtain ⟨a, c, cs, k, m, rfl, _⟩ := h
    rfl
  · obtain ⟨a, c, cs, k, m, rfl, D, hm0, hm1, hk, q⟩ := h
    refine ⟨_, (pss_cons (ps_asg (pe_op op_add (pe_ix ix_list (pv 0) pe_int (fun _ _ => rfl)) pe_int) (pg_sub (pv 0) pe_int set_list))
      (pss_cons (ps_asg (pe_tup (pa_cons pe_int (pa_cons (pe_un un_neg pe_int) pa_nil))) (pg_tup rfl (pgs_cons (pg_name (i := 2) scDraw.nd rfl (by first | exact Or.inl rfl | exact Or.inr rfl)) (pgs_cons (pg_name (i := 3) scDraw.nd rfl (by first | exact Or.inl rfl | exact Or.inr rfl)) pgs_nil))))
      (C8.pss_cut (ps_if (pt_cmpR op_gt (pe_callB call_len_seq (by rfl) z_len boot_len (pa_cons (pe_ix ix_list (pv 0) pe_int (fun _ _ => rfl)) pa_nil)) pe_int (nomark _)) (pss_cons (ps_set (i := 3) scDraw.nd rfl (by first | exact Or.inl rfl | exact Or.inr rfl) (pe_op op_mod (pe_callTy call_int1 (by rfl) z_int boot_int (pa_cons (pe_ix ix_list (pv 0) pe_int (fun _ _ => rfl)) pa_nil)) (pe_callB call_len_seq (by rfl) z_len boot_len (pa_cons (pe_ix ix_list (pv 0) pe_int (fun _ _ => rfl)) pa_nil))))
      (pss_one (ps_set (i := 2) scDraw.nd rfl (by first | exact Or.inl rfl | exact Or.inr rfl) (pe_ix ix_list (pe_ix ix_list (pv 0) pe_int (fun _ _ => rfl)) (pv 3) (fun _ _ => rfl))))) pss_nil)
      (pss_cons (ps_if (pt_cmpR op_ge (pv 2) (pe_op op_pow pe_int pe_int) (nomark _)) (pss_cons (ps_asg (pe_op op_fdiv (pe_callTy call_int1 (by rfl) z_int boot_int (pa_cons (pv 2) pa_nil)) (pv 1)) (pg_sub (pe_ix ix_list (pv 0) pe_int (fun _ _ => rfl)) (pv 3) set_list))
      (pss_one (ps_ret (pe_op op_mod (pe_callTy call_int1 (by rfl) z_int boot_int (pa_cons (pv 2) pa_nil)) (pv 1))))) pss_nil)
      (pss_cons (ps_set (i := 4) scDraw.nd rfl (by first | exact Or.inl rfl | exact Or.inr rfl) (pe_op op_add (pe_op op_add (pe_op op_mod (pe_callTy call_int1 (by rfl) z_int boot_int (pa_cons (pv 2) pa_nil)) pe_int) (pe_op op_mul pe_int (pe_ix ix_list (pv 0) pe_int (fun _ _ => rfl)))) pe_int))
      (pss_one (ps_ret (pe_op op_mod (pe_callTy call_int1 (by rfl) z_int boot_int (pa_cons (pe_op op_mod (pe_callTy call_int1 (by rfl) z_int boot_int (pa_cons (pe_op op_pow (pv 4) pe_int) pa_nil)) pe_int) pa_nil)) (pv 1))))))))), ?_⟩
    refine ⟨.ref a, rfl, a, _, 1, .int k, rfl, rfl, .inl (.inl D.ha), rfl, _, _, rfl, rfl, .ref a, rfl, a, _, 1, 1, rfl, rfl, D.ha, rfl, ?_⟩
    have na := D.ne
    have k0 := D.k0
    refine gh (H1 := upd _ a _) (F := fun H1 => Sx [a, c] H H1 ∧ Dk H1 a c cs (k + 1)) ⟨(Sx.refl H).put (by simp), upd_same, by rw [upd_ne na.symm]; exact D.hc, D.pos, D.len, by omega⟩ (fun H1 ⟨s1, D1⟩ => ?_)
    -- _law_cell, _law_at = 0, -1
    refine ⟨1, rfl, by show 2 ≤ sizeLine; decide, fun t ht => ⟨t, _, rfl, .inl (.inl upd_same), rfl, _, _, rfl, _, _, rfl, rfl, ?_⟩⟩
    refine gh (H1 := upd _ t _) (F := fun H2 => Sx [a, c] H H2 ∧ Dk H2 a c cs (k + 1)) ⟨s1.new ht, D1.same ((Sx.refl _).new ht)⟩ (fun H2 ⟨s2, D2⟩ => ?_)
    -- if len(..) > 0
    refine ⟨fun σ' H' => ∃ x at' : Int, σ' = [some (.ref a), some (.int m), some (.int x), some (.int at'), none] ∧ H' = H2 ∧ 0 ≤ x ∧ (1000000000000000000 ≤ x → ∃ j : Nat, at' = (j : Int) ∧ j < cs.length), ?_, ?_⟩
    · refine ⟨.ref a, rfl, a, _, 0, .ref c, rfl, rfl, .inl (.inl D2.ha), rfl, c, _, rfl, .inl (.inl (.inl D2.hc)), _, _, rfl, rfl, _, rfl, ite2 (fun e => ?_) (fun e => ?_)⟩
      · have e' : (0 : Int) < ((cs.map V.int).length : Int) := of_decide_eq_true e
        rw [List.length_map] at e'
        refine ⟨.ref a, rfl, a, _, 1, .int (k + 1), rfl, rfl, .inl (.inl D2.ha), rfl, .inl ⟨_, rfl, .ref a, rfl, a, _, 0, .ref c, rfl, rfl, .inl (.inl D2.ha), rfl, c, _, rfl, .inl (.inl (.inl D2.hc)), _, _, rfl, rfl, by rw [List.length_map]; exact e', ?_⟩⟩
        have b0 := Int.emod_nonneg (k + 1) (show ((cs.length : Nat) : Int) ≠ 0 by omega)
        have b1 := Int.emod_lt_of_pos (k + 1) e'
        obtain ⟨j, hj⟩ := Int.eq_ofNat_of_zero_le b0
        have hjl : j < cs.length := by omega
        have hj' : (k + 1) % (((cs.map V.int).length : Nat) : Int) = (j : Int) := by rw [List.length_map]; exact hj
        refine ⟨.ref a, rfl, a, _, 0, .ref c, rfl, rfl, .inl (.inl D2.ha), rfl, _, rfl, c, _, _, .int (cs[j]), rfl, rfl, .inl (.inl D2.hc), at_of hj' (by rw [List.getElem?_map, List.getElem?_eq_getElem hjl]; rfl), ?_⟩
        exact ⟨_, _, rfl, rfl, D2.pos _ (List.getElem_mem hjl), fun _ => ⟨j, hj', hjl⟩⟩
      · exact ⟨0, -1, rfl, rfl, Int.le_refl _, fun z => absurd z (by decide)⟩
    -- what follows
    · rintro _ _ ⟨x, at', rfl, rfl, hx, hat⟩
      refine ⟨_, rfl, 10, 18, rfl, rfl, ⟨by decide, by decide, by decide⟩, x, _, rfl, rfl, _, rfl, ite2 (fun e => ?_) (fun e => ?_)⟩
      · have e' : (1000000000000000000 : Int) ≤ x := of_decide_eq_true e
        obtain ⟨j, rfl, hj⟩ := hat e'
        refine ⟨_, rfl, .inl ⟨x, rfl, _, rfl, x, m, rfl, rfl, ⟨hm0, hm1⟩, .ref a, rfl, a, _, 0, .ref c, rfl, rfl, .inl (.inl D2.ha), rfl, _, rfl, c, _, _, j, rfl, rfl, D2.hc, ixN_of rfl (by rw [List.length_map]; exact hj), ?_⟩⟩
        refine ⟨_, rfl, .inl ⟨x, rfl, _, rfl, x, m, rfl, rfl, hm0, ?_⟩⟩
        refine q _ (cs.set j (x / m)) _ (s2.put (by simp)) ⟨by rw [upd_ne na]; exact D2.ha, by rw [upd_same, ← List.map_set], fun y hy => ?_, by rw [List.length_set]; exact D2.len, by omega⟩ (Int.emod_nonneg _ (by omega)) (Int.emod_lt_of_pos _ hm0)
        rcases List.mem_or_eq_of_mem_set hy with z | rfl
        · exact D2.pos y z
        · exact Int.ediv_nonneg hx (by omega)
      · refine ⟨_, rfl, .inl ⟨x, rfl, x, 2147483543, rfl, rfl, (by decide : (0 : Int) < 2147483543), .ref a, rfl, a, _, 1, .int (k + 1), rfl, rfl, .inl (.inl D2.ha), rfl, 9311, k + 1, rfl, rfl, .inl ⟨by decide, by decide⟩, _, _, rfl, rfl, _, 7, rfl, rfl, ?_⟩⟩
        have b0 := Int.emod_nonneg x (by decide : (2147483543 : Int) ≠ 0)
        have b1 := Int.emod_lt_of_pos x (by decide : (0 : Int) < 2147483543)
        refine ⟨_, rfl, _, 5, rfl, rfl, ⟨by decide, by decide, ?_⟩, .inl ⟨_, rfl, _, 2147483587, rfl, rfl, (by decide : (0 : Int) < 2147483587), .inl ⟨_, rfl, _, rfl, _, m, rfl, rfl, hm0, ?_⟩⟩⟩
        · have hk' : k < 1099511627776 := hk
          omega
        · exact q _ cs _ s2 D2 (Int.emod_nonneg _ (by omega)) (Int.emod_lt_of_pos _ hm0)
/-- one of a list's items, or one of a text's signs -/
def spOne (K : PySem.W.Frag) : Sp := fun vs H Q _ => ∃ (a c : Addr) (cs : List Int) (k : Int) (it : V), vs = [.ref a, it] ∧ Dk H a c cs k ∧ k < KB ∧
  ((∃ p xs, it = .ref p ∧ SqL K H p xs ∧ xs ≠ [] ∧ xs.length ≤ 100000 ∧ p ≠ a ∧ p ≠ c ∧ ∀ H' cs' x, Sx [a, c] H H' → Dk H' a c cs' (k + 1) → x ∈ xs → Q x H') ∨
    ∃ z : Str, it = .str z ∧ 0 < z.length ∧ z.length ≤ 100000 ∧ ∀ H' cs' x, Sx [a, c] H H' → Dk H' a c cs' (k + 1) → x ∈ z.cps.toList → Q (.str ⟨#[x]⟩) H')
theorem ok_one {f fD : Addr} {fd fdD : FuncData} {k : Nat} (F : Fun K "_law_one" "_law_one" sOne f fd) (F_draw : Fun K "_law_draw" "_law_draw" sDraw fD fdD) (G_draw : FnOk P w K mg base CX0 (k + 1) fD fdD ["_law_deck_here", "_law_many"] spDraw)
    (b_draw : Binds K fdD ["_law_deck_here", "_law_many"] []) (m_draw : mg "_law_draw" = some (.ref fD)) (z_len : mg "len" = none) : FnOk P w K mg base CX0 (k + 2) f fd ["_law_deck_here", "_law_items"] (spOne K) := by
  refine F.ok scOne (fun vs H Q E h => ?_) (fun cdv A outer s H vs Q E hr h => ?_)
  · obtain ⟨a, c, cs, k, it, rfl, _⟩ := h
    rfl
  · obtain ⟨a, c, cs, k, it, rfl, D, hk, q⟩ := h
    refine ⟨_, (pss_one (ps_ret (pe_ix (ix_or ix_list ix_str) (pv 1) (pe_call G_draw (hr.mono (by omega)) (by rfl) m_draw F_draw.kp b_draw .nil pass0 (pa_cons (pv 0) (pa_cons (pe_callB (cr_or call_len_seq call_len_str) (by rfl) z_len boot_len (pa_cons (pv 1) pa_nil)) pa_nil))) (fun _ _ => rfl)))), ?_⟩
    rcases q with ⟨p, xs, rfl, hp, hne, hlen, pa, pc, q⟩ | ⟨z, rfl, hz0, hz1, q⟩
    · refine ⟨_, rfl, _, rfl, _, rfl, .inl ⟨p, xs, rfl, .inl hp, a, c, cs, k, _, rfl, D, by have : 0 < xs.length := List.length_pos_iff.mpr hne; omega, by omega, hk, fun H' cs' r s1 D1 r0 r1 => ?_⟩⟩
      obtain ⟨j, rfl⟩ := Int.eq_ofNat_of_zero_le r0
      have hj : j < xs.length := by omega
      exact .inl ⟨p, xs, _, xs[j], rfl, rfl, s1.seqL (by simp [pa, pc]) hp, atI_nat (List.getElem?_eq_getElem hj), q H' cs' _ s1 D1 (List.getElem_mem hj)⟩
    · refine ⟨_, rfl, _, rfl, _, rfl, .inr ⟨z, rfl, le_line (by omega), a, c, cs, k, _, rfl, D, by omega, by omega, hk, fun H' cs' r s1 D1 r0 r1 => ?_⟩⟩
      obtain ⟨j, rfl⟩ := Int.eq_ofNat_of_zero_le r0
      have hj : j < z.cps.toList.length := by rw [Array.length_toList]; have : z.length = z.cps.size := rfl; omega
      exact .inr ⟨z, _, z.cps.toList[j], rfl, rfl, le_line (by omega), atI_nat (List.getElem?_eq_getElem hj), q H' cs' _ s1 D1 (List.getElem_mem hj)⟩
def spExpr (K : PySem.W.Frag) (d : Nat) : Sp := fun vs H Q _ => ∃ (a c : Addr) (cs : List Int) (k : Int) (nm : Addr) (ns : List Str), vs = [.ref a, .ref nm, .int (d : Int)] ∧ Dk H a c cs k ∧ Nms K H nm ns ∧ nm ≠ a ∧ nm ≠ c ∧ 1 ≤ d ∧ k + cE d ≤ KB ∧
  ∀ H' cs' k' v e, Sx [a, c] H H' → Dk H' a c cs' k' → k ≤ k' → k' ≤ k + cE d → Tp H' v e → ExD ns d e → Q v H'
theorem ok_expr {f fD fO : Addr} {fd fdD fdO : FuncData} (F_expression : Fun K "_law_expression" "_law_expression" sExpression f fd) (F_draw : Fun K "_law_draw" "_law_draw" sDraw fD fdD) (F_one : Fun K "_law_one" "_law_one" sOne fO fdO)
    (G_draw : FnOk P w K mg base CX0 1 fD fdD ["_law_deck_here", "_law_many"] spDraw) (G_one : FnOk P w K mg base CX0 2 fO fdO ["_law_deck_here", "_law_items"] (spOne K))
    (b_draw : Binds K fdD ["_law_deck_here", "_law_many"] []) (b_one : Binds K fdO ["_law_deck_here", "_law_items"] []) (b_expression : Binds K fd ["_law_deck_here", "_law_names_here", "_law_deep"] [])
    (m_draw : mg "_law_draw" = some (.ref fD)) (m_one : mg "_law_one" = some (.ref fO)) (m_expression : mg "_law_expression" = some (.ref f)) (z_int : mg "int" = none) :
    ∀ d : Nat, FnOk P w K mg base CX0 (d + 2) f fd ["_law_deck_here", "_law_names_here", "_law_deep"] (spExpr K d) := by
  intro d
  induction d with
  | zero => exact ⟨fun vs H Q E h => by obtain ⟨_, _, _, _, _, _, rfl, _⟩ := h; rfl, fun _ _ _ _ _ _ _ _ _ _ _ _ _ h => by obtain ⟨_, _, _, _, _, _, _, _, _, _, _, h, _⟩ := h; omega⟩
  | succ d G_expression =>
    refine F_expression.ok scExpression (fun vs H Q E h => ?_) (fun cdv A outer s H vs Q E hr h => ?_)
    · obtain ⟨a, c, cs, k, nm, ns, rfl, _⟩ := h
      rfl
    · obtain ⟨a, c, cs, k, nm, ns, rfl, D, N, na, nc, hd, hk, q⟩ := h
      refine ⟨_, (C8.pss_cut (ps_set (i := 3) scExpression.nd rfl (by first | exact Or.inl rfl | exact Or.inr rfl) (pe_ifExp (pt_cmpR op_gt (pv 2) pe_int (nomark _)) (pe_call G_draw (hr.mono (by omega)) (by rfl) m_draw F_draw.kp b_draw .nil pass0 (pa_cons (pv 0) (pa_cons pe_int pa_nil))) (pe_call G_draw (hr.mono (by omega)) (by rfl) m_draw F_draw.kp b_draw .nil pass0 (pa_cons (pv 0) (pa_cons pe_int pa_nil)))))
      (pss_cons (ps_if (pt_cmpR op_eq (pv 3) pe_int (nomark _)) (pss_one (ps_ret (pe_call G_one (hr.mono (by omega)) (by rfl) m_one F_one.kp b_one .nil pass0 (pa_cons (pv 0) (pa_cons (pe_lst (pa_cons pe_int (pa_cons pe_int (pa_cons pe_int (pa_cons (pe_un un_neg pe_int) (pa_cons pe_int (pa_cons (pe_un un_neg pe_int) (pa_cons pe_int (pa_cons (pe_un un_neg pe_int) (pa_cons (pe_op op_sub (pe_call G_draw (hr.mono (by omega)) (by rfl) m_draw F_draw.kp b_draw .nil pass0 (pa_cons (pv 0) (pa_cons pe_int pa_nil))) pe_int) pa_nil)))))))))) pa_nil))))) pss_nil)
      (pss_cons (ps_if (pt_cmpR op_lt (pv 3) pe_int (nomark _)) (pss_one (ps_ret (pe_call G_one (hr.mono (by omega)) (by rfl) m_one F_one.kp b_one .nil pass0 (pa_cons (pv 0) (pa_cons (pe_op op_cat (pv 1) (pe_lst (pa_cons pe_str (pa_cons pe_str pa_nil)))) pa_nil))))) pss_nil)
      (pss_cons (ps_if (pt_cmpR op_eq (pv 3) pe_int (nomark _)) (pss_cons (ps_set (i := 4) scExpression.nd rfl (by first | exact Or.inl rfl | exact Or.inr rfl) (pe_call G_one (hr.mono (by omega)) (by rfl) m_one F_one.kp b_one .nil pass0 (pa_cons (pv 0) (pa_cons (pe_lst (pa_cons (pe_un un_neg pe_int) (pa_cons (pe_un un_neg pe_int) (pa_cons (pe_un un_neg pe_int) (pa_cons (pe_un un_neg pe_int) (pa_cons (pe_un un_neg pe_int) (pa_cons pe_int (pa_cons pe_int (pa_cons pe_int (pa_cons pe_int pa_nil)))))))))) pa_nil))))
      (pss_one (ps_ret (pe_tup (pa_cons pe_str (pa_cons (pv 4) (pa_cons (pe_call G_expression (hr.mono (by omega)) (by rfl) m_expression F_expression.kp b_expression .nil pass0 (pa_cons (pv 0) (pa_cons (pv 1) (pa_cons (pe_op op_sub (pv 2) pe_int) pa_nil)))) pa_nil))))))) pss_nil)
      (pss_cons (ps_set (i := 5) scExpression.nd rfl (by first | exact Or.inl rfl | exact Or.inr rfl) (pe_call G_expression (hr.mono (by omega)) (by rfl) m_expression F_expression.kp b_expression .nil pass0 (pa_cons (pv 0) (pa_cons (pv 1) (pa_cons (pe_op op_sub (pv 2) pe_int) pa_nil)))))
      (pss_one (ps_ret (pe_tup (pa_cons (pe_ix ix_list (pe_lst (pa_cons pe_str (pa_cons pe_str pa_nil))) (pe_op op_mod (pe_callTy call_int1 (by rfl) z_int boot_int (pa_cons (pv 3) pa_nil)) pe_int) (fun _ _ => rfl)) (pa_cons (pv 5) (pa_cons (pe_call G_expression (hr.mono (by omega)) (by rfl) m_expression F_expression.kp b_expression .nil pass0 (pa_cons (pv 0) (pa_cons (pv 1) (pa_cons (pe_op op_sub (pv 2) pe_int) pa_nil)))) pa_nil))))))))))), ?_⟩
      have e1 := cE_one d
      have e2 := cE_pos d
      have hs : V.int (((d + 1 : Nat) : Int) - 1) = V.int (d : Int) := by rw [show ((d + 1 : Nat) : Int) - 1 = (d : Int) by omega]
      refine ⟨fun σ' H' => ∃ cs1 r, σ' = [some (.ref a), some (.ref nm), some (.int ((d + 1 : Nat) : Int)), some (.int r), none, none] ∧ Sx [a, c] H H' ∧ Dk H' a c cs1 (k + 1) ∧ 0 ≤ r ∧ r < 7 ∧ (d = 0 → r < 4), ?_, ?_⟩
      · refine ⟨_, rfl, _, 1, rfl, rfl, _, rfl, ite2 (fun e => ?_) (fun e => ?_)⟩
        · have e' : (1 : Int) < ((d + 1 : Nat) : Int) := of_decide_eq_true e
          refine ⟨_, rfl, a, c, cs, k, 7, rfl, D, by decide, by decide, by omega, fun H1 cs1 r s1 D1 r0 r1 => ⟨cs1, r, rfl, s1, D1, r0, r1, fun z => by omega⟩⟩
        · refine ⟨_, rfl, a, c, cs, k, 4, rfl, D, by decide, by decide, by omega, fun H1 cs1 r s1 D1 r0 r1 => ⟨cs1, r, rfl, s1, D1, r0, by omega, fun _ => r1⟩⟩
      · rintro _ H1 ⟨cs1, r, rfl, s1, D1, r0, r7, rd⟩
        have N1 := N.keep s1 (by simp [na, nc])
        refine ⟨_, rfl, rfl, _, rfl, ite2 (fun e => ?_) (fun e => ?_)⟩
        -- 0: an integer
        · refine ⟨_, rfl, 1, rfl, 5, rfl, 99, rfl, _, rfl, a, c, cs1, k + 1, 199, rfl, D1, by decide, by decide, by omega, fun H2 cs2 z s2 D2 z0 z1 => ?_⟩
          refine ⟨z, 99, rfl, rfl, by show 9 ≤ sizeLine; decide, fun p hp => ?_⟩
          obtain ⟨pa, pc⟩ := D2.nw hp
          refine ⟨a, c, cs2, _, _, rfl, D2.same ((Sx.refl _).new hp), by omega, .inl ⟨p, _, rfl, .inl (.inl upd_same), by simp, by show 9 ≤ 100000; decide, pa, pc, fun H3 cs3 x s4 D3 hx => ?_⟩⟩
          obtain ⟨i, rfl, i0, i1⟩ : ∃ i : Int, x = .int i ∧ -99 ≤ i ∧ i ≤ 99 := by
            simp only [List.not_mem_nil, List.mem_cons, or_false] at hx
            rcases hx with rfl | rfl | rfl | rfl | rfl | rfl | rfl | rfl | rfl
            all_goals first
              | exact ⟨_, rfl, by decide, by decide⟩
              | exact ⟨_, rfl, by show -99 ≤ z - 99; omega, by show z - 99 ≤ 99; omega⟩
          exact q H3 cs3 _ _ _ (((s1.trans s2).new hp).trans s4) D3 (by omega) (by omega) (.int i) (.int i i0 i1)
        · refine ⟨_, rfl, _, 4, rfl, rfl, _, rfl, ite2 (fun e4 => ?_) (fun e4 => ?_)⟩
          -- below 4: a name
          · refine ⟨_, rfl, _, rfl, by show 2 ≤ sizeLine; decide, fun l hl => ?_⟩
            have nl : Sx [] H1 (upd H1 l (.lst [.str "n", .str "n"])) := (Sx.refl _).new hl
            have N2 := N1.keep nl (by simp)
            have D2 := D1.same nl
            have len := N.len
            refine ⟨nm, l, _, _, rfl, rfl, N2.tr, upd_same, by rw [List.length_map]; exact le_line (by show ns.length + 2 ≤ 16777216; omega), fun L hL => ?_⟩
            have nL : Sx [] (upd H1 l (.lst [.str "n", .str "n"])) (upd (upd H1 l (.lst [.str "n", .str "n"])) L (.lst (ns.map V.str ++ [.str "n", .str "n"]))) := (Sx.refl _).new hL
            obtain ⟨La, Lc⟩ := D2.nw hL
            refine ⟨a, c, cs1, k + 1, _, rfl, D2.same nL, by omega, .inl ⟨L, _, rfl, .inl (.inl upd_same), by simp, by rw [List.length_append, List.length_map]; show ns.length + 2 ≤ 100000; omega, La, Lc, fun H3 cs3 x s4 D3 hx => ?_⟩⟩
            obtain ⟨z, hz, rfl⟩ : ∃ z ∈ ns, x = V.str z := by
              rcases List.mem_append.1 hx with hx | hx
              · obtain ⟨z, hz, rfl⟩ := List.mem_map.mp hx
                exact ⟨z, hz, rfl⟩
              · simp only [List.not_mem_nil, List.mem_cons, or_false] at hx
                rcases hx with rfl | rfl
                all_goals exact ⟨_, N.hn, rfl⟩
            exact q H3 cs3 _ _ _ (s1.trans ((nl.trans nL).nil.trans s4)) D3 (by omega) (by omega) (.str z) (.name z hz)
          · have e4' : ¬ r < 4 := fun z => e4 (decide_eq_true z)
            have hd0 : 1 ≤ d := by
              rcases Nat.eq_zero_or_pos d with z | z
              · exact absurd (rd z) e4'
              · exact z
            refine ⟨_, rfl, rfl, _, rfl, ite2 (fun e6 => ?_) (fun e6 => ?_)⟩
            -- 6: times
            · refine ⟨_, rfl, 9, rfl, 4, rfl, 3, rfl, 2, rfl, 1, rfl, by show 9 ≤ sizeLine; decide, fun p hp => ?_⟩
              obtain ⟨pa, pc⟩ := D1.nw hp
              refine ⟨a, c, cs1, _, _, rfl, D1.same ((Sx.refl _).new hp), by omega, .inl ⟨p, _, rfl, .inl (.inl upd_same), by simp, by show 9 ≤ 100000; decide, pa, pc, fun H2 cs2 x s2 D2 hx => ?_⟩⟩
              obtain ⟨i, rfl, i0, i1⟩ : ∃ i : Int, x = .int i ∧ -9 ≤ i ∧ i ≤ 9 := by
                simp only [List.not_mem_nil, List.mem_cons, or_false] at hx
                rcases hx with rfl | rfl | rfl | rfl | rfl | rfl | rfl | rfl | rfl
                all_goals exact ⟨_, rfl, by decide, by decide⟩
              have s12 : Sx [a, c] H1 H2 := ((Sx.refl _).new hp).trans s2
              have N2 := N1.keep s12 (by simp [na, nc])
              refine ⟨_, rfl, _, rfl, _, rfl, _, rfl, _, 1, rfl, rfl, a, c, cs2, k + 1 + 1, nm, ns, congrArg (fun z => [V.ref a, V.ref nm, z]) hs, D2, N2, na, nc, hd0, by omega, fun H3 cs3 k3 v ev s3 D3 k3a k3b t3 x3 => ?_⟩
              refine ⟨by show 3 ≤ sizeLine; decide, fun t ht => ?_⟩
              exact q _ cs3 k3 _ _ (((s1.trans s12).trans s3).new ht) (D3.new ht) (by omega) (by omega) (.tup upd_same (.cons (.str _) (.cons (.int i) (.cons (t3.new ht) .nil)))) (.times i i0 i1 x3)
            -- plus, minus
            · refine ⟨_, rfl, _, rfl, _, rfl, _, 1, rfl, rfl, a, c, cs1, k + 1, nm, ns, congrArg (fun z => [V.ref a, V.ref nm, z]) hs, D1, N1, na, nc, hd0, by omega, fun H2 cs2 k2 v ev s2 D2 k2a k2b t2 x2 => ?_⟩
              refine ⟨by show 2 ≤ sizeLine; decide, fun l hl => ?_⟩
              obtain ⟨la, lc⟩ := D2.nw hl
              have n2 : Sx [] H2 (upd H2 l _) := (Sx.refl _).new (o := .lst [.str "plus", .str "minus"]) hl
              have D2' := D2.same n2
              have N2 := (N1.keep s2 (by simp [na, nc])).keep n2 (by simp)
              have t2' := t2.keep n2.tk0
              obtain ⟨b, hb, hr2⟩ : ∃ b : Str, (b = "plus" ∨ b = "minus") ∧ atI [V.str "plus", V.str "minus"] (r % 2) = some (.str b) := by
                rcases (show r % 2 = 0 ∨ r % 2 = 1 by omega) with z | z
                · exact ⟨_, .inl rfl, by rw [z]; rfl⟩
                · exact ⟨_, .inr rfl, by rw [z]; rfl⟩
              refine ⟨_, rfl, .inl ⟨r, rfl, r, 2, rfl, rfl, (by decide : (0 : Int) < 2), l, _, _, .str b, rfl, rfl, .inl (.inl upd_same), hr2, ?_⟩⟩
              refine ⟨_, rfl, _, rfl, _, rfl, _, rfl, _, 1, rfl, rfl, a, c, cs2, k2, nm, ns, congrArg (fun z => [V.ref a, V.ref nm, z]) hs, D2', N2, na, nc, hd0, by omega, fun H3 cs3 k3 v' ev' s3 D3 k3a k3b t3 x3 => ?_⟩
              refine ⟨by show 3 ≤ sizeLine; decide, fun t ht => ?_⟩
              refine q _ cs3 k3 _ (.tuple [.str b, ev, ev']) ((((s1.trans s2).trans n2.nil).trans s3).new ht) (D3.new ht) (by omega) (by omega) (.tup upd_same (.cons (.str _) (.cons ((t2'.keep (D2'.tk s3)).new ht) (.cons (t3.new ht) .nil)))) ?_
              rcases hb with rfl | rfl
              · exact .plus x2 x3
              · exact .minus x2 x3
end
section
variable {w : World} {P : Program} {K : PySem.W.Frag} {mg : Str → Option Value} {base : Heap}
def spTest (K : PySem.W.Frag) : Sp := fun vs H Q _ => ∃ (a c : Addr) (cs : List Int) (k : Int) (nm : Addr) (ns : List Str) (rm : Addr) (r0 r1 r2 r3 t : Int), vs = [.ref a, .ref nm, .ref rm, .int t] ∧ Dk H a c cs k ∧ Nms K H nm ns ∧ Rm H rm r0 r1 r2 r3 ∧
  nm ≠ a ∧ nm ≠ c ∧ nm ≠ rm ∧ rm ≠ a ∧ rm ≠ c ∧ 1 ≤ t ∧ k + 46 ≤ KB ∧
  ∀ H' cs' k' v e, Sx [a, c, rm] H H' → Dk H' a c cs' k' → k ≤ k' → k' ≤ k + 46 → Tp H' v e →
    ((e = .tuple [] ∧ Rm H' rm r0 r1 r2 r3) ∨ ∃ b, TsD ns 2 b e ∧ Rm H' rm r0 r1 (r2 - t * bI b) (r3 - t * bI (!b))) → Q v H'
theorem ok_test {f fD fO fE : Addr} {fd fdD fdO fdE : FuncData} (F : Fun K "_law_test" "_law_test" sTest f fd) (F_draw : Fun K "_law_draw" "_law_draw" sDraw fD fdD) (F_one : Fun K "_law_one" "_law_one" sOne fO fdO) (F_expression : Fun K "_law_expression" "_law_expression" sExpression fE fdE)
    (G_draw : FnOk P w K mg base CX0 1 fD fdD ["_law_deck_here", "_law_many"] spDraw) (G_one : FnOk P w K mg base CX0 2 fO fdO ["_law_deck_here", "_law_items"] (spOne K)) (G_expression : FnOk P w K mg base CX0 5 fE fdE ["_law_deck_here", "_law_names_here", "_law_deep"] (spExpr K 3)) (G_expr2 : FnOk P w K mg base CX0 4 fE fdE ["_law_deck_here", "_law_names_here", "_law_deep"] (spExpr K 2))
    (b_draw : Binds K fdD ["_law_deck_here", "_law_many"] []) (b_one : Binds K fdO ["_law_deck_here", "_law_items"] []) (b_expression : Binds K fdE ["_law_deck_here", "_law_names_here", "_law_deep"] [])
    (m_draw : mg "_law_draw" = some (.ref fD)) (m_one : mg "_law_one" = some (.ref fO)) (m_expression : mg "_law_expression" = some (.ref fE)) (z_range : mg "range" = none) :
    FnOk P w K mg base CX0 6 f fd ["_law_deck_here", "_law_names_here", "_law_room", "_law_times"] (spTest K) := by
  refine F.ok scTest (fun vs H Q E h => ?_) (fun cdv A outer s H vs Q E hr h => ?_)
  · obtain ⟨a, c, cs, k, nm, ns, rm, r0, r1, r2, r3, t, rfl, _⟩ := h
    rfl
  · obtain ⟨a, c, cs, k, nm, ns, rm, r0, r1, r2, r3, t, rfl, D, N, R, na, nc, nr, ra, rc, ht, hk, q⟩ := h
    have e3 : cE 3 = 21 := by decide
    have e2 : cE 2 = 9 := by decide
    refine ⟨_, (pss_cons (ps_par3 (i := 4) (j := 5) (l := 6) (by rfl) scTest.nd rfl rfl rfl (by decide) (by decide) (by decide) rfl rfl rfl (pa_cons (pe_op op_sub (pe_call G_draw (hr.mono (by omega)) (by rfl) m_draw F_draw.kp b_draw .nil pass0 (pa_cons (pv 0) (pa_cons pe_int pa_nil))) pe_int) (pa_cons (pe_call G_draw (hr.mono (by omega)) (by rfl) m_draw F_draw.kp b_draw .nil pass0 (pa_cons (pv 0) (pa_cons pe_int pa_nil))) (pa_cons (pe_tup pa_nil) pa_nil))) (by rfl))
      (C8.pss_cut (ps_if (PW.pt (pw_and (PW.pt (pw_or (pt_cmpR op_eq (pv 5) pe_int (nomark _)) (pw_or1 (pt_cmpR op_lt (pe_ix ix_list (pv 2) pe_int (fun _ _ => rfl)) (pv 3) (nomark _))))) (pw_and1 (pt_cmpR op_ge (pe_ix ix_list (pv 2) pe_int (fun _ _ => rfl)) (pv 3) (nomark _))))) (pss_cons (ps_asg (pe_op op_sub (pe_ix ix_list (pv 2) pe_int (fun _ _ => rfl)) (pv 3)) (pg_sub (pv 2) pe_int set_list))
      (pss_cons (ps_set (i := 7) scTest.nd rfl (by first | exact Or.inl rfl | exact Or.inr rfl) (pe_op op_add pe_int (pe_call G_draw (hr.mono (by omega)) (by rfl) m_draw F_draw.kp b_draw .nil pass0 (pa_cons (pv 0) (pa_cons pe_int pa_nil)))))
      (pss_one (ps_set (i := 6) scTest.nd rfl (by first | exact Or.inl rfl | exact Or.inr rfl) (pe_tup (pa_cons pe_str (pa_cons (pe_call G_expression (hr.mono (by omega)) (by rfl) m_expression F_expression.kp b_expression .nil pass0 (pa_cons (pv 0) (pa_cons (pv 1) (pa_cons pe_int pa_nil)))) (pa_cons (pv 7) (pa_cons (pe_call G_draw (hr.mono (by omega)) (by rfl) m_draw F_draw.kp b_draw .nil pass0 (pa_cons (pv 0) (pa_cons (pv 7) pa_nil))) pa_nil))))))))) (pss_one (ps_if (pt_cmpR op_ge (pe_ix ix_list (pv 2) pe_int (fun _ _ => rfl)) (pv 3) (nomark _)) (pss_cons (ps_asg (pe_op op_sub (pe_ix ix_list (pv 2) pe_int (fun _ _ => rfl)) (pv 3)) (pg_sub (pv 2) pe_int set_list))
      (pss_cons (ps_set (i := 8) scTest.nd rfl (by first | exact Or.inl rfl | exact Or.inr rfl) (pe_call G_one (hr.mono (by omega)) (by rfl) m_one F_one.kp b_one .nil pass0 (pa_cons (pv 0) (pa_cons (pe_lst (pa_cons pe_str (pa_cons (pe_call G_expr2 (hr.mono (by omega)) (by rfl) m_expression F_expression.kp b_expression .nil pass0 (pa_cons (pv 0) (pa_cons (pv 1) (pa_cons pe_int pa_nil)))) pa_nil))) pa_nil))))
      (pss_one (ps_set (i := 6) scTest.nd rfl (by first | exact Or.inl rfl | exact Or.inr rfl) (pe_tup (pa_cons pe_str (pa_cons (pv 8) (pa_cons (pe_call G_one (hr.mono (by omega)) (by rfl) m_one F_one.kp b_one .nil pass0 (pa_cons (pv 0) (pa_cons (pe_lst (pa_cons (pe_op op_sub (pe_call G_draw (hr.mono (by omega)) (by rfl) m_draw F_draw.kp b_draw .nil pass0 (pa_cons (pv 0) (pa_cons pe_int pa_nil))) pe_int) (pa_cons (pe_call G_expr2 (hr.mono (by omega)) (by rfl) m_expression F_expression.kp b_expression .nil pass0 (pa_cons (pv 0) (pa_cons (pv 1) (pa_cons pe_int pa_nil)))) pa_nil))) pa_nil))) pa_nil)))))))) pss_nil)))
      (C8.pss_cut (ps_for PassesOwn.never rfl (pi_range1 (by rfl) z_range (pa_cons (pe_ifExp (PW.pt (pw_and (pt_cmpR op_gt (pv 4) pe_int (nomark _)) (pw_and1 (pt_cmpR (op_neD hr.units) (pv 6) (pe_tup pa_nil) (nomark _))))) (pv 4) pe_int) pa_nil)) (pg_name (i := 9) scTest.nd rfl (by first | exact Or.inl rfl | exact Or.inr rfl)) (pss_one (ps_set (i := 6) scTest.nd rfl (by first | exact Or.inl rfl | exact Or.inr rfl) (pe_tup (pa_cons pe_str (pa_cons (pv 6) pa_nil))))))
      (pss_one (ps_ret (pv 6)))))), ?_⟩
    refine ⟨_, rfl, a, c, cs, k, 5, rfl, D, by decide, by decide, by omega, fun H1 cs1 z s1 D1 z0 z1 => ⟨z, 2, rfl, rfl, ?_⟩⟩
    refine ⟨_, rfl, a, c, cs1, k + 1, 2, rfl, D1, by decide, by decide, by omega, fun H1a cs1a y s1a D1a y0 y1 => ⟨Nat.zero_le _, fun p hp => ⟨_, _, _, rfl, ?_⟩⟩⟩
    have ex : Sx [] H1a (upd H1a p (.tup [])) := (Sx.refl _).new hp
    refine gh (H1 := upd H1a p _) (F := fun H2 => Sx [a, c, rm] H H2 ∧ Dk H2 a c cs1a (k + 1 + 1) ∧ Nms K H2 nm ns ∧ Rm H2 rm r0 r1 r2 r3 ∧ Tp H2 (.ref p) (.tuple []))
      ⟨((s1.trans s1a).mono (by simp)).new hp, D1a.same ex, ((N.keep s1 (by simp [na, nc])).keep s1a (by simp [na, nc])).keep ex (by simp), ((R.sx s1 (by simp [ra, rc])).sx s1a (by simp [ra, rc])).sx ex (by simp), .tup upd_same .nil⟩ (fun H3 ⟨s03, D3, N3, R3, T3⟩ => ?_)
    -- the test made
    refine ⟨fun σ' H' => ∃ (cs' : List Int) (k' : Int) (v : V) (e : PyData) (y7 y8 : Option V), σ' = [some (.ref a), some (.ref nm), some (.ref rm), some (.int t), some (.int (z - 2)), some (.int y), some v, y7, y8, none] ∧ Sx [a, c, rm] H H' ∧ Dk H' a c cs' k' ∧ k ≤ k' ∧ k' ≤ k + 46 ∧ Tp H' v e ∧
      ((e = .tuple [] ∧ Rm H' rm r0 r1 r2 r3) ∨ ∃ b, TsD ns 0 b e ∧ Rm H' rm r0 r1 (r2 - t * bI b) (r3 - t * bI (!b))), ?_, ?_⟩
    · refine ⟨_, rfl, rfl, _, rfl, ite2 (fun _ => ?c1) (fun _ => ⟨.ref rm, rfl, rm, _, 3, .int r3, rfl, rfl, .inl (.inl R3.at_), rfl, _, rfl, r3, t, rfl, rfl, _, rfl, ite2 (fun _ => ?c2) (fun _ => ?els)⟩)⟩
      case' c1 => refine ⟨.ref rm, rfl, rm, _, 2, .int r2, rfl, rfl, .inl (.inl R3.at_), rfl, _, rfl, r2, t, rfl, rfl, _, rfl, ite2 (fun e2 => ?m1) (fun _ => ?e1)⟩
      case' c2 => refine ⟨.ref rm, rfl, rm, _, 2, .int r2, rfl, rfl, .inl (.inl R3.at_), rfl, _, rfl, r2, t, rfl, rfl, _, rfl, ite2 (fun e2 => ?m2) (fun _ => ?e2)⟩
      case m1 | m2 =>
        have e2' : t ≤ r2 := of_decide_eq_true e2
        -- _law_room[2] = ..
        refine ⟨.ref rm, rfl, rm, _, 2, .int r2, rfl, rfl, .inl (.inl R3.at_), rfl, _, rfl, r2, t, rfl, rfl, _, rfl, rm, _, 2, 2, rfl, rfl, R3.at_, rfl, ?_⟩
        refine gh (H1 := upd _ rm _) (F := fun H4 => Sx [a, c, rm] H H4 ∧ Dk H4 a c cs1a (k + 1 + 1) ∧ Nms K H4 nm ns ∧ Rm H4 rm r0 r1 (r2 - t) r3)
          ⟨s03.put (by simp), D3.sx ((Sx.refl (ex := [rm]) _).put (by simp)) (by simp [ra.symm]) (by simp [rc.symm]), N3.keep ((Sx.refl (ex := [rm]) _).put (by simp)) (by simp [nr]), upd_same, R3.p0, R3.p1, by omega, R3.p3⟩ (fun H4 ⟨s4, D4, N4, R4⟩ => ?_)
        -- _law_by
        refine ⟨_, rfl, a, c, cs1a, _, 5, rfl, D4, by decide, by decide, by omega, fun H5 cs5 b s5 D5 b0 b1 => ⟨2, b, rfl, rfl, ?_⟩⟩
        have N5 := N4.keep s5 (by simp [na, nc])
        have R5 := R4.sx s5 (by simp [ra, rc])
        -- the tuple
        refine ⟨_, rfl, _, rfl, a, c, cs5, _, nm, ns, rfl, D5, N5, na, nc, by decide, by omega, fun H6 cs6 k6 v6 x6 s6 D6 k6a k6b T6 X6 => ?_⟩
        refine ⟨_, rfl, _, rfl, _, rfl, a, c, cs6, k6, _, rfl, D6, by show (0 : Int) < 2 + b; omega, by show 2 + b < 1073741824; omega, by omega, fun H7 cs7 y7 s7 D7 y70 y71 => ?_⟩
        refine ⟨by show 4 ≤ sizeLine; decide, fun u hu => ?_⟩
        have R7 := (R5.sx s6 (by simp [ra, rc])).sx s7 (by simp [ra, rc])
        refine ⟨cs7, k6 + 1, .ref u, .tuple [.str "rest", x6, .int (2 + b), .int y7], _, _, rfl, (((s4.trans (s5.mono (by simp))).trans (s6.mono (by simp))).trans (s7.mono (by simp))).new hu, D7.new hu, by omega, by omega,
          .tup upd_same (.cons (.str _) (.cons ((T6.keep (D6.tk s7)).new hu) (.cons (.int _) (.cons (.int _) .nil)))), .inr ⟨true, .rest _ _ X6 (by omega) (by omega) y70 y71, ?_⟩⟩
        have R8 := R7.new (o := .tup [.str "rest", v6, .int (2 + b), .int y7]) hu
        simpa [bI] using R8
      all_goals
        refine ⟨.ref rm, rfl, rm, _, 3, .int r3, rfl, rfl, .inl (.inl R3.at_), rfl, _, rfl, r3, t, rfl, rfl, _, rfl, ite2 (fun e2 => ?_) (fun e2 => ?_)⟩
        · have e2' : t ≤ r3 := of_decide_eq_true e2
          refine ⟨.ref rm, rfl, rm, _, 3, .int r3, rfl, rfl, .inl (.inl R3.at_), rfl, _, rfl, r3, t, rfl, rfl, _, rfl, rm, _, 3, 3, rfl, rfl, R3.at_, rfl, ?_⟩
          refine gh (H1 := upd _ rm _) (F := fun H4 => Sx [a, c, rm] H H4 ∧ Dk H4 a c cs1a (k + 1 + 1) ∧ Nms K H4 nm ns ∧ Rm H4 rm r0 r1 r2 (r3 - t))
            ⟨s03.put (by simp), D3.sx ((Sx.refl (ex := [rm]) _).put (by simp)) (by simp [ra.symm]) (by simp [rc.symm]), N3.keep ((Sx.refl (ex := [rm]) _).put (by simp)) (by simp [nr]), upd_same, R3.p0, R3.p1, R3.p2, by omega⟩ (fun H4 ⟨s4, D4, N4, R4⟩ => ?_)
          -- _law_first: n, or an expression
          refine ⟨_, rfl, _, rfl, _, rfl, a, c, cs1a, _, nm, ns, rfl, D4, N4, na, nc, by decide, by omega, fun H6 cs6 k6 v6 x6 s6 D6 k6a k6b T6 X6 => ?_⟩
          have N6 := N4.keep s6 (by simp [na, nc])
          refine ⟨by show 2 ≤ sizeLine; decide, fun l6 hl6 => ?_⟩
          obtain ⟨la6, lc6⟩ := D6.nw hl6
          have nl6 : Sx [] H6 (upd H6 l6 (.lst [.str "n", v6])) := (Sx.refl _).new hl6
          refine ⟨a, c, cs6, k6, _, rfl, D6.same nl6, by omega, .inl ⟨l6, _, rfl, .inl (.inl upd_same), by simp, by show 2 ≤ 100000; decide, la6, lc6, fun H6b cs6b w6 s6b D6b hw => ?_⟩⟩
          have k6c : Tk H6 H6b := nl6.tk0.trans ((D6.same nl6).tk s6b)
          obtain ⟨y6, T6b, X6b⟩ : ∃ y6, Tp H6b w6 y6 ∧ ExD ns 3 y6 := by
            simp only [List.not_mem_nil, List.mem_cons, or_false] at hw
            rcases hw with rfl | rfl
            · exact ⟨_, .str _, .name _ N.hn⟩
            · exact ⟨x6, T6.keep k6c, X6.up (by decide)⟩
          have s66 : Sx [a, c] H6 H6b := nl6.nil.trans s6b
          have N6b := N6.keep s66 (by simp [na, nc])
          refine gnm ?_
          -- the second side
          refine ⟨_, rfl, _, rfl, _, rfl, a, c, cs6b, k6 + 1, 41, rfl, D6b, by decide, by decide, by omega, fun H7 cs7 y7 s7 D7 y70 y71 => ⟨y7, 20, rfl, rfl, ?_⟩⟩
          have N7 := N6b.keep s7 (by simp [na, nc])
          refine ⟨_, rfl, _, rfl, a, c, cs7, _, nm, ns, rfl, D7, N7, na, nc, by decide, by omega, fun H8 cs8 k8 v8 x8 s8 D8 k8a k8b T8 X8 => ?_⟩
          refine ⟨by show 2 ≤ sizeLine; decide, fun l hl => ?_⟩
          obtain ⟨la, lc⟩ := D8.nw hl
          refine ⟨a, c, cs8, k8, _, rfl, D8.new hl, by omega, .inl ⟨l, _, rfl, .inl (.inl upd_same), by simp, by show 2 ≤ 100000; decide, la, lc, fun H9 cs9 v9 s9 D9 hv => ?_⟩⟩
          have k9 : Tk H8 H9 := ((Sx.refl (ex := []) _).new hl).tk0.trans ((D8.new hl).tk s9)
          obtain ⟨x9, T9, X9⟩ : ∃ x9, Tp H9 v9 x9 ∧ ExD ns 3 x9 := by
            simp only [List.not_mem_nil, List.mem_cons, or_false] at hv
            rcases hv with rfl | rfl
            · exact ⟨_, .int _, .int _ (by show -99 ≤ y7 - 20; omega) (by show y7 - 20 ≤ 99; omega)⟩
            · exact ⟨x8, T8.keep k9, X8.up (by decide)⟩
          refine ⟨by show 3 ≤ sizeLine; decide, fun u hu => ?_⟩
          have s89 : Sx [a, c] H8 H9 := ((Sx.refl _).new hl).trans s9
          have R9 := ((((R4.sx s6 (by simp [ra, rc])).sx s66 (by simp [ra, rc])).sx s7 (by simp [ra, rc])).sx s8 (by simp [ra, rc])).sx s89 (by simp [ra, rc])
          refine ⟨cs9, k8 + 1, .ref u, .tuple [.str "less", y6, x9], _, _, rfl, (((((s4.trans (s6.mono (by simp))).trans (s66.mono (by simp))).trans (s7.mono (by simp))).trans (s8.mono (by simp))).trans (s89.mono (by simp))).new hu, D9.new hu, by omega, by omega,
            .tup upd_same (.cons (.str _) (.cons ((((T6b.keep (D6b.tk s7)).keep (D7.tk s8)).keep k9).new hu) (.cons (T9.new hu) .nil))), .inr ⟨false, .less X6b X9, ?_⟩⟩
          have R10 := R9.new (o := .tup [.str "less", w6, v9]) hu
          simpa [bI] using R10
        · exact ⟨cs1a, _, .ref p, .tuple [], _, _, rfl, s03, D3, by omega, by omega, T3, .inl ⟨rfl, R3⟩⟩
    -- the nots
    · rintro _ H3 ⟨cs3, k3, v, e, y7, y8, rfl, s3, D3, k3a, k3b, T3, h3⟩
      have sh : SeqAt.shaped e = true := by
        rcases h3 with ⟨rfl, _⟩ | ⟨b, hb, _⟩
        · exact (Sh.tup (n := 0) .nil).shaped (by decide)
        · exact (hb.sh N.ok).shaped (by decide)
      refine ⟨fun σ' H' => ∃ v', σ'[6]? = some (some v') ∧ Q v' H', ?_, fun _ _ h => h⟩
      have base0 : ∀ {H4 : Hp}, Sx [] H3 H4 → (∃ m : Nat, m ≤ 2 ∧ (m = 0 ∨ ∃ b, TsD ns 0 b e)) → True := fun _ _ => trivial
      have go : ∀ (m : Nat) (H4 : Hp), Sx [] H3 H4 → m ≤ 2 → (m = 0 ∨ e ≠ .tuple []) → True := fun _ _ _ _ _ => trivial
      clear base0 go
      refine ⟨_, rfl, _, 0, rfl, rfl, _, rfl, ite2 (fun en => ?_) (fun en => ?_)⟩
      rotate_left
      -- no "not"
      · refine ⟨0, rfl, by decide, by decide, ?_⟩
        refine for_range (lo := 0) (n := 0) (fun i σ' H' => σ' = [some (.ref a), some (.ref nm), some (.ref rm), some (.int t), some (.int (z - 2)), some (.int y), some v, y7, y8, none] ∧ H' = H3) ⟨rfl, rfl⟩ (fun i σ' H' hi _ => absurd hi (Nat.not_lt_zero _)) (fun σ' H' ⟨p1, p2⟩ => ?_)
        subst p1 p2
        refine ⟨v, rfl, q _ cs3 k3 v e s3 D3 k3a k3b T3 ?_⟩
        rcases h3 with h3 | ⟨b, hb, R3⟩
        · exact .inl h3
        · exact .inr ⟨b, hb.up (by decide), R3⟩
      have en' : 0 < z - 2 := of_decide_eq_true en
      refine ⟨_, rfl, Nat.zero_le _, fun u hu => ⟨e, .tuple [], (T3.new hu).dp, .tup (SqT.of upd_same) .nil, sh, (Sh.tup (n := 0) .nil).shaped (by decide), _, rfl, ?_⟩⟩
      rcases h3 with ⟨rfl, R3⟩ | ⟨b, hb, R3⟩
      · -- no test
        refine iteF ⟨0, rfl, by decide, by decide, ?_⟩
        refine for_range (lo := 0) (n := 0) (fun i σ' H' => σ'[6]? = some (some v) ∧ Sx [a, c, rm] H H' ∧ Dk H' a c cs3 k3 ∧ Tp H' v (.tuple []) ∧ Rm H' rm r0 r1 r2 r3) ⟨rfl, s3.new hu, D3.new hu, T3.new hu, R3.new hu⟩ (fun i σ' H' hi _ => absurd hi (Nat.not_lt_zero _)) (fun σ' H' ⟨p1, p2, p3, p4, p5⟩ => ?_)
        exact ⟨v, p1, q _ cs3 k3 v _ p2 p3 k3a k3b p4 (.inl ⟨rfl, p5⟩)⟩
      · have hne : (!PyData.eqv e (.tuple [])) = true := by
          cases hb <;> rfl
        refine (show ∀ {c : Bool} {A B : Prop}, c = true → A → (if c = true then A else B) from fun h1 h2 => by rw [if_pos h1]; exact h2) hne ?_
        refine ⟨_, rfl, z - 2, rfl, by omega, by omega, ?_⟩
        refine for_range (lo := 0) (n := (z - 2).toNat) (fun i σ' H' => ∃ v' e' y9, σ' = [some (.ref a), some (.ref nm), some (.ref rm), some (.int t), some (.int (z - 2)), some (.int y), some v', y7, y8, y9] ∧ Sx [a, c, rm] H H' ∧ Dk H' a c cs3 k3 ∧ Tp H' v' e' ∧ TsD ns i b e' ∧ Rm H' rm r0 r1 (r2 - t * bI b) (r3 - t * bI (!b)))
          ⟨v, e, _, rfl, s3.new hu, D3.new hu, T3.new hu, hb, R3.new hu⟩ (fun i σ' H' hi hp => ?_) (fun σ' H' hp => ?_)
        · obtain ⟨v', e', y9, rfl, p1, p2, p3, p4, p5⟩ := hp
          refine ⟨_, rfl, by show 2 ≤ sizeLine; decide, fun x hx => ?_⟩
          exact ⟨.ref x, .tuple [.str "not", e'], _, rfl, p1.new hx, p2.new hx, .tup upd_same (.cons (.str _) (.cons (p3.new hx) .nil)), .not p4, p5.new hx⟩
        · obtain ⟨v', e', y9, rfl, p1, p2, p3, p4, p5⟩ := hp
          exact ⟨v', rfl, q _ cs3 k3 v' e' p1 p2 k3a k3b p3 (.inr ⟨b, p4.up (by omega), p5⟩)⟩
end
section
variable {w : World} {P : Program} {K : PySem.W.Frag} {mg : Str → Option Value} {base : Heap}
theorem ok_row {f fD fO fT fP fB : Addr} {fd fdD fdO fdT fdP fdB : FuncData} {d : Nat} (F : Fun K "_law_row" "_law_row" sRow f fd) (F_draw : Fun K "_law_draw" "_law_draw" sDraw fD fdD) (F_one : Fun K "_law_one" "_law_one" sOne fO fdO) (F_test : Fun K "_law_test" "_law_test" sTest fT fdT) (F_expression : Fun K "_law_expression" "_law_expression" sExpression fP fdP) (F_block : Fun K "_law_block" "_law_block" sBlock fB fdB)
    (G_draw : FnOk P w K mg base CX0 1 fD fdD ["_law_deck_here", "_law_many"] spDraw) (G_one : FnOk P w K mg base CX0 2 fO fdO ["_law_deck_here", "_law_items"] (spOne K)) (G_test : FnOk P w K mg base CX0 6 fT fdT ["_law_deck_here", "_law_names_here", "_law_room", "_law_times"] (spTest K))
    (G_expression : FnOk P w K mg base CX0 5 fP fdP ["_law_deck_here", "_law_names_here", "_law_deep"] (spExpr K 3)) (G_block : FnOk P w K mg base CX0 (6 + 2 * d) fB fdB ["_law_deck_here", "_law_names_here", "_law_room", "_law_times", "_law_depth"] (spBlock K d))
    (b_draw : Binds K fdD ["_law_deck_here", "_law_many"] []) (b_one : Binds K fdO ["_law_deck_here", "_law_items"] []) (b_test : Binds K fdT ["_law_deck_here", "_law_names_here", "_law_room", "_law_times"] []) (b_expression : Binds K fdP ["_law_deck_here", "_law_names_here", "_law_deep"] []) (b_block : Binds K fdB ["_law_deck_here", "_law_names_here", "_law_room", "_law_times", "_law_depth"] [])
    (m_draw : mg "_law_draw" = some (.ref fD)) (m_one : mg "_law_one" = some (.ref fO)) (m_test : mg "_law_test" = some (.ref fT)) (m_expression : mg "_law_expression" = some (.ref fP)) (m_block : mg "_law_block" = some (.ref fB)) :
    FnOk P w K mg base CX0 (6 + 2 * d + 1) f fd ["_law_deck_here", "_law_names_here", "_law_room", "_law_times", "_law_depth"] (spRow K d) := by
  refine F.ok scRow (fun vs H Q E h => ?_) (fun cdv A outer s H vs Q E hr h => ?_)
  · obtain ⟨a, c, cs, k, nm, ns, rm, r0, r1, r2, r3, t, rfl, _⟩ := h
    rfl
  · obtain ⟨a, c, cs, k, nm, ns, rm, r0, r1, r2, r3, t, rfl, D, N, R, na, nc, nr, ra, rc, ht, h30, hk, q⟩ := h
    have eB := cB_pos d
    have e3c : cE 3 = 21 := by decide
    refine ⟨_, (pss_cons (ps_if (PW.pt (pw_or (pt_cmpR op_lt (pe_ix ix_list (pv 2) pe_int (fun _ _ => rfl)) pe_int (nomark _)) (pw_or1 (pt_cmpR op_lt (pe_ix ix_list (pv 2) pe_int (fun _ _ => rfl)) (pv 3) (nomark _))))) (pss_one (ps_ret (pe_tup pa_nil))) pss_nil)
      (pss_cons (ps_asg (pe_tup (pa_cons (pe_op op_sub (pe_ix ix_list (pv 2) pe_int (fun _ _ => rfl)) pe_int) (pa_cons (pe_op op_sub (pe_ix ix_list (pv 2) pe_int (fun _ _ => rfl)) (pv 3)) pa_nil))) (pg_tup rfl (pgs_cons (pg_sub (pv 2) pe_int set_list) (pgs_cons (pg_sub (pv 2) pe_int set_list) pgs_nil))))
      (pss_cons (ps_par (i := 5) (j := 6) (by rfl) scRow.nd rfl rfl (by decide) rfl rfl (pa_cons (pe_call G_draw (hr.mono (by omega)) (by rfl) m_draw F_draw.kp b_draw .nil pass0 (pa_cons (pv 0) (pa_cons pe_int pa_nil))) (pa_cons (pe_call G_one (hr.mono (by omega)) (by rfl) m_one F_one.kp b_one .nil pass0 (pa_cons (pv 0) (pa_cons (pv 1) pa_nil))) pa_nil)) (by rfl))
      (C8.pss_cut (ps_if (pt_cmpR op_lt (pv 5) pe_int (nomark _)) (pss_cons (ps_set (i := 7) scRow.nd rfl (by first | exact Or.inl rfl | exact Or.inr rfl) (pe_call G_test (hr.mono (by omega)) (by rfl) m_test F_test.kp b_test .nil pass0 (pa_cons (pv 0) (pa_cons (pv 1) (pa_cons (pv 2) (pa_cons (pv 3) pa_nil))))))
      (pss_one (ps_if (pt_cmpR (op_neD hr.units) (pv 7) (pe_tup pa_nil) (nomark _)) (pss_cons (ps_set (i := 8) scRow.nd rfl (by first | exact Or.inl rfl | exact Or.inr rfl) (pe_call G_block (hr.mono (by omega)) (by rfl) m_block F_block.kp b_block .nil pass0 (pa_cons (pv 0) (pa_cons (pv 1) (pa_cons (pv 2) (pa_cons (pv 3) (pa_cons (pe_op op_add (pv 4) pe_int) pa_nil)))))))
      (pss_one (ps_ret (pe_tup (pa_cons pe_str (pa_cons (pv 7) (pa_cons (pv 8) (pa_cons (pe_call G_block (hr.mono (by omega)) (by rfl) m_block F_block.kp b_block .nil pass0 (pa_cons (pv 0) (pa_cons (pv 1) (pa_cons (pv 2) (pa_cons (pv 3) (pa_cons (pe_op op_add (pv 4) pe_int) pa_nil)))))) pa_nil)))))))) pss_nil))) pss_nil)
      (pss_cons (ps_if (pt_cmpR op_eq (pv 5) pe_int (nomark _)) (pss_cons (ps_set (i := 9) scRow.nd rfl (by first | exact Or.inl rfl | exact Or.inr rfl) (pe_call G_one (hr.mono (by omega)) (by rfl) m_one F_one.kp b_one .nil pass0 (pa_cons (pv 0) (pa_cons (pe_lst (pa_cons pe_int (pa_cons pe_int (pa_cons pe_int (pa_cons pe_int (pa_cons pe_int (pa_cons pe_int pa_nil))))))) pa_nil))))
      (pss_one (ps_ret (pe_tup (pa_cons pe_str (pa_cons (pv 9) (pa_cons (pe_call G_block (hr.mono (by omega)) (by rfl) m_block F_block.kp b_block .nil pass0 (pa_cons (pv 0) (pa_cons (pv 1) (pa_cons (pv 2) (pa_cons (pe_op op_mul (pv 3) (pv 9)) (pa_cons (pe_op op_add (pv 4) pe_int) pa_nil)))))) pa_nil))))))) pss_nil)
      (pss_cons (ps_if (pt_cmpR op_lt (pv 5) pe_int (nomark _)) (pss_one (ps_ret (pe_tup (pa_cons pe_str (pa_cons (pv 6) (pa_cons (pe_call G_expression (hr.mono (by omega)) (by rfl) m_expression F_expression.kp b_expression .nil pass0 (pa_cons (pv 0) (pa_cons (pv 1) (pa_cons pe_int pa_nil)))) pa_nil)))))) pss_nil)
      (pss_cons (ps_if (PW.pt (pw_and (pt_cmpR op_eq (pv 5) pe_int (nomark _)) (pw_and1 (pt_cmpR op_eq (pe_call G_draw (hr.mono (by omega)) (by rfl) m_draw F_draw.kp b_draw .nil pass0 (pa_cons (pv 0) (pa_cons pe_int pa_nil))) pe_int (nomark _))))) (pss_one (ps_ret (pe_tup (pa_cons pe_str pa_nil)))) pss_nil)
      (pss_one (ps_ret (pe_tup (pa_cons pe_str (pa_cons (pe_call G_expression (hr.mono (by omega)) (by rfl) m_expression F_expression.kp b_expression .nil pass0 (pa_cons (pv 0) (pa_cons (pv 1) (pa_cons pe_int pa_nil)))) pa_nil)))))))))))), ?_⟩
    refine ⟨.ref rm, rfl, rm, _, 0, .int r0, rfl, rfl, .inl (.inl R.at_), rfl, _, 1, rfl, rfl, _, rfl, ite2 (fun e => ⟨Nat.zero_le _, fun p hp => ?_⟩)
      (fun e => ⟨.ref rm, rfl, rm, _, 1, .int r1, rfl, rfl, .inl (.inl R.at_), rfl, _, rfl, _, _, rfl, rfl, _, rfl, ite2 (fun e1 => ⟨Nat.zero_le _, fun p hp => ?_⟩) (fun e1 => ?_)⟩)⟩
    · exact q _ cs k _ (.tuple []) ((Sx.refl _).new hp) (D.new hp) (Int.le_refl _) (by omega) (.tup upd_same .nil) (.inl ⟨rfl, R.new hp⟩)
    · exact q _ cs k _ (.tuple []) ((Sx.refl _).new hp) (D.new hp) (Int.le_refl _) (by omega) (.tup upd_same .nil) (.inl ⟨rfl, R.new hp⟩)
    have g0 : 1 ≤ r0 := by
      have : ¬ r0 < 1 := fun z => e (decide_eq_true z)
      omega
    have g1 : t ≤ r1 := by
      have : ¬ r1 < t := fun z => e1 (decide_eq_true z)
      omega
    -- the room shrinks
    refine ⟨.ref rm, rfl, rm, _, 0, .int r0, rfl, rfl, .inl (.inl R.at_), rfl, _, 1, rfl, rfl, .ref rm, rfl, rm, _, 1, .int r1, rfl, rfl, .inl (.inl R.at_), rfl, _, rfl, _, _, rfl, rfl, by show 2 ≤ sizeLine; decide, fun p hp => ?_⟩
    refine ⟨p, _, rfl, .inl (.inl upd_same), rfl, _, _, rfl, .ref rm, rfl, rm, _, 0, 0, rfl, rfl, (R.new hp).at_, rfl, _, _, rfl, .ref rm, rfl, rm, _, 1, 1, rfl, rfl, upd_same, rfl, rfl, ?_⟩
    refine gh (H1 := upd (upd (upd H p _) rm _) rm _) (F := fun H2 => Sx [a, c, rm] H H2 ∧ Dk H2 a c cs k ∧ Nms K H2 nm ns ∧ Rm H2 rm (r0 - 1) (r1 - t) r2 r3)
      ⟨(((Sx.refl _).new hp).put (by simp)).put (by simp), (D.new hp).sx (((Sx.refl (ex := [rm]) _).put (by simp)).put (by simp)) (by simp [ra.symm]) (by simp [rc.symm]), N.keep ((((Sx.refl (ex := [rm]) _).new hp).put (by simp)).put (by simp)) (by simp [nr]),
        ⟨by rw [upd_upd]; exact upd_same, by omega, by omega, R.p2, R.p3⟩⟩ (fun H2 ⟨s2, D2, N2, R2⟩ => ?_)
    refine ⟨_, rfl, a, c, cs, k, 9, rfl, D2, by decide, by decide, by omega, fun H3a cs3a y s3a D3a y0 y1 => ?_⟩
    have N3a := N2.keep s3a (by simp [na, nc])
    refine ⟨_, rfl, _, rfl, a, c, cs3a, k + 1, _, rfl, D3a, by omega, .inl ⟨nm, _, rfl, N3a.at_, by simp [N.ne], by rw [List.length_map]; have := N.len; omega, na, nc, fun H3 cs3 vn s3b D3 hvn => ?_⟩⟩
    obtain ⟨zn, hzn, rfl⟩ := List.mem_map.mp hvn
    have s3 := s3a.trans s3b
    refine ⟨_, _, rfl, ?_⟩
    have N3 := N2.keep s3 (by simp [na, nc])
    have R3 := R2.sx s3 (by simp [ra, rc])
    have s03 : Sx [a, c, rm] H H3 := s2.trans (s3.mono (by simp))
    have hs : (3 - (d : Int)) + 1 = 4 - (d : Int) := by omega
    -- no test made
    refine ⟨fun σ' H' => ∃ (cs' : List Int) (k' : Int) (y7 y8 : Option V), σ' = [some (.ref a), some (.ref nm), some (.ref rm), some (.int t), some (.int (3 - (d : Int))), some (.int y), some (.str zn), y7, y8, none] ∧ Sx [a, c, rm] H H' ∧ Dk H' a c cs' k' ∧ k ≤ k' ∧ k' ≤ k + 48 ∧ Nms K H' nm ns ∧ Rm H' rm (r0 - 1) (r1 - t) r2 r3, ?_, ?_⟩
    · refine ⟨_, rfl, _, 3, rfl, rfl, _, rfl, ite2 (fun e3 => ?_) (fun e3 => ?_)⟩
      rotate_left
      · exact ⟨cs3, k + 1 + 1, _, _, rfl, s03, D3, by omega, by omega, N3, R3⟩
      refine ⟨_, rfl, _, rfl, _, rfl, _, rfl, a, c, cs3, k + 1 + 1, nm, ns, rm, _, _, _, _, t, rfl, D3, N3, R3, na, nc, nr, ra, rc, ht, by omega, fun H4 cs4 k4 v e s4 D4 k4a k4b T4 h4 => ?_⟩
      refine gnm ?_
      have N4 := N3.keep s4 (by simp [na, nc, nr])
      have s4 := s03.trans s4
      have sh : SeqAt.shaped e = true := by
        rcases h4 with ⟨rfl, _⟩ | ⟨b, hb, _⟩
        · exact (Sh.tup (n := 0) .nil).shaped (by decide)
        · exact (hb.sh N.ok).shaped (by decide)
      refine ⟨_, rfl, Nat.zero_le _, fun u hu => ⟨e, .tuple [], (T4.new hu).dp, .tup (SqT.of upd_same) .nil, sh, (Sh.tup (n := 0) .nil).shaped (by decide), _, rfl, ?_⟩⟩
      rcases h4 with ⟨rfl, R4⟩ | ⟨b, hb, R4⟩
      · refine iteF ?_
        exact ⟨cs4, k4, _, _, rfl, s4.new hu, D4.new hu, by omega, by omega, N4.keep ((Sx.refl (ex := []) _).new hu) (by simp), R4.new hu⟩
      · have hne : (!PyData.eqv e (.tuple [])) = true := by
          cases hb <;> rfl
        refine (show ∀ {c : Bool} {A B : Prop}, c = true → A → (if c = true then A else B) from fun h1 h2 => by rw [if_pos h1]; exact h2) hne ?_
        refine gh (H1 := upd H4 u _) (F := fun H5 => Sx [a, c, rm] H H5 ∧ Dk H5 a c cs4 k4 ∧ Nms K H5 nm ns ∧ Tp H5 v e ∧ Rm H5 rm (r0 - 1) (r1 - t) (r2 - t * bI b) (r3 - t * bI (!b))) ⟨s4.new hu, D4.new hu, N4.keep ((Sx.refl (ex := []) _).new hu) (by simp), T4.new hu, R4.new hu⟩ (fun H5 ⟨s5, D5, N5, T5, R5⟩ => ?_)
        refine ⟨_, rfl, _, rfl, _, rfl, _, rfl, _, rfl, _, 1, rfl, rfl, a, c, cs4, k4, nm, ns, rm, _, _, _, _, t, congrArg (fun z => [V.ref a, V.ref nm, V.ref rm, V.int t, V.int z]) hs, D5, N5, R5, na, nc, nr, ra, rc, ht, by omega, by omega, fun H6 cs6 k6 v6 es6 n6 w6 q6 c6 s6 D6 k6a k6b T6 B6 R6 w60 w6l => ?_⟩
        refine gnm ?_
        have N6 := N5.keep s6 (by simp [na, nc, nr])
        refine ⟨_, rfl, _, rfl, _, rfl, _, rfl, _, rfl, _, rfl, _, rfl, _, 1, rfl, rfl, a, c, cs6, k6, nm, ns, rm, _, _, _, _, t, congrArg (fun z => [V.ref a, V.ref nm, V.ref rm, V.int t, V.int z]) hs, D6, N6, R6, na, nc, nr, ra, rc, ht, by omega, by omega, fun H7 cs7 k7 v7 es7 n7 w7 q7 c7 s7 D7 k7a k7b T7 B7 R7 w70 w7l => ?_⟩
        refine ⟨by show 4 ≤ sizeLine; decide, fun u hu => ?_⟩
        have t6 : Tk H5 H6 := s6.tk (lst3 D5 R5)
        have t7 : Tk H6 H7 := s7.tk (lst3 D6 R6)
        have m1 : ∀ x y z : Int, t * (x + y + z) = t * x + t * y + t * z := fun x y z => by rw [Int.mul_add, Int.mul_add]
        refine q _ cs7 k7 _ (.tuple [.str "if", e, .tuple es6, .tuple es7]) (((s5.trans s6).trans s7).new hu) (D7.new hu) (by omega) (by omega)
          (.tup upd_same (.cons (.str _) (.cons (((T5.keep t6).keep t7).new hu) (.cons ((T6.keep t7).new hu) (.cons (T7.new hu) .nil))))) (.inr ⟨_, _, _, _, .ite hb B6 B7, (R7.new hu).cast ?_ ?_ ?_ ?_, by omega, ?_⟩)
        all_goals (first | rw [m1] | skip)
        all_goals omega
    · rintro _ H5 ⟨cs4, k4, y7, y8, rfl, s5, D5, k4a, k4b, N5, R5⟩
      refine ⟨_, rfl, rfl, _, rfl, ite2 (fun _ => ?_) (fun _ => ?_)⟩
      -- a repeat
      · refine ⟨_, rfl, by show 6 ≤ sizeLine; decide, fun l hl => ?_⟩
        obtain ⟨la, lc⟩ := D5.nw hl
        have lr := R5.nw hl
        refine ⟨a, c, cs4, k4, _, rfl, D5.new hl, by omega, .inl ⟨l, _, rfl, .inl (.inl upd_same), by simp, by show 6 ≤ 100000; decide, la, lc, fun H6 cs6 v6 s6 D6 hv => ?_⟩⟩
        have s56 : Sx [a, c] H5 H6 := ((Sx.refl _).new hl).trans s6
        have R6 := R5.sx s56 (by simp [ra, rc])
        have N6 := N5.keep s56 (by simp [na, nc])
        obtain ⟨g, rfl, ga, gb⟩ : ∃ g : Int, v6 = .int g ∧ 1 ≤ g ∧ g ≤ 8 := by
          simp only [List.not_mem_nil, List.mem_cons, or_false] at hv
          obtain rfl | rfl | rfl | rfl | rfl | rfl := hv
          all_goals exact ⟨_, rfl, by decide, by decide⟩
        have tg : 1 ≤ t * g := by
          have := Int.mul_le_mul ht ga (by decide) (by omega)
          omega
        refine gnm ?_
        refine ⟨_, rfl, _, rfl, _, rfl, _, rfl, _, rfl, _, rfl, t, g, rfl, rfl, .inl ⟨by omega, by omega⟩, _, rfl, _, 1, rfl, rfl, a, c, cs6, k4 + 1, nm, ns, rm, _, _, _, _, t * g, congrArg (fun z => [V.ref a, V.ref nm, V.ref rm, V.int (t * g), V.int z]) hs, D6, N6, R6, na, nc, nr, ra, rc, tg, by omega, by omega, fun H7 cs7 k7 v7 es7 n7 w7 q7 c7 s7 D7 k7a k7b T7 B7 R7 w70 w7l => ?_⟩
        refine ⟨by show 3 ≤ sizeLine; decide, fun u hu => ?_⟩
        have m1 : ∀ x y : Int, t * (x + g * y) = t * x + t * g * y := fun x y => by rw [Int.mul_add, Int.mul_assoc]
        have m2 : ∀ y : Int, t * (g * y) = t * g * y := fun y => by rw [Int.mul_assoc]
        have gw : 0 ≤ g * w7 := Int.mul_nonneg (by omega) w70
        refine q _ cs7 k7 _ (.tuple [.str "repeat", .int g, .tuple es7]) (((s5.trans (s56.mono (by simp))).trans s7).new hu) (D7.new hu) (by omega) (by omega)
          (.tup upd_same (.cons (.str _) (.cons (.int g) (.cons (T7.new hu) .nil)))) (.inr ⟨_, _, _, _, .rep g ga gb B7, (R7.new hu).cast ?_ ?_ ?_ ?_, by omega, ?_⟩)
        all_goals (first | rw [m1] | rw [m2] | skip)
        all_goals omega
      have fin : ∀ {H6 : Hp} {cs6 : List Int} {k6 : Int} {v6 : V} {x6 : PyData}, Sx [a, c] H5 H6 → Dk H6 a c cs6 k6 → k4 ≤ k6 → k6 ≤ k4 + 22 → Tp H6 v6 x6 → StD ns d 1 1 0 0 x6 → Q v6 H6 := fun {H6 cs6 k6 v6 x6} s6 D6 k6a k6b T6 X6 => by
        have R6 := R5.sx s6 (by simp [ra, rc])
        refine q _ cs6 k6 _ x6 (s5.trans (s6.mono (by simp))) D6 (by omega) (by omega) T6 (.inr ⟨1, 1, 0, 0, X6, R6.cast ?_ ?_ ?_ ?_, by omega, ?_⟩)
        all_goals omega
      refine ⟨_, rfl, _, 6, rfl, rfl, _, rfl, ite2 (fun _ => ?_) (fun _ => ?_)⟩
      -- a setting
      · refine ⟨_, rfl, _, rfl, _, rfl, a, c, cs4, k4, nm, ns, rfl, D5, N5, na, nc, by decide, by omega, fun H6 cs6 k6 v6 x6 s6 D6 k6a k6b T6 X6 => ?_⟩
        refine ⟨by show 3 ≤ sizeLine; decide, fun u hu => ?_⟩
        exact fin (s6.new hu) (D6.new hu) k6a (by omega) (.tup upd_same (.cons (.str _) (.cons (.str _) (.cons (T6.new hu) .nil)))) (.set zn hzn X6)
      have pay : ∀ {H6 : Hp} {cs6 : List Int} {k6 : Int}, Sx [a, c] H5 H6 → Dk H6 a c cs6 k6 → k4 ≤ k6 → k6 ≤ k4 + 1 → spExpr K 3 [.ref a, .ref nm, .int 3] H6 (fun v H7 => 2 ≤ sizeLine ∧ ∀ p, H7 p = none → Q (.ref p) (upd H7 p (.tup [.str "pay", v]))) E0 := fun {H6 cs6 k6} s6 D6 k6a k6b => by
        refine ⟨a, c, cs6, k6, nm, ns, rfl, D6, N5.keep s6 (by simp [na, nc]), na, nc, by decide, by omega, fun H7 cs7 k7 v7 x7 s7 D7 k7a k7b T7 X7 => ⟨by decide, fun u hu => ?_⟩⟩
        exact fin ((s6.trans s7).new hu) (D7.new hu) (by omega) (by omega) (.tup upd_same (.cons (.str _) (.cons (T7.new hu) .nil))) (.pay X7)
      refine ⟨_, rfl, rfl, _, rfl, ite2 (fun _ => ?_) (fun _ => ?_)⟩
      · refine ⟨_, rfl, a, c, cs4, k4, 3, rfl, D5, by decide, by decide, by omega, fun H6 cs6 y6 s6 D6 y60 y61 => ⟨rfl, _, rfl, ite2 (fun _ => ?_) (fun _ => ?_)⟩⟩
        · refine ⟨by show 1 ≤ sizeLine; decide, fun u hu => ?_⟩
          exact fin (s6.new hu) (D6.new hu) (by omega) (by omega) (.tup upd_same (.cons (.str _) .nil)) .stop
        · exact ⟨_, rfl, _, rfl, pay s6 D6 (by omega) (by omega)⟩
      · exact ⟨_, rfl, _, rfl, pay (Sx.refl _) D5 (by omega) (by omega)⟩
end
section
variable {w : World} {P : Program} {K : PySem.W.Frag} {mg : Str → Option Value} {base : Heap}
theorem ok_block0 {f : Addr} {fd : FuncData} {k : Nat} (F : Fun K "_law_block" "_law_block" sBlock f fd) : FnOk P w K mg base CX0 (k + 1) f fd ["_law_deck_here", "_law_names_here", "_law_room", "_law_times", "_law_depth"] (spBlock K 0) := by
  refine F.ok scBlock (fun vs H Q E h => ?_) (fun cdv A outer s H vs Q E hr h => ?_)
  · obtain ⟨a, c, cs, k, nm, ns, rm, r0, r1, r2, r3, t, rfl, _⟩ := h
    rfl
  · obtain ⟨a, c, cs, k, nm, ns, rm, r0, r1, r2, r3, t, rfl, D, N, R, na, nc, nr, ra, rc, ht, h30, hk, q⟩ := h
    refine ⟨_, pss_cons (ps_if (pt_cmpR op_gt (pv 4) pe_int (nomark _)) (pss_one (ps_ret (pe_tup pa_nil))) pss_nil) pss_never, ?_⟩
    refine ⟨_, rfl, _, 3, rfl, rfl, _, rfl, ite2 (fun e => ⟨Nat.zero_le _, fun p hp => ?_⟩) (fun e => ?_)⟩
    · have e0 : ∀ x y : Int, x - y * 0 = x := fun x y => by omega
      have e1 : ∀ x : Int, x - 0 = x := fun x => by omega
      refine q _ cs k _ [] 0 0 0 0 ((Sx.refl _).new hp) (D.new hp) (Int.le_refl _) (by have := cB_pos 0; omega) (.tup upd_same .nil) .nil ((R.new hp).cast ?_ ?_ ?_ ?_) (Int.le_refl _) ?_
      all_goals omega
    · exact absurd (decide_eq_true (by decide : (3 : Int) < 4 - ((0 : Nat) : Int))) e
theorem ok_block {f fD fR : Addr} {fd fdD fdR : FuncData} {d : Nat} (hd3 : d ≤ 3) (F : Fun K "_law_block" "_law_block" sBlock f fd) (F_draw : Fun K "_law_draw" "_law_draw" sDraw fD fdD) (F_row : Fun K "_law_row" "_law_row" sRow fR fdR)
    (G_draw : FnOk P w K mg base CX0 1 fD fdD ["_law_deck_here", "_law_many"] spDraw) (G_row : FnOk P w K mg base CX0 (6 + 2 * d + 1) fR fdR ["_law_deck_here", "_law_names_here", "_law_room", "_law_times", "_law_depth"] (spRow K d))
    (b_draw : Binds K fdD ["_law_deck_here", "_law_many"] []) (b_row : Binds K fdR ["_law_deck_here", "_law_names_here", "_law_room", "_law_times", "_law_depth"] [])
    (m_draw : mg "_law_draw" = some (.ref fD)) (m_row : mg "_law_row" = some (.ref fR)) (z_int : mg "int" = none) (z_range : mg "range" = none) (z_tuple : mg "tuple" = none) :
    FnOk P w K mg base CX0 (6 + 2 * d + 1 + 1) f fd ["_law_deck_here", "_law_names_here", "_law_room", "_law_times", "_law_depth"] (spBlock K (d + 1)) := by
  refine F.ok scBlock (fun vs H Q E h => ?_) (fun cdv A outer s H vs Q E hr h => ?_)
  · obtain ⟨a, c, cs, k, nm, ns, rm, r0, r1, r2, r3, t, rfl, _⟩ := h
    rfl
  · obtain ⟨a, c, cs, k, nm, ns, rm, r0, r1, r2, r3, t, rfl, D, N, R, na, nc, nr, ra, rc, ht, h30, hk, q⟩ := h
    have eB := cB_pos d
    have eB1 := cB_one d
    have hdep : (4 - ((d + 1 : Nat) : Int)) = 3 - (d : Int) := by omega
    refine ⟨_, (pss_cons (ps_if (pt_cmpR op_gt (pv 4) pe_int (nomark _)) (pss_one (ps_ret (pe_tup pa_nil))) pss_nil)
      (pss_cons (ps_par (i := 5) (j := 6) (by rfl) scBlock.nd rfl rfl (by decide) rfl rfl (pa_cons (pe_op op_add (pe_call G_draw (hr.mono (by omega)) (by rfl) m_draw F_draw.kp b_draw .nil pass0 (pa_cons (pv 0) (pa_cons pe_int pa_nil))) (pe_callTy call_int1 (by rfl) z_int boot_int (pa_cons (pe_cmpR op_eq (pv 4) pe_int (nomark _)) pa_nil))) (pa_cons (pe_lst pa_nil) pa_nil)) (by rfl))
      (C8.pss_cut (ps_for PassesOwn.never rfl (pi_range1 (by rfl) z_range (pa_cons (pv 5) pa_nil)) (pg_name (i := 7) scBlock.nd rfl (by first | exact Or.inl rfl | exact Or.inr rfl)) (pss_one (ps_expr (pe_bm PySem.F.plainAttrs_list PySem.F.slot_list_append PySem.F.type_list_append mt_append (pv 6) (pa_cons (pe_call G_row (hr.mono (by omega)) (by rfl) m_row F_row.kp b_row .nil pass0 (pa_cons (pv 0) (pa_cons (pv 1) (pa_cons (pv 2) (pa_cons (pv 3) (pa_cons (pv 4) pa_nil)))))) pa_nil)))))
      (pss_one (ps_ret (pe_callTy call_tuple_of (by rfl) z_tuple boot_tuple (pa_cons (pe_lc (own := [("_law_row_here", 8)]) (g := gName 8) (tt := _) rfl scBlock.nd (pi_list (pv 6)) (blkOk_by (N := nBlock) (sc := defScope sBlock) (by decide +kernel)) (fun _ _ _ _ _ => (pg_name (i := 8) scBlock.nd rfl (by first | exact Or.inl rfl | exact Or.inr rfl))) (fun _ _ _ _ _ => pts_one (pt_cmpR (show OpR _ _ (rNeD K) from op_neD hr.units) (pv 8) (pe_tup pa_nil) (nomark _))) (fun _ _ _ _ _ => (pv 8))) pa_nil))))))), ?_⟩
    refine ⟨_, rfl, _, 3, rfl, rfl, _, rfl, ite2 (fun e => ?_) (fun e => ?_)⟩
    · have : (3 : Int) < 4 - ((d + 1 : Nat) : Int) := of_decide_eq_true e
      omega
    refine ⟨_, rfl, a, c, cs, k, 4, rfl, D, by decide, by decide, by omega, fun H1 cs1 y s1 D1 y0 y1 => ?_⟩
    refine ⟨_, rfl, rfl, .inr ⟨_, rfl, _, _, rfl, rfl, Nat.zero_le _, fun L hL => ⟨_, _, rfl, ?_⟩⟩⟩
    obtain ⟨La, Lc⟩ := D1.nw hL
    have R1 := R.sx s1 (by simp [ra, rc])
    have Lr := R1.nw hL
    have HL : H L = none := s1.free (by simp [La, Lc]) hL
    have N1 := N.keep s1 (by simp [na, nc])
    have nL : nm ≠ L := N1.nw hL
    generalize hm : (y + if decide (V.int (4 - ((d + 1 : Nat) : Int)) = V.int 0) = true then (1 : Int) else 0) = m
    have m0 : 0 ≤ m ∧ m ≤ 4 := by
      rw [← hm]
      split <;> omega
    refine ⟨fun σ' H' => ∃ (cs' : List Int) (k' : Int) (es : List PyData) (vs : List V) (n w' rr cc : Int) (y7 : Option V), σ' = [some (.ref a), some (.ref nm), some (.ref rm), some (.int t), some (.int (4 - ((d + 1 : Nat) : Int))), some (.int m), some (.ref L), y7, none] ∧ Sx [a, c, rm] H H' ∧ Dk H' a c cs' k' ∧ k ≤ k' ∧ k' ≤ k + cB (d + 1) ∧
      H' L = some (.lst vs) ∧ TpAll H' vs es ∧ (∀ e ∈ es, SeqAt.shaped e = true) ∧ es.length ≤ 4 ∧ BkD ns (d + 1) n w' rr cc (es.filter ne0) ∧ Rm H' rm (r0 - n) (r1 - t * w') (r2 - t * rr) (r3 - t * cc) ∧ 0 ≤ w' ∧ r1 - t * w' ≤ r1, ?_, ?_⟩
    · refine ⟨_, rfl, m, congrArg (fun z => [V.int z]) hm, by omega, by omega, ?_⟩
      have hmul : ∀ i : Nat, (i : Int) ≤ 4 → (i : Int) * (71 + 2 * cB d) ≤ 4 * (71 + 2 * cB d) := fun i hi => Int.mul_le_mul_of_nonneg_right hi (by omega)
      refine for_range (lo := 0) (n := m.toNat) (fun i σ' H' => ∃ (cs' : List Int) (k' : Int) (es : List PyData) (vs : List V) (n w' rr cc : Int) (y7 : Option V), σ' = [some (.ref a), some (.ref nm), some (.ref rm), some (.int t), some (.int (4 - ((d + 1 : Nat) : Int))), some (.int m), some (.ref L), y7, none] ∧ Sx [a, c, rm] H H' ∧ Dk H' a c cs' k' ∧ k ≤ k' ∧ k' ≤ k + 1 + (i : Int) * (71 + 2 * cB d) ∧
        H' L = some (.lst vs) ∧ TpAll H' vs es ∧ (∀ e ∈ es, SeqAt.shaped e = true) ∧ es.length = i ∧ BkD ns (d + 1) n w' rr cc (es.filter ne0) ∧ Rm H' rm (r0 - n) (r1 - t * w') (r2 - t * rr) (r3 - t * cc) ∧ 0 ≤ w' ∧ r1 - t * w' ≤ r1) ?_ (fun i σ' H' hi hp => ?_) (fun σ' H' hp => ?_)
      · refine ⟨cs1, k + 1, [], [], 0, 0, 0, 0, none, by rw [← hm]; rfl, (s1.mono (by simp)).new hL, D1.new hL, by omega, by omega, upd_same, .nil, fun _ z => by simp at z, rfl, .nil, (R1.new hL).cast ?_ ?_ ?_ ?_, Int.le_refl _, ?_⟩
        all_goals omega
      · obtain ⟨cs2, k2, es, vs, n, w', rr, cc, y7, rfl, s2, D2, k2a, k2b, hLv, TA, hsh, hlen, B2, R2, w0, wl⟩ := hp
        have hi4 : i < 4 := by omega
        have hm1 := hmul (i + 1) (by omega)
        have hm2 : ((i + 1 : Nat) : Int) * (71 + 2 * cB d) = (i : Int) * (71 + 2 * cB d) + (71 + 2 * cB d) := by
          rw [show ((i + 1 : Nat) : Int) = (i : Int) + 1 from by omega, Int.add_mul, Int.one_mul]
        have N2 := N.keep s2 (by simp [na, nc, nr])
        refine ⟨_, rfl, .inl ⟨rfl, _, .inl (.inl hLv)⟩, _, rfl, _, rfl, _, rfl, _, rfl, _, rfl, a, c, cs2, k2, nm, ns, rm, _, _, _, _, t, congrArg (fun z => [V.ref a, V.ref nm, V.ref rm, V.int t, V.int z]) hdep, D2, N2, R2, na, nc, nr, ra, rc, ht, by omega, by omega, fun H3 cs3 k3 v e s3 D3 k3a k3b T3 h3 => ?_⟩
        have hL3 : H3 L = some (.lst vs) := s3 _ _ (by simp [La, Lc, Lr]) hLv
        have t3 : Tk _ H3 := s3.tk (lst3 D2 R2)
        have vl : vs.length = i := by rw [TA.len, hlen]
        refine ⟨L, vs, v, rfl, rfl, hL3, lt_line (by omega), ?_⟩
        have tL : Tk H3 (upd H3 L (.lst (vs ++ [v]))) := ((Sx.refl (ex := [L]) _).put (by simp)).tk (fun b hb => by rw [List.mem_singleton.mp hb]; exact ⟨_, hL3⟩)
        have sL : Sx [L] H3 (upd H3 L (.lst (vs ++ [v]))) := (Sx.refl (ex := [L]) _).put (by simp)
        have common : Sx [a, c, rm] H (upd H3 L (.lst (vs ++ [v]))) ∧ Dk (upd H3 L (.lst (vs ++ [v]))) a c cs3 k3 ∧ TpAll (upd H3 L (.lst (vs ++ [v]))) (vs ++ [v]) (es ++ [e]) :=
          ⟨(s2.trans s3).own HL, D3.sx sL (by simp [La.symm]) (by simp [Lc.symm]), ((TA.keep t3).keep tL).append (.cons (T3.keep tL) .nil)⟩
        obtain ⟨q1, q2, q3⟩ := common
        rcases h3 with ⟨rfl, R3⟩ | ⟨n3, w3, rr3, cc3, S3, R3, w30, w3l⟩
        · refine ⟨cs3, k3, es ++ [.tuple []], vs ++ [v], n, w', rr, cc, _, rfl, q1, q2, by omega, by omega, upd_same, q3, fun x hx => ?_, by rw [List.length_append, hlen]; rfl, ?_, R3.sx sL (by simp [Lr.symm]), w0, wl⟩
          · rcases List.mem_append.1 hx with z | z
            · exact hsh x z
            · rw [List.mem_singleton.mp z]; exact (Sh.tup (n := 0) .nil).shaped (by decide)
          · rw [List.filter_append, show List.filter ne0 [PyData.tuple []] = [] from rfl, List.append_nil]
            exact B2
        · have ma : ∀ x z : Int, t * (x + z) = t * x + t * z := fun x z => Int.mul_add _ _ _
          refine ⟨cs3, k3, es ++ [e], vs ++ [v], n + n3, w' + w3, rr + rr3, cc + cc3, _, rfl, q1, q2, by omega, by omega, upd_same, q3, fun x hx => ?_, by rw [List.length_append, hlen]; rfl, ?_, (R3.sx sL (by simp [Lr.symm])).cast ?_ ?_ ?_ ?_, by omega, ?_⟩
          · rcases List.mem_append.1 hx with z | z
            · exact hsh x z
            · rw [List.mem_singleton.mp z]; exact (S3.sh N.ok).shaped (by omega)
          · rw [List.filter_append, show List.filter ne0 [e] = [e] by rw [List.filter_cons, if_pos S3.ne0]; rfl]
            exact BkD.snoc S3 _ B2
          all_goals (first | rw [ma] | skip)
          all_goals omega
      · obtain ⟨cs2, k2, es, vs, n, w', rr, cc, y7, rfl, s2, D2, k2a, k2b, hLv, TA, hsh, hlen, B2, R2, w0, wl⟩ := hp
        have := hmul m.toNat (by omega)
        exact ⟨cs2, k2, es, vs, n, w', rr, cc, y7, rfl, s2, D2, k2a, by omega, hLv, TA, hsh, by omega, B2, R2, w0, wl⟩
    · rintro _ H2 ⟨cs2, k2, es, vs, n, w', rr, cc, y7, rfl, s2, D2, k2a, k2b, hLv, TA, hsh, hlen, B2, R2, w0, wl⟩
      have vl : vs.length = es.length := TA.len
      refine ⟨_, rfl, L, rfl, ⟨_, .inl (.inl hLv)⟩, fun Z hZ => ?_⟩
      obtain ⟨Za, Zc⟩ := D2.nw hZ
      have Zr := R2.nw hZ
      have ZL : L ≠ Z := ne_of_none hLv hZ
      have HZ : H Z = none := s2.free (by simp [Za, Zc, Zr]) hZ
      refine lc_list (xs := vs) (fun i H' => Sx [a, c, rm] H H' ∧ Dk H' a c cs2 k2 ∧ Rm H' rm (r0 - n) (r1 - t * w') (r2 - t * rr) (r3 - t * cc) ∧ H' L = some (.lst vs) ∧ TpAll H' vs es ∧ ∃ acc, H' Z = some (.lst acc) ∧ TpAll H' acc ((es.take i).filter ne0) ∧ acc.length ≤ i)
        ⟨s2.own HZ, D2.new hZ, R2.new hZ, by rw [upd_ne ZL]; exact hLv, TA.new hZ, [], upd_same, .nil, Nat.le_refl _⟩ (fun i H' _ p => .inl (.inl p.2.2.2.1)) (fun i x H' hx p => ?_) (fun H' p => ?_)
      · obtain ⟨p1, p2, p3, p4, p5, acc, p6, p7, p8⟩ := p
        obtain ⟨e, he, T⟩ := p5.get hx
        have hi : i < es.length := (List.getElem?_eq_some_iff.mp he).1
        have hse := hsh e (List.mem_of_getElem? he)
        refine ⟨rfl, _, rfl, Nat.zero_le _, fun u hu => ⟨e, .tuple [], (T.new hu).dp, .tup (SqT.of upd_same) .nil, hse, (Sh.tup (n := 0) .nil).shaped (by decide), _, rfl, ?_⟩⟩
        have pu1 := p1.new (o := .tup []) hu
        have pu2 := p2.new (o := .tup []) hu
        have pu3 := p3.new (o := .tup []) hu
        have pu4 : (upd H' u (.tup [])) L = some (.lst vs) := (Sx.refl (ex := []) _).new hu _ _ (by simp) p4
        have pu5 := p5.new (o := .tup []) hu
        have pu6 : (upd H' u (.tup [])) Z = some (.lst acc) := (Sx.refl (ex := []) _).new hu _ _ (by simp) p6
        have pu7 := p7.new (o := .tup []) hu
        have T' := T.new (o := .tup []) hu
        have tk : (es.take (i + 1)).filter ne0 = (es.take i).filter ne0 ++ (if ne0 e = true then [e] else []) := by
          rw [List.take_add_one, he, Option.toList_some, List.filter_append, List.filter_cons, List.filter_nil]
        cases hne : ne0 e with
        | false =>
          have hne' : (!PyData.eqv e (.tuple [])) = false := hne
          rw [hne, if_neg Bool.false_ne_true, List.append_nil] at tk
          refine (show ∀ {c : Bool} {A B : Prop}, c = false → B → (if c = true then A else B) from fun h1 h2 => by rw [h1, if_neg Bool.false_ne_true]; exact h2) hne' ?_
          exact ⟨pu1, pu2, pu3, pu4, pu5, acc, pu6, by rw [tk]; exact pu7, by omega⟩
        | true =>
          have hne' : (!PyData.eqv e (.tuple [])) = true := hne
          rw [hne, if_pos rfl] at tk
          refine (show ∀ {c : Bool} {A B : Prop}, c = true → A → (if c = true then A else B) from fun h1 h2 => by rw [h1, if_pos rfl]; exact h2) hne' ?_
          refine ⟨x, rfl, acc, pu6, lt_line (by omega), ?_⟩
          have sZ : Sx [Z] (upd H' u (.tup [])) (upd (upd H' u (.tup [])) Z (.lst (acc ++ [x]))) := (Sx.refl (ex := [Z]) _).put (by simp)
          have tZ : Tk (upd H' u (.tup [])) (upd (upd H' u (.tup [])) Z (.lst (acc ++ [x]))) := sZ.tk (fun b hb => by rw [List.mem_singleton.mp hb]; exact ⟨_, pu6⟩)
          exact ⟨pu1.own HZ, pu2.sx sZ (by simp [Za.symm]) (by simp [Zc.symm]), pu3.sx sZ (by simp [Zr.symm]), by rw [upd_ne ZL]; exact pu4, pu5.keep tZ, acc ++ [x], upd_same, by rw [tk]; exact (pu7.keep tZ).append (.cons (T'.keep tZ) .nil), by rw [List.length_append]; show acc.length + 1 ≤ i + 1; omega⟩
      · obtain ⟨p1, p2, p3, p4, p5, acc, p6, p7, p8⟩ := p
        rw [vl, List.take_length] at p7
        refine ⟨Z, acc, rfl, .inl ⟨.inl (.inl p6), fun l hl => ?_⟩⟩
        exact q _ cs2 k2 _ (es.filter ne0) n w' rr cc (p1.new hl) (p2.new hl) k2a k2b (.tup upd_same (p7.new hl)) B2 (p3.new hl) w0 wl
def spProgT (K : PySem.W.Frag) : Sp := fun vs H Q _ => ∃ (a c : Addr) (cs : List Int) (k : Int) (nm : Addr) (ns : List Str), vs = [.ref a, .ref nm] ∧ Dk H a c cs k ∧ Nms K H nm ns ∧ nm ≠ a ∧ nm ≠ c ∧ k + cP ≤ KB ∧
  ∀ H' cs' k' v es n w r cc, Sx [a, c] H H' → Dk H' a c cs' k' → k ≤ k' → k' ≤ k + cP → Tp H' v (.tuple es) → BkD ns 4 n w r cc es → n ≤ 12 → w ≤ 16 → r ≤ 2 → cc ≤ 2 → Q v H'
theorem ok_programT {f fD fE fB : Addr} {fd fdD fdE fdB : FuncData} (F : Fun K "_law_program" "_law_program" sProgram f fd) (F_draw : Fun K "_law_draw" "_law_draw" sDraw fD fdD) (F_expression : Fun K "_law_expression" "_law_expression" sExpression fE fdE) (F_block : Fun K "_law_block" "_law_block" sBlock fB fdB)
    (G_draw : FnOk P w K mg base CX0 1 fD fdD ["_law_deck_here", "_law_many"] spDraw) (G_expression : FnOk P w K mg base CX0 4 fE fdE ["_law_deck_here", "_law_names_here", "_law_deep"] (spExpr K 2)) (G_block : FnOk P w K mg base CX0 14 fB fdB ["_law_deck_here", "_law_names_here", "_law_room", "_law_times", "_law_depth"] (spBlock K 4))
    (b_draw : Binds K fdD ["_law_deck_here", "_law_many"] []) (b_expression : Binds K fdE ["_law_deck_here", "_law_names_here", "_law_deep"] []) (b_block : Binds K fdB ["_law_deck_here", "_law_names_here", "_law_room", "_law_times", "_law_depth"] [])
    (m_draw : mg "_law_draw" = some (.ref fD)) (m_expression : mg "_law_expression" = some (.ref fE)) (m_block : mg "_law_block" = some (.ref fB)) (z_range : mg "range" = none) :
    FnOk P w K mg base CX0 15 f fd ["_law_deck_here", "_law_names_here"] (spProgT K) := by
  refine F.ok scProgram (fun vs H Q E h => ?_) (fun cdv A outer s H vs Q E hr h => ?_)
  · obtain ⟨a, c, cs, k, nm, ns, rfl, _⟩ := h
    rfl
  · obtain ⟨a, c, cs, k, nm, ns, rfl, D, N, na, nc, hk, q⟩ := h
    have e4 : cB 4 = 166725 := by decide
    have e2 : cE 2 = 9 := by decide
    have eP : cP = 700000 := rfl
    refine ⟨_, (pss_cons (ps_par (i := 2) (j := 3) (by rfl) scProgram.nd rfl rfl (by decide) rfl rfl (pa_cons (pe_lst (pa_cons pe_int (pa_cons pe_int (pa_cons pe_int (pa_cons pe_int pa_nil))))) (pa_cons (pe_tup pa_nil) pa_nil)) (by rfl))
      (C8.pss_cut (ps_if (pt_cmpR op_eq (pe_call G_draw (hr.mono (by omega)) (by rfl) m_draw F_draw.kp b_draw .nil pass0 (pa_cons (pv 0) (pa_cons pe_int pa_nil))) pe_int (nomark _)) (pss_one (ps_set (i := 3) scProgram.nd rfl (by first | exact Or.inl rfl | exact Or.inr rfl) (pe_tup (pa_cons (pe_tup (pa_cons pe_str (pa_cons (pe_ix ix_list (pv 1) pe_int (fun _ _ => rfl)) (pa_cons (pe_tup (pa_cons pe_str (pa_cons pe_str (pa_cons (pe_op op_sub (pe_call G_draw (hr.mono (by omega)) (by rfl) m_draw F_draw.kp b_draw .nil pass0 (pa_cons (pv 0) (pa_cons pe_int pa_nil))) pe_int) pa_nil)))) pa_nil)))) pa_nil)))) pss_nil)
      (C8.pss_cut (ps_for PassesOwn.never rfl (pi_range1 (by rfl) z_range (pa_cons (pe_op op_add pe_int (pe_call G_draw (hr.mono (by omega)) (by rfl) m_draw F_draw.kp b_draw .nil pass0 (pa_cons (pv 0) (pa_cons pe_int pa_nil)))) pa_nil)) (pg_name (i := 4) scProgram.nd rfl (by first | exact Or.inl rfl | exact Or.inr rfl)) (pss_one (ps_set (i := 3) scProgram.nd rfl (by first | exact Or.inl rfl | exact Or.inr rfl) (pe_op op_catA (pv 3) (pe_call G_block (hr.mono (by omega)) (by rfl) m_block F_block.kp b_block .nil pass0 (pa_cons (pv 0) (pa_cons (pv 1) (pa_cons (pv 2) (pa_cons pe_int (pa_cons pe_int pa_nil))))))))))
      (pss_one (ps_ret (pe_op op_catA (pv 3) (pe_tup (pa_cons (pe_tup (pa_cons pe_str (pa_cons (pe_call G_expression (hr.mono (by omega)) (by rfl) m_expression F_expression.kp b_expression .nil pass0 (pa_cons (pv 0) (pa_cons (pv 1) (pa_cons pe_int pa_nil)))) pa_nil))) pa_nil)))))))), ?_⟩
    refine ⟨by show 4 ≤ sizeLine; decide, fun rm hrm => ⟨Nat.zero_le _, fun p hp => ⟨_, _, rfl, ?_⟩⟩⟩
    obtain ⟨ra, rc⟩ := D.nw hrm
    have nr := N.nw hrm
    have n0 : Sx [a, c] H (upd (upd H rm (.lst [.int 10, .int 14, .int 2, .int 2])) p (.tup [])) := ((Sx.refl _).new hrm).new hp
    refine gh (H1 := upd (upd H rm _) p _) (F := fun H2 => Sx [a, c] H H2 ∧ Dk H2 a c cs k ∧ Nms K H2 nm ns ∧ Rm H2 rm 10 14 2 2 ∧ Tp H2 (.ref p) (.tuple []))
      ⟨n0, (D.new hrm).new hp, N.keep n0 (by simp [na, nc]), Rm.new ⟨upd_same, by decide, by decide, by decide, by decide⟩ hp, .tup upd_same .nil⟩ (fun H2 ⟨s2, D2, N2, R2, T2⟩ => ?_)
    -- a name set ahead, or nothing
    refine ⟨fun σ' H' => ∃ (cs' : List Int) (k' : Int) (v : V) (es0 : List PyData) (n0 : Int), σ' = [some (.ref a), some (.ref nm), some (.ref rm), some v, none] ∧ Sx [a, c] H H' ∧ Dk H' a c cs' k' ∧ k ≤ k' ∧ k' ≤ k + 2 ∧ Nms K H' nm ns ∧ Rm H' rm 10 14 2 2 ∧ Tp H' v (.tuple es0) ∧ BkD ns 4 n0 n0 0 0 es0 ∧ n0 ≤ 1, ?_, ?_⟩
    · refine ⟨_, rfl, a, c, cs, k, 2, rfl, D2, by decide, by decide, by omega, fun H3 cs3 y s3 D3 y0 y1 => ⟨rfl, _, rfl, ite2 (fun _ => ?_) (fun _ => ?_)⟩⟩
      rotate_left
      · exact ⟨cs3, k + 1, .ref p, [], 0, rfl, s2.trans s3, D3, by omega, by omega, N2.keep s3 (by simp [na, nc]), R2.sx s3 (by simp [ra, rc]), T2.keep (D2.tk s3), .nil, by decide⟩
      have N3 := N2.keep s3 (by simp [na, nc])
      obtain ⟨z1, hz1, e1⟩ := N.two
      refine ⟨_, rfl, nm, _, _, .str z1, rfl, rfl, N3.at_, atI_nat (j := 1) (by rw [List.getElem?_map, e1]; rfl), ?_⟩
      refine ⟨_, rfl, a, c, cs3, k + 1, 41, rfl, D3, by decide, by decide, by omega, fun H4 cs4 x s4 D4 x0 x1 => ⟨x, 20, rfl, rfl, ?_⟩⟩
      refine ⟨by show 3 ≤ sizeLine; decide, fun p1 hp1 => ⟨by show 3 ≤ sizeLine; decide, fun p2 hp2 => ⟨by show 1 ≤ sizeLine; decide, fun p3 hp3 => ?_⟩⟩⟩
      have nx : Sx [] H4 (upd (upd (upd H4 p1 (.tup [.str "plus", .str "n", .int (x - 20)])) p2 (.tup [.str "set", .str z1, .ref p1])) p3 (.tup [.ref p2])) := (((Sx.refl _).new hp1).new hp2).new hp3
      have t1 : Tp (upd (upd (upd H4 p1 (.tup [.str "plus", .str "n", .int (x - 20)])) p2 (.tup [.str "set", .str z1, .ref p1])) p3 (.tup [.ref p2])) (.ref p3) (.tuple [.tuple [.str "set", .str z1, .tuple [.str "plus", .str "n", .int (x - 20)]]]) :=
        .tup upd_same (.cons (Tp.new (.tup upd_same (.cons (.str _) (.cons (.str _) (.cons (Tp.new (.tup upd_same (.cons (.str _) (.cons (.str _) (.cons (.int _) .nil)))) hp2) .nil)))) hp3) .nil)
      have bk : BkD ns 4 (1 + 0) (1 + 0) (0 + 0) (0 + 0) [.tuple [.str "set", .str z1, .tuple [.str "plus", .str "n", .int (x - 20)]]] := .cons (.set z1 hz1 (.plus (.name _ N.hn) (.int _ (by omega) (by omega)))) .nil
      exact ⟨cs4, k + 1 + 1, .ref p3, _, 1, rfl, ((s2.trans s3).trans s4).trans nx.nil, D4.same nx, by omega, by omega, (N3.keep s4 (by simp [na, nc])).keep nx (by simp), ((R2.sx s3 (by simp [ra, rc])).sx s4 (by simp [ra, rc])).sx nx (by simp), t1, bk, by decide⟩
    rintro _ H2 ⟨cs, k1, v0, es0, n0, rfl, s2, D2, k1a, k1b, N2, R2, T2, B0, hn0⟩
    have pos0 := B0.pos
    refine ⟨fun σ' H' => ∃ (cs' : List Int) (k' : Int) (v : V) (es : List PyData) (n w' rr cc : Int) (y4 : Option V), σ' = [some (.ref a), some (.ref nm), some (.ref rm), some v, y4] ∧ Sx [a, c] H H' ∧ Dk H' a c cs' k' ∧ k ≤ k' ∧ k' ≤ k + 333460 ∧ Nms K H' nm ns ∧ Tp H' v (.tuple (es0 ++ es)) ∧ BkD ns 4 n w' rr cc es ∧ Rm H' rm (10 - n) (14 - w') (2 - rr) (2 - cc), ?_, ?_⟩
    · refine ⟨_, rfl, a, c, cs, k1, 2, rfl, D2, by decide, by decide, by omega, fun H3 cs3 y s3 D3 y0 y1 => ⟨1, y, rfl, rfl, _, rfl, by omega, by omega, ?_⟩⟩
      refine for_range (lo := 0) (n := (1 + y).toNat) (fun i σ' H' => ∃ (cs' : List Int) (k' : Int) (v : V) (es : List PyData) (n w' rr cc : Int) (y4 : Option V), σ' = [some (.ref a), some (.ref nm), some (.ref rm), some v, y4] ∧ Sx [a, c] H H' ∧ Dk H' a c cs' k' ∧ k ≤ k' ∧ k' ≤ k + 3 + (i : Int) * 166725 ∧ Nms K H' nm ns ∧ Tp H' v (.tuple (es0 ++ es)) ∧ BkD ns 4 n w' rr cc es ∧ Rm H' rm (10 - n) (14 - w') (2 - rr) (2 - cc)) ?_ (fun i σ' H' hi hp => ?_) (fun σ' H' hp => ?_)
      · exact ⟨cs3, k1 + 1, v0, [], 0, 0, 0, 0, none, rfl, s2.trans s3, D3, by omega, by omega, N2.keep s3 (by simp [na, nc]), by rw [List.append_nil]; exact T2.keep (D2.tk s3), .nil, R2.sx s3 (by simp [ra, rc])⟩
      · obtain ⟨cs4, k4, v, es, n, w', rr, cc, y4, rfl, s4, D4, k4a, k4b, N4, T4, B4, R4⟩ := hp
        have hp4 := B4.pos
        have q1 := R4.p1
        refine ⟨_, rfl, _, rfl, _, rfl, _, rfl, a, c, cs4, k4, nm, ns, rm, _, _, _, _, 1, rfl, D4, N4, R4, na, nc, nr, ra, rc, by decide, by omega, by omega, fun H5 cs5 k5 v5 es5 n5 w5 q5 c5 s5 D5 k5a k5b T5 B5 R5 w50 w5l => ?_⟩
        have t5 : Tk H' H5 := s5.tk (lst3 D4 R4)
        have hp5 := B5.pos
        have g4 := R4.p0
        have g5 := R5.p0
        have s45 : Sx [a, c] H H5 := s4.step s5 (fun x hx => by
          simp only [List.not_mem_nil, List.mem_cons, or_false] at hx
          rcases hx with rfl | rfl | rfl
          · exact .inl (by simp)
          · exact .inl (by simp)
          · exact .inr hrm)
        refine cat_tp (T4.keep t5) T5 (by rw [List.length_append]; omega) (fun H6 z s6 _ T6 => ?_)
        rw [List.append_assoc] at T6
        refine ⟨cs5, k5, z, es ++ es5, n + n5, w' + w5, rr + q5, cc + c5, _, rfl, s45.trans s6.nil, D5.same s6, by omega, by omega, (N4.keep s5 (by simp [na, nc, nr])).keep s6 (by simp), T6, BkD.append B5 _ B4, (R5.sx s6 (by simp)).cast ?_ ?_ ?_ ?_⟩
        all_goals omega
      · obtain ⟨cs4, k4, v, es, n, w', rr, cc, y4, rfl, s4, D4, k4a, k4b, N4, T4, B4, R4⟩ := hp
        exact ⟨cs4, k4, v, es, n, w', rr, cc, y4, rfl, s4, D4, k4a, by omega, N4, T4, B4, R4⟩
    · rintro _ H4 ⟨cs4, k4, v, es, n, w', rr, cc, y4, rfl, s4, D4, k4a, k4b, N4, T4, B4, R4⟩
      have p0 := R4.p0
      have p1 := R4.p1
      have hpos := B4.pos
      refine ⟨_, rfl, _, rfl, _, rfl, a, c, cs4, _, nm, ns, rfl, D4, N4, na, nc, by decide, by omega, fun H6 cs6 k6 v6 x6 s6 D6 k6a k6b T6 X6 => ?_⟩
      refine ⟨by show 2 ≤ sizeLine; decide, fun t ht => ⟨by show 1 ≤ sizeLine; decide, fun u hu => ?_⟩⟩
      have t46 : Tk H4 (upd (upd H6 t (.tup [.str "pay", v6])) u (.tup [.ref t])) := (D4.tk s6).trans ((((Sx.refl (ex := []) _).new ht).new hu).tk0)
      have Tu : Tp (upd (upd H6 t (.tup [.str "pay", v6])) u (.tup [.ref t])) (.ref u) (.tuple [.tuple [.str "pay", x6]]) :=
        .tup upd_same (.cons (Tp.new (.tup upd_same (.cons (.str _) (.cons (T6.new ht) .nil))) hu) .nil)
      refine cat_tp (T4.keep t46) Tu (by rw [List.length_append]; show es0.length + es.length + 1 ≤ 16777216; omega) (fun H7 z s7 _ T7 => ?_)
      have BB : BkD ns 4 (1 + 0) (1 + 0) (0 + 0) (0 + 0) [.tuple [.str "pay", x6]] := .cons (.pay (X6.up (by decide))) .nil
      have BE := BkD.append (BkD.append BB _ B4) _ B0
      rw [← List.append_assoc] at BE
      have p2 := R4.p2
      have p3 := R4.p3
      refine q H7 cs6 k6 z _ _ _ _ _ ((((s4.trans s6).new ht).new hu).trans s7.nil) (((D6.new ht).new hu).same s7) (by omega) (by omega) T7 BE ?_ ?_ ?_ ?_
      all_goals omega
end
section
variable {w : World} {P : Program} {K : PySem.W.Frag} {mg : Str → Option Value} {base : Heap}
theorem ab9_az : ∀ x ∈ (Str.ofString "abcdefgijkmoquvwxyz").cps.toList, 97 ≤ x ∧ x ≤ 122 := by decide +kernel
theorem ab9_09 : ∀ x ∈ (Str.ofString "abcdefgijkmoquvwxyz" ++ Str.ofString "0123456789").cps.toList, (97 ≤ x ∧ x ≤ 122) ∨ (48 ≤ x ∧ x ≤ 57) := by decide +kernel
theorem ok_names {f fD fO : Addr} {fd fdD fdO : FuncData} {k : Nat} (F : Fun K "_law_names" "_law_names" sNames f fd) (F_draw : Fun K "_law_draw" "_law_draw" sDraw fD fdD) (F_one : Fun K "_law_one" "_law_one" sOne fO fdO)
    (G_draw : FnOk P w K mg base CX0 1 fD fdD ["_law_deck_here", "_law_many"] spDraw) (G_one : FnOk P w K mg base CX0 2 fO fdO ["_law_deck_here", "_law_items"] (spOne K))
    (b_draw : Binds K fdD ["_law_deck_here", "_law_many"] []) (b_one : Binds K fdO ["_law_deck_here", "_law_items"] [])
    (m_draw : mg "_law_draw" = some (.ref fD)) (m_one : mg "_law_one" = some (.ref fO)) (z_range : mg "range" = none) :
    FnOk P w K mg base CX0 3 f fd ["_law_deck_here"] (spNames K) := by
  refine F.ok scNames (fun vs H Q E h => ?_) (fun cdv A outer s H vs Q E hr h => ?_)
  · obtain ⟨a, c, cs, k, rfl, _⟩ := h
    rfl
  · obtain ⟨a, c, cs, k, rfl, D, hk, q⟩ := h
    refine ⟨_, (pss_cons (ps_set (i := 1) scNames.nd rfl (by first | exact Or.inl rfl | exact Or.inr rfl) pe_str)
      (pss_cons (ps_asg (pe_tup (pa_cons (pe_op op_add_str (pv 1) pe_str) (pa_cons (pe_call G_one (hr.mono (by omega)) (by rfl) m_one F_one.kp b_one .nil pass0 (pa_cons (pv 0) (pa_cons (pe_lst (pa_cons pe_int (pa_cons pe_int (pa_cons pe_int (pa_cons pe_int (pa_cons pe_int (pa_cons pe_int (pa_cons pe_int pa_nil)))))))) pa_nil))) pa_nil))) (pg_tup rfl (pgs_cons (pg_name (i := 2) scNames.nd rfl (by first | exact Or.inl rfl | exact Or.inr rfl)) (pgs_cons (pg_name (i := 3) scNames.nd rfl (by first | exact Or.inl rfl | exact Or.inr rfl)) pgs_nil))))
      (pss_cons (ps_if (pt_cmpR op_eq (pe_call G_draw (hr.mono (by omega)) (by rfl) m_draw F_draw.kp b_draw .nil pass0 (pa_cons (pv 0) (pa_cons pe_int pa_nil))) pe_int (nomark _)) (pss_cons (ps_par (i := 4) (j := 5) (by rfl) scNames.nd rfl rfl (by decide) rfl rfl (pa_cons (pe_call G_draw (hr.mono (by omega)) (by rfl) m_draw F_draw.kp b_draw .nil pass0 (pa_cons (pv 0) (pa_cons pe_int pa_nil))) (pa_cons (pe_lst (pa_cons pe_str (pa_cons pe_str (pa_cons pe_str (pa_cons pe_str (pa_cons pe_str (pa_cons pe_str (pa_cons pe_str pa_nil)))))))) pa_nil)) (by rfl))
      (pss_one (ps_ret (pe_op op_cat (pe_lst (pa_cons pe_str pa_nil)) (pe_slice sl_list (pv 5) (po_some (pv 4)) (po_some (pe_op op_add (pv 4) pe_int))))))) pss_nil)
      (pss_cons (ps_set (i := 6) scNames.nd rfl (by first | exact Or.inl rfl | exact Or.inr rfl) (pe_join pe_str (pe_lc (own := [("_law_k", 8)]) (g := gName 8) (tt := tYes) rfl scNames.nd (pi_range1 (by rfl) z_range (pa_cons (pv 3) pa_nil)) (blkOk_by (N := nNames) (sc := defScope sNames) (by decide +kernel)) (fun _ _ _ _ _ => (pg_name (i := 8) scNames.nd rfl (by first | exact Or.inl rfl | exact Or.inr rfl))) (fun _ _ _ _ _ => pts_nil) (fun _ _ _ _ _ => (pe_call G_one (hr.mono (by omega)) (by rfl) m_one F_one.kp b_one .nil pass0 (pa_cons (pv 0) (pa_cons (pv 1) pa_nil)))))))
      (pss_cons (ps_set (i := 7) scNames.nd rfl (by first | exact Or.inl rfl | exact Or.inr rfl) (pe_join pe_str (pe_lc (own := [("_law_k", 8)]) (g := gName 8) (tt := tYes) rfl scNames.nd (pi_range1 (by rfl) z_range (pa_cons (pe_call G_draw (hr.mono (by omega)) (by rfl) m_draw F_draw.kp b_draw .nil pass0 (pa_cons (pv 0) (pa_cons (pe_op op_sub pe_int (pv 3)) pa_nil))) pa_nil)) (blkOk_by (N := nNames) (sc := defScope sNames) (by decide +kernel)) (fun _ _ _ _ _ => (pg_name (i := 8) scNames.nd rfl (by first | exact Or.inl rfl | exact Or.inr rfl))) (fun _ _ _ _ _ => pts_nil) (fun _ _ _ _ _ => (pe_call G_one (hr.mono (by omega)) (by rfl) m_one F_one.kp b_one .nil pass0 (pa_cons (pv 0) (pa_cons (pv 2) pa_nil)))))))
      (pss_one (ps_ret (pe_op op_cat (pe_lst (pa_cons pe_str pa_nil)) (pe_lc (own := [("_law_k", 8)]) (g := gName 8) (tt := tYes) rfl scNames.nd (pi_range1 (by rfl) z_range (pa_cons pe_int pa_nil)) (blkOk_by (N := nNames) (sc := defScope sNames) (by decide +kernel)) (fun _ _ _ _ _ => (pg_name (i := 8) scNames.nd rfl (by first | exact Or.inl rfl | exact Or.inr rfl))) (fun _ _ _ _ _ => pts_nil) (fun _ _ _ _ _ => (pe_op op_add_str (pe_op op_add_str (pv 6) (pe_ix ix_str pe_str (pv 8) (fun _ _ => rfl))) (pv 7)))))))))))), ?_⟩
    -- the size
    refine ⟨_, rfl, _, _, rfl, rfl, by decide +kernel, _, rfl, by show 7 ≤ sizeLine; decide, fun l hl => ?_⟩
    obtain ⟨la, lc⟩ := D.nw hl
    refine ⟨a, c, cs, _, _, rfl, D.new hl, by omega, .inl ⟨l, _, rfl, .inl (.inl upd_same), by simp, by show 7 ≤ 100000; decide, la, lc, fun H4 cs4 x s4 D4 hx => ?_⟩⟩
    obtain ⟨n, rfl, hn⟩ : ∃ n : Nat, x = .int (n : Int) ∧ n ≤ 7 := by
      simp only [List.not_mem_nil, List.mem_cons, or_false] at hx
      rcases hx with rfl | rfl | rfl | rfl | rfl | rfl | rfl
      · exact ⟨0, rfl, by decide⟩
      · exact ⟨1, rfl, by decide⟩
      · exact ⟨2, rfl, by decide⟩
      · exact ⟨3, rfl, by decide⟩
      · exact ⟨5, rfl, by decide⟩
      · exact ⟨6, rfl, by decide⟩
      · exact ⟨7, rfl, by decide⟩
    have s04 : Sx [a, c] H H4 := ((Sx.refl _).new hl).trans s4
    clear s4
    refine ⟨by show 2 ≤ sizeLine; decide, fun tt htt => ⟨tt, _, rfl, .inl (.inl upd_same), rfl, _, _, rfl, gnm ⟨_, _, rfl, gnm ⟨rfl, ?_⟩⟩⟩⟩
    have D4 := D4.new (o := .tup [.str ("abcdefgijkmoquvwxyz" ++ "0123456789"), .int (n : Int)]) htt
    have s04 := s04.new (o := .tup [.str ("abcdefgijkmoquvwxyz" ++ "0123456789"), .int (n : Int)]) htt
    generalize upd H4 tt (.tup [.str ("abcdefgijkmoquvwxyz" ++ "0123456789"), .int (n : Int)]) = H4 at D4 s04 ⊢
    refine ⟨_, rfl, a, c, cs4, k + 1, 6, rfl, D4, by decide, by decide, by omega, fun H5 cs5 y5 s5 D5 _ _ => ⟨rfl, _, rfl, ite2 (fun e => ?_) (fun e => ?_)⟩⟩
    -- the usual words
    · refine ⟨_, rfl, a, c, cs5, _, 5, rfl, D5, by decide, by decide, by omega, fun H6 cs6 r s6 D6 r0 r1 => ⟨by show 7 ≤ sizeLine; decide, fun wd hwd => ⟨_, _, rfl, ?_⟩⟩⟩
      have D7 := D6.new (o := .lst [.str "turns", .str "items", .str "total", .str "number", .str "names", .str "place", .str "rows"]) hwd
      have e7 : (upd H6 wd (.lst [.str "turns", .str "items", .str "total", .str "number", .str "names", .str "place", .str "rows"])) wd = some (.lst [.str "turns", .str "items", .str "total", .str "number", .str "names", .str "place", .str "rows"]) := upd_same
      have s7 := ((s04.trans s5).trans s6).new (o := .lst [.str "turns", .str "items", .str "total", .str "number", .str "names", .str "place", .str "rows"]) hwd
      generalize upd H6 wd (.lst [.str "turns", .str "items", .str "total", .str "number", .str "names", .str "place", .str "rows"]) = H7 at D7 e7 s7 ⊢
      refine ⟨by show 1 ≤ sizeLine; decide, fun g hg => ?_⟩
      refine ⟨_, rfl, _, rfl, r, rfl, _, rfl, _, 3, rfl, rfl, r + 3, rfl, wd, _, rfl, .inl (.inl ((Sx.refl (ex := []) _).new hg _ _ (by simp) e7)), fun u hu => ?_⟩
      have gu : g ≠ u := fun z => by rw [← z, upd_same] at hu; cases hu
      obtain ⟨w0, w1, w2, ews, h0, h1, h2⟩ : ∃ w0 w1 w2 : Str, cutV [V.str "turns", .str "items", .str "total", .str "number", .str "names", .str "place", .str "rows"] (some r) (some (r + 3)) = [.str w0, .str w1, .str w2] ∧ NmOk w0 ∧ NmOk w1 ∧ NmOk w2 := by
        rcases (show r = 0 ∨ r = 1 ∨ r = 2 ∨ r = 3 ∨ r = 4 by omega) with rfl | rfl | rfl | rfl | rfl
        all_goals exact ⟨_, _, _, rfl, nmOk_of (by decide +kernel), nmOk_of (by decide +kernel), nmOk_of (by decide +kernel)⟩
      refine ⟨g, u, _, _, rfl, rfl, by rw [upd_ne gu]; exact upd_same, by rw [upd_same, ews], by show 4 ≤ sizeLine; decide, fun v hv => ?_⟩
      have Dv := ((D7.new (o := .lst [.str "n"]) hg).new (o := .lst [.str w0, .str w1, .str w2]) hu)
      rw [← ews] at Dv
      obtain ⟨va, vc⟩ := Dv.nw hv
      refine q _ cs6 _ v ["n", w0, w1, w2] (((s7.new hg).new hu).new hv) (Dv.new hv) (by omega) (by omega) ((((s7.new (o := .lst [.str "n"]) hg).new (o := .lst _) hu)).free (by simp [va, vc]) hv) va vc ⟨upd_same, by simp, by show 4 ≤ 1000; decide, fun z hz => ?_, List.mem_cons_self .., w0, by simp, rfl⟩
      simp only [List.not_mem_nil, List.mem_cons, or_false] at hz
      rcases hz with rfl | rfl | rfl | rfl
      · exact nmOk_of (by decide +kernel)
      · exact h0
      · exact h1
      · exact h2
    -- names of drawn signs
    · have s05 := s04.trans s5
      -- ahead
      refine ⟨⟨_, rfl⟩, _, rfl, (n : Int), rfl, by omega, by omega, fun Z hZ => lc_range (lo := 0) (n := ((n : Nat) : Int).toNat) (fun i H' => Pz H5 a c (k + 1 + 1) Z "abcdefgijkmoquvwxyz" i H') (Pz.zero D5 hZ) (fun i H' hi p => ?_) (fun H' p => ?_)⟩
      · obtain ⟨p1, ⟨cs', D'⟩, _⟩ := id p
        refine ⟨rfl, _, rfl, _, rfl, a, c, cs', _, _, rfl, D', by omega, .inr ⟨_, rfl, by decide +kernel, by decide +kernel, fun H6 cs6 x s6 D6 hx => ?_⟩⟩
        exact p.step hZ D5 s6 D6 hx (by omega)
      · obtain ⟨p1, ⟨cs', D'⟩, ls, p3, p4, p5⟩ := p
        have p4' : ls.length = n := by omega
        refine ⟨_, Z, ls.map s1, rfl, rfl, .inl (.inl (.inl p3)), by rw [sum_s1, List.length_map]; show ls.length + ls.length * 0 ≤ 16777216; omega, ?_⟩
        have es := join_s1 ls
        have s5 := s05.trans p1
        have D5 : Dk H' a c cs' (k + 2 + n) := by
          have e : k + 1 + 1 + ((((n : Nat) : Int).toNat : Nat) : Int) = k + 2 + n := by omega
          rw [e] at D'
          exact D'
        clear p1 p3 D'
        -- behind
        refine ⟨⟨_, rfl⟩, _, rfl, _, rfl, 8, (n : Int), rfl, rfl, a, c, cs', _, _, rfl, D5, by omega, by omega, by omega, fun H6 cs6 y s6 D6 y0 y1 => ⟨y, rfl, by omega, by omega, fun Y hY => ?_⟩⟩
        refine lc_range (lo := 0) (n := y.toNat) (fun i H' => Pz H6 a c (k + 2 + n + 1) Y ("abcdefgijkmoquvwxyz" ++ "0123456789") i H') (Pz.zero D6 hY) (fun i H7 hi p => ?_) (fun H7 p => ?_)
        · obtain ⟨p1, ⟨cs', D'⟩, _⟩ := id p
          refine ⟨rfl, _, rfl, _, rfl, a, c, cs', _, _, rfl, D', by omega, .inr ⟨_, rfl, by decide +kernel, by decide +kernel, fun H8 cs8 x s8 D8 hx => ?_⟩⟩
          exact p.step hY D6 s8 D8 hx (by omega)
        · obtain ⟨q1, ⟨cs7, D7⟩, gs, q3, q4, q5⟩ := p
          refine ⟨_, Y, gs.map s1, rfl, rfl, .inl (.inl (.inl q3)), by rw [sum_s1, List.length_map]; show gs.length + gs.length * 0 ≤ 16777216; omega, ?_⟩
          have eg := join_s1 gs
          have s7 := (s5.trans s6).trans q1
          -- the list of names
          refine ⟨by show 1 ≤ sizeLine; decide, fun g hg => ⟨3, rfl, by decide, by decide, fun X hX => ?_⟩⟩
          have gX : g ≠ X := fun z => by rw [← z, upd_same] at hX; cases hX
          have D8 := (D7.new (o := .lst [.str "n"]) hg)
          obtain ⟨Xa, Xc⟩ := D8.nw hX
          have HX7 : H7 X = none := by rw [upd_ne gX.symm] at hX; exact hX
          have HX : H X = none := s7.free (by simp [Xa, Xc]) HX7
          refine lc_range (lo := 0) (n := (3 : Int).toNat) (fun i H' => Sx [a, c] H H' ∧ Dk H' a c cs7 (k + 2 + n + 1 + y.toNat) ∧ H' g = some (.lst [.str "n"]) ∧ ∃ ns : List Str, H' X = some (.lst (ns.map V.str)) ∧ ns.length = i ∧ ∀ z ∈ ns, NmOk z)
            ⟨(s7.new hg).new hX, D8.new hX, by rw [upd_ne gX]; exact upd_same, [], upd_same, rfl, fun _ z => by simp at z⟩ (fun i H' hi p => ?_) (fun H' p => ?_)
          · obtain ⟨u1, u2, u3, ns, u4, u5, u6⟩ := p
            have hi3 : i < 3 := hi
            obtain ⟨x, hx, hc⟩ : ∃ x : Nat, atI (Str.ofString "qvz").cps.toList ((0 : Int) + (i : Int)) = some x ∧ (x = 113 ∨ x = 118 ∨ x = 122) := by
              rcases (show i = 0 ∨ i = 1 ∨ i = 2 by omega) with rfl | rfl | rfl
              · exact ⟨113, by decide +kernel, .inl rfl⟩
              · exact ⟨118, by decide +kernel, .inr (.inl rfl)⟩
              · exact ⟨122, by decide +kernel, .inr (.inr rfl)⟩
            have hnm : NmOk (Txt.join (Str.ofString "") (ls.map s1) ++ s1 x ++ Txt.join (Str.ofString "") (gs.map s1)) := by
              rw [es, eg]
              exact nm_made (fun z hz => ab9_az z (p5 z hz)) (fun z hz => ab9_09 z (q5 z hz)) hc (by omega)
            have hle := hnm.hi
            have hle2 : (Txt.join (Str.ofString "") (ls.map s1) ++ s1 x).length ≤ 8 := by
              have : (Txt.join (Str.ofString "") (ls.map s1) ++ s1 x ++ Txt.join (Str.ofString "") (gs.map s1)).length = (Txt.join (Str.ofString "") (ls.map s1) ++ s1 x).length + (Txt.join (Str.ofString "") (gs.map s1)).length := Str.length_append _ _
              omega
            have e1 := Str.length_append (Txt.join (Str.ofString "") (ls.map s1)) (s1 x)
            have e2 := Str.length_append (Txt.join (Str.ofString "") (ls.map s1) ++ s1 x) (Txt.join (Str.ofString "") (gs.map s1))
            refine ⟨rfl, _, rfl, _, rfl, _, _, x, rfl, rfl, by decide +kernel, hx, _, _, rfl, rfl, le_line (by rw [← e1]; omega), _, rfl, _, _, rfl, rfl, le_line (by rw [← e2]; omega), _, u4, lt_line (by rw [List.length_map]; omega), ?_⟩
            have sX : Sx [X] H' (upd H' X (.lst (ns.map V.str ++ [.str (Txt.join (Str.ofString "") (ls.map s1) ++ s1 x ++ Txt.join (Str.ofString "") (gs.map s1))]))) := (Sx.refl (ex := [X]) _).put (by simp)
            refine ⟨u1.own HX, u2.sx sX (by simp [Xa.symm]) (by simp [Xc.symm]), by rw [upd_ne gX]; exact u3, ns ++ [Txt.join (Str.ofString "") (ls.map s1) ++ s1 x ++ Txt.join (Str.ofString "") (gs.map s1)], by rw [upd_same, List.map_append]; rfl, by rw [List.length_append, u5]; rfl, fun z hz => ?_⟩
            rcases List.mem_append.1 hz with h | h
            · exact u6 z h
            · rw [List.mem_singleton.mp h]; exact hnm
          · obtain ⟨u1, u2, u3, ns, u4, u5, u6⟩ := p
            have u5' : ns.length = 3 := u5
            refine ⟨g, X, _, _, rfl, rfl, u3, u4, by show 1 + (ns.map V.str).length ≤ sizeLine; rw [List.length_map]; exact le_line (by omega), fun v hv => ?_⟩
            obtain ⟨va, vc⟩ := u2.nw hv
            obtain ⟨z1, zr, rfl⟩ : ∃ z1 zr, ns = z1 :: zr := by
              cases ns with
              | nil => simp at u5'
              | cons z1 zr => exact ⟨z1, zr, rfl⟩
            refine q _ cs7 _ v ("n" :: z1 :: zr) (u1.new hv) (u2.new hv) (by omega) (by omega) (u1.free (by simp [va, vc]) hv) va vc ⟨upd_same, by simp, by rw [List.length_cons]; omega, fun z hz => ?_, List.mem_cons_self .., z1, by simp, rfl⟩
            rcases List.mem_cons.1 hz with rfl | hz
            · exact nmOk_of (by decide +kernel)
            · exact u6 z hz
end
/-! ### defs called where no repr is under way -/
/-- a def's promise where nothing guards the stack -/
structure FnG (P : Program) (w : World) (K : PySem.W.Frag) (mg : Str → Option Value) (base : Heap) (k : Nat) (f : Addr) (fd : FuncData) (ps : List Str) (sp : Sp) : Prop where
  len : ∀ (as : List V) (H : Hp) (Q : VK) (E : XK), sp as H Q E → as.length = ps.length
  go : ∀ (A : Around) (callers : List Env) (s : Shared) (H : Hp) (ar : Args) (us : List Value) (vs : List V) (Q : VK), Room k A → A.guards = some [] → Env0 P w K mg base A callers s H → BindsTo s fd ar (ps.zip us) → Vals vs us → sp vs H Q E0 →
    codeAny (model P w) A (.call (.ref f) ar) (CR CX0 callers P w H s Q E0) s
theorem FnG.of {P : Program} {w : World} {K : PySem.W.Frag} {mg : Str → Option Value} {base : Heap} {k : Nat} {f : Addr} {fd : FuncData} {ps : List Str} {sp : Sp} (F : FnOk P w K mg base CX0 k f fd ps sp) : FnG P w K mg base k f fd ps sp :=
  ⟨F.len, fun A o s H ar us vs Q hr _ e b r h => F.run A o s H ar us vs Q E0 hr e b r h⟩
theorem FnG.up {P : Program} {w : World} {K : PySem.W.Frag} {mg : Str → Option Value} {base : Heap} {j k : Nat} {f : Addr} {fd : FuncData} {ps : List Str} {sp : Sp} (F : FnG P w K mg base j f fd ps sp) (h : j ≤ k) : FnG P w K mg base k f fd ps sp :=
  ⟨F.len, fun A o s H ar us vs Q hr => F.go A o s H ar us vs Q (hr.mono h)⟩
theorem Fun.okG {P : Program} {w : World} {K : PySem.W.Frag} {mg : Str → Option Value} {base : Heap} {x qual : Str} {st : Stmt} {f : Addr} {fd : FuncData} {N ps : List Str} {k : Nat} {sp : Sp} (F : Fun K x qual st f fd) (S : FnScope N ps (defScope st))
    (len : ∀ (as : List V) (H : Hp) (Q : VK) (E : XK), sp as H Q E → as.length = ps.length)
    (hbody : ∀ (cdv : Value) (A : Around) (outer : List Env) (s : Shared) (H : Hp) (vs : List V) (Q : VK) (E : XK), Room k (A.deeper (envOfC qual (defScope st) s.heap.objs.size f cdv)) → A.guards = some [] → sp vs H Q E →
      ∃ t, PSs (cxOf CX0 P w K mg base N qual (defScope st) f cdv A outer s H E).nox (defBody st) t ∧ t { nx := fun _ H' => Q .non H', rt := Q } (start N vs) H) : FnG P w K mg base (k + 1) f fd ps sp := by
  rcases F.ex with ⟨oc, od, kV, doc, pm, an, cdv, ct, osl, rfl, lk, hcd⟩
  refine ⟨len, fun A callers s H ar us vs Q hr hg e0 hb rv hsp => ?_⟩
  have inK : K.In s.heap := e0.mod.kin.keeps fun b o e => (e0.bs b o e).1
  have knd : ∀ y ∈ ps.zip us, (defScope st).names.lookup y.1 = some .local ∨ ((defScope st).names.lookup y.1 = some .cell ∧ ((cellsFrom (s.heap.objs.size + 1) (defScope st).names []).lookup y.1).isSome = true) := by
    rintro ⟨n, v⟩ hy
    exact (S.par n (List.of_mem_zip hy).1).imp id fun q => ⟨q, PySem.W.cellsFrom_some _ _ _ (.inl q)⟩
  refine codeAny_call_function hr.depth (inK _ _ lk) rfl S.co S.gen rfl (PySem.W.codeRec_of inK hcd) (hb _ _ _ _ (wpAny_newFunctionEnv_cells S.kind knd fun env he s1 x => ?_))
  subst he
  refine ⟨(e0.mod.nolimit.keeps fun b o e => (e0.bs b o e).1).keeps x.toInCall.keep, codeAny_func ?_⟩
  obtain ⟨t, ht, hq⟩ := hbody cdv A callers s H vs Q E0 (hr.deeper _) hg hsp
  have I0 := inv_start (CX := CX0) (E := E0) S hr.hd e0 (len _ _ _ _ hsp) rv x
  refine wpAny_mono (ht.nox.run [] s1 (start N vs) H _ I0 hq) (fun fl s' hs => ?_) fun e s' hs => hs
  cases fl with
  | ret u =>
    obtain ⟨v, σ', H', J, r1, q1⟩ := hs
    exact ⟨v, H', J.os, J.bare, J.base, J.hok, r1, q1⟩
  | next =>
    obtain ⟨σ', H', J, q1⟩ := hs
    exact ⟨.non, H', J.os, J.bare, J.base, J.hok, rfl, q1⟩
  | brk => exact absurd hs (by rintro ⟨_, _, _, q1⟩; exact q1)
  | cont => exact absurd hs (by rintro ⟨_, _, _, q1⟩; exact q1)
theorem pe_callG {X : Cx} {x : Str} {p pos : Pos} {e : Expr} {es : List Expr} {t : TA} {k : Nat} {f : Addr} {fd : FuncData} {ps : List Str} {sp : Sp} {ds : List Value} {dvs : List V} (F : FnG X.prog X.w X.K X.mg X.base k f fd ps sp) (hr : Room k X.A) (hgd : X.A.guards = some []) (hg : Gl X x) (hm : X.mg x = some (.ref f)) (hk : PySem.W.keepIn X.K (.ref f) = true)
    (hb : Binds X.K fd ps ds) (hd : Vals dvs ds) (ha : PA X (e :: es) t) (hdb : (x == ("__debug__" : Str)) = false := by decide) (he : starEach (e :: es) X.env = (false, eval e X.env) :: starEach es X.env := by rfl) (hpl : (backTo pos (starEach es X.env)).any (·.1) = false := by rfl) :
    PE X (Expr.Call (.Name x p) (e :: es) [] pos) (tCall sp dvs E0 t) := by
  refine ⟨fun pins s σ H Q I h => wpAny_Call_Name_kw (ld_glob I hg hm ?_ hdb)⟩
  refine PySem.W.callWith_K (h₀ := X.base) I.ok.mod.kin hk (thn (ha.run pos pins s σ H _ I h) fun us s1 ⟨vs, H1, I1, r, q⟩ => And.intro I1.kIn ?_) he hpl
  have rr : Vals (vs ++ dvs) (us ++ ds) := r.append hd
  have ll : (us ++ ds).length = ps.length := rr.length.symm.trans (F.len _ _ _ _ q)
  refine wpAny_call (codeAny_mono (F.go X.A X.stack s1 H1 ⟨us, []⟩ (us ++ ds) (vs ++ dvs) Q hr hgd I1.env0 (hb s1 us I1.kIn ll) rr q) fun rs s' hq => ?_)
  match rs, hq with
  | .ok (.ret u), hq => exact I1.after hq
/-! ### repr of data -/
/-- repr(x), x a list or a tuple of data -/
def rRepr (K : PySem.W.Frag) : List V → Hp → VK → Prop := fun xs H Q => ∃ x d, xs = [x] ∧ Dp K H x d ∧ d.showable = true ∧ d.hasDict = false ∧ d.depth ≤ 60 ∧ d.shown.length ≤ 16777216 ∧ (∀ z, d ≠ .str z) ∧ (∀ b, d ≠ .bool b) ∧ d ≠ .none ∧ Q (.str d.shown) H
theorem call_reprD {X : Cx} (hgd : X.A.guards = some []) (hu : X.A.units + 64 < cLine) : CallR X (.builtin "repr") (rRepr X.K) := by
  intro pins s σ H xs us Q I r h0; have h := h0
  obtain ⟨x, d, rfl, hd, hs, hnd, hdp, hz, n1, n2, n3, q⟩ := h
  rcases vals1 r with ⟨u, rfl, rx⟩
  have fin : ∀ {as : List Addr} {a : Addr}, Reads s.heap (.ref a) d as → wpAny (model X.prog X.w) X.A (call (.builtin "repr") [.ref a]) (EP X pins σ Q) X.xe s := fun {as a} rd =>
    repr_of_reads' rd hs (fun h => by rw [hnd] at h; cases h) hgd (by omega) (fun _ _ e => e) (fun h' u' tk hk => ⟨.str d.shown, H, I.kept hk, ⟨u', rfl⟩, q⟩) hz
  obtain ⟨as, rd⟩ := Dp.reads I d x u hd rx
  cases hd with
  | non => exact absurd rfl n3
  | bl b => exact absurd rfl (n2 b)
  | int i =>
    obtain ⟨t, rfl⟩ := rx
    have hi : i.natAbs.log2 < 1920 := by
      have : (PyData.int i).showable = true := hs
      simpa only [PyData.showable, decide_eq_true_eq] using this
    have e : (PyData.int i).shown = (toString i : String) := by simp only [PyData.shown]
    rw [e] at q
    exact PySem.P.repr_of_int hi ⟨.str _, H, I.tok _, ⟨_, rfl⟩, q⟩
  | str z => exact absurd rfl (n1 z)
  | lst hq ha => cases rx; exact fin rd
  | tup hq ha => cases rx; exact fin rd
/-! ### the law's end -/
/-- the script, as the heap tells it -/
theorem script_hp {P : Program} {w : World} {K : PySem.W.Frag} {s : Shared} {a : Addr} {vs : List Value} {ns : List Int} (KX : K.In s.heap) (ha : s.heap.get? a = some { cls := .type "list", data := .seq vs.toArray }) (hi : IntsAre vs ns) (hl : ns.length ≤ sizeLine) :
    ∃ H : Hp, Only H ∧ SqL K H a (ns.map V.int) ∧ HOk P w H s.heap ∧ (∀ b, H b ≠ none → b = a) ∧ (H a ≠ none → K.lookup a = none) := by
  have rv := vals_ints hi
  cases e : K.lookup a with
  | some o =>
    have h := KX a o e
    rw [ha] at h
    cases h
    refine ⟨fun _ => none, fun _ => .inl rfl, .inr ⟨_, vs.toArray, _, e, rfl, rfl, rfl, by rw [List.size_toArray, hi.length]; exact hl, by simpa using rv⟩, fun b u z => (by cases z), fun b z => absurd rfl z, fun z => absurd rfl z⟩
  | none =>
    have at_a : (fun b : Addr => if b = a then some (HO.frz { cls := .type "list", data := .seq vs.toArray } (.lst (ns.map V.int))) else none) a = some (HO.frz { cls := .type "list", data := .seq vs.toArray } (.lst (ns.map V.int))) := if_pos rfl
    refine ⟨fun b => if b = a then some (.frz { cls := .type "list", data := .seq vs.toArray } (.lst (ns.map V.int))) else none, fun b => ?_, .inl (.inr ⟨_, at_a⟩), fun b u z => ?_, fun b z => ?_, fun _ => rfl⟩
    · by_cases h : b = a
      · exact .inr ⟨_, _, if_pos h⟩
      · exact .inl (if_neg h)
    · by_cases h : b = a
      · have z2 := (if_pos h).symm.trans z
        cases z2
        subst h
        exact ⟨ha, by simpa using hl, vs, _, rv, ha⟩
      · have z2 := (if_neg h).symm.trans z
        cases z2
    · by_cases h : b = a
      · exact h
      · exact absurd (if_neg h) z
theorem law_callG {P : Program} {w : World} {K : PySem.W.Frag} {mg mb : Str → Option Value} {k : Nat} {fa a : Addr} {fd : FuncData} {x : Str} {sp : Sp} {s : Shared} {vs : List Value} {ns : List Int}
    (KX : K.In s.heap) (h1 : s.heap.Ns mainGlobals mg) (h2 : s.heap.Ns builtinsNs mb) (h3 : ∀ x : Str, x ≠ "__name__" → mb x = bootBuiltins x) (h4 : s.heap.NoLimit) (h5 : s.gens = #[])
    (ha : s.heap.get? a = some { cls := .type "list", data := .seq vs.toArray }) (hi : IntsAre vs ns) (hl : ns.length ≤ sizeLine) (hr : Room k callerA)
    (F : ∀ base : Heap, K.In base → base.Ns mainGlobals mg → FnG P w K mg base k fa fd [x] sp) (hb : ∀ (s : Shared) (u : Value), BindsTo s fd ⟨[u], []⟩ [(x, u)])
    (hsp : ∀ H : Hp, Only H → SqL K H a (ns.map V.int) → sp [.ref a] H (fun v _ => v = .bl true) E0) :
    codeAny (model P w) callerA (.call (.ref fa) ⟨[.ref a], []⟩) (fun r s' => r = .ok (.ret (.bool true)) ∧ OldK s.heap s'.heap ∧ s'.os = s.os ∧ AllBare s'.gens) s := by
  obtain ⟨H, hO, hS, hok, hA, hK⟩ := script_hp (P := P) (w := w) KX ha hi hl
  have only_a : ∀ {b : Addr} {u : HO}, H b = some u → b = a := fun e => hA _ (by rw [e]; simp)
  have unseen : ∀ {b : Addr} {o : Obj} {es : Array DictEntry} {ep : Nat}, s.heap.get? b = some o → o.data = .dict es ep → H b = none := fun {b o es ep} e d => by
    cases q : H b with
    | none => rfl
    | some u =>
      have z := only_a q
      subst z
      rw [ha] at e
      cases e
      cases d
  have ns_of : ∀ {b : Addr} {m : Str → Option Value}, s.heap.Ns b m → (hidT s.heap H).Ns b m := fun {b m} ⟨o, es, ep, e, d, r⟩ => ⟨o, es, ep, hidT_get e (unseen e d), d, r⟩
  have inB : K.In (hidT s.heap H) := fun b o e => hidT_get (KX b o e) (by
    cases q : H b with
    | none => rfl
    | some u =>
      have z := only_a q
      subst z
      rw [hK (by simp [q])] at e
      cases e)
  have md : Mod K mg (hidT s.heap H) := ⟨inB, ns_of h1, ⟨mb, ns_of h2, h3⟩, let ⟨mc, y1, y2⟩ := h4; ⟨mc, ns_of y1, y2⟩⟩
  have e0 : Env0 P w K mg (hidT s.heap H) callerA [] s H := ⟨rfl, md, fun b o e => of_hidT e, Nat.le_of_eq (hidT_size _ _), trivial, fun b hb => absurd (show b ∈ ([] : List Addr) from hb) (by simp), hok, .of_eq h5⟩
  refine codeAny_mono ((F _ inB (ns_of h1)).go callerA [] s H ⟨[.ref a], []⟩ [.ref a] [.ref a] _ hr rfl e0 (hb s (.ref a)) (.cons rfl .nil) (hsp H hO hS)) fun r s' h => ?_
  match r, h with
  | .ok (.ret u), h =>
    rcases h with ⟨v, H', os, bare, un, hok', r', q⟩
    have q' : v = .bl true := q
    subst q'
    have eu : u = Value.bool true := r'; subst eu
    refine ⟨rfl, .of_keep fun b o e => ?_, os, bare⟩
    cases q2 : H b with
    | none => exact un.keep b o e q2 (fun z => absurd (show b ∈ ([] : List Addr) from z) (by simp)) (by simp)
    | some u =>
      obtain z | ⟨ob, xs, z⟩ := hO b
      · rw [q2] at z; cases z
      · obtain ⟨e1, _⟩ := hok b _ z
        obtain ⟨e2, _⟩ := hok' b _ (un.frzs b ob _ z)
        rw [e] at e1
        cases e1
        exact e2
/-! ### programs, typed -/
inductive Ex where
  | int (i : Int)
  | name (z : Str)
  | plus (x y : Ex)
  | minus (x y : Ex)
  | times (f : Int) (x : Ex)
namespace Ex
def d : Ex → PyData
  | .int i => .int i
  | .name z => .str z
  | .plus x y => .tuple [.str "plus", x.d, y.d]
  | .minus x y => .tuple [.str "minus", x.d, y.d]
  | .times f x => .tuple [.str "times", .int f, x.d]
def ok (ns : List Str) : Ex → Nat → Prop
  | .int i, n => 1 ≤ n ∧ -99 ≤ i ∧ i ≤ 99
  | .name z, n => 1 ≤ n ∧ z ∈ ns
  | .plus x y, n => 1 ≤ n ∧ ok ns x (n - 1) ∧ ok ns y (n - 1)
  | .minus x y, n => 1 ≤ n ∧ ok ns x (n - 1) ∧ ok ns y (n - 1)
  | .times f x, n => 1 ≤ n ∧ -9 ≤ f ∧ f ≤ 9 ∧ ok ns x (n - 1)
def ev (ρ : Str → Int) : Ex → Int
  | .int i => i
  | .name z => ρ z
  | .plus x y => x.ev ρ + y.ev ρ
  | .minus x y => x.ev ρ - y.ev ρ
  | .times f x => f * x.ev ρ
theorem of {ns : List Str} {n : Nat} {e : PyData} (h : ExD ns n e) : ∃ x : Ex, x.d = e ∧ x.ok ns n := by
  induction h with
  | int i a b => exact ⟨.int i, rfl, by omega, a, b⟩
  | name z a => exact ⟨.name z, rfl, by omega, a⟩
  | plus _ _ a b => obtain ⟨x, rfl, hx⟩ := a; obtain ⟨y, rfl, hy⟩ := b; exact ⟨.plus x y, rfl, by omega, hx, hy⟩
  | minus _ _ a b => obtain ⟨x, rfl, hx⟩ := a; obtain ⟨y, rfl, hy⟩ := b; exact ⟨.minus x y, rfl, by omega, hx, hy⟩
  | times f a b _ c => obtain ⟨x, rfl, hx⟩ := c; exact ⟨.times f x, rfl, by omega, a, b, hx⟩
/-- no name has a value above B, so no expression has one above 9 ^ n times that -/
theorem ev_le {ns : List Str} {ρ : Str → Int} {B : Int} (hB : 99 ≤ B) (h : ∀ z, -B ≤ ρ z ∧ ρ z ≤ B) : ∀ (x : Ex) (n : Nat), x.ok ns n → -((9 : Int) ^ n * B) ≤ x.ev ρ * 9 ∧ x.ev ρ * 9 ≤ (9 : Int) ^ n * B
  | .int i, n, ⟨h1, h2, h3⟩ => by
    obtain ⟨m, rfl⟩ : ∃ m : Nat, n = m + 1 := ⟨n - 1, by omega⟩
    have p : (1 : Int) ≤ 9 ^ m := Int.pow_pos (by decide)
    have q : B ≤ 9 ^ m * B := by have := Int.mul_le_mul_of_nonneg_right p (show 0 ≤ B by omega); omega
    have e : (9 : Int) ^ (m + 1) * B = 9 * (9 ^ m * B) := by rw [Int.pow_succ, Int.mul_comm (9 ^ m) 9, Int.mul_assoc]
    rw [e]
    show -_ ≤ i * 9 ∧ i * 9 ≤ _
    omega
  | .name z, n, ⟨h1, h2⟩ => by
    obtain ⟨m, rfl⟩ : ∃ m : Nat, n = m + 1 := ⟨n - 1, by omega⟩
    have p : (1 : Int) ≤ 9 ^ m := Int.pow_pos (by decide)
    have q : B ≤ 9 ^ m * B := by have := Int.mul_le_mul_of_nonneg_right p (show 0 ≤ B by omega); omega
    have e : (9 : Int) ^ (m + 1) * B = 9 * (9 ^ m * B) := by rw [Int.pow_succ, Int.mul_comm (9 ^ m) 9, Int.mul_assoc]
    rw [e]
    have := h z
    show -_ ≤ ρ z * 9 ∧ ρ z * 9 ≤ _
    omega
  | .plus x y, n, ⟨h1, h2, h3⟩ => by
    obtain ⟨m, rfl⟩ : ∃ m : Nat, n = m + 1 := ⟨n - 1, by omega⟩
    have a := ev_le hB h x m h2
    have b := ev_le hB h y m h3
    have e : (9 : Int) ^ (m + 1) * B = 9 * (9 ^ m * B) := by rw [Int.pow_succ, Int.mul_comm (9 ^ m) 9, Int.mul_assoc]
    rw [e]
    show -_ ≤ (x.ev ρ + y.ev ρ) * 9 ∧ (x.ev ρ + y.ev ρ) * 9 ≤ _
    omega
  | .minus x y, n, ⟨h1, h2, h3⟩ => by
    obtain ⟨m, rfl⟩ : ∃ m : Nat, n = m + 1 := ⟨n - 1, by omega⟩
    have a := ev_le hB h x m h2
    have b := ev_le hB h y m h3
    have e : (9 : Int) ^ (m + 1) * B = 9 * (9 ^ m * B) := by rw [Int.pow_succ, Int.mul_comm (9 ^ m) 9, Int.mul_assoc]
    rw [e]
    show -_ ≤ (x.ev ρ - y.ev ρ) * 9 ∧ (x.ev ρ - y.ev ρ) * 9 ≤ _
    omega
  | .times f x, n, ⟨h1, h2, h3, h4⟩ => by
    obtain ⟨m, rfl⟩ : ∃ m : Nat, n = m + 1 := ⟨n - 1, by omega⟩
    have a := ev_le hB h x m h4
    have e : (9 : Int) ^ (m + 1) * B = 9 * (9 ^ m * B) := by rw [Int.pow_succ, Int.mul_comm (9 ^ m) 9, Int.mul_assoc]
    rw [e]
    show -_ ≤ f * x.ev ρ * 9 ∧ f * x.ev ρ * 9 ≤ _
    have c : ∀ v C : Int, -C ≤ v * 9 → v * 9 ≤ C → -(9 * C) ≤ f * v * 9 ∧ f * v * 9 ≤ 9 * C := fun v C u1 u2 => by
      rcases (show f = -9 ∨ f = -8 ∨ f = -7 ∨ f = -6 ∨ f = -5 ∨ f = -4 ∨ f = -3 ∨ f = -2 ∨ f = -1 ∨ f = 0 ∨ f = 1 ∨ f = 2 ∨ f = 3 ∨ f = 4 ∨ f = 5 ∨ f = 6 ∨ f = 7 ∨ f = 8 ∨ f = 9 by omega) with
        rfl | rfl | rfl | rfl | rfl | rfl | rfl | rfl | rfl | rfl | rfl | rfl | rfl | rfl | rfl | rfl | rfl | rfl | rfl <;> omega
    exact c _ _ a.1 a.2
end Ex
inductive Ts where
  | rest (x : Ex) (b r : Int)
  | less (x y : Ex)
  | not (t : Ts)
namespace Ts
def d : Ts → PyData
  | .rest x b r => .tuple [.str "rest", x.d, .int b, .int r]
  | .less x y => .tuple [.str "less", x.d, y.d]
  | .not t => .tuple [.str "not", t.d]
def ok (ns : List Str) : Ts → Nat → Prop
  | .rest x b r, _ => x.ok ns 3 ∧ 2 ≤ b ∧ b ≤ 6 ∧ 0 ≤ r ∧ r < b
  | .less x y, _ => x.ok ns 3 ∧ y.ok ns 3
  | .not t, n => 1 ≤ n ∧ ok ns t (n - 1)
def ev (ρ : Str → Int) : Ts → Bool
  | .rest x b r => decide ((x.ev ρ - r) % b = 0)
  | .less x y => decide (x.ev ρ < y.ev ρ)
  | .not t => !t.ev ρ
/-- of a rest -/
def isR : Ts → Bool
  | .rest _ _ _ => true
  | .less _ _ => false
  | .not t => t.isR
theorem of {ns : List Str} {n : Nat} {b : Bool} {e : PyData} (h : TsD ns n b e) : ∃ x : Ts, x.d = e ∧ x.ok ns n ∧ x.isR = b := by
  induction h with
  | rest b r a h1 h2 h3 h4 => obtain ⟨x, rfl, hx⟩ := Ex.of a; exact ⟨.rest x b r, rfl, ⟨hx, h1, h2, h3, h4⟩, rfl⟩
  | less a b => obtain ⟨x, rfl, hx⟩ := Ex.of a; obtain ⟨y, rfl, hy⟩ := Ex.of b; exact ⟨.less x y, rfl, ⟨hx, hy⟩, rfl⟩
  | not _ ih => obtain ⟨x, rfl, hx, hr⟩ := ih; exact ⟨.not x, rfl, ⟨by omega, hx⟩, hr⟩
end Ts
mutual
inductive St where
  | set (z : Str) (e : Ex)
  | pay (e : Ex)
  | stop
  | ite (t : Ts) (y n : Bk)
  | rep (k : Int) (y : Bk)
inductive Bk where
  | nil
  | cons (s : St) (b : Bk)
end
mutual
def St.d : St → PyData
  | .set z e => .tuple [.str "set", .str z, e.d]
  | .pay e => .tuple [.str "pay", e.d]
  | .stop => .tuple [.str "stop"]
  | .ite t y n => .tuple [.str "if", t.d, .tuple y.ds, .tuple n.ds]
  | .rep k y => .tuple [.str "repeat", .int k, .tuple y.ds]
def Bk.ds : Bk → List PyData
  | .nil => []
  | .cons s b => s.d :: b.ds
end
mutual
def St.ok (ns : List Str) : St → Nat → Prop
  | .set z e, _ => z ∈ ns ∧ e.ok ns 3
  | .pay e, _ => e.ok ns 3
  | .stop, _ => True
  | .ite t y n, d => t.ok ns 2 ∧ Bk.ok ns y d ∧ Bk.ok ns n d
  | .rep k y, d => 1 ≤ k ∧ k ≤ 8 ∧ Bk.ok ns y d
def Bk.ok (ns : List Str) : Bk → Nat → Prop
  | .nil, _ => True
  | .cons s b, d => 1 ≤ d ∧ St.ok ns s (d - 1) ∧ Bk.ok ns b d
end
mutual
/-- places -/
def St.sz : St → Nat
  | .set _ _ => 1
  | .pay _ => 1
  | .stop => 1
  | .ite _ y n => 1 + y.sz + n.sz
  | .rep _ y => 1 + y.sz
def Bk.sz : Bk → Nat
  | .nil => 0
  | .cons s b => s.sz + b.sz
end
mutual
def St.wt : St → Nat
  | .set _ _ => 1
  | .pay _ => 1
  | .stop => 1
  | .ite _ y n => 1 + y.wt + n.wt
  | .rep k y => 1 + k.toNat * y.wt
def Bk.wt : Bk → Nat
  | .nil => 0
  | .cons s b => s.wt + b.wt
end
mutual
/-- rests (true), comparings (false) -/
def St.tn (q : Bool) : St → Nat
  | .set _ _ => 0
  | .pay _ => 0
  | .stop => 0
  | .ite t y n => (if t.isR = q then 1 else 0) + y.tn q + n.tn q
  | .rep k y => k.toNat * y.tn q
def Bk.tn (q : Bool) : Bk → Nat
  | .nil => 0
  | .cons s b => s.tn q + b.tn q
end
mutual
theorem St.of {ns : List Str} : ∀ {d : Nat} {n w r c : Int} {e : PyData}, StD ns d n w r c e → ∃ s : St, s.d = e ∧ s.ok ns d ∧ (s.sz : Int) = n ∧ (s.wt : Int) = w ∧ (s.tn true : Int) = r ∧ (s.tn false : Int) = c
  | _, _, _, _, _, _, .set z hz hx => by
    obtain ⟨x, rfl, h⟩ := Ex.of hx
    exact ⟨.set z x, rfl, ⟨hz, h⟩, rfl, rfl, rfl, rfl⟩
  | _, _, _, _, _, _, .pay hx => by
    obtain ⟨x, rfl, h⟩ := Ex.of hx
    exact ⟨.pay x, rfl, h, rfl, rfl, rfl, rfl⟩
  | _, _, _, _, _, _, .stop => ⟨.stop, rfl, trivial, rfl, rfl, rfl, rfl⟩
  | _, _, _, _, _, _, .ite (b := b) ht hy hz => by
    obtain ⟨t, rfl, h, hb⟩ := Ts.of ht
    obtain ⟨y, hyd, y1, y2, y3, y4, y5⟩ := Bk.of hy
    obtain ⟨z, hzd, z1, z2, z3, z4, z5⟩ := Bk.of hz
    refine ⟨.ite t y z, by rw [St.d, hyd, hzd], ⟨h, y1, z1⟩, ?_, ?_, ?_, ?_⟩
    · simp only [St.sz]; omega
    · simp only [St.wt]; omega
    · simp only [St.tn, hb]; cases b <;> simp [bI] <;> omega
    · simp only [St.tn, hb]; cases b <;> simp [bI] <;> omega
  | _, _, _, _, _, _, .rep k h1 h2 hy => by
    obtain ⟨y, hyd, y1, y2, y3, y4, y5⟩ := Bk.of hy
    refine ⟨.rep k y, by rw [St.d, hyd], ⟨h1, h2, y1⟩, ?_, ?_, ?_, ?_⟩
    · simp only [St.sz]; omega
    · simp only [St.wt]; rw [← y3, Int.natCast_add, Int.natCast_mul, Int.toNat_of_nonneg (by omega)]; rfl
    · simp only [St.tn]; rw [← y4, Int.natCast_mul, Int.toNat_of_nonneg (by omega)]
    · simp only [St.tn]; rw [← y5, Int.natCast_mul, Int.toNat_of_nonneg (by omega)]
theorem Bk.of {ns : List Str} : ∀ {d : Nat} {n w r c : Int} {es : List PyData}, BkD ns d n w r c es → ∃ b : Bk, b.ds = es ∧ b.ok ns d ∧ (b.sz : Int) = n ∧ (b.wt : Int) = w ∧ (b.tn true : Int) = r ∧ (b.tn false : Int) = c
  | _, _, _, _, _, _, .nil => ⟨.nil, rfl, trivial, rfl, rfl, rfl, rfl⟩
  | _, _, _, _, _, _, .cons h hs => by
    obtain ⟨s, hsd, s1, s2, s3, s4, s5⟩ := St.of h
    obtain ⟨b, hbd, b1, b2, b3, b4, b5⟩ := Bk.of hs
    refine ⟨.cons s b, by rw [Bk.ds, hsd, hbd], ⟨by omega, s1, b1⟩, ?_, ?_, ?_, ?_⟩
    · simp only [Bk.sz]; omega
    · simp only [Bk.wt]; omega
    · simp only [Bk.tn]; omega
    · simp only [Bk.tn]; omega
end
/-! ### runs -/
structure Wd where
  en : Str → Int
  tot : Int
  pl : List Int
/-- so often, until it stops -/
def itr (f : Wd → Wd × Bool) : Nat → Wd → Wd × Bool
  | 0, w => (w, false)
  | n + 1, w => if (f w).2 = true then f w else itr f n (f w).1
mutual
def St.run : St → Int → Wd → Wd × Bool
  | .set z e, p, w => (⟨fun y => if y = z then e.ev w.en else w.en y, w.tot, w.pl ++ [p]⟩, false)
  | .pay e, p, w => (⟨w.en, w.tot + e.ev w.en, w.pl ++ [p]⟩, false)
  | .stop, p, w => (⟨w.en, w.tot, w.pl ++ [p]⟩, true)
  | .ite t y n, p, w => if t.ev w.en = true then y.run (p + 1) ⟨w.en, w.tot, w.pl ++ [p]⟩ else n.run (p + 1 + y.sz) ⟨w.en, w.tot, w.pl ++ [p]⟩
  | .rep k y, p, w => itr (y.run (p + 1)) k.toNat ⟨w.en, w.tot, w.pl ++ [p]⟩
def Bk.run : Bk → Int → Wd → Wd × Bool
  | .nil, _, w => (w, false)
  | .cons s b, p, w => if (s.run p w).2 = true then s.run p w else b.run (p + s.sz) (s.run p w).1
end
abbrev sValue : Stmt := topS 45
abbrev nValue : List Str := ["_law_names_here", "_law_expression_here", "_law_first", "_law_second"]
theorem scValue : FnScope nValue ["_law_names_here", "_law_expression_here"] (defScope sValue) := ⟨rfl, rfl, rfl, by decide +kernel, rfl, by decide +kernel, by decide +kernel⟩
/-- the names' values, in a dict -/
def En (H : Hp) (N : Addr) (ρ : Str → Int) : Prop := ∃ kvs : List (Key × V), H N = some (.dK kvs) ∧ ∀ z, (valV kvs (.inr z)).getD (.int 0) = .int (ρ z)
def spValue (ns : List Str) (d : Nat) : Sp := fun vs H Q _ => ∃ (v : V) (N : Addr) (e : Ex) (ρ : Str → Int), vs = [v, .ref N] ∧ Tp H v e.d ∧ e.ok ns d ∧ En H N ρ ∧ Q (.int (e.ev ρ)) H
theorem tp3 {H : Hp} {v : V} {x y z : PyData} (h : Tp H v (.tuple [x, y, z])) : ∃ a p q r, v = .ref a ∧ H a = some (.tup [p, q, r]) ∧ Tp H p x ∧ Tp H q y ∧ Tp H r z := by
  obtain ⟨a, xs, rfl, ha, hx⟩ := h.tuple
  cases hx with | cons h1 hx => cases hx with | cons h2 hx => cases hx with | cons h3 hx => cases hx with | nil => exact ⟨a, _, _, _, rfl, ha, h1, h2, h3⟩
theorem tp2 {H : Hp} {v : V} {x y : PyData} (h : Tp H v (.tuple [x, y])) : ∃ a p q, v = .ref a ∧ H a = some (.tup [p, q]) ∧ Tp H p x ∧ Tp H q y := by
  obtain ⟨a, xs, rfl, ha, hx⟩ := h.tuple
  cases hx with | cons h1 hx => cases hx with | cons h2 hx => cases hx with | nil => exact ⟨a, _, _, rfl, ha, h1, h2⟩
theorem tp1 {H : Hp} {v : V} {x : PyData} (h : Tp H v (.tuple [x])) : ∃ a p, v = .ref a ∧ H a = some (.tup [p]) ∧ Tp H p x := by
  obtain ⟨a, xs, rfl, ha, hx⟩ := h.tuple
  cases hx with | cons h1 hx => cases hx with | nil => exact ⟨a, _, rfl, ha, h1⟩
theorem tp4 {H : Hp} {v : V} {x y z u : PyData} (h : Tp H v (.tuple [x, y, z, u])) : ∃ a p q r s, v = .ref a ∧ H a = some (.tup [p, q, r, s]) ∧ Tp H p x ∧ Tp H q y ∧ Tp H r z ∧ Tp H s u := by
  obtain ⟨a, xs, rfl, ha, hx⟩ := h.tuple
  cases hx with | cons h1 hx => cases hx with | cons h2 hx => cases hx with | cons h3 hx => cases hx with | cons h4 hx => cases hx with | nil => exact ⟨a, _, _, _, _, rfl, ha, h1, h2, h3, h4⟩
theorem tpI {H : Hp} {v : V} {i : Int} (h : Tp H v (.int i)) : v = .int i := by cases h; rfl
theorem tpS {H : Hp} {v : V} {z : Str} (h : Tp H v (.str z)) : v = .str z := by cases h; rfl
theorem iteP {c A B : Prop} [Decidable c] (hc : c) (h : A) : if c then A else B := by rw [if_pos hc]; exact h
theorem iteN {c A B : Prop} [Decidable c] (hc : ¬ c) (h : B) : if c then A else B := by rw [if_neg hc]; exact h
section
variable {w : World} {P : Program} {K : PySem.W.Frag} {mg : Str → Option Value} {base : Heap}
end
def spTrue (ns : List Str) (n : Nat) : Sp := fun vs H Q _ => ∃ (v : V) (N : Addr) (t : Ts) (ρ : Str → Int), vs = [v, .ref N] ∧ Tp H v t.d ∧ 1 ≤ n ∧ t.ok ns (n - 1) ∧ En H N ρ ∧ Q (.bl (t.ev ρ)) H
section
variable {w : World} {P : Program} {K : PySem.W.Frag} {mg : Str → Option Value} {base : Heap}
end

/-- the scope of the comprehension that a def returns within a call -/
def cScopeOf (st : Stmt) : Scope := match defBody st with
  | [.Return (some (.Call _ [.ListComp _ _ sc _] _ _)) _] => sc
  | _ => defScope st
def St.parts : St → List PyData
  | .ite _ y n => [.tuple y.ds, .tuple n.ds]
  | .rep _ y => [.tuple y.ds]
  | _ => []
def St.blks : St → List Bk
  | .ite _ y n => [y, n]
  | .rep _ y => [y]
  | _ => []
theorem St.parts_blks (s : St) : s.parts = s.blks.map fun b => .tuple b.ds := by cases s <;> rfl
def spParts : Sp := fun vs H Q _ => ∃ (v : V) (s : St), vs = [v] ∧ Tp H v s.d ∧ ∀ H' v', Sx [] H H' → Tp H' v' (.tuple s.parts) → Q v' H'
def Bk.lst : Bk → List St
  | .nil => []
  | .cons s b => s :: b.lst
theorem Bk.ds_lst : ∀ b : Bk, b.ds = b.lst.map St.d
  | .nil => rfl
  | .cons s b => by rw [Bk.ds, Bk.lst, List.map_cons, Bk.ds_lst b]
theorem Bk.sz_lst : ∀ b : Bk, b.sz = (b.lst.map St.sz).sum
  | .nil => rfl
  | .cons s b => by rw [Bk.sz, Bk.lst, List.map_cons, List.sum_cons, Bk.sz_lst b]
theorem St.sz_blks (s : St) : s.sz = 1 + (s.blks.map Bk.sz).sum := by
  cases s <;> simp [St.sz, St.blks] <;> omega
/-- blocks lie at most so deep -/
theorem Bk.ok_mem {ns : List Str} {d : Nat} : ∀ {b : Bk} {s : St}, b.ok ns d → s ∈ b.lst → 1 ≤ d ∧ s.ok ns (d - 1)
  | .cons s b, t, h, hm => by
    rcases List.mem_cons.1 hm with rfl | hm
    · exact ⟨h.1, h.2.1⟩
    · exact Bk.ok_mem (b := b) h.2.2 hm
theorem St.ok_mem {ns : List Str} {d : Nat} {s : St} {b : Bk} (h : s.ok ns d) (hm : b ∈ s.blks) : b.ok ns d := by
  cases s with
  | ite t y n =>
    simp only [St.blks, List.mem_cons, List.not_mem_nil, or_false] at hm
    rcases hm with rfl | rfl
    · exact h.2.1
    · exact h.2.2
  | rep k y =>
    simp only [St.blks, List.mem_cons, List.not_mem_nil, or_false] at hm
    subst hm
    exact h.2.2
  | _ => simp [St.blks] at hm
theorem pi_tupK {X : Cx} {K : PySem.W.Frag} {l tg : Expr} {tl : TE} (h : X.K = K) (hl : PE X l tl) : PI X tg l (iTup K tl) := h ▸ pi_tup hl
theorem cr_sumK {X : Cx} {K : PySem.W.Frag} (h : X.K = K) (hc : X.calm = true) : CallR X (.builtin "sum") (rSum K) := h ▸ cr_sum hc
theorem sum_mem {l : List Nat} {x : Nat} (h : x ∈ l) : x ≤ l.sum := by
  induction l with
  | nil => cases h
  | cons y l ih =>
    rw [List.sum_cons]
    rcases List.mem_cons.1 h with rfl | h
    · omega
    · have := ih h; omega
theorem cast_sum (l : List Nat) : ((l.sum : Nat) : Int) = (l.map fun x : Nat => (x : Int)).sum := by
  induction l with
  | nil => rfl
  | cons y l ih => rw [List.sum_cons, List.map_cons, List.sum_cons, Int.natCast_add, ih]
section
variable {w : World} {P : Program} {K : PySem.W.Frag} {mg : Str → Option Value} {base : Heap}
/-- so deep lie the blocks of a block -/
def spSize (d : Nat) : Sp := fun vs H Q _ => ∃ (v : V) (b : Bk) (ns : List Str), vs = [v] ∧ Tp H v (.tuple b.ds) ∧ b.ok ns (d - 1) ∧ 1 ≤ d ∧ b.sz < 16777216 ∧ ∀ H', Sx [] H H' → Q (.int b.sz) H'
theorem TpAll.lst {H : Hp} {α : Type} (g : α → PyData) : ∀ {xs : List V} {as : List α}, TpAll H xs (as.map g) → xs.length = as.length ∧ ∀ (i : Nat) (x : V), xs[i]? = some x → ∃ a, as[i]? = some a ∧ Tp H x (g a)
  | [], [], .nil => ⟨rfl, fun _ _ h => by simp at h⟩
  | x :: xs, a :: as, .cons h hs => by
    have r := TpAll.lst g (as := as) hs
    refine ⟨by rw [List.length_cons, List.length_cons, r.1], fun i y hy => ?_⟩
    cases i with
    | zero => exact ⟨a, rfl, by cases hy; exact h⟩
    | succ i => exact r.2 i y hy
end

/-- the world's dict -/
def wk (N : Addr) (t : Int) (L : Addr) : List (Key × V) := [(.inr "names", .ref N), (.inr "total", .int t), (.inr "places", .ref L)]
theorem k_nt : ¬ ((.inr "names" : Key) = .inr "total") := by decide +kernel
theorem k_np : ¬ ((.inr "names" : Key) = .inr "places") := by decide +kernel
theorem k_tp : ¬ ((.inr "total" : Key) = .inr "places") := by decide +kernel
theorem k_pt : ¬ ((.inr "places" : Key) = .inr "total") := by decide +kernel
theorem wk_n (N : Addr) (t : Int) (L : Addr) : valV (wk N t L) (.inr "names") = some (.ref N) := by
  simp [valV, wk]
theorem wk_t (N : Addr) (t : Int) (L : Addr) : valV (wk N t L) (.inr "total") = some (.int t) := by
  unfold valV wk
  rw [List.find?_cons_of_neg (by simpa using k_nt), List.find?_cons_of_pos (by simp)]
  rfl
theorem wk_p (N : Addr) (t : Int) (L : Addr) : valV (wk N t L) (.inr "places") = some (.ref L) := by
  unfold valV wk
  rw [List.find?_cons_of_neg (by simpa using k_np), List.find?_cons_of_neg (by simpa using k_tp), List.find?_cons_of_pos (by simp)]
  rfl
theorem wk_put (N : Addr) (t t' : Int) (L : Addr) : putK (wk N t L) (.inr "total") (.int t') = wk N t' L := by
  have h : ((wk N t L).any fun kv => decide (kv.1 = .inr "total")) = true := by simp [wk]
  rw [putK, if_pos h]
  simp only [wk, List.map_cons, List.map_nil]
  rw [if_neg k_nt, if_pos trivial, if_neg k_pt]
/-- the world at W: the names' dict at N, the places at L; c more names fit in -/
structure Wr (H : Hp) (W N L : Addr) (w : Wd) (c : Nat) : Prop where
  hw : H W = some (.dK (wk N w.tot L))
  hn : ∃ kvs : List (Key × V), H N = some (.dK kvs) ∧ kvs.length + c ≤ w.pl.length + 1 ∧ ∀ z, (valV kvs (.inr z)).getD (.int 0) = .int (w.en z)
  hl : H L = some (.lst (w.pl.map V.int))
  ne : W ≠ N
namespace Wr
variable {H H' : Hp} {W N L p : Addr} {w : Wd} {c : Nat} {o : HO}
theorem wl (R : Wr H W N L w c) : W ≠ L := fun e => by
  have h := R.hw
  rw [e, R.hl] at h
  cases h
theorem nl (R : Wr H W N L w c) : N ≠ L := fun e => by
  obtain ⟨kvs, h, _⟩ := R.hn
  rw [e, R.hl] at h
  cases h
theorem en (R : Wr H W N L w c) : En H N w.en := by
  obtain ⟨kvs, h1, _, h2⟩ := R.hn
  exact ⟨kvs, h1, h2⟩
theorem sx (R : Wr H W N L w c) (s : Sx [] H H') : Wr H' W N L w c := by
  obtain ⟨kvs, h1, h2, h3⟩ := R.hn
  exact ⟨s _ _ (by simp) R.hw, ⟨kvs, s _ _ (by simp) h1, h2, h3⟩, s _ _ (by simp) R.hl, R.ne⟩
theorem less (R : Wr H W N L w (c + 1)) : Wr H W N L w c := by
  obtain ⟨kvs, h1, h2, h3⟩ := R.hn
  exact ⟨R.hw, ⟨kvs, h1, by omega, h3⟩, R.hl, R.ne⟩
theorem nw (R : Wr H W N L w c) (h : H p = none) : p ∉ [W, N, L] := by
  obtain ⟨kvs, h1, _, _⟩ := R.hn
  intro hm
  simp only [List.not_mem_nil, List.mem_cons, or_false] at hm
  rcases hm with rfl | rfl | rfl
  · rw [R.hw] at h; cases h
  · rw [h1] at h; cases h
  · rw [R.hl] at h; cases h
theorem nt {xs : List V} (R : Wr H W N L w c) (h : H p = some (.tup xs)) : p ∉ [W, N, L] := by
  obtain ⟨kvs, h1, _, _⟩ := R.hn
  intro hm
  simp only [List.not_mem_nil, List.mem_cons, or_false] at hm
  rcases hm with rfl | rfl | rfl
  · rw [R.hw] at h; cases h
  · rw [h1] at h; cases h
  · rw [R.hl] at h; cases h
theorem place (R : Wr H W N L w 0) (i : Int) : Wr (upd H L (.lst (w.pl.map V.int ++ [.int i]))) W N L ⟨w.en, w.tot, w.pl ++ [i]⟩ 1 := by
  obtain ⟨kvs, h1, h2, h3⟩ := R.hn
  refine ⟨by rw [upd_ne R.wl]; exact R.hw, ⟨kvs, by rw [upd_ne R.nl]; exact h1, ?_, h3⟩, by rw [upd_same, List.map_append]; rfl, R.ne⟩
  show kvs.length + 1 ≤ (w.pl ++ [i]).length + 1
  rw [List.length_append]
  have : [i].length = 1 := rfl
  omega
theorem pay (R : Wr H W N L w c) (t : Int) : Wr (upd H W (.dK (wk N t L))) W N L ⟨w.en, t, w.pl⟩ c := by
  obtain ⟨kvs, h1, h2, h3⟩ := R.hn
  exact ⟨upd_same, ⟨kvs, by rw [upd_ne R.ne.symm]; exact h1, h2, h3⟩, by rw [upd_ne R.wl.symm]; exact R.hl, R.ne⟩
theorem set {kvs : List (Key × V)} (R : Wr H W N L w 1) (h : H N = some (.dK kvs)) (z : Str) (v : Int) : kvs.length < w.pl.length + 1 ∧ Wr (upd H N (.dK (putK kvs (.inr z) (.int v)))) W N L ⟨fun y => if y = z then v else w.en y, w.tot, w.pl⟩ 0 := by
  obtain ⟨kvs', h1, h2, h3⟩ := R.hn
  rw [h1] at h
  cases h
  refine ⟨by omega, by rw [upd_ne R.ne]; exact R.hw, ⟨_, upd_same, ?_, fun y => ?_⟩, by rw [upd_ne R.nl.symm]; exact R.hl, R.ne⟩
  · have : (putK kvs (.inr z) (.int v)).length ≤ kvs.length + 1 := by
      unfold putK
      split
      · rw [List.length_map]; omega
      · rw [List.length_append]; exact Nat.le_refl _
    show (putK kvs (.inr z) (.int v)).length + 0 ≤ w.pl.length + 1
    omega
  · rw [valV_put]
    by_cases e : y = z
    · rw [if_pos (by rw [e]), e]
      show V.int v = V.int (if z = z then v else w.en z)
      rw [if_pos rfl]
    · rw [if_neg (fun q => e (Sum.inr.inj q)), h3 y]
      show V.int (w.en y) = V.int (if y = z then v else w.en y)
      rw [if_neg e]
theorem gN (R : Wr H W N L w c) : DGet H W (.str "names") (some (.ref N)) := wk_n N w.tot L ▸ DGet.k (k := .inr "names") R.hw
theorem gT (R : Wr H W N L w c) : DGet H W (.str "total") (some (.int w.tot)) := wk_t N w.tot L ▸ DGet.k (k := .inr "total") R.hw
theorem gP (R : Wr H W N L w c) : DGet H W (.str "places") (some (.ref L)) := wk_p N w.tot L ▸ DGet.k (k := .inr "places") R.hw
theorem pT (R : Wr H W N L w c) (t : Int) : DPut H W (.str "total") (.int t) (upd H W (.dK (wk N t L))) := wk_put N w.tot t L ▸ DPut.k (k := .inr "total") R.hw (by show (3 : Nat) < sizeLine; decide)
theorem tk (R : Wr H W N L w c) (s : Sx [W, N, L] H H') : Tk H H' := fun b xs e => s b _ (R.nt e) e
end Wr
theorem itr_len {f : Wd → Wd × Bool} {c : Nat} (hf : ∀ w, (f w).1.pl.length ≤ w.pl.length + c) : ∀ (n : Nat) (w : Wd), (itr f n w).1.pl.length ≤ w.pl.length + n * c
  | 0, w => by show w.pl.length ≤ _; omega
  | n + 1, w => by
    unfold itr
    have h1 := hf w
    have h2 := itr_len hf n (f w).1
    have e : (n + 1) * c = n * c + c := Nat.succ_mul n c
    split
    · omega
    · omega
mutual
theorem St.run_len : ∀ (s : St) (p : Int) (w : Wd), (s.run p w).1.pl.length ≤ w.pl.length + s.wt
  | .set z e, p, w => by simp [St.run, St.wt]
  | .pay e, p, w => by simp [St.run, St.wt]
  | .stop, p, w => by simp [St.run, St.wt]
  | .ite t y n, p, w => by
    have h1 := Bk.run_len y (p + 1) ⟨w.en, w.tot, w.pl ++ [p]⟩
    have h2 := Bk.run_len n (p + 1 + y.sz) ⟨w.en, w.tot, w.pl ++ [p]⟩
    simp only [List.length_append, List.length_cons, List.length_nil] at h1 h2
    simp only [St.run, St.wt]
    split <;> omega
  | .rep k y, p, w => by
    have h1 := itr_len (Bk.run_len y (p + 1)) k.toNat ⟨w.en, w.tot, w.pl ++ [p]⟩
    simp only [List.length_append, List.length_cons, List.length_nil] at h1
    simp only [St.run, St.wt]
    omega
theorem Bk.run_len : ∀ (b : Bk) (p : Int) (w : Wd), (b.run p w).1.pl.length ≤ w.pl.length + b.wt
  | .nil, p, w => by simp [Bk.run, Bk.wt]
  | .cons s b, p, w => by
    have h1 := St.run_len s p w
    have h2 := Bk.run_len b (p + s.sz) (s.run p w).1
    simp only [Bk.run, Bk.wt]
    split <;> omega
end
theorem itr_one (f : Wd → Wd × Bool) (w : Wd) : itr f 1 w = f w := by
  show (if (f w).2 = true then f w else ((f w).1, false)) = f w
  by_cases h : (f w).2 = true
  · rw [if_pos h]
  · rw [if_neg h]
    have : (f w).2 = false := by simpa using h
    rw [← this]
theorem flat_rep (n : Nat) (x : V) : (List.replicate n [x]).flatten = List.replicate n x := by
  induction n with
  | zero => rfl
  | succ n ih => rw [List.replicate_succ, List.flatten_cons, ih, List.replicate_succ]; rfl
/-- a statement's word -/
def St.hd : St → Str
  | .set _ _ => "set"
  | .pay _ => "pay"
  | .stop => "stop"
  | .ite _ _ _ => "if"
  | .rep _ _ => "repeat"
theorem St.at_ {H : Hp} {x : V} {s : St} (t : Tp H x s.d) : ∃ a xs, x = .ref a ∧ H a = some (.tup (.str s.hd :: xs)) := by
  have h : ∃ ds, s.d = .tuple (.str s.hd :: ds) := by cases s <;> exact ⟨_, rfl⟩
  obtain ⟨ds, e⟩ := h
  rw [e] at t
  obtain ⟨a, xs, rfl, ha, hx⟩ := t.tuple
  cases hx with
  | cons h hs =>
    obtain rfl := tpS h
    exact ⟨a, _, rfl, ha⟩
theorem at0 (v : V) (xs : List V) : atI (v :: xs) 0 = some v := atI_nat (j := 0) rfl
theorem Sx.n0 {H : Hp} {p : Addr} {o : HO} (h : H p = none) : Sx [] H (upd H p o) := (Sx.refl _).new h
def spGo (ns : List Str) (d : Nat) : Sp := fun vs H Q _ => ∃ (W N L : Addr) (v : V) (b : Bk) (p : Int) (w : Wd), vs = [.ref W, v, .int p] ∧ Tp H v (.tuple b.ds) ∧ 1 ≤ d ∧ b.ok ns (d - 1) ∧ Wr H W N L w 0 ∧ b.sz < 16777216 ∧ w.pl.length + b.wt ≤ 1000000 ∧
  ∀ H', Sx [W, N, L] H H' → Wr H' W N L (b.run p w).1 0 → Q (.bl (b.run p w).2) H'
abbrev sSign : Stmt := topS 47
abbrev nSign : List Str := ["_law_program_here", "_law_number", "_law_names_here", "_law_total", "_law_todo", "_law_step", "_law_row_here", "_law_k"]
theorem scSign : FnScope nSign ["_law_program_here", "_law_number"] (defScope sSign) := ⟨rfl, rfl, rfl, by decide +kernel, rfl, by decide +kernel, by decide +kernel⟩
def spNumber : Sp := fun vs H Q _ => ∃ (a c : Addr) (cs : List Int) (k : Int), vs = [.ref a] ∧ Dk H a c cs k ∧ k + 4 ≤ KB ∧
  ∀ H' cs' k' i, Sx [a, c] H H' → Dk H' a c cs' k' → k ≤ k' → k' ≤ k + 4 → -1000000000000000000000000000000000000000000000000000000000000 ≤ i → i ≤ 1000000000000000000000000000000000000000000000000000000000000 → Q (.int i) H'
/-- where a run begins -/
def Wd.at (x : Int) : Wd := ⟨fun y => if y = "n" then x else 0, 0, []⟩
/-- what a run tells -/
def Bk.told (b : Bk) (x : Int) : PyData := .tuple [.int (b.run 0 (Wd.at x)).1.tot, .tuple ((b.run 0 (Wd.at x)).1.pl.map .int)]
def spRun (ns : List Str) : Sp := fun vs H Q _ => ∃ (v : V) (b : Bk) (x : Int), vs = [v, .int x] ∧ Tp H v (.tuple b.ds) ∧ b.ok ns 4 ∧ b.sz < 16777216 ∧ b.wt ≤ 1000000 ∧ ∀ H' r, Sx [] H H' → Tp H' r (b.told x) → Q r H'
def sgn (t : Int) : Int := if t < 0 then -1 else if 0 < t then 1 else 0
def spSign : Sp := fun vs H Q _ => ∃ t : Int, vs = [.int t] ∧ Q (.int (sgn t)) H
theorem putK_new {kvs : List (Key × V)} {k : Key} {v : V} (h : ∀ kv ∈ kvs, ¬ kv.1 = k) : putK kvs k v = kvs ++ [(k, v)] := by
  rw [putK, if_neg]
  intro z
  rw [List.any_eq_true] at z
  obtain ⟨kv, hm, hd⟩ := z
  exact h kv hm (of_decide_eq_true hd)
theorem wk_made (N L : Addr) : mergeK [] [((.inr "names" : Key), V.ref N), (.inr "total", .int 0), (.inr "places", .ref L)] = wk N 0 L := by
  show putK (putK (putK [] (.inr "names" : Key) (V.ref N)) (.inr "total" : Key) (.int 0)) (.inr "places" : Key) (.ref L) = _
  rw [putK_new (kvs := []) (fun kv h => by cases h), putK_new (kvs := [] ++ _) (fun kv h => by rw [List.mem_singleton.mp h]; exact k_nt), putK_new (fun kv h => ?_)]
  · rfl
  · simp only [List.nil_append, List.cons_append, List.mem_cons, List.not_mem_nil, or_false] at h
    rcases h with rfl | rfl
    · exact k_np
    · exact k_tp
theorem Dk.none_ne {H : Hp} {a p : Addr} {o : HO} (h : H a = some o) (n : H p = none) : p ≠ a := fun e => by rw [e, h] at n; cases n
theorem TpAll.ints {H : Hp} : ∀ l : List Int, TpAll H (l.map V.int) (l.map PyData.int)
  | [] => .nil
  | i :: l => .cons (.int i) (TpAll.ints l)
section
variable {w : World} {P : Program} {K : PySem.W.Frag} {mg : Str → Option Value} {base : Heap}
end
/-! ### data that repr shows -/
structure Shw (k n : Nat) (d : PyData) : Prop where
  s : d.showable = true
  h : d.hasDict = false
  l : d.leavesShort 1921 = true
  dp : d.depth ≤ k
  w : d.weight ≤ n
structure ShwA (k n : Nat) (ds : List PyData) : Prop where
  s : PyData.showableAll ds = true
  h : PyData.hasDictAll ds = false
  l : PyData.leavesShortAll 1921 ds = true
  dp : PyData.depthAll ds ≤ k
  w : PyData.weightAll ds ≤ n
namespace Shw
theorem mono {k n k' n' : Nat} {d : PyData} (h : Shw k n d) (hk : k ≤ k') (hn : n ≤ n') : Shw k' n' d := ⟨h.s, h.h, h.l, Nat.le_trans h.dp hk, Nat.le_trans h.w hn⟩
theorem int {i : Int} {n : Nat} (h : i.natAbs < 2 ^ n) (h0 : 0 < n) (hn : n ≤ 1920) (k : Nat) : Shw k n (.int i) := by
  have l := PySem.Flt.log2_lt_of h0 h
  have l' : i.natAbs.log2 < 1920 := by omega
  refine ⟨by simp only [PyData.showable, decide_eq_true_eq]; exact l', by simp only [PyData.hasDict], ?_, by simp only [PyData.depth]; omega, ?_⟩
  · simp only [PyData.leavesShort, decide_eq_true_eq, PyData.shown]
    exact decide_eq_true (int_text_len_1921 l')
  · simp only [PyData.weight]
    split <;> omega
theorem str {z : Str} (h : PyData.strOk z = true) (k n : Nat) (hn : z.length ≤ n) : Shw k n (.str z) := by
  refine ⟨by simp only [PyData.showable], by simp only [PyData.hasDict], ?_, by simp only [PyData.depth]; omega, by simp only [PyData.weight]; exact hn⟩
  simp only [PyData.leavesShort]
  rw [List.all_eq_true]
  intro c hc
  unfold PyData.strOk at h
  rw [Array.all_eq_true'] at h
  have := of_decide_eq_true (h c (Array.mem_toList_iff.mp hc))
  have e : (16 : Nat) ^ 8 = 4294967296 := rfl
  refine decide_eq_true ?_; omega
theorem tup {k n : Nat} {ds : List PyData} (h : ShwA k n ds) : Shw (k + 1) n (.tuple ds) :=
  ⟨by simp only [PyData.showable]; exact h.s, by simp only [PyData.hasDict]; exact h.h, by simp only [PyData.leavesShort]; exact h.l, by simp only [PyData.depth]; have := h.dp; omega, by simp only [PyData.weight]; exact h.w⟩
theorem lst {k n : Nat} {ds : List PyData} (h : ShwA k n ds) : Shw (k + 1) n (.list ds) :=
  ⟨by simp only [PyData.showable]; exact h.s, by simp only [PyData.hasDict]; exact h.h, by simp only [PyData.leavesShort]; exact h.l, by simp only [PyData.depth]; have := h.dp; omega, by simp only [PyData.weight]; exact h.w⟩
/-- what repr asks -/
theorem len {k n : Nat} {d : PyData} (h : Shw k n d) (hn : n ≤ 8000) : d.shown.length ≤ 16777216 := by
  have := PyData.shown_le 1921 (by decide) d h.l
  have := h.w
  omega
end Shw
namespace ShwA
theorem nil (k n : Nat) : ShwA k n [] := ⟨by simp only [PyData.showableAll], by simp only [PyData.hasDictAll], by simp only [PyData.leavesShortAll], by simp only [PyData.depthAll]; omega, by simp only [PyData.weightAll]; omega⟩
theorem cons {k n m : Nat} {d : PyData} {ds : List PyData} (h : Shw k n d) (hs : ShwA k m ds) : ShwA k (n + 1 + m) (d :: ds) := by
  refine ⟨?_, ?_, ?_, ?_, ?_⟩
  · simp only [PyData.showableAll, h.s, hs.s, Bool.and_self]
  · simp only [PyData.hasDictAll, h.h, hs.h, Bool.or_self]
  · simp only [PyData.leavesShortAll, h.l, hs.l, Bool.and_self]
  · simp only [PyData.depthAll]; have := h.dp; have := hs.dp; omega
  · simp only [PyData.weightAll]; have := h.w; have := hs.w; omega
theorem mono {k n k' n' : Nat} {d : List PyData} (h : ShwA k n d) (hk : k ≤ k') (hn : n ≤ n') : ShwA k' n' d := ⟨h.s, h.h, h.l, Nat.le_trans h.dp hk, Nat.le_trans h.w hn⟩
theorem allInt {l : List Int} {n : Nat} (h0 : 0 < n) (hn : n ≤ 1920) (h : ∀ i ∈ l, i.natAbs < 2 ^ n) (k : Nat) : ShwA k ((n + 1) * l.length) (l.map PyData.int) := by
  induction l with
  | nil => exact .nil _ _
  | cons i l ih =>
    refine (ShwA.cons (Shw.int (h i (by simp)) h0 hn k) (ih fun j hj => h j (List.mem_cons_of_mem _ hj))).mono (Nat.le_refl _) ?_
    rw [List.length_cons, Nat.mul_succ]
    omega
end ShwA
theorem sm {i : Int} (h1 : -120 ≤ i) (h2 : i ≤ 120) (k : Nat) : Shw k 7 (.int i) := by
  have e : (2 : Nat) ^ 7 = 128 := by decide
  exact Shw.int (by omega) (by decide) (by decide) k
def wE : Nat → Nat
  | 0 => 0
  | n + 1 => 2 * wE n + 16
theorem Ex.shw {ns : List Str} (hn : ∀ z ∈ ns, NmOk z) : ∀ (e : Ex) (n : Nat), e.ok ns n → Shw n (wE n) e.d
  | .int i, n, ⟨h1, h2, h3⟩ => by
    obtain ⟨m, rfl⟩ : ∃ m : Nat, n = m + 1 := ⟨n - 1, by omega⟩
    exact (sm (by omega) (by omega) _).mono (Nat.le_refl _) (by simp only [wE]; omega)
  | .name z, n, ⟨h1, h2⟩ => by
    obtain ⟨m, rfl⟩ : ∃ m : Nat, n = m + 1 := ⟨n - 1, by omega⟩
    exact Shw.str (hn z h2).ok _ _ (by have := (hn z h2).hi; simp only [wE]; omega)
  | .plus x y, n, ⟨h1, h2, h3⟩ => by
    obtain ⟨m, rfl⟩ : ∃ m : Nat, n = m + 1 := ⟨n - 1, by omega⟩
    exact (Shw.tup (.cons (Shw.str (n := 4) (by decide +kernel) m (by decide)) (.cons (Ex.shw hn x m h2) (.cons (Ex.shw hn y m h3) (.nil m 0))))).mono (Nat.le_refl _) (by simp only [wE]; omega)
  | .minus x y, n, ⟨h1, h2, h3⟩ => by
    obtain ⟨m, rfl⟩ : ∃ m : Nat, n = m + 1 := ⟨n - 1, by omega⟩
    exact (Shw.tup (.cons (Shw.str (n := 5) (by decide +kernel) m (by decide)) (.cons (Ex.shw hn x m h2) (.cons (Ex.shw hn y m h3) (.nil m 0))))).mono (Nat.le_refl _) (by simp only [wE]; omega)
  | .times f x, n, ⟨h1, h2, h3, h4⟩ => by
    obtain ⟨m, rfl⟩ : ∃ m : Nat, n = m + 1 := ⟨n - 1, by omega⟩
    exact (Shw.tup (.cons (Shw.str (n := 5) (by decide +kernel) m (by decide)) (.cons (sm (by omega) (by omega) m) (.cons (Ex.shw hn x m h4) (.nil m 0))))).mono (Nat.le_refl _) (by simp only [wE]; omega)
theorem Ts.shw {ns : List Str} (hn : ∀ z ∈ ns, NmOk z) : ∀ (t : Ts) (n : Nat), t.ok ns n → Shw (n + 4) (5 * n + 240) t.d
  | .rest x b r, n, ⟨h1, h2, h3, h4, h5⟩ => (Shw.tup (.cons (Shw.str (n := 4) (by decide +kernel) 3 (by decide)) (.cons (Ex.shw hn x 3 h1) (.cons (sm (by omega) (by omega) 3) (.cons (sm (by omega) (by omega) 3) (.nil 3 0)))))).mono (by omega) (by simp only [wE]; omega)
  | .less x y, n, ⟨h1, h2⟩ => (Shw.tup (.cons (Shw.str (n := 4) (by decide +kernel) 3 (by decide)) (.cons (Ex.shw hn x 3 h1) (.cons (Ex.shw hn y 3 h2) (.nil 3 0))))).mono (by omega) (by simp only [wE]; omega)
  | .not t, n, ⟨h1, h2⟩ => by
    obtain ⟨m, rfl⟩ : ∃ m : Nat, n = m + 1 := ⟨n - 1, by omega⟩
    exact (Shw.tup (.cons (Shw.str (n := 3) (by decide +kernel) _ (by decide)) (.cons (Ts.shw hn t m h2) (.nil _ 0)))).mono (by omega) (by omega)
mutual
theorem St.shw {ns : List Str} (hn : ∀ z ∈ ns, NmOk z) : ∀ (s : St) (d : Nat), s.ok ns d → Shw (2 * d + 9) (300 * s.sz - 1) s.d
  | .set z e, d, ⟨h1, h2⟩ => (Shw.tup (.cons (Shw.str (n := 3) (by decide +kernel) 3 (by decide)) (.cons (Shw.str (n := 8) (hn z h1).ok 3 (hn z h1).hi) (.cons (Ex.shw hn e 3 h2) (.nil 3 0))))).mono (by omega) (by simp only [wE, St.sz]; omega)
  | .pay e, d, h => (Shw.tup (.cons (Shw.str (n := 3) (by decide +kernel) 3 (by decide)) (.cons (Ex.shw hn e 3 h) (.nil 3 0)))).mono (by omega) (by simp only [wE, St.sz]; omega)
  | .stop, d, h => (Shw.tup (.cons (Shw.str (n := 4) (by decide +kernel) 3 (by decide)) (.nil 3 0))).mono (by omega) (by simp only [St.sz]; omega)
  | .ite t y n, d, ⟨h1, h2, h3⟩ => (Shw.tup (.cons (Shw.str (n := 2) (by decide +kernel) (2 * d + 8) (by decide)) (.cons ((Ts.shw hn t 2 h1).mono (by omega) (Nat.le_refl _)) (.cons ((Shw.tup (Bk.shw hn y d h2)).mono (by omega) (Nat.le_refl _)) (.cons ((Shw.tup (Bk.shw hn n d h3)).mono (by omega) (Nat.le_refl _)) (.nil _ 0)))))).mono (by omega) (by simp only [St.sz]; omega)
  | .rep k y, d, ⟨h1, h2, h3⟩ => (Shw.tup (.cons (Shw.str (n := 6) (by decide +kernel) (2 * d + 8) (by decide)) (.cons (sm (by omega) (by omega) _) (.cons ((Shw.tup (Bk.shw hn y d h3)).mono (by omega) (Nat.le_refl _)) (.nil _ 0))))).mono (by omega) (by simp only [St.sz]; omega)
theorem Bk.shw {ns : List Str} (hn : ∀ z ∈ ns, NmOk z) : ∀ (b : Bk) (d : Nat), b.ok ns d → ShwA (2 * d + 7) (300 * b.sz) b.ds
  | .nil, d, _ => .nil _ _
  | .cons s b, d, ⟨h1, h2, h3⟩ => by
    have p : 1 ≤ s.sz := by rw [s.sz_blks]; omega
    exact (ShwA.cons ((St.shw hn s (d - 1) h2).mono (by omega) (Nat.le_refl _)) (Bk.shw hn b d h3)).mono (Nat.le_refl _) (by simp only [Bk.sz]; omega)
end
/-! ### how far a run gets -/
structure Bd (B : Int) (w : Wd) : Prop where
  h : 99 ≤ B
  en : ∀ z, -B ≤ w.en z ∧ w.en z ≤ B
  t1 : -B ≤ w.tot
  t2 : w.tot ≤ B
theorem Bd.mono {B C : Int} {w : Wd} (h : Bd B w) (l : B ≤ C) : Bd C w := ⟨Int.le_trans h.h l, fun z => by have := h.en z; omega, by have := h.t1; omega, by have := h.t2; omega⟩
theorem Bd.pl {B : Int} {e : Str → Int} {t : Int} {l l' : List Int} (h : Bd B ⟨e, t, l⟩) : Bd B ⟨e, t, l'⟩ := ⟨h.h, h.en, h.t1, h.t2⟩
theorem p128 (n : Nat) : (1 : Int) ≤ 128 ^ n := Int.pow_pos (by decide)
theorem p128_le {B : Int} (h : 0 ≤ B) {m n : Nat} (l : m ≤ n) : (128 : Int) ^ m * B ≤ 128 ^ n * B := by
  refine Int.mul_le_mul_of_nonneg_right ?_ h
  obtain ⟨k, rfl⟩ : ∃ k, n = m + k := ⟨n - m, by omega⟩
  rw [Int.pow_add]
  have a := p128 m
  have b := p128 k
  have := Int.mul_le_mul_of_nonneg_left b (show (0 : Int) ≤ 128 ^ m by omega)
  omega
theorem Bd.up {B : Int} {w : Wd} {m n : Nat} (h : Bd (128 ^ m * B) w) (hB : 0 ≤ B) (l : m ≤ n) : Bd (128 ^ n * B) w := h.mono (p128_le hB l)
theorem ev81 {ns : List Str} {ρ : Str → Int} {B : Int} (hB : 99 ≤ B) (h : ∀ z, -B ≤ ρ z ∧ ρ z ≤ B) {e : Ex} (ho : e.ok ns 3) : -(81 * B) ≤ e.ev ρ ∧ e.ev ρ ≤ 81 * B := by
  have := Ex.ev_le hB h e 3 ho
  have e9 : (9 : Int) ^ 3 = 729 := by decide
  rw [e9] at this
  omega
theorem itr_bd {f : Wd → Wd × Bool} {c : Nat} (hf : ∀ w B, Bd B w → Bd (128 ^ c * B) (f w).1) : ∀ (n : Nat) (w : Wd) (B : Int), Bd B w → Bd (128 ^ (n * c) * B) (itr f n w).1
  | 0, w, B, h => by
    rw [Nat.zero_mul, Int.pow_zero, Int.one_mul]
    exact h
  | n + 1, w, B, h => by
    have h1 := hf w B h
    have h2 := itr_bd hf n (f w).1 _ h1
    have hB : 0 ≤ B := by have := h.h; omega
    rw [← Int.mul_assoc, ← Int.pow_add, ← Nat.succ_mul] at h2
    unfold itr
    split
    · exact h1.up hB (by rw [Nat.succ_mul]; omega)
    · exact h2
mutual
theorem St.run_bd {ns : List Str} : ∀ (s : St) (d : Nat) (p : Int) (w : Wd) (B : Int), s.ok ns d → Bd B w → Bd (128 ^ s.wt * B) (s.run p w).1
  | .set z e, d, p, w, B, ⟨h1, h2⟩, h => by
    have v := ev81 h.h h.en h2
    have hB := h.h
    rw [show St.wt (.set z e) = 1 from rfl, Int.pow_one]
    refine ⟨by omega, fun y => ?_, by have := h.t1; show -(128 * B) ≤ w.tot; omega, by have := h.t2; show w.tot ≤ 128 * B; omega⟩
    show -(128 * B) ≤ (if y = z then e.ev w.en else w.en y) ∧ (if y = z then e.ev w.en else w.en y) ≤ 128 * B
    have := h.en y
    split <;> omega
  | .pay e, d, p, w, B, h2, h => by
    have v := ev81 h.h h.en h2
    have hB := h.h
    rw [show St.wt (.pay e) = 1 from rfl, Int.pow_one]
    refine ⟨by omega, fun y => by have := h.en y; show -(128 * B) ≤ w.en y ∧ w.en y ≤ 128 * B; omega, ?_, ?_⟩
    · have := h.t1; show -(128 * B) ≤ w.tot + e.ev w.en; omega
    · have := h.t2; show w.tot + e.ev w.en ≤ 128 * B; omega
  | .stop, d, p, w, B, _, h => by
    have hB := h.h
    rw [show St.wt .stop = 1 from rfl, Int.pow_one]
    exact (Bd.pl h : Bd B ⟨w.en, w.tot, w.pl ++ [p]⟩).mono (by omega)
  | .ite t y n, d, p, w, B, ⟨h1, h2, h3⟩, h => by
    have hB := h.h
    have h' : Bd B ⟨w.en, w.tot, w.pl ++ [p]⟩ := Bd.pl h
    simp only [St.run, St.wt]
    split
    · exact (Bk.run_bd y d _ _ B h2 h').up (by omega) (by omega)
    · exact (Bk.run_bd n d _ _ B h3 h').up (by omega) (by omega)
  | .rep k y, d, p, w, B, ⟨h1, h2, h3⟩, h => by
    have hB := h.h
    have h' : Bd B ⟨w.en, w.tot, w.pl ++ [p]⟩ := Bd.pl h
    simp only [St.run, St.wt]
    exact (itr_bd (fun w B h => Bk.run_bd y d (p + 1) w B h3 h) k.toNat _ B h').up (by omega) (by omega)
theorem Bk.run_bd {ns : List Str} : ∀ (b : Bk) (d : Nat) (p : Int) (w : Wd) (B : Int), b.ok ns d → Bd B w → Bd (128 ^ b.wt * B) (b.run p w).1
  | .nil, d, p, w, B, _, h => by
    rw [show Bk.wt .nil = 0 from rfl, Int.pow_zero, Int.one_mul]
    exact h
  | .cons s b, d, p, w, B, ⟨h1, h2, h3⟩, h => by
    have hB : 0 ≤ B := by have := h.h; omega
    have a := St.run_bd s (d - 1) p w B h2 h
    have c := Bk.run_bd b d (p + s.sz) (s.run p w).1 _ h3 a
    rw [← Int.mul_assoc, ← Int.pow_add, Nat.add_comm] at c
    simp only [Bk.run, Bk.wt]
    split
    · exact a.up hB (by omega)
    · exact c
end
/-- places are places -/
def Pl (lo hi : Int) (l l' : List Int) : Prop := ∀ x ∈ l', x ∈ l ∨ (lo ≤ x ∧ x < hi)
theorem Pl.trans {lo hi : Int} {l l1 l2 : List Int} (a : Pl lo hi l l1) (b : Pl lo hi l1 l2) : Pl lo hi l l2 := fun x hx => (b x hx).elim (a x) .inr
theorem Pl.mono {lo hi lo' hi' : Int} {l l1 : List Int} (a : Pl lo hi l l1) (h1 : lo' ≤ lo) (h2 : hi ≤ hi') : Pl lo' hi' l l1 := fun x hx => (a x hx).imp id (fun z => by omega)
theorem Pl.refl (lo hi : Int) (l : List Int) : Pl lo hi l l := fun _ hx => .inl hx
theorem Pl.one {lo hi p : Int} (l : List Int) (h1 : lo ≤ p) (h2 : p < hi) : Pl lo hi l (l ++ [p]) := fun x hx => by
  rcases List.mem_append.1 hx with z | z
  · exact .inl z
  · rw [List.mem_singleton.mp z]; exact .inr ⟨h1, h2⟩
theorem itr_pl {f : Wd → Wd × Bool} {lo hi : Int} (hf : ∀ w, Pl lo hi w.pl (f w).1.pl) : ∀ (n : Nat) (w : Wd), Pl lo hi w.pl (itr f n w).1.pl
  | 0, w => .refl _ _ _
  | n + 1, w => by
    unfold itr
    split
    · exact hf w
    · exact (hf w).trans (itr_pl hf n _)
mutual
theorem St.run_pl : ∀ (s : St) (p : Int) (w : Wd), Pl p (p + s.sz) w.pl (s.run p w).1.pl
  | .set z e, p, w => .one _ (Int.le_refl _) (by simp [St.sz]; omega)
  | .pay e, p, w => .one _ (Int.le_refl _) (by simp [St.sz]; omega)
  | .stop, p, w => .one _ (Int.le_refl _) (by simp [St.sz]; omega)
  | .ite t y n, p, w => by
    simp only [St.run, St.sz]
    have z : Pl p (p + ((1 + y.sz + n.sz : Nat) : Int)) w.pl (w.pl ++ [p]) := .one _ (Int.le_refl _) (by omega)
    split
    · exact z.trans ((Bk.run_pl y (p + 1) ⟨w.en, w.tot, w.pl ++ [p]⟩).mono (by omega) (by omega))
    · exact z.trans ((Bk.run_pl n (p + 1 + y.sz) ⟨w.en, w.tot, w.pl ++ [p]⟩).mono (by omega) (by omega))
  | .rep k y, p, w => by
    simp only [St.run, St.sz]
    have z : Pl p (p + ((1 + y.sz : Nat) : Int)) w.pl (w.pl ++ [p]) := .one _ (Int.le_refl _) (by omega)
    exact z.trans ((itr_pl (Bk.run_pl y (p + 1)) k.toNat ⟨w.en, w.tot, w.pl ++ [p]⟩).mono (by omega) (by omega))
theorem Bk.run_pl : ∀ (b : Bk) (p : Int) (w : Wd), Pl p (p + b.sz) w.pl (b.run p w).1.pl
  | .nil, p, w => .refl _ _ _
  | .cons s b, p, w => by
    simp only [Bk.run, Bk.sz]
    have a := St.run_pl s p w
    have c := Bk.run_pl b (p + s.sz) (s.run p w).1
    split
    · exact a.mono (Int.le_refl _) (by omega)
    · exact (a.mono (Int.le_refl _) (by omega)).trans (c.mono (by omega) (by omega))
end
set_option exponentiation.threshold 2000 in
/-- what a run tells can be shown -/
theorem Bk.told_shw {ns : List Str} {b : Bk} {d : Nat} {x : Int} (ho : b.ok ns d) (hw : b.wt ≤ 30) (hs : b.sz ≤ 24) (h1 : -1000000000000000000000000000000000000000000000000000000000000 ≤ x) (h2 : x ≤ 1000000000000000000000000000000000000000000000000000000000000) : Shw 2 800 (b.told x) := by
  have h0 : Bd 1000000000000000000000000000000000000000000000000000000000000 (Wd.at x) := ⟨by decide, fun z => by
    show _ ≤ (if z = "n" then x else 0) ∧ (if z = "n" then x else 0) ≤ _
    split <;> omega, by show _ ≤ (0 : Int); decide, by show (0 : Int) ≤ _; decide⟩
  have h := (Bk.run_bd b d 0 _ _ ho h0).up (by decide) hw
  have e : (128 : Int) ^ 30 * 1000000000000000000000000000000000000000000000000000000000000 = 1645504557321206042154969182557350504982735865633579863348609024000000000000000000000000000000000000000000000000000000000000 := by decide
  rw [e] at h
  have p1 := Bk.run_pl b 0 (Wd.at x)
  have p2 := Bk.run_len b 0 (Wd.at x)
  have p3 : (b.run 0 (Wd.at x)).1.pl.length ≤ 30 := by
    have : (Wd.at x).pl.length = 0 := rfl
    omega
  have t1 := h.t1
  have t2 := h.t2
  have e2 : (2 : Nat) ^ 450 > 1645504557321206042154969182557350504982735865633579863348609024000000000000000000000000000000000000000000000000000000000000 := by decide
  have z : ShwA 0 ((7 + 1) * (b.run 0 (Wd.at x)).1.pl.length) ((b.run 0 (Wd.at x)).1.pl.map PyData.int) := .allInt (by decide) (by decide) (fun i hi => by
    have e7 : (2 : Nat) ^ 7 = 128 := by decide
    rcases p1 i hi with z | z
    · cases z
    · omega) 0
  exact (Shw.tup (.cons (Shw.int (n := 450) (by omega) (by decide) (by decide) 1) (.cons (Shw.tup z) (.nil 1 0)))).mono (Nat.le_refl _) (by omega)
/-! ### t[::-1] of a tuple -/
theorem places_back (n : Nat) : Builtin.Slice.slicePlaces ((n : Int) - 1) (-1) (-1) = n := by
  unfold Builtin.Slice.slicePlaces;
  rw [if_neg (by omega)]
  by_cases h : n = 0
  · subst h; rfl
  · rw [if_pos (by omega), show ((n : Int) - 1 - -1 - 1) = (n : Int) - 1 by omega, show (- -1 : Int) = 1 from rfl, Int.ediv_one]
    omega
theorem pick_back (xs : Array Value) : ((List.range xs.size).filterMap fun (m : Nat) => xs[((xs.size : Int) - 1 + (m : Int) * -1).toNat]?).toArray = xs.toList.reverse.toArray := by
  congr 1
  apply List.ext_getElem?
  intro i
  have hlen : ∀ l : List Nat, (∀ m ∈ l, m < xs.size) → (l.filterMap fun (m : Nat) => xs[((xs.size : Int) - 1 + (m : Int) * -1).toNat]?) = l.map fun m => xs.toList.reverse.getD m .none := by
    intro l
    induction l with
    | nil => intro _; rfl
    | cons m l ih =>
      intro h
      have hm := h m (by simp)
      have e : ((xs.size : Int) - 1 + (m : Int) * -1).toNat = xs.size - 1 - m := by omega
      have e2 : xs[xs.size - 1 - m]? = some (xs.toList.reverse.getD m .none) := by
        rw [List.getD_eq_getElem?_getD, List.getElem?_reverse (by simpa using hm), Array.length_toList]
        rw [Array.getElem?_toList]
        rw [Array.getElem?_eq_getElem (by omega)]
        rfl
      rw [List.filterMap_cons, e, e2, List.map_cons, ih fun k hk => h k (List.mem_cons_of_mem _ hk)]
  rw [hlen _ fun m hm => List.mem_range.mp hm, List.getElem?_map]
  by_cases hi : i < xs.size
  · rw [List.getElem?_range hi, Option.map_some, List.getD_eq_getElem?_getD, List.getElem?_eq_getElem (by simpa using hi)]
    rfl
  · rw [List.getElem?_eq_none (by simp; omega), List.getElem?_eq_none (by simp; omega)]
    rfl
theorem getItem_tuple_back {P : Program} {w : World} {A : Around} {E : Value → Shared → Prop} {s : Shared} {t sl : Addr} {items : Array Value} {vl vu vs : Value} {Q : Value → Shared → Prop} (ht : IsTup s.heap t items) (hs : s.heap.IsSliceOf sl vl vu vs) (pl : IsPart vl none) (pu : IsPart vu none) (ps : IsPart vs (some (-1)))
    (h : Q (.ref s.heap.objs.size) { s with heap := s.heap.push { cls := .type "tuple", data := .seq items.toList.reverse.toArray } }) (hz : items.size ≤ sizeLine) : wpAny (model P w) A (getItem (.ref t) (.ref sl)) Q E s := by
  have hfit : sizeOk (.seq items.toList.reverse.toArray) := by
    show items.toList.reverse.toArray.size ≤ sizeLine
    simpa using hz
  rcases id hs with ⟨os, hos, hcs, hds⟩
  have isSl : s.TypeIs (.ref sl) "slice" := ⟨os, hos, hcs⟩
  unfold getItem; try with_reducible refine wpAny_holding ?_
  try (refine wpAny_bind (wpAny_pure ?_))
  refine wpAny_bind (wpAny_sequenceKey ht.typeIs (by decide) (wpAny_bind (wpAny_callSpecial?_slot (name := Str.ofString "__getitem__") ht.typeIs PyProof.Rows.slot_tuple_getitem (wpAny_call_entry PyProof.Rows.slot_tuple_getitem ht.typeIs entry_tuple_getitem ?_ (args_tuple_getitem _ _)))))
  show wpAny _ _ (Builtin.Tuple.tupleItemsOf (.ref t) >>= fun xs => _) _ _ s
  refine wpAny_bind (tupleItemsOf_ ht (wpAny_bind (wpAny_typeOf isSl ?_))); rw [if_pos (by decide)]
  refine wpAny_bind ?_; unfold Builtin.Slice.sliceApplied Builtin.Slice.sliceFields
  refine wpAny_bind (wpAny_bind (wpAny_field hos hds (x := vl) rfl (wpAny_bind (wpAny_field hos hds (x := vu) rfl (wpAny_bind (wpAny_field hos hds (x := vs) rfl (wpAny_pure ?_))))))); refine wpAny_bind (HT.slicePart_ ps ?_)
  show wpAny _ _ (if ((-1 : Int) == 0) = true then _ else _) _ _ s; rw [if_neg (by decide)]
  refine wpAny_bind (HT.slicePart_ pl (wpAny_bind (HT.slicePart_ pu (wpAny_bind (wpAny_pure (wpAny_pure ?_))))))
  show wpAny _ _ (if (((items.size : Int) - 1) == 0 && (-1 : Int) == 1 && (Builtin.Slice.slicePlaces ((items.size : Int) - 1) (-1) (-1)) == items.size) = true then _ else _) _ _ s
  rw [if_neg (by rw [show ((-1 : Int) == 1) = false from rfl, Bool.and_false, Bool.false_and]; exact Bool.false_ne_true)]
  show wpAny _ _ (Builtin.Tuple.tupleExact ((List.range (Builtin.Slice.slicePlaces ((items.size : Int) - 1) (-1) (-1))).filterMap fun (k : Nat) => items[((items.size : Int) - 1 + (k : Int) * -1).toNat]?).toArray >>= _) _ _ s
  rw [places_back, pick_back]
  exact wpAny_bind (m := Builtin.Tuple.tupleExact _) (wpAny_newObj_type (wpAny_pure ⟨_, rfl, wpAny_pure h⟩) hfit)
section
variable {X : Cx}
/-- t[::-1]: a new tuple -/
def tRevT (K : PySem.W.Frag) (te : TE) : TE := fun σ H Q => te σ H fun x H1 => ∃ a xs, x = .ref a ∧ SqT K H1 a xs ∧ ∀ p, H1 p = none → Q (.ref p) (upd H1 p (.tup xs.reverse))
theorem pe_revT {e : Expr} {te : TE} {k : Nat} {p1 p2 p3 pos : Pos} (he : PE X e te) : PE X (.Subscript e (.Slice none none (some (.UnaryOp .USub (.Constant (.int 1) k p1) p2)) p3) pos) (tRevT X.K te) := by
  refine ⟨fun pins s σ H Q I h => Subscript_ (thn (he.run pins s σ H _ I h) fun v s1 ⟨x, H1, I1, r1, a, xs, ex, hx, q⟩ => ?_)⟩
  subst ex; cases r1
  have hst : PO X (some (.UnaryOp .USub (.Constant (.int 1) k p1) p2)) (tPart (tUn (rU fun i => .int (-i)) (tC (.int 1)))) := po_some (pe_un un_neg pe_int); refine wpAny_Slice (thn (po_none.run pins s1 σ H1 (fun o H2 => o = none ∧ H2 = H1) I1 ⟨rfl, rfl⟩) fun vl s2 ⟨l, H2, I2, pl, el, e2⟩ => ?_)
  subst el e2; refine thn (po_none.run pins s2 σ H2 (fun o H3 => o = none ∧ H3 = H2) I2 ⟨rfl, rfl⟩) fun vu s3 ⟨u, H3, I3, pu, eu, e3⟩ => ?_
  subst eu e3; refine thn (hst.run pins s3 σ H3 (fun o H4 => o = some (-1) ∧ H4 = H3) I3 ⟨1, rfl, -1, rfl, rfl, rfl⟩) fun vs s4 ⟨o, H4, I4, ps, eo, e4⟩ => ?_
  subst eo e4
  have I5 : Inv X pins σ H4 { s4 with heap := s4.heap.push { cls := .type "slice", data := .fields #[vl, vu, vs] } } := I4.kept (t' := s4.toks) fun b ob z => Heap.get?_push_of_some _ z
  obtain ⟨its, r, ht, hz⟩ := I5.tuple hx
  have hlen := r.length
  show wpAny (model X.prog X.w) X.A (subscriptTail e (.Slice none none (some (.UnaryOp .USub (.Constant (.int 1) k p1) p2)) p3) (.ref a) (.ref s4.heap.objs.size)) (EP X pins σ Q) X.xe { s4 with heap := s4.heap.push ⟨.type "slice", none, .fields #[vl, vu, vs], #[]⟩ }
  refine tail_any (ops := [.ref a, .ref s4.heap.objs.size]) ht.typeIs PyProof.Rows.slot_tuple_getitem.lookup ?_ (by with_unfolding_all rfl)
  refine getItem_tuple_back ht (Heap.IsSliceOf.new _ vl vu vs) pl pu ps ?_ (by rw [List.size_toArray]; omega)
  refine ⟨.ref _, _, I5.laid (t' := s4.toks) (o := .tup xs.reverse) (fun b ob z => Heap.get?_push_of_some _ z) (Nat.le_refl _) ?_, rfl, q _ (I5.hok.fresh (Nat.le_refl _))⟩
  exact ⟨by rw [List.length_reverse]; exact hz, _, by simpa using r.reverse, IsTup.new _ _⟩
end
abbrev sPIsInteger : Stmt := topS 1
abbrev nPIsInteger : List Str := ["value"]
theorem scPIsInteger : FnScope nPIsInteger ["value"] (defScope sPIsInteger) := ⟨rfl, rfl, rfl, by decide +kernel, rfl, by decide +kernel, by decide +kernel⟩
abbrev sPBlocksOf : Stmt := topS 3
abbrev nPBlocksOf : List Str := ["statement"]
theorem scPBlocksOf : FnScope nPBlocksOf ["statement"] (defScope sPBlocksOf) := ⟨rfl, rfl, rfl, by decide +kernel, rfl, by decide +kernel, by decide +kernel⟩
abbrev sPEachStatement : Stmt := topS 5
abbrev nPEachStatement : List Str := ["program", "waiting", "place", "depth", "statement", "block", "inner"]
theorem scPEachStatement : GScope nPEachStatement ["program"] (defScope sPEachStatement) := ⟨rfl, rfl, rfl, by decide +kernel, rfl, by decide +kernel, by decide +kernel⟩
/-! ### the program's walk over statements -/
/-- a row that is handed out: place, depth, statement -/
abbrev Rw := Int × Int × St
def rwD (r : Rw) : PyData := .tuple [.int r.1, .int r.2.1, r.2.2.d]
def prD (x : Int × St) : PyData := .tuple [.int x.1, x.2.d]
mutual
def St.rws : St → Int → Int → List Rw
  | .set z e, d, p => [(p, d, .set z e)]
  | .pay e, d, p => [(p, d, .pay e)]
  | .stop, d, p => [(p, d, .stop)]
  | .ite t y n, d, p => (p, d, .ite t y n) :: (y.rws (d + 1) (p + 1) ++ n.rws (d + 1) (p + 1 + y.sz))
  | .rep k y, d, p => (p, d, .rep k y) :: y.rws (d + 1) (p + 1)
def Bk.rws : Bk → Int → Int → List Rw
  | .nil, _, _ => []
  | .cons s b, d, p => s.rws d p ++ b.rws d (p + s.sz)
end
mutual
theorem St.rws_len : ∀ (s : St) (d p : Int), (s.rws d p).length = s.sz
  | .set _ _, _, _ => rfl
  | .pay _, _, _ => rfl
  | .stop, _, _ => rfl
  | .ite t y n, d, p => by simp only [St.rws, St.sz, List.length_cons, List.length_append, Bk.rws_len y, Bk.rws_len n]; omega
  | .rep k y, d, p => by simp only [St.rws, St.sz, List.length_cons, Bk.rws_len y]; omega
theorem Bk.rws_len : ∀ (b : Bk) (d p : Int), (b.rws d p).length = b.sz
  | .nil, _, _ => rfl
  | .cons s b, d, p => by simp only [Bk.rws, Bk.sz, List.length_append, St.rws_len s, Bk.rws_len b]
end
def stkRws : List (Int × St) → Int → List Rw
  | [], _ => []
  | (d, s) :: r, p => s.rws d p ++ stkRws r (p + s.sz)
def stkSz (l : List (Int × St)) : Nat := (l.map fun x => x.2.sz).sum
theorem stkSz_cons (x : Int × St) (l : List (Int × St)) : stkSz (x :: l) = x.2.sz + stkSz l := rfl
theorem stkSz_append (l m : List (Int × St)) : stkSz (l ++ m) = stkSz l + stkSz m := by unfold stkSz; rw [List.map_append, List.sum_append]
theorem stk_append : ∀ (l m : List (Int × St)) (p : Int), stkRws (l ++ m) p = stkRws l p ++ stkRws m (p + stkSz l)
  | [], m, p => by show stkRws m p = stkRws m (p + 0); rw [Int.add_zero]
  | (d, s) :: l, m, p => by
    show s.rws d p ++ stkRws (l ++ m) (p + s.sz) = (s.rws d p ++ stkRws l (p + s.sz)) ++ _
    rw [stk_append l m, List.append_assoc, stkSz_cons, Int.natCast_add, Int.add_assoc]
theorem stkRws_len : ∀ (l : List (Int × St)) (p : Int), (stkRws l p).length = stkSz l
  | [], _ => rfl
  | (d, s) :: l, p => by
    show (s.rws d p ++ stkRws l (p + s.sz)).length = _
    rw [List.length_append, St.rws_len, stkRws_len l, stkSz_cons]
theorem St.sz_pos (s : St) : 1 ≤ s.sz := by rw [s.sz_blks]; omega
theorem stk_le : ∀ l : List (Int × St), l.length ≤ stkSz l
  | [] => Nat.le_refl _
  | x :: l => by
    rw [List.length_cons, stkSz_cons]
    have := stk_le l
    have := x.2.sz_pos
    omega
def Bk.stk (b : Bk) (d : Int) : List (Int × St) := b.lst.map fun s => (d, s)
theorem stk_bk : ∀ (b : Bk) (d p : Int), stkRws (b.stk d) p = b.rws d p
  | .nil, _, _ => rfl
  | .cons s b, d, p => by
    show s.rws d p ++ stkRws (b.stk d) (p + s.sz) = s.rws d p ++ b.rws d (p + s.sz)
    rw [stk_bk b]
theorem stkSz_bk : ∀ (b : Bk) (d : Int), stkSz (b.stk d) = b.sz
  | .nil, _ => rfl
  | .cons s b, d => by
    show stkSz ((d, s) :: b.stk d) = s.sz + b.sz
    rw [stkSz_cons, stkSz_bk b]
/-- what lies right in a statement -/
def kidsOf (l : List Bk) (d : Int) : List (Int × St) := (l.map fun b => b.stk d).flatten
theorem St.rws_kids (s : St) (d p : Int) : s.rws d p = (p, d, s) :: stkRws (kidsOf s.blks (d + 1)) (p + 1) := by
  cases s with
  | ite t y n =>
    show (p, d, St.ite t y n) :: (y.rws (d + 1) (p + 1) ++ n.rws (d + 1) (p + 1 + y.sz)) = _ :: stkRws (y.stk (d + 1) ++ (n.stk (d + 1) ++ [])) (p + 1)
    rw [List.append_nil, stk_append, stk_bk, stk_bk, stkSz_bk]
  | rep k y =>
    show (p, d, St.rep k y) :: y.rws (d + 1) (p + 1) = _ :: stkRws (y.stk (d + 1) ++ []) (p + 1)
    rw [List.append_nil, stk_bk]
  | _ => rfl
theorem kidsSz : ∀ (l : List Bk) (d : Int), stkSz (kidsOf l d) = (l.map Bk.sz).sum
  | [], _ => rfl
  | b :: l, d => by
    show stkSz (b.stk d ++ kidsOf l d) = b.sz + (l.map Bk.sz).sum
    rw [stkSz_append, stkSz_bk, kidsSz l]
theorem rev_get {α : Type} {xs : List α} {i : Nat} {x : α} (h : xs.reverse[i]? = some x) : i < xs.length ∧ xs[xs.length - 1 - i]? = some x := by
  have hi : i < xs.length := by
    have := (List.getElem?_eq_some_iff.mp h).1
    simpa using this
  rw [List.getElem?_reverse hi] at h
  exact ⟨hi, h⟩
theorem drop_back {α : Type} {l : List α} {i : Nat} {s : α} (hi : i < l.length) (h : l[l.length - 1 - i]? = some s) : l.drop (l.length - (i + 1)) = s :: l.drop (l.length - i) := by
  obtain ⟨hlt, hge⟩ := List.getElem?_eq_some_iff.mp h
  have e : l.length - (i + 1) = l.length - 1 - i := by omega
  rw [e, List.drop_eq_getElem_cons hlt, hge]
  congr 2
  omega
theorem tpPair {H : Hp} {a : Addr} {i : Int} {x : V} {s : St} (h : H a = some (.tup [.int i, x])) (t : Tp H x s.d) : Tp H (.ref a) (prD (i, s)) := .tup h (.cons (.int i) (.cons t .nil))
theorem passCX0 {X : Cx} : Passes (CX X.prog X.w) X E0 := fun _ _ _ _ _ _ _ c => by
  obtain ⟨_, _, _, _, _, _, _, _, _, _, _, _, z⟩ := c
  exact z.elim
theorem noStop0 {K : PySem.W.Frag} : NoStop K E0 := fun _ _ _ z => z.elim
theorem bk_le (b : Bk) : b.lst.length ≤ b.sz := by
  have h := stk_le (b.stk 0)
  rw [stkSz_bk] at h
  unfold Bk.stk at h
  rwa [List.length_map] at h
theorem Tk.lst {H : Hp} {p : Addr} {ys : List V} {o : HO} (h : H p = some (.lst ys)) : Tk H (upd H p o) := fun b xs e => by
  rw [upd_ne (fun z => by rw [z, h] at e; cases e)]
  exact e
/-- an int that is no bool -/
def isIntV (H : Hp) (v : V) (b : Bool) : Prop := (∃ i, v = .int i ∧ b = true) ∨ (∃ z, v = .str z ∧ b = false) ∨ (∃ a xs, v = .ref a ∧ H a = some (.tup xs) ∧ b = false)
def spIsInt : Sp := fun vs H Q _ => ∃ v b, vs = [v] ∧ isIntV H v b ∧ Q (.bl b) H
def spBlocks : Sp := fun vs H Q _ => ∃ (v : V) (s : St), vs = [v] ∧ Tp H v s.d ∧ ∀ H' v', Sx [] H H' → Tp H' v' (.tuple s.parts) → Q v' H'
def spEach : SpG := fun vs H Q _ => ∃ (v : V) (b : Bk), vs = [v] ∧ Tp H v (.tuple b.ds) ∧ b.sz < 16777216 ∧ ∀ ys H', Sx [] H H' → TpAll H' ys ((b.rws 0 0).map rwD) → Q ys H'
def spPlaces : Sp := fun vs H Q _ => ∃ (v : V) (b : Bk), vs = [v] ∧ Tp H v (.tuple b.ds) ∧ b.sz < 16777216 ∧ ∀ H', Sx [] H H' → Q (.int b.sz) H'
section
variable {w : World} {P : Program} {K : PySem.W.Frag} {mg : Str → Option Value} {base : Heap}
theorem ok_pis_integer {f : Addr} {fd : FuncData} {k : Nat} (F_pis_integer : Fun K "is_integer" "is_integer" sPIsInteger f fd) (z_isinstance : mg "isinstance" = none) (z_int : mg "int" = none) (z_bool : mg "bool" = none) : FnOk P w K mg base CX0 (k + 1) f fd ["value"] spIsInt := by
  refine F_pis_integer.ok scPIsInteger (fun vs H Q E h => ?_) (fun cdv A outer s H vs Q E hr h => ?_)
  · obtain ⟨_, _, rfl, _⟩ := h
    rfl
  · obtain ⟨v, b, rfl, iv, q⟩ := h
    refine ⟨_, (pss_one (ps_ret (pe_and (pe_callB call_isi (by rfl) z_isinstance (by decide +kernel) (pa_cons (pv 0) (pa_cons (pe_bltn (v := .ty "int") (by rfl) z_int (by decide +kernel) rfl) pa_nil))) (pe_one (pe_not (pe_callB call_isi (by rfl) z_isinstance (by decide +kernel) (pa_cons (pv 0) (pa_cons (pe_bltn (v := .ty "bool") (by rfl) z_bool (by decide +kernel) rfl) pa_nil)))))))), ?_⟩
    rcases iv with ⟨i, rfl, rfl⟩ | ⟨z, rfl, rfl⟩ | ⟨a, xs, rfl, ha, rfl⟩
    · exact ⟨_, rfl, _, _, _, _, _, rfl, .ty _, .base (.int i), kit_ty (r := true) (by decide +kernel), _, rfl, iteT ⟨_, rfl, _, _, _, _, _, rfl, .ty _, .base (.int i), kit_ty (r := false) (by decide +kernel), _, rfl, q⟩⟩
    · exact ⟨_, rfl, _, _, _, _, _, rfl, .ty _, .base (.str z), kit_ty (r := false) (by decide +kernel), _, rfl, iteF q⟩
    · exact ⟨_, rfl, _, _, _, _, _, rfl, .ty _, .base (.tup ha), kit_ty (r := false) (by decide +kernel), _, rfl, iteF q⟩
theorem ok_pblocks_of {f : Addr} {fd : FuncData} {k : Nat} (F_pblocks_of : Fun K "blocks_of" "blocks_of" sPBlocksOf f fd) : FnOk P w K mg base CX0 (k + 1) f fd ["statement"] spBlocks := by
  refine F_pblocks_of.ok scPBlocksOf (fun vs H Q E h => ?_) (fun cdv A outer s H vs Q E hr h => ?_)
  · obtain ⟨_, _, rfl, _⟩ := h
    rfl
  · obtain ⟨v, s, rfl, t, q⟩ := h
    refine ⟨_, (pss_cons (ps_if (pt_cmpR op_eq (pe_ix ix_tup (pv 0) pe_int (fun _ _ => rfl)) pe_str (nomark _)) (pss_one (ps_ret (pe_tup (pa_cons (pe_ix ix_tup (pv 0) pe_int (fun _ _ => rfl)) (pa_cons (pe_ix ix_tup (pv 0) pe_int (fun _ _ => rfl)) pa_nil))))) pss_nil)
      (pss_cons (ps_if (pt_cmpR op_eq (pe_ix ix_tup (pv 0) pe_int (fun _ _ => rfl)) pe_str (nomark _)) (pss_one (ps_ret (pe_tup (pa_cons (pe_ix ix_tup (pv 0) pe_int (fun _ _ => rfl)) pa_nil)))) pss_nil)
      (pss_one (ps_ret (pe_tup pa_nil))))), ?_⟩
    cases s with
    | set z e =>
      obtain ⟨a, p, u, y, rfl, ha, t1, _, _⟩ := tp3 t
      obtain rfl := tpS t1
      refine ⟨_, rfl, a, _, _, _, rfl, rfl, SqT.of ha, rfl, rfl, _, rfl, iteN (by decide +kernel) ⟨_, rfl, a, _, _, _, rfl, rfl, SqT.of ha, rfl, rfl, _, rfl, iteN (by decide +kernel) ⟨by show 0 ≤ sizeLine; decide, fun p' hp' => ?_⟩⟩⟩
      exact q _ _ (Sx.n0 hp') (.tup upd_same .nil)
    | pay e =>
      obtain ⟨a, p, u, rfl, ha, t1, _⟩ := tp2 t
      obtain rfl := tpS t1
      refine ⟨_, rfl, a, _, _, _, rfl, rfl, SqT.of ha, rfl, rfl, _, rfl, iteN (by decide +kernel) ⟨_, rfl, a, _, _, _, rfl, rfl, SqT.of ha, rfl, rfl, _, rfl, iteN (by decide +kernel) ⟨by show 0 ≤ sizeLine; decide, fun p' hp' => ?_⟩⟩⟩
      exact q _ _ (Sx.n0 hp') (.tup upd_same .nil)
    | stop =>
      obtain ⟨a, p, rfl, ha, t1⟩ := tp1 t
      obtain rfl := tpS t1
      refine ⟨_, rfl, a, _, _, _, rfl, rfl, SqT.of ha, rfl, rfl, _, rfl, iteN (by decide +kernel) ⟨_, rfl, a, _, _, _, rfl, rfl, SqT.of ha, rfl, rfl, _, rfl, iteN (by decide +kernel) ⟨by show 0 ≤ sizeLine; decide, fun p' hp' => ?_⟩⟩⟩
      exact q _ _ (Sx.n0 hp') (.tup upd_same .nil)
    | ite ts y n =>
      obtain ⟨a, p, u, y', n', rfl, ha, t1, _, t3, t4⟩ := tp4 t
      obtain rfl := tpS t1
      refine ⟨_, rfl, a, _, _, _, rfl, rfl, SqT.of ha, rfl, rfl, _, rfl, iteP (by decide +kernel) ⟨_, rfl, a, _, _, y', rfl, rfl, SqT.of ha, rfl, _, rfl, a, _, _, n', rfl, rfl, SqT.of ha, rfl, by show 2 ≤ sizeLine; decide, fun p' hp' => ?_⟩⟩
      exact q _ _ (Sx.n0 hp') (.tup upd_same (.cons (t3.new hp') (.cons (t4.new hp') .nil)))
    | rep k y =>
      obtain ⟨a, p, u, y', rfl, ha, t1, _, t3⟩ := tp3 t
      obtain rfl := tpS t1
      refine ⟨_, rfl, a, _, _, _, rfl, rfl, SqT.of ha, rfl, rfl, _, rfl, iteN (by decide +kernel) ⟨_, rfl, a, _, _, _, rfl, rfl, SqT.of ha, rfl, rfl, _, rfl, iteP (by decide +kernel) ⟨_, rfl, a, _, _, y', rfl, rfl, SqT.of ha, rfl, by show 1 ≤ sizeLine; decide, fun p' hp' => ?_⟩⟩⟩
      exact q _ _ (Sx.n0 hp') (.tup upd_same (.cons (t3.new hp') .nil))
end
/-- the pieces on a stack, the top first -/
def Stk (H : Hp) (L : Addr) (ws : List (Int × St)) : Prop := ∃ vals : List V, H L = some (.lst vals.reverse) ∧ TpAll H vals (ws.map prD)
theorem Stk.keep {H H' : Hp} {L : Addr} {ws : List (Int × St)} (h : Stk H L ws) (s : Sx [] H H') : Stk H' L ws := by
  obtain ⟨vals, h1, h2⟩ := h
  exact ⟨vals, s _ _ (by simp) h1, h2.keep s.tk0⟩
theorem Stk.push {H : Hp} {L : Addr} {ws : List (Int × St)} {x : V} {y : Int × St} (h : Stk H L ws) (t : Tp H x (prD y)) : ∃ acc, H L = some (.lst acc) ∧ acc.length = ws.length ∧ Stk (upd H L (.lst (acc ++ [x]))) L (y :: ws) := by
  obtain ⟨vals, h1, h2⟩ := h
  have e := h2.len
  rw [List.length_map] at e
  refine ⟨_, h1, by rw [List.length_reverse, e], x :: vals, by rw [upd_same, List.reverse_cons], ?_⟩
  exact .cons (t.keep (Tk.lst h1)) (h2.keep (Tk.lst h1))
theorem Stk.pop {H : Hp} {L : Addr} {ws : List (Int × St)} {y : Int × St} (h : Stk H L (y :: ws)) : ∃ (acc : List V) (a : Addr) (x : V), H L = some (.lst acc) ∧ acc[acc.length - 1]? = some (.ref a) ∧ H a = some (.tup [.int y.1, x]) ∧ Tp H x y.2.d ∧ Stk (upd H L (.lst acc.dropLast)) L ws ∧ acc.length = ws.length + 1 := by
  obtain ⟨vals, h1, h2⟩ := h
  cases h2 with
  | cons h3 h4 =>
    rename_i v vs
    obtain ⟨a, xs, rfl, ha, hx⟩ := h3.tuple
    cases hx with | cons h5 hx => cases hx with | cons h6 hx => cases hx with | nil =>
    obtain rfl := tpI h5
    have e := h4.len
    rw [List.length_map] at e
    refine ⟨_, a, _, h1, ?_, ha, h6, ⟨vs, by rw [upd_same, List.reverse_cons, List.dropLast_concat], h4.keep (Tk.lst h1)⟩, by rw [List.length_reverse, List.length_cons, e]⟩
    rw [List.reverse_cons, List.length_append]
    simp
theorem Stk.nil_ {H : Hp} {L : Addr} (h : Stk H L []) : H L = some (.lst []) := by
  obtain ⟨vals, h1, h2⟩ := h
  cases h2
  exact h1
section
variable {w : World} {P : Program} {K : PySem.W.Frag} {mg : Str → Option Value} {base : Heap}
theorem ok_peach {f fB : Addr} {fd fdB : FuncData} (F_peach_statement : Fun K "each_statement" "each_statement" sPEachStatement f fd) (F_pblocks_of : Fun K "blocks_of" "blocks_of" sPBlocksOf fB fdB) (G_pblocks_of : FnOk P w K mg base CX0 1 fB fdB ["statement"] spBlocks)
    (b_pblocks_of : Binds K fdB ["statement"] []) (m_pblocks_of : mg "blocks_of" = some (.ref fB)) : GFn P w K mg base 2 f fd ["program"] spEach := by
  obtain ⟨oc, od, kV, doc, pm, an, cdv, ct, osl, rfl, lk, hcd⟩ := F_peach_statement.ex
  refine gfn_of lk hcd scPEachStatement (fun vs H Q E h => ?_) (fun A outer s H vs Q E pn hr h => ?_)
  · obtain ⟨_, _, rfl, _⟩ := h
    rfl
  · obtain ⟨v, b, rfl, t, hz, q⟩ := h
    refine ⟨_, (gss_cons (gs_ps (ps_setLc (i := 1) (own := [("statement", 4)]) (g := gName 4) (tt := tYes) rfl scPEachStatement.nd rfl rfl (sw_true rfl rfl rfl (by decide +kernel)) (pi_tup (pe_revT (pv 0))) (blkOk_by (N := nPEachStatement) (sc := defScope sPEachStatement) (by decide +kernel)) (fun _ _ _ _ _ => (pg_name (i := 4) scPEachStatement.nd rfl (by first | exact Or.inl rfl | exact Or.inr rfl))) (fun _ _ _ _ _ => pts_nil) (fun _ _ _ _ _ => (pe_tup (pa_cons pe_int (pa_cons (pv 4) pa_nil))))))
      (gss_cons (gs_ps (ps_set (i := 2) scPEachStatement.nd rfl (by first | exact Or.inl rfl | exact Or.inr rfl) pe_int))
      (gss_cons (gs_while owns_gcx (pt_truth (pv 1) (fun _ => rfl)) (gss_cons (gs_ps (ps_asg (pe_bm0 PySem.F.plainAttrs_list PySem.F.slot_list_pop PySem.F.type_list_pop mt_pop (pv 1)) (pg_tup rfl (pgs_cons (pg_name (i := 3) scPEachStatement.nd rfl (by first | exact Or.inl rfl | exact Or.inr rfl)) (pgs_cons (pg_name (i := 4) scPEachStatement.nd rfl (by first | exact Or.inl rfl | exact Or.inr rfl)) pgs_nil)))))
      (gss_cons (gs_yield (pe_tup (pa_cons (pv 2) (pa_cons (pv 3) (pa_cons (pv 4) pa_nil)))))
      (gss_pss (pss_cons (ps_aug (i := 2) scPEachStatement.nd rfl (.inl rfl) pe_int ip_add)
      (pss_one (ps_for owns_gcx rfl (pi_tup (pe_revT (pe_call G_pblocks_of (hr.mono (by omega)) (by rfl) m_pblocks_of F_pblocks_of.kp b_pblocks_of .nil pass0 (pa_cons (pv 4) pa_nil)))) (pg_name (i := 5) scPEachStatement.nd rfl (by first | exact Or.inl rfl | exact Or.inr rfl)) (pss_one (ps_for owns_gcx rfl (pi_tup (pe_revT (pv 5))) (pg_name (i := 6) scPEachStatement.nd rfl (by first | exact Or.inl rfl | exact Or.inr rfl)) (pss_one (ps_expr (pe_bm PySem.F.plainAttrs_list PySem.F.slot_list_append PySem.F.type_list_append mt_append (pv 1) (pa_cons (pe_tup (pa_cons (pe_op op_add (pv 3) pe_int) (pa_cons (pv 6) pa_nil))) pa_nil)))))))))))))
      gss_nil))), ?_⟩
    obtain ⟨a, xs, rfl, ha, hx⟩ := t.tuple
    rw [b.ds_lst] at hx
    obtain ⟨hl, hg⟩ := hx.lst
    -- the first stack
    refine ⟨_, rfl, a, xs, rfl, SqT.of ha, fun p hp => ⟨p, rfl, ⟨_, SqT.of upd_same⟩, fun D hD => lc_tup (xs := xs.reverse)
      (fun i H1 => Sx [] H H1 ∧ H1 p = some (.tup xs.reverse) ∧ Stk H1 D ((b.lst.drop (b.lst.length - i)).map fun s => (0, s)))
      ⟨(Sx.n0 hp).trans (Sx.n0 hD), by rw [upd_ne (ne_of_none upd_same hD)]; exact upd_same, [], upd_same, by rw [Nat.sub_zero, List.drop_length]; exact .nil⟩ (fun i H1 _ z => SqT.of z.2.1) (fun i x H1 hi z => ?_) (fun H1 z => ?_)⟩⟩
    · obtain ⟨s1, hp1, hv⟩ := z
      obtain ⟨hi1, hi2⟩ := rev_get hi
      rw [hl] at hi1 hi2
      obtain ⟨st, hst, tst⟩ := hg _ x hi2
      refine ⟨rfl, ?_⟩
      refine ⟨_, rfl, by show 2 ≤ sizeLine; decide, fun u hu => ?_⟩
      have hDn : H D = none := by
        cases e : H D with
        | none => rfl
        | some o => have := Sx.n0 (o := .tup xs.reverse) hp D o (by simp) e; rw [hD] at this; cases this
      have bl := bk_le b
      obtain ⟨acc, e1, e2, e3⟩ := (hv.keep (Sx.n0 hu)).push (x := .ref u) (y := (0, st)) (tpPair upd_same ((tst.keep s1.tk0).new hu))
      have npD : p ≠ D := ne_of_none upd_same hD
      refine ⟨acc, e1, lt_line (by rw [e2, List.length_map, List.length_drop]; omega), (s1.new hu).own hDn, ?_, ?_⟩
      · rw [upd_ne npD]; exact Sx.n0 hu _ _ (by simp) hp1
      · rw [drop_back hi1 hst]; exact e3
    · obtain ⟨s1, _, hv⟩ := z
      have hDn : H D = none := by
        cases e : H D with
        | none => rfl
        | some o => have := Sx.n0 (o := .tup xs.reverse) hp D o (by simp) e; rw [hD] at this; cases this
      rw [List.length_reverse, hl, Nat.sub_self, List.drop_zero] at hv
      refine ⟨fun m ys σ H' => ∃ (ws : List (Int × St)) (dn : List Rw) (o3 o4 o5 o6 : Option V), σ = [some (.ref a), some (.ref D), some (.int dn.length), o3, o4, o5, o6] ∧ Sx [] H H' ∧ Stk H' D ws ∧ TpAll H' ys (dn.map rwD) ∧ dn ++ stkRws ws dn.length = b.rws 0 0 ∧ m = stkSz ws,
        ⟨_, b.stk 0, [], _, _, _, _, rfl, s1, hv, .nil, stk_bk b 0 0, rfl⟩, ?_⟩
      rintro m ys σ H' ⟨ws, dn, o3, o4, o5, o6, rfl, s2, hs, hy, hrows, rfl⟩
      have total := congrArg List.length hrows
      rw [List.length_append, stkRws_len, Bk.rws_len] at total
      cases ws with
      | nil =>
        refine ⟨_, rfl, false, .inl ⟨_, SqL.of hs.nil_, rfl⟩, iteF ?_⟩
        rw [show stkRws [] (dn.length : Int) = [] from rfl, List.append_nil] at hrows
        exact q ys H' s2 (by rw [← hrows]; exact hy)
      | cons y ws =>
        obtain ⟨d, st⟩ := y
        obtain ⟨acc, c, x, e1, e2, e3, e4, e5, e6⟩ := hs.pop
        have ylen := hy.len
        rw [List.length_map] at ylen
        rw [stkSz_cons] at total
        have stp := st.sz_pos
        have wle := stk_le ws
        refine ⟨_, rfl, true, .inl ⟨_, SqL.of e1, ?_⟩, iteT ⟨fun ys' σ' H2 => ∃ m', m' < stkSz ((d, st) :: ws) ∧ ∃ (ws' : List (Int × St)) (dn : List Rw) (o3 o4 o5 o6 : Option V), σ' = [some (.ref a), some (.ref D), some (.int dn.length), o3, o4, o5, o6] ∧ Sx [] H H2 ∧ Stk H2 D ws' ∧ TpAll H2 ys' (dn.map rwD) ∧ dn ++ stkRws ws' dn.length = b.rws 0 0 ∧ m' = stkSz ws', fun _ _ _ z => z, ?_⟩⟩
        · cases acc with
          | nil => simp at e6
          | cons _ _ => rfl
        -- the top is taken
        refine ⟨_, rfl, .inl ⟨rfl, _, SqL.of e1⟩, D, _, _, rfl, rfl, e1, e2, ?_⟩
        have Dc : c ≠ D := fun z => by rw [z, e1] at e3; cases e3
        have k1 : Tk H' (upd H' D (.lst acc.dropLast)) := Tk.lst e1
        refine gh (H1 := upd H' D (.lst acc.dropLast)) (F := fun H2 => Sx [] H H2 ∧ Tk H' H2 ∧ Stk H2 D ws) ⟨s2.own hDn, k1, e5⟩ (fun H2 ⟨s3, k1, e5⟩ => ?_)
        refine ⟨c, _, rfl, SqT.of (k1 _ _ e3), rfl, _, _, rfl, gnm ⟨_, _, rfl, gnm ⟨rfl, ?_⟩⟩⟩
        -- it is handed out
        refine ⟨lt_line (by omega), _, rfl, _, rfl, _, rfl, by show 3 ≤ sizeLine; decide, fun u hu => ?_⟩
        have hy2 : TpAll (upd H2 u (.tup [.int dn.length, .int d, x])) (ys ++ [.ref u]) ((dn ++ [((dn.length : Int), d, st)]).map rwD) := by
          rw [List.map_append]
          exact ((hy.keep k1).new hu).append (.cons (.tup upd_same (.cons (.int _) (.cons (.int _) (.cons ((e4.keep k1).new hu) .nil)))) .nil)
        refine gh (H1 := upd H2 u _) (F := fun H3 => Sx [] H H3 ∧ Stk H3 D ws ∧ Tp H3 x st.d ∧ TpAll H3 (ys ++ [.ref u]) ((dn ++ [((dn.length : Int), d, st)]).map rwD)) ⟨s3.new hu, e5.keep (Sx.n0 hu), (e4.keep k1).new hu, hy2⟩ (fun H3 ⟨s4, e7, e8, hy3⟩ => ?_)
        -- what lies in it
        refine Exists.intro _ ⟨rfl, _, _, rfl, rfl, ?_⟩
        refine ⟨_, rfl, x, st, rfl, e8, fun H4 v4 s5 t4 => ?_⟩
        obtain ⟨a4, xs4, rfl, ha4, hx4⟩ := t4.tuple
        rw [st.parts_blks] at hx4
        obtain ⟨hl4, hg4⟩ := hx4.lst
        have okk : dn ++ [((dn.length : Int), d, st)] ++ stkRws (kidsOf st.blks (d + 1) ++ ws) (dn.length + 1) = b.rws 0 0 := by
          rw [← hrows, stk_append, kidsSz, List.append_assoc]
          show dn ++ ((↑dn.length, d, st) :: (stkRws (kidsOf st.blks (d + 1)) (↑dn.length + 1) ++ stkRws ws _)) = dn ++ (st.rws d dn.length ++ stkRws ws (dn.length + st.sz))
          rw [st.rws_kids, st.sz_blks, List.cons_append]
          congr 4
          omega
        have blk2 : st.blks.length ≤ 2 := by cases st <;> simp [St.blks]
        refine ⟨a4, xs4, rfl, SqT.of ha4, fun p4 hp4 => ⟨p4, rfl, ⟨_, SqT.of upd_same⟩, for_tup (xs := xs4.reverse)
          (fun i σ H5 => ∃ o5 o6, σ = [some (.ref a), some (.ref D), some (.int (dn.length + 1)), some (.int d), some x, o5, o6] ∧ Sx [] H H5 ∧ H5 p4 = some (.tup xs4.reverse) ∧ Tk H4 H5 ∧ Stk H5 D (kidsOf (st.blks.drop (st.blks.length - i)) (d + 1) ++ ws) ∧ TpAll H5 (ys ++ [.ref u]) ((dn ++ [((dn.length : Int), d, st)]).map rwD))
          ⟨_, _, rfl, (s4.trans s5).new hp4, upd_same, (Sx.n0 hp4).tk0, by rw [Nat.sub_zero, List.drop_length]; exact (e7.keep s5).keep (Sx.n0 hp4), (hy3.keep s5.tk0).new hp4⟩ (fun i σ H5 _ z => by obtain ⟨_, _, _, _, z, _⟩ := z; exact SqT.of z) (fun i y σ H5 hi z => ?_) (fun σ H5 z => ?_)⟩⟩
        · obtain ⟨o5, o6, rfl, s6, hp5, k5, hs5, hy5⟩ := z
          obtain ⟨hi1, hi2⟩ := rev_get hi
          rw [hl4] at hi1 hi2
          obtain ⟨bk, hbk, tbk⟩ := hg4 _ y hi2
          have hmem : bk ∈ st.blks := List.mem_of_getElem? hbk
          refine gnm ?_
          obtain ⟨a6, xs6, rfl, ha6, hx6⟩ := (tbk.keep k5).tuple
          rw [bk.ds_lst] at hx6
          obtain ⟨hl6, hg6⟩ := hx6.lst
          rw [drop_back hi1 hbk]
          have szb : bk.sz ≤ st.sz := by
            rw [st.sz_blks]
            have := sum_mem (List.mem_map_of_mem (f := Bk.sz) hmem)
            omega
          have bl := bk_le bk
          have kl : (kidsOf (st.blks.drop (st.blks.length - i)) (d + 1)).length + bk.sz ≤ st.sz := by
            have h1 := stk_le (kidsOf (st.blks.drop (st.blks.length - i)) (d + 1))
            have h2 : ∀ (l : List Bk) (n : Nat), ((l.drop n).map Bk.sz).sum ≤ (l.map Bk.sz).sum := fun l n => by
              have e := congrArg (fun l => (l.map Bk.sz).sum) (List.take_append_drop n l)
              simp only [List.map_append, List.sum_append] at e
              omega
            have h3 := h2 st.blks (st.blks.length - (i + 1))
            rw [drop_back hi1 hbk, List.map_cons, List.sum_cons] at h3
            rw [kidsSz] at h1
            rw [st.sz_blks]
            omega
          have total' : dn.length + (st.sz + stkSz ws) = b.sz := total
          refine ⟨_, rfl, a6, xs6, rfl, SqT.of ha6, fun p6 hp6 => ⟨p6, rfl, ⟨_, SqT.of upd_same⟩, for_tup (xs := xs6.reverse)
            (fun j σ H6 => ∃ o6, σ = [some (.ref a), some (.ref D), some (.int (dn.length + 1)), some (.int d), some x, some (.ref a6), o6] ∧ Sx [] H H6 ∧ H6 p4 = some (.tup xs4.reverse) ∧ H6 p6 = some (.tup xs6.reverse) ∧ Tk H5 H6 ∧ Stk H6 D ((bk.lst.drop (bk.lst.length - j)).map (fun s => (d + 1, s)) ++ (kidsOf (st.blks.drop (st.blks.length - i)) (d + 1) ++ ws)) ∧ TpAll H6 (ys ++ [.ref u]) ((dn ++ [((dn.length : Int), d, st)]).map rwD))
            ⟨_, rfl, s6.new hp6, Sx.n0 hp6 _ _ (by simp) hp5, upd_same, (Sx.n0 hp6).tk0, by rw [Nat.sub_zero, List.drop_length]; exact hs5.keep (Sx.n0 hp6), hy5.new hp6⟩ (fun j σ H6 _ z => by obtain ⟨_, _, _, _, z, _⟩ := z; exact SqT.of z) (fun j y2 σ H6 hj z => ?_) (fun σ H6 z => ?_)⟩⟩
          · obtain ⟨o6, rfl, s7, hp6a, hp6b, k6, hs6, hy6⟩ := z
            obtain ⟨hj1, hj2⟩ := rev_get hj
            rw [hl6] at hj1 hj2
            obtain ⟨st2, hst2, tst2⟩ := hg6 _ y2 hj2
            refine gnm ?_
            obtain ⟨L6, hL6, _⟩ := id hs6
            refine ⟨_, rfl, .inl ⟨rfl, _, SqL.of hL6⟩, _, rfl, d, 1, rfl, rfl, _, rfl, by show 2 ≤ sizeLine; decide, fun u2 hu2 => ?_⟩
            obtain ⟨acc2, g1, g2, g3⟩ := (hs6.keep (Sx.n0 hu2)).push (x := .ref u2) (y := (d + 1, st2)) (tpPair upd_same ((tst2.keep k6).new hu2))
            refine ⟨D, _, _, rfl, rfl, g1, lt_line (by rw [g2, List.length_append, List.length_map, List.length_drop, List.length_append]; omega), ?_⟩
            refine ⟨_, rfl, (s7.new hu2).own hDn, ?_, ?_, (k6.trans (Sx.n0 hu2).tk0).trans (Tk.lst g1), ?_, (hy6.new hu2).keep (Tk.lst g1)⟩
            · exact ((Sx.n0 hu2).tk0.trans (Tk.lst g1)) _ _ hp6a
            · exact ((Sx.n0 hu2).tk0.trans (Tk.lst g1)) _ _ hp6b
            · rw [drop_back hj1 hst2]; exact g3
          · obtain ⟨o6, rfl, s7, hp6a, hp6b, k6, hs6, hy6⟩ := z
            rw [List.length_reverse, hl6, Nat.sub_self, List.drop_zero] at hs6
            refine ⟨_, _, rfl, s7, hp6a, k5.trans k6, ?_, hy6⟩
            show Stk H6 D ((bk.stk (d + 1) ++ kidsOf (st.blks.drop (st.blks.length - i)) (d + 1)) ++ ws)
            rw [List.append_assoc]
            exact hs6
        · obtain ⟨o5, o6, rfl, s6, hp5, k5, hs5, hy5⟩ := z
          rw [List.length_reverse, hl4, Nat.sub_self, List.drop_zero] at hs5
          have e9 : ((dn ++ [((dn.length : Int), d, st)]).length : Int) = dn.length + 1 := by simp
          refine ⟨_, ?_, kidsOf st.blks (d + 1) ++ ws, dn ++ [((dn.length : Int), d, st)], _, _, _, _, by rw [e9], s6, hs5, hy5, by rw [e9]; exact okk, rfl⟩
          rw [stkSz_append, kidsSz, stkSz_cons, st.sz_blks]
          omega
end

theorem Ex.isIntV {H : Hp} {v : V} {e : Ex} (t : Tp H v e.d) : GA.isIntV H v (match e with | .int _ => true | _ => false) := by
  cases e with
  | int i => exact .inl ⟨i, tpI t, rfl⟩
  | name z => exact .inr (.inl ⟨z, tpS t, rfl⟩)
  | plus x y => obtain ⟨a, p, q, r, rfl, ha, _⟩ := tp3 t; exact .inr (.inr ⟨a, _, rfl, ha, rfl⟩)
  | minus x y => obtain ⟨a, p, q, r, rfl, ha, _⟩ := tp3 t; exact .inr (.inr ⟨a, _, rfl, ha, rfl⟩)
  | times f x => obtain ⟨a, p, q, r, rfl, ha, _⟩ := tp3 t; exact .inr (.inr ⟨a, _, rfl, ha, rfl⟩)
theorem mod_is {x b r : Int} (h0 : 0 ≤ r) (h1 : r < b) : (x % b = r) ↔ ((x - r) % b = 0) := by
  constructor
  · intro h
    rw [Int.sub_emod, h, Int.emod_eq_of_lt h0 h1, Int.sub_self, Int.zero_emod]
  · intro h
    obtain ⟨k, hk⟩ := Int.dvd_of_emod_eq_zero h
    have e : x = r + b * k := by omega
    rw [e, Int.add_mul_emod_self_left, Int.emod_eq_of_lt h0 h1]
/-- places and statements of a block -/
def Bk.nums : Bk → Int → List (Int × St)
  | .nil, _ => []
  | .cons s b, p => (p, s) :: b.nums (p + s.sz)
def St.ent (ρ : Str → Int) : St → Int → List (Int × St)
  | .ite t y n, p => if t.ev ρ = true then y.nums (p + 1) else n.nums (p + 1 + y.sz)
  | .rep k y, p => (List.replicate k.toNat (y.nums (p + 1))).flatten
  | _, _ => []
def spNumbered : Sp := fun vs H Q _ => ∃ (v : V) (b : Bk) (p : Int), vs = [v, .int p] ∧ Tp H v (.tuple b.ds) ∧ b.sz < 16777216 ∧ ∀ H' l ys, Sx [] H H' → H l = none → H' l = some (.lst ys) → TpAll H' ys ((b.nums p).map prD) → Q (.ref l) H'
def spEntered (ns : List Str) : Sp := fun vs H Q _ => ∃ (v : V) (s : St) (p : Int) (N : Addr) (ρ : Str → Int) (d : Nat), vs = [v, .int p, .ref N] ∧ Tp H v s.d ∧ s.ok ns d ∧ s.sz < 16777216 ∧ s.wt ≤ 1000000 ∧ En H N ρ ∧ ((∃ t y n, s = .ite t y n) ∨ ∃ k y, s = .rep k y) ∧
  ∀ H' l ys, Sx [] H H' → H l = none → H' l = some (.lst ys) → TpAll H' ys ((s.ent ρ p).map prD) → Q (.ref l) H'
theorem nums_len : ∀ (b : Bk) (p : Int), (b.nums p).length = b.lst.length
  | .nil, _ => rfl
  | .cons s b, p => by
    show (b.nums (p + s.sz)).length + 1 = b.lst.length + 1
    rw [nums_len b]
theorem TpAll.flat {H : Hp} {ys : List V} {ds : List PyData} (h : TpAll H ys ds) : ∀ n : Nat, TpAll H (List.replicate n ys).flatten (List.replicate n ds).flatten
  | 0 => .nil
  | n + 1 => by
    simp only [List.replicate_succ, List.flatten_cons]
    exact h.append (TpAll.flat h n)
theorem map_flat {α β : Type} (f : α → β) (n : Nat) (l : List α) : (List.replicate n l).flatten.map f = (List.replicate n (l.map f)).flatten := by
  induction n with
  | zero => rfl
  | succ n ih => rw [List.replicate_succ, List.replicate_succ, List.flatten_cons, List.flatten_cons, List.map_append, ih]
theorem flat_len {α : Type} (n : Nat) (l : List α) : (List.replicate n l).flatten.length = n * l.length := by
  induction n with
  | zero => simp
  | succ n ih => rw [List.replicate_succ, List.flatten_cons, List.length_append, ih, Nat.succ_mul, Nat.add_comm]
mutual
theorem St.sz_wt {ns : List Str} : ∀ {s : St} {d : Nat}, s.ok ns d → s.sz ≤ s.wt
  | .set _ _, _, _ => Nat.le_refl _
  | .pay _, _, _ => Nat.le_refl _
  | .stop, _, _ => Nat.le_refl _
  | .ite t y n, d, ⟨h1, h2, h3⟩ => by
    have a := Bk.sz_wt h2
    have b := Bk.sz_wt h3
    simp only [St.sz, St.wt]
    omega
  | .rep k y, d, ⟨h1, h2, h3⟩ => by
    have a := Bk.sz_wt h3
    simp only [St.sz, St.wt]
    have := Nat.le_mul_of_pos_left y.wt (show 0 < k.toNat by omega)
    omega
theorem Bk.sz_wt {ns : List Str} : ∀ {b : Bk} {d : Nat}, b.ok ns d → b.sz ≤ b.wt
  | .nil, _, _ => Nat.le_refl _
  | .cons s b, d, ⟨h1, h2, h3⟩ => by
    have a := St.sz_wt h2
    have c := Bk.sz_wt h3
    simp only [Bk.sz, Bk.wt]
    omega
end
section
variable {w : World} {P : Program} {K : PySem.W.Frag} {mg : Str → Option Value} {base : Heap}
end
def spRunA : Sp := fun vs H Q E => ∃ ns, spRun ns vs H Q E
def spSignA : Sp := fun vs H Q _ => ∃ (ns : List Str) (v : V) (b : Bk) (x : Int), vs = [v, .int x] ∧ Tp H v (.tuple b.ds) ∧ b.ok ns 4 ∧ b.sz < 16777216 ∧ b.wt ≤ 1000000 ∧ ∀ H', Sx [] H H' → Q (.int (sgn (b.run 0 (Wd.at x)).1.tot)) H'
theorem FnOk.ex {P : Program} {w : World} {K : PySem.W.Frag} {mg : Str → Option Value} {base : Heap} {CX : CXT} {k : Nat} {f : Addr} {fd : FuncData} {ps : List Str} {ι : Type} {sp : ι → Sp} (F : ∀ i, FnOk P w K mg base CX k f fd ps (sp i)) :
    FnOk P w K mg base CX k f fd ps (fun vs H Q E => ∃ i, sp i vs H Q E) :=
  ⟨fun vs H Q E ⟨i, h⟩ => (F i).len vs H Q E h, fun A o s H ar us vs Q E hr e b r ⟨i, h⟩ => (F i).run A o s H ar us vs Q E hr e b r h⟩

/-- what lies on a stack runs -/
def runS : List (Int × St) → Wd → Wd × Bool
  | [], w => (w, false)
  | (p, s) :: r, w => if (s.run p w).2 = true then s.run p w else runS r (s.run p w).1
theorem runS_append : ∀ (l m : List (Int × St)) (w : Wd), runS (l ++ m) w = if (runS l w).2 = true then runS l w else runS m (runS l w).1
  | [], m, w => by show runS m w = if (false = true) then _ else runS m w; rw [if_neg (by simp)]
  | (p, s) :: l, m, w => by
    show (if (s.run p w).2 = true then s.run p w else runS (l ++ m) (s.run p w).1) = if (runS ((p, s) :: l) w).2 = true then _ else _
    by_cases h : (s.run p w).2 = true
    · have e : runS ((p, s) :: l) w = s.run p w := by show (if _ then _ else _) = _; rw [if_pos h]
      rw [e, if_pos h, if_pos h]
    · have e : runS ((p, s) :: l) w = runS l (s.run p w).1 := by show (if _ then _ else _) = _; rw [if_neg h]
      rw [e, if_neg h, runS_append l m]
theorem runS_nums : ∀ (b : Bk) (p : Int) (w : Wd), runS (b.nums p) w = b.run p w
  | .nil, _, _ => rfl
  | .cons s b, p, w => by
    show (if (s.run p w).2 = true then s.run p w else runS (b.nums (p + s.sz)) (s.run p w).1) = if (s.run p w).2 = true then s.run p w else b.run (p + s.sz) (s.run p w).1
    rw [runS_nums b]
theorem runS_rep (l : List (Int × St)) : ∀ (n : Nat) (w : Wd), runS (List.replicate n l).flatten w = itr (runS l) n w
  | 0, _ => rfl
  | n + 1, w => by
    rw [List.replicate_succ, List.flatten_cons, runS_append, runS_rep l n]
    rfl
/-- a test or a repeat is entered -/
theorem runS_ent {s : St} {p : Int} {w : Wd} (h : (∃ t y n, s = .ite t y n) ∨ ∃ k y, s = .rep k y) : runS (s.ent w.en p) ⟨w.en, w.tot, w.pl ++ [p]⟩ = s.run p w := by
  rcases h with ⟨t, y, n, rfl⟩ | ⟨k, y, rfl⟩
  · simp only [St.ent, St.run]
    split
    · rw [runS_nums]
    · rw [runS_nums]
  · simp only [St.ent, St.run]
    rw [runS_rep]
    congr 1
    funext w
    exact runS_nums y _ w
def stkWt (l : List (Int × St)) : Nat := (l.map fun x => x.2.wt).sum
theorem stkWt_cons (x : Int × St) (l : List (Int × St)) : stkWt (x :: l) = x.2.wt + stkWt l := rfl
theorem stkWt_append (l m : List (Int × St)) : stkWt (l ++ m) = stkWt l + stkWt m := by unfold stkWt; rw [List.map_append, List.sum_append]
theorem stkWt_nums : ∀ (b : Bk) (p : Int), stkWt (b.nums p) = b.wt
  | .nil, _ => rfl
  | .cons s b, p => by
    show stkWt ((p, s) :: b.nums (p + s.sz)) = s.wt + b.wt
    rw [stkWt_cons, stkWt_nums b]
theorem stkWt_rep (l : List (Int × St)) : ∀ n : Nat, stkWt (List.replicate n l).flatten = n * stkWt l
  | 0 => by rw [Nat.zero_mul]; rfl
  | n + 1 => by rw [List.replicate_succ, List.flatten_cons, stkWt_append, stkWt_rep l n, Nat.succ_mul, Nat.add_comm]
theorem St.wt_pos (s : St) : 1 ≤ s.wt := by cases s <;> simp [St.wt] <;> omega
theorem ent_wt {s : St} {p : Int} {ρ : Str → Int} : stkWt (s.ent ρ p) + 1 ≤ s.wt := by
  cases s with
  | ite t y n =>
    simp only [St.ent, St.wt]
    split
    · rw [stkWt_nums]; omega
    · rw [stkWt_nums]; omega
  | rep k y =>
    simp only [St.ent, St.wt]
    rw [stkWt_rep, stkWt_nums]
    omega
  | _ => simp [St.ent, St.wt, stkWt]
theorem wt_le : ∀ l : List (Int × St), l.length ≤ stkWt l
  | [] => Nat.le_refl _
  | x :: l => by
    rw [List.length_cons, stkWt_cons]
    have := wt_le l
    have := x.2.wt_pos
    omega
/-- all that lies there is a statement within bounds -/
def StkOk (ns : List Str) (l : List (Int × St)) : Prop := ∀ x ∈ l, (∃ d, x.2.ok ns d) ∧ x.2.sz < 16777216
theorem StkOk.nums {ns : List Str} {d : Nat} : ∀ {b : Bk} {p : Int}, b.ok ns d → b.sz < 16777216 → StkOk ns (b.nums p)
  | .nil, _, _, _ => fun x hx => by cases hx
  | .cons s b, p, ⟨h1, h2, h3⟩, hz => fun x hx => by
    simp only [Bk.sz] at hz
    rcases List.mem_cons.1 hx with rfl | hx
    · exact ⟨⟨_, h2⟩, by show s.sz < 16777216; omega⟩
    · exact StkOk.nums h3 (by omega) x hx
theorem StkOk.ent {ns : List Str} {s : St} {d : Nat} {p : Int} {ρ : Str → Int} (h : s.ok ns d) (hz : s.sz < 16777216) : StkOk ns (s.ent ρ p) := by
  cases s with
  | ite t y n =>
    simp only [St.sz] at hz
    simp only [St.ent]
    split
    · exact StkOk.nums h.2.1 (by omega)
    · exact StkOk.nums h.2.2 (by omega)
  | rep k y =>
    simp only [St.sz] at hz
    intro x hx
    simp only [St.ent] at hx
    obtain ⟨l, hl, hx⟩ := List.mem_flatten.1 hx
    obtain ⟨_, rfl⟩ := List.mem_replicate.mp hl
    exact StkOk.nums h.2.2 (by omega) x hx
  | _ => intro x hx; cases hx
/-- names at N, places at L; c more names fit in -/
structure Rn (H : Hp) (N L : Addr) (w : Wd) (c : Nat) : Prop where
  hn : ∃ kvs : List (Key × V), H N = some (.dK kvs) ∧ kvs.length + c ≤ w.pl.length + 1 ∧ ∀ z, (valV kvs (.inr z)).getD (.int 0) = .int (w.en z)
  hl : H L = some (.lst (w.pl.map V.int))
theorem Rn.sx {H H' : Hp} {N L : Addr} {w : Wd} {c : Nat} (R : Rn H N L w c) (s : Sx [] H H') : Rn H' N L w c := by
  obtain ⟨kvs, h1, h2, h3⟩ := R.hn
  exact ⟨⟨kvs, s _ _ (by simp) h1, h2, h3⟩, s _ _ (by simp) R.hl⟩
theorem Rn.at_ {H : Hp} {N L Z : Addr} {w : Wd} {c : Nat} {xs : List V} {o : HO} (R : Rn H N L w c) (_ : H Z = some (.lst xs)) (h2 : Z ≠ L) (h3 : Z ≠ N) : Rn (upd H Z o) N L w c := by
  obtain ⟨kvs, h1, h4, h5⟩ := R.hn
  exact ⟨⟨kvs, by rw [upd_ne h3.symm]; exact h1, h4, h5⟩, by rw [upd_ne h2.symm]; exact R.hl⟩
theorem Rn.en {H : Hp} {N L : Addr} {w : Wd} {c : Nat} (R : Rn H N L w c) : En H N w.en := by
  obtain ⟨kvs, h1, _, h2⟩ := R.hn
  exact ⟨kvs, h1, h2⟩
theorem Rn.less {H : Hp} {N L : Addr} {w : Wd} {c : Nat} (R : Rn H N L w (c + 1)) : Rn H N L w c := by
  obtain ⟨kvs, h1, h2, h3⟩ := R.hn
  exact ⟨⟨kvs, h1, by omega, h3⟩, R.hl⟩
theorem Rn.nl {H : Hp} {N L : Addr} {w : Wd} {c : Nat} (R : Rn H N L w c) : N ≠ L := fun e => by
  obtain ⟨kvs, h, _⟩ := R.hn
  rw [e, R.hl] at h
  cases h
theorem Rn.place {H : Hp} {N L : Addr} {w : Wd} (R : Rn H N L w 0) (i : Int) : Rn (upd H L (.lst (w.pl.map V.int ++ [.int i]))) N L ⟨w.en, w.tot, w.pl ++ [i]⟩ 1 := by
  obtain ⟨kvs, h1, h2, h3⟩ := R.hn
  refine ⟨⟨kvs, by rw [upd_ne R.nl]; exact h1, ?_, h3⟩, by rw [upd_same, List.map_append]; rfl⟩
  show kvs.length + 1 ≤ (w.pl ++ [i]).length + 1
  rw [List.length_append]
  have : [i].length = 1 := rfl
  omega
theorem Rn.tot {H : Hp} {N L : Addr} {w : Wd} {c : Nat} (R : Rn H N L w c) (t : Int) : Rn H N L ⟨w.en, t, w.pl⟩ c := ⟨R.hn, R.hl⟩
theorem Rn.set {H : Hp} {N L : Addr} {w : Wd} {kvs : List (Key × V)} (R : Rn H N L w 1) (h : H N = some (.dK kvs)) (z : Str) (v : Int) : kvs.length < w.pl.length + 1 ∧ Rn (upd H N (.dK (putK kvs (.inr z) (.int v)))) N L ⟨fun y => if y = z then v else w.en y, w.tot, w.pl⟩ 0 := by
  obtain ⟨kvs', h1, h2, h3⟩ := R.hn
  rw [h1] at h
  cases h
  refine ⟨by omega, ⟨_, upd_same, ?_, fun y => ?_⟩, by rw [upd_ne R.nl.symm]; exact R.hl⟩
  · have : (putK kvs (.inr z) (.int v)).length ≤ kvs.length + 1 := by
      unfold putK
      split
      · rw [List.length_map]; omega
      · rw [List.length_append]; exact Nat.le_refl _
    show (putK kvs (.inr z) (.int v)).length + 0 ≤ w.pl.length + 1
    omega
  · rw [valV_put]
    by_cases e : y = z
    · rw [if_pos (by rw [e]), e]
      show V.int v = V.int (if z = z then v else w.en z)
      rw [if_pos rfl]
    · rw [if_neg (fun q => e (Sum.inr.inj q)), h3 y]
      show V.int (w.en y) = V.int (if y = z then v else w.en y)
      rw [if_neg e]
theorem Stk.ext {H : Hp} {L : Addr} {ws es : List (Int × St)} {ys : List V} (h : Stk H L ws) (t : TpAll H ys (es.map prD)) : ∃ acc, H L = some (.lst acc) ∧ acc.length = ws.length ∧ Stk (upd H L (.lst (acc ++ ys.reverse))) L (es ++ ws) := by
  obtain ⟨vals, h1, h2⟩ := h
  have e := h2.len
  rw [List.length_map] at e
  refine ⟨_, h1, by rw [List.length_reverse, e], ys ++ vals, by rw [upd_same, List.reverse_append], ?_⟩
  rw [List.map_append]
  exact (t.keep (Tk.lst h1)).append (h2.keep (Tk.lst h1))
theorem Stk.dk {H : Hp} {L N : Addr} {ws : List (Int × St)} {kvs : List (Key × V)} {o : HO} (h : Stk H L ws) (hn : H N = some (.dK kvs)) : Stk (upd H N o) L ws := by
  obtain ⟨vals, h1, h2⟩ := h
  have k : Tk H (upd H N o) := fun b xs e => by
    rw [upd_ne (fun z => by rw [z, hn] at e; cases e)]
    exact e
  exact ⟨vals, by rw [upd_ne (fun z => by rw [z, hn] at h1; cases h1)]; exact h1, h2.keep k⟩
theorem Stk.ls {H : Hp} {L Z : Addr} {ws : List (Int × St)} {xs : List V} {o : HO} (h : Stk H L ws) (hz : H Z = some (.lst xs)) (n : L ≠ Z) : Stk (upd H Z o) L ws := by
  obtain ⟨vals, h1, h2⟩ := h
  exact ⟨vals, by rw [upd_ne n]; exact h1, h2.keep (Tk.lst hz)⟩
theorem hd_is : ¬ (decide (V.str "if" = V.str "set") = true) := by decide +kernel
theorem hd_ip : ¬ (decide (V.str "if" = V.str "pay") = true) := by decide +kernel
theorem hd_rs : ¬ (decide (V.str "repeat" = V.str "set") = true) := by decide +kernel
theorem hd_rp : ¬ (decide (V.str "repeat" = V.str "pay") = true) := by decide +kernel
theorem St.hd_kd {st : St} (kd : (∃ t y' n', st = .ite t y' n') ∨ ∃ k y', st = .rep k y') : ¬ (decide (V.str st.hd = V.str "set") = true) ∧ ¬ (decide (V.str st.hd = V.str "pay") = true) := by
  rcases kd with ⟨_, _, _, rfl⟩ | ⟨_, _, rfl⟩
  · exact ⟨hd_is, hd_ip⟩
  · exact ⟨hd_rs, hd_rp⟩
section
variable {w : World} {P : Program} {K : PySem.W.Frag} {mg : Str → Option Value} {base : Heap}
theorem FnOk.up {CX : CXT} {j k : Nat} {f : Addr} {fd : FuncData} {ps : List Str} {sp : Sp} (F : FnOk P w K mg base CX j f fd ps sp) (h : j ≤ k) : FnOk P w K mg base CX k f fd ps sp :=
  ⟨F.len, fun A o s H ar us vs Q E hr => F.run A o s H ar us vs Q E (hr.mono h)⟩
end
abbrev sLittle : Stmt := topS 43
abbrev nLittle : List Str := ["_law_deck_here", "_law_names_here", "_law_a", "_law_b", "_law_c", "_law_d", "_law_e", "_law_way", "_law_by", "_law_test_here", "_law_rest", "_law_k"]
theorem scLittle : FnScope nLittle ["_law_deck_here", "_law_names_here"] (defScope sLittle) := ⟨rfl, rfl, rfl, by decide +kernel, rfl, by decide +kernel, by decide +kernel⟩
/-! ### small programs, and families -/
def cL : Int := 700020
def spLittleT (K : PySem.W.Frag) : Sp := fun vs H Q _ => ∃ (a c : Addr) (cs : List Int) (k : Int) (nm : Addr) (ns : List Str), vs = [.ref a, .ref nm] ∧ Dk H a c cs k ∧ Nms K H nm ns ∧ nm ≠ a ∧ nm ≠ c ∧ k + cL ≤ KB ∧
  ∀ H' cs' k' v (b : Bk), Sx [a, c] H H' → Dk H' a c cs' k' → k ≤ k' → k' ≤ k + cL → Tp H' v (.tuple b.ds) → b.ok ns 4 → b.sz ≤ 12 → b.wt ≤ 16 → b.tn true + b.tn false ≤ 4 → Q v H'
/-- so many numbers from -1 to 1 -/
def P3 (H0 : Hp) (a c : Addr) (k : Int) (Z : Addr) (i : Nat) (H' : Hp) : Prop := Sx [a, c] H0 H' ∧ (∃ cs', Dk H' a c cs' (k + i)) ∧ ∃ ls : List Int, H' Z = some (.lst (ls.map V.int)) ∧ ls.length = i ∧ ∀ x ∈ ls, -1 ≤ x ∧ x ≤ 1
theorem tpL (H : Hp) (z : Str) (x : V) (d : PyData) (p : Addr) (t : Tp H x d) (hp : H p = none) : Tp (upd H p (.tup [.str z, x])) (.ref p) (.tuple [.str z, d]) := .tup upd_same (.cons (.str _) (.cons (t.new hp) .nil))
theorem tpB {H : Hp} {x : V} {d : PyData} {p : Addr} (t : Tp H x d) (hp : H p = none) : Tp (upd H p (.tup [x])) (.ref p) (.tuple [d]) := .tup upd_same (.cons (t.new hp) .nil)
section
variable {w : World} {P : Program} {K : PySem.W.Frag} {mg : Str → Option Value} {base : Heap}
set_option maxHeartbeats 4000001 in
theorem ok_littleT {f fD fP : Addr} {fd fdD fdP : FuncData} (F : Fun K "_law_little" "_law_little" sLittle f fd) (F_draw : Fun K "_law_draw" "_law_draw" sDraw fD fdD) (F_program : Fun K "_law_program" "_law_program" sProgram fP fdP)
    (G_draw : FnOk P w K mg base CX0 1 fD fdD ["_law_deck_here", "_law_many"] spDraw) (G_program : FnOk P w K mg base CX0 15 fP fdP ["_law_deck_here", "_law_names_here"] (spProgT K))
    (b_draw : Binds K fdD ["_law_deck_here", "_law_many"] []) (b_program : Binds K fdP ["_law_deck_here", "_law_names_here"] [])
    (m_draw : mg "_law_draw" = some (.ref fD)) (m_program : mg "_law_program" = some (.ref fP)) (z_range : mg "range" = none) :
    FnOk P w K mg base CX0 16 f fd ["_law_deck_here", "_law_names_here"] (spLittleT K) := by
  refine F.ok scLittle (fun vs H Q E h => ?_) (fun cdv A outer s H vs Q E hr h => ?_)
  · obtain ⟨a, c, cs, k, nm, ns, rfl, _⟩ := h
    rfl
  · obtain ⟨a, c, cs, k, nm, ns, rfl, D, N, na, nc, hk, q⟩ := h
    have eL : cL = 700020 := rfl
    have eP : cP = 700000 := rfl
    refine ⟨_, (pss_cons (ps_par (i := 2) (j := 3) (by rfl) scLittle.nd rfl rfl (by decide) rfl rfl (pa_cons (pe_op op_sub (pe_call G_draw (hr.mono (by omega)) (by rfl) m_draw F_draw.kp b_draw .nil pass0 (pa_cons (pv 0) (pa_cons pe_int pa_nil))) pe_int) (pa_cons (pe_op op_sub (pe_call G_draw (hr.mono (by omega)) (by rfl) m_draw F_draw.kp b_draw .nil pass0 (pa_cons (pv 0) (pa_cons pe_int pa_nil))) pe_int) pa_nil)) (by rfl))
      (pss_cons (ps_asg (pe_lc (own := [("_law_k", 11)]) (g := gName 11) (tt := tYes) rfl scLittle.nd (pi_range1 (by rfl) z_range (pa_cons pe_int pa_nil)) (blkOk_by (N := nLittle) (sc := defScope sLittle) (by decide +kernel)) (fun _ _ _ _ _ => (pg_name (i := 11) scLittle.nd rfl (by first | exact Or.inl rfl | exact Or.inr rfl))) (fun _ _ _ _ _ => pts_nil) (fun _ _ _ _ _ => (pe_op op_sub (pe_call G_draw (hr.mono (by omega)) (by rfl) m_draw F_draw.kp b_draw .nil pass0 (pa_cons (pv 0) (pa_cons pe_int pa_nil))) pe_int))) (pg_unl rfl (pgs_cons (pg_name (i := 4) scLittle.nd rfl (by first | exact Or.inl rfl | exact Or.inr rfl)) (pgs_cons (pg_name (i := 5) scLittle.nd rfl (by first | exact Or.inl rfl | exact Or.inr rfl)) (pgs_cons (pg_name (i := 6) scLittle.nd rfl (by first | exact Or.inl rfl | exact Or.inr rfl)) pgs_nil)))))
      (pss_cons (ps_par (i := 7) (j := 8) (by rfl) scLittle.nd rfl rfl (by decide) rfl rfl (pa_cons (pe_call G_draw (hr.mono (by omega)) (by rfl) m_draw F_draw.kp b_draw .nil pass0 (pa_cons (pv 0) (pa_cons pe_int pa_nil))) (pa_cons (pe_op op_add pe_int (pe_call G_draw (hr.mono (by omega)) (by rfl) m_draw F_draw.kp b_draw .nil pass0 (pa_cons (pv 0) (pa_cons pe_int pa_nil)))) pa_nil)) (by rfl))
      (pss_cons (ps_par (i := 9) (j := 10) (by rfl) scLittle.nd rfl rfl (by decide) rfl rfl (pa_cons (pe_tup (pa_cons pe_str (pa_cons pe_str (pa_cons (pv 2) pa_nil)))) (pa_cons (pe_tup (pa_cons pe_str (pa_cons pe_str (pa_cons (pv 8) (pa_cons (pe_call G_draw (hr.mono (by omega)) (by rfl) m_draw F_draw.kp b_draw .nil pass0 (pa_cons (pv 0) (pa_cons (pv 8) pa_nil))) pa_nil))))) pa_nil)) (by rfl))
      (pss_cons (ps_if (pt_cmpR op_eq (pv 7) pe_int (nomark _)) (pss_one (ps_ret (pe_tup (pa_cons (pe_tup (pa_cons pe_str (pa_cons (pe_tup (pa_cons pe_str (pa_cons pe_str (pa_cons (pv 2) pa_nil)))) pa_nil))) pa_nil)))) pss_nil)
      (pss_cons (ps_if (pt_cmpR op_eq (pv 7) pe_int (nomark _)) (pss_one (ps_ret (pe_tup (pa_cons (pe_tup (pa_cons pe_str (pa_cons (pv 9) (pa_cons (pe_tup (pa_cons (pe_tup (pa_cons pe_str (pa_cons (pv 4) pa_nil))) pa_nil)) (pa_cons (pe_tup (pa_cons (pe_tup (pa_cons pe_str (pa_cons (pv 5) pa_nil))) pa_nil)) pa_nil))))) pa_nil)))) pss_nil)
      (pss_cons (ps_if (pt_cmpR op_eq (pv 7) pe_int (nomark _)) (pss_one (ps_ret (pe_tup (pa_cons (pe_tup (pa_cons pe_str (pa_cons (pv 10) (pa_cons (pe_tup (pa_cons (pe_tup (pa_cons pe_str (pa_cons (pv 4) pa_nil))) pa_nil)) (pa_cons (pe_tup (pa_cons (pe_tup (pa_cons pe_str (pa_cons (pe_tup (pa_cons pe_str (pa_cons (pv 2) (pa_cons pe_str pa_nil)))) pa_nil))) pa_nil)) pa_nil))))) pa_nil)))) pss_nil)
      (pss_cons (ps_if (pt_cmpR op_eq (pv 7) pe_int (nomark _)) (pss_one (ps_ret (pe_tup (pa_cons (pe_tup (pa_cons pe_str (pa_cons (pv 9) (pa_cons (pe_tup (pa_cons (pe_tup (pa_cons pe_str (pa_cons (pv 4) pa_nil))) pa_nil)) (pa_cons (pe_tup (pa_cons (pe_tup (pa_cons pe_str (pa_cons (pe_tup (pa_cons pe_str (pa_cons pe_str (pa_cons (pv 3) pa_nil)))) (pa_cons (pe_tup (pa_cons (pe_tup (pa_cons pe_str (pa_cons (pv 5) pa_nil))) pa_nil)) (pa_cons (pe_tup (pa_cons (pe_tup (pa_cons pe_str (pa_cons (pv 6) pa_nil))) pa_nil)) pa_nil))))) pa_nil)) pa_nil))))) pa_nil)))) pss_nil)
      (pss_cons (ps_if (pt_cmpR op_eq (pv 7) pe_int (nomark _)) (pss_one (ps_ret (pe_tup (pa_cons (pe_tup (pa_cons pe_str (pa_cons (pe_ix ix_list (pv 1) pe_int (fun _ _ => rfl)) (pa_cons (pe_tup (pa_cons pe_str (pa_cons pe_str (pa_cons (pv 2) pa_nil)))) pa_nil)))) (pa_cons (pe_tup (pa_cons pe_str (pa_cons pe_int (pa_cons (pe_tup (pa_cons (pe_tup (pa_cons pe_str (pa_cons (pe_ix ix_list (pv 1) pe_int (fun _ _ => rfl)) pa_nil))) pa_nil)) pa_nil)))) (pa_cons (pe_tup (pa_cons pe_str (pa_cons (pv 4) pa_nil))) pa_nil)))))) pss_nil)
      (pss_cons (ps_if (pt_cmpR op_eq (pv 7) pe_int (nomark _)) (pss_one (ps_ret (pe_tup (pa_cons (pe_tup (pa_cons pe_str (pa_cons (pv 10) (pa_cons (pe_tup (pa_cons (pe_tup (pa_cons pe_str (pa_cons (pv 9) (pa_cons (pe_tup (pa_cons (pe_tup (pa_cons pe_str (pa_cons (pv 4) pa_nil))) pa_nil)) (pa_cons (pe_tup pa_nil) pa_nil))))) pa_nil)) (pa_cons (pe_tup pa_nil) pa_nil))))) pa_nil)))) pss_nil)
      (pss_one (ps_ret (pe_ifExp (pt_cmpR op_eq (pv 7) pe_int (nomark _)) (pe_tup (pa_cons (pe_tup (pa_cons pe_str (pa_cons (pv 4) pa_nil))) pa_nil)) (pe_call G_program (hr.mono (by omega)) (by rfl) m_program F_program.kp b_program .nil pass0 (pa_cons (pv 0) (pa_cons (pv 1) pa_nil)))))))))))))))), ?_⟩
    refine ⟨_, rfl, a, c, cs, k, 13, rfl, D, by decide, by decide, by omega, fun H1 cs1 ya s1 D1 ya0 ya1 => ⟨ya, 6, rfl, rfl, ?_⟩⟩
    refine ⟨_, rfl, a, c, cs1, k + 1, 13, rfl, D1, by decide, by decide, by omega, fun H2 cs2 yb s2 D2 yb0 yb1 => ⟨yb, 6, rfl, rfl, ?_⟩⟩
    refine ⟨_, _, rfl, ?_⟩
    have s2 := s1.trans s2
    -- three numbers
    refine ⟨3, rfl, by decide, by decide, fun Z hZ => lc_range (lo := 0) (n := (3 : Int).toNat) (fun i H' => P3 H2 a c (k + 1 + 1) Z i H')
      ⟨(Sx.refl _).new hZ, ⟨cs2, by have := D2.new (o := .lst []) hZ; rw [show k + 1 + 1 + ((0 : Nat) : Int) = k + 1 + 1 by omega]; exact this⟩, [], upd_same, rfl, fun _ z => by simp at z⟩ (fun i H' hi p => ?_) (fun H' p => ?_)⟩
    · obtain ⟨p1, ⟨cs', D'⟩, ls, p3, p4, p5⟩ := p
      refine ⟨rfl, ?_⟩
      obtain ⟨Za, Zc⟩ := D2.nw hZ
      refine ⟨_, rfl, a, c, cs', _, 3, rfl, D', by decide, by decide, by omega, fun H5 cs5 x s5 D5 x0 x1 => ⟨x, 1, rfl, rfl, ?_⟩⟩
      refine ⟨_, s5 _ _ (by simp [Za, Zc]) p3, lt_line (by rw [List.length_map]; omega), (p1.trans s5).own hZ, ⟨cs5, ?_⟩, ls ++ [x - 1], by rw [upd_same, List.map_append]; rfl, by rw [List.length_append, p4]; rfl, fun y hy => ?_⟩
      · rw [show k + 1 + 1 + ((i + 1 : Nat) : Int) = k + 1 + 1 + i + 1 by omega]
        exact D5.sx ((Sx.refl (ex := [Z]) _).put (by simp)) (by simp [Za.symm]) (by simp [Zc.symm])
      · rcases List.mem_append.1 hy with z | z
        · exact p5 y z
        · rw [List.mem_singleton.mp z]; omega
    obtain ⟨p1, ⟨cs3, D3⟩, ls, p3, p4, p5⟩ := p
    have p4 : ls.length = 3 := p4
    obtain ⟨yc, yd, ye, rfl⟩ : ∃ x y z, ls = [x, y, z] := by
      match ls, p4 with
      | [x, y, z], _ => exact (⟨x, y, z, rfl⟩)
    obtain ⟨yc0, yc1⟩ := p5 yc (by simp)
    obtain ⟨yd0, yd1⟩ := p5 yd (by simp)
    obtain ⟨ye0, ye1⟩ := p5 ye (by simp)
    have D3 : Dk H' a c cs3 (k + 5) := by
      have e : k + 1 + 1 + (((3 : Int).toNat : Nat) : Int) = k + 5 := by show k + 1 + 1 + ((3 : Nat) : Int) = k + 5; omega
      rw [e] at D3
      exact D3
    refine ⟨Z, _, rfl, SqL.of p3, rfl, _, _, rfl, gnm ⟨_, _, rfl, gnm ⟨_, _, rfl, gnm ⟨rfl, ?_⟩⟩⟩⟩
    have s3 := s2.trans p1
    clear p1 p3 p4 p5 D D1 D2 s1 s2
    -- the way, and a divisor
    refine ⟨_, rfl, a, c, cs3, _, 8, rfl, D3, by decide, by decide, by omega, fun H4 cs4 wy s4 D4 w0 w1 => ?_⟩
    refine ⟨_, rfl, a, c, cs4, _, 5, rfl, D4, by decide, by decide, by omega, fun H5 cs5 by' s5 D5 b0 b1 => ⟨2, by', rfl, rfl, ?_⟩⟩
    refine ⟨_, _, rfl, ?_⟩
    have s5 := (s3.trans s4).trans s5
    -- the tests
    refine ⟨_, rfl, by show 3 ≤ sizeLine; decide, fun p1 hp1 => ?_⟩
    have D6 := D5.new (o := .tup [.str "less", .str "n", .int (ya - 6)]) hp1
    have s6 := s5.new (o := .tup [.str "less", .str "n", .int (ya - 6)]) hp1
    have t1 : Tp (upd H5 p1 (.tup [.str "less", .str "n", .int (ya - 6)])) (.ref p1) (Ts.less (.name "n") (.int (ya - 6))).d := .tup upd_same (.cons (.str _) (.cons (.str _) (.cons (.int _) .nil)))
    generalize upd H5 p1 (.tup [.str "less", .str "n", .int (ya - 6)]) = H6 at D6 s6 t1 ⊢
    refine ⟨_, rfl, _, rfl, _, rfl, a, c, cs5, _, _, rfl, D6, by show (0 : Int) < 2 + by'; omega, by show 2 + by' < 1073741824; omega, by omega, fun H7 cs7 yr s7 D7 r0 r1 => ⟨by show 4 ≤ sizeLine; decide, fun p2 hp2 => ?_⟩⟩
    have t1 := (t1.keep (D6.tk s7)).new (o := .tup [.str "rest", .str "n", .int (2 + by'), .int yr]) hp2
    have t2 : Tp (upd H7 p2 (.tup [.str "rest", .str "n", .int (2 + by'), .int yr])) (.ref p2) (Ts.rest (.name "n") (2 + by') yr).d := .tup upd_same (.cons (.str _) (.cons (.str _) (.cons (.int _) (.cons (.int _) .nil))))
    have D8 := D7.new (o := .tup [.str "rest", .str "n", .int (2 + by'), .int yr]) hp2
    have s8 := (s6.trans s7).new (o := .tup [.str "rest", .str "n", .int (2 + by'), .int yr]) hp2
    generalize upd H7 p2 (.tup [.str "rest", .str "n", .int (2 + by'), .int yr]) = H8 at t1 t2 D8 s8 ⊢
    refine ⟨_, _, rfl, ?_⟩
    have N8 := N.keep s8 (by simp [na, nc])
    clear D3 D4 D5 D6 D7 s3 s4 s5 s6 s7 hp1 hp2
    obtain ⟨z1, hz1, e1⟩ := N.two
    have nO : Ex.ok ns (.name "n") 3 := ⟨by decide, N.hn⟩
    have aO : Ex.ok ns (.int (ya - 6)) 3 := ⟨by decide, by omega, by omega⟩
    have cO : Ex.ok ns (.int yc) 3 := ⟨by decide, by omega, by omega⟩
    have dO : Ex.ok ns (.int yd) 3 := ⟨by decide, by omega, by omega⟩
    have eO : Ex.ok ns (.int ye) 3 := ⟨by decide, by omega, by omega⟩
    have lO : Ts.ok ns (.less (.name "n") (.int (ya - 6))) 2 := ⟨nO, aO⟩
    have rO : Ts.ok ns (.rest (.name "n") (2 + by') yr) 2 := ⟨nO, by omega, by omega, r0, r1⟩
    have fin : ∀ {H9 : Hp} {v : V} {b : Bk}, Sx [] H8 H9 → Tp H9 v (.tuple b.ds) → b.ok ns 4 → b.sz ≤ 12 → b.wt ≤ 16 → b.tn true + b.tn false ≤ 4 → Q v H9 := fun {H9 v b} s9 t9 o z w tt => q H9 cs7 _ v b (s8.trans s9.nil) (D8.same s9) (by omega) (by omega) t9 o z w tt
    have pay1 : ∀ (x : Ex), x.ok ns 3 → ∀ d, 1 ≤ d → Bk.ok ns (.cons (.pay x) .nil) d := fun x hx d hd => ⟨hd, hx, trivial⟩
    refine ⟨_, rfl, rfl, _, rfl, ite2 (fun _ => ?_) (fun _ => ?_)⟩
    · refine ⟨_, rfl, by show 3 ≤ sizeLine; decide, fun q1 h1 => ⟨by show 2 ≤ sizeLine; decide, fun q2 h2 => ⟨by show 1 ≤ sizeLine; decide, fun q3 h3 => ?_⟩⟩⟩
      exact fin (b := .cons (.pay (.minus (.name "n") (.int (ya - 6)))) .nil) (((Sx.n0 h1).new h2).new h3) (tpB (tpL _ _ _ _ _ (.tup upd_same (.cons (.str _) (.cons (.str _) (.cons (.int _) .nil)))) h2) h3) (pay1 (.minus (.name "n") (.int (ya - 6))) ⟨by decide, ⟨by decide, N.hn⟩, by decide, by omega, by omega⟩ 4 (by decide)) (by simp only [Bk.sz, St.sz]; omega) (by simp only [Bk.wt, St.wt]; omega) (Nat.le_of_ble_eq_true rfl)
    refine ⟨_, rfl, rfl, _, rfl, ite2 (fun _ => ?_) (fun _ => ?_)⟩
    · refine ⟨_, rfl, _, rfl, by show 2 ≤ sizeLine; decide, fun q1 h1 => ⟨by show 1 ≤ sizeLine; decide, fun q2 h2 => ⟨_, rfl, by show 2 ≤ sizeLine; decide, fun q3 h3 => ⟨by show 1 ≤ sizeLine; decide, fun q4 h4 => ⟨by show 4 ≤ sizeLine; decide, fun q5 h5 => ⟨by show 1 ≤ sizeLine; decide, fun q6 h6 => ?_⟩⟩⟩⟩⟩⟩
      have v1 := tpB (tpL H8 "pay" (.int yc) (.int yc) q1 (.int _) h1) h2
      have v2 := tpB (tpL _ "pay" (.int yd) (.int yd) q3 (.int _) h3) h4
      refine fin (b := .cons (.ite (.less (.name "n") (.int (ya - 6))) (.cons (.pay (.int yc)) .nil) (.cons (.pay (.int yd)) .nil)) .nil) ((((((Sx.n0 h1).new h2).new h3).new h4).new h5).new h6) (tpB (.tup upd_same (.cons (.str _) (.cons (((((t1.new h1).new h2).new h3).new h4).new h5) (.cons (((v1.new h3).new h4).new h5) (.cons (v2.new h5) .nil))))) h6)
        ⟨by decide, ⟨lO, pay1 _ cO 3 (by decide), pay1 _ dO 3 (by decide)⟩, trivial⟩ (by simp only [Bk.sz, St.sz]; omega) (by simp only [Bk.wt, St.wt]; omega) (Nat.le_of_ble_eq_true rfl)
    refine ⟨_, rfl, rfl, _, rfl, ite2 (fun _ => ?_) (fun _ => ?_)⟩
    · refine ⟨_, rfl, _, rfl, by show 2 ≤ sizeLine; decide, fun q1 h1 => ⟨by show 1 ≤ sizeLine; decide, fun q2 h2 => ⟨_, rfl, by show 3 ≤ sizeLine; decide, fun q0 h0 => ⟨by show 2 ≤ sizeLine; decide, fun q3 h3 => ⟨by show 1 ≤ sizeLine; decide, fun q4 h4 => ⟨by show 4 ≤ sizeLine; decide, fun q5 h5 => ⟨by show 1 ≤ sizeLine; decide, fun q6 h6 => ?_⟩⟩⟩⟩⟩⟩⟩
      have v1 := tpB (tpL H8 "pay" (.int yc) (.int yc) q1 (.int _) h1) h2
      have v2 := tpB (tpL _ "pay" (.ref q0) (Ex.minus (.int (ya - 6)) (.name "n")).d q3 (.tup upd_same (.cons (.str _) (.cons (.int _) (.cons (.str _) .nil)))) h3) h4
      refine fin (b := .cons (.ite (.rest (.name "n") (2 + by') yr) (.cons (.pay (.int yc)) .nil) (.cons (.pay (.minus (.int (ya - 6)) (.name "n"))) .nil)) .nil) (((((((Sx.n0 h1).new h2).new h0).new h3).new h4).new h5).new h6) (tpB (.tup upd_same (.cons (.str _) (.cons ((((((t2.new h1).new h2).new h0).new h3).new h4).new h5) (.cons ((((v1.new h0).new h3).new h4).new h5) (.cons (v2.new h5) .nil))))) h6)
        ⟨by decide, ⟨rO, pay1 _ cO 3 (by decide), pay1 (.minus (.int (ya - 6)) (.name "n")) ⟨by decide, ⟨by decide, by omega, by omega⟩, by decide, N.hn⟩ 3 (by decide)⟩, trivial⟩ (by simp only [Bk.sz, St.sz]; omega) (by simp only [Bk.wt, St.wt]; omega) (Nat.le_of_ble_eq_true rfl)
    refine ⟨_, rfl, rfl, _, rfl, ite2 (fun _ => ?_) (fun _ => ?_)⟩
    · refine ⟨_, rfl, _, rfl, by show 2 ≤ sizeLine; decide, fun q1 h1 => ⟨by show 1 ≤ sizeLine; decide, fun q2 h2 => ⟨_, rfl, by show 3 ≤ sizeLine; decide, fun q0 h0 => ⟨_, rfl, by show 2 ≤ sizeLine; decide, fun q3 h3 => ⟨by show 1 ≤ sizeLine; decide, fun q4 h4 => ⟨_, rfl, by show 2 ≤ sizeLine; decide, fun q5 h5 => ⟨by show 1 ≤ sizeLine; decide, fun q6 h6 => ?_⟩⟩⟩⟩⟩⟩⟩
      refine ⟨by show 4 ≤ sizeLine; decide, fun q7 h7 => ⟨by show 1 ≤ sizeLine; decide, fun q8 h8 => ⟨by show 4 ≤ sizeLine; decide, fun q9 h9 => ⟨by show 1 ≤ sizeLine; decide, fun q10 h10 => ?_⟩⟩⟩⟩
      have v1 := tpB (tpL H8 "pay" (.int yc) (.int yc) q1 (.int _) h1) h2
      have s2 : Sx [] H8 (upd (upd H8 q1 (.tup [.str "pay", .int yc])) q2 (.tup [.ref q1])) := (Sx.n0 h1).new h2
      have t1 := t1.keep s2.tk0
      generalize upd (upd H8 q1 (.tup [.str "pay", .int yc])) q2 (.tup [.ref q1]) = H9 at h0 h3 h4 h5 h6 h7 h8 h9 h10 v1 s2 t1 ⊢
      have v0 : Tp (upd H9 q0 (.tup [.str "less", .str "n", .int (yb - 6)])) (.ref q0) (Ts.less (.name "n") (.int (yb - 6))).d := .tup upd_same (.cons (.str _) (.cons (.str _) (.cons (.int _) .nil)))
      have s3 := s2.new (o := .tup [.str "less", .str "n", .int (yb - 6)]) h0
      have t1 := t1.new (o := .tup [.str "less", .str "n", .int (yb - 6)]) h0
      have v1 := v1.new (o := .tup [.str "less", .str "n", .int (yb - 6)]) h0
      generalize upd H9 q0 (.tup [.str "less", .str "n", .int (yb - 6)]) = H9 at h3 h4 h5 h6 h7 h8 h9 h10 v1 v0 s3 t1 ⊢
      have v2 := tpB (tpL H9 "pay" (.int yd) (.int yd) q3 (.int _) h3) h4
      have s4 : Sx [] H9 (upd (upd H9 q3 (.tup [.str "pay", .int yd])) q4 (.tup [.ref q3])) := (Sx.n0 h3).new h4
      have t1 := t1.keep s4.tk0
      have v1 := v1.keep s4.tk0
      have v0 := v0.keep s4.tk0
      have s4 := s3.trans s4
      generalize upd (upd H9 q3 (.tup [.str "pay", .int yd])) q4 (.tup [.ref q3]) = H9 at h5 h6 h7 h8 h9 h10 v1 v0 v2 s4 t1 ⊢
      have v3 := tpB (tpL H9 "pay" (.int ye) (.int ye) q5 (.int _) h5) h6
      have s5 : Sx [] H9 (upd (upd H9 q5 (.tup [.str "pay", .int ye])) q6 (.tup [.ref q5])) := (Sx.n0 h5).new h6
      have t1 := t1.keep s5.tk0
      have v1 := v1.keep s5.tk0
      have v0 := v0.keep s5.tk0
      have v2 := v2.keep s5.tk0
      have s5 := s4.trans s5
      generalize upd (upd H9 q5 (.tup [.str "pay", .int ye])) q6 (.tup [.ref q5]) = H9 at h7 h8 h9 h10 v1 v0 v2 v3 s5 t1 ⊢
      have v4 := tpB (.tup upd_same (.cons (.str "if") (.cons (v0.new h7) (.cons (v2.new h7) (.cons (v3.new h7) .nil))))) h8
      exact fin (b := .cons (.ite (.less (.name "n") (.int (ya - 6))) (.cons (.pay (.int yc)) .nil) (.cons (.ite (.less (.name "n") (.int (yb - 6))) (.cons (.pay (.int yd)) .nil) (.cons (.pay (.int ye)) .nil)) .nil)) .nil) ((((s5.new h7).new h8).new h9).new h10)
        (tpB (.tup upd_same (.cons (.str _) (.cons (((t1.new h7).new h8).new h9) (.cons (((v1.new h7).new h8).new h9) (.cons (v4.new h9) .nil))))) h10)
        ⟨by decide, ⟨lO, pay1 _ cO 3 (by decide), by decide, ⟨⟨nO, by decide, by omega, by omega⟩, pay1 _ dO 2 (by decide), pay1 _ eO 2 (by decide)⟩, trivial⟩, trivial⟩ (by simp only [Bk.sz, St.sz]; omega) (by simp only [Bk.wt, St.wt]; omega) (Nat.le_of_ble_eq_true rfl)
    refine ⟨_, rfl, rfl, _, rfl, ite2 (fun _ => ?_) (fun _ => ?_)⟩
    · have at1 : atI (ns.map V.str) 1 = some (.str z1) := atI_nat (j := 1) (by rw [List.getElem?_map, e1]; rfl)
      refine ⟨_, rfl, nm, _, _, .str z1, rfl, rfl, N8.at_, at1, _, rfl, by show 3 ≤ sizeLine; decide, fun q1 h1 => ⟨by show 3 ≤ sizeLine; decide, fun q2 h2 => ?_⟩⟩
      have x1 : Tp (upd H8 q1 (.tup [.str "plus", .str "n", .int (ya - 6)])) (.ref q1) (Ex.plus (.name "n") (.int (ya - 6))).d := .tup upd_same (.cons (.str _) (.cons (.str _) (.cons (.int _) .nil)))
      have n1 := Sx.n0 (o := .tup [.str "plus", .str "n", .int (ya - 6)]) h1
      generalize upd H8 q1 (.tup [.str "plus", .str "n", .int (ya - 6)]) = H9 at h2 x1 n1 ⊢
      have x2 : Tp (upd H9 q2 (.tup [.str "set", .str z1, .ref q1])) (.ref q2) (St.set z1 (.plus (.name "n") (.int (ya - 6)))).d := .tup upd_same (.cons (.str _) (.cons (.str _) (.cons (x1.new h2) .nil)))
      have n2 := n1.new (o := .tup [.str "set", .str z1, .ref q1]) h2
      generalize upd H9 q2 (.tup [.str "set", .str z1, .ref q1]) = H9 at x2 n2 ⊢
      refine ⟨_, rfl, nm, _, _, .str z1, rfl, rfl, (N8.keep n2 (by simp)).at_, at1, by show 2 ≤ sizeLine; decide, fun q3 h3 => ⟨by show 1 ≤ sizeLine; decide, fun q4 h4 => ⟨by show 3 ≤ sizeLine; decide, fun q5 h5 => ⟨_, rfl, by show 2 ≤ sizeLine; decide, fun q6 h6 => ⟨by show 3 ≤ sizeLine; decide, fun q7 h7 => ?_⟩⟩⟩⟩⟩
      have x3 := tpB (tpL H9 "pay" (.str z1) (.str z1) q3 (.str _) h3) h4
      have x5 : Tp (upd (upd (upd H9 q3 (.tup [.str "pay", .str z1])) q4 (.tup [.ref q3])) q5 (.tup [.str "repeat", .int 2, .ref q4])) (.ref q5) (St.rep 2 (.cons (.pay (.name z1)) .nil)).d := .tup upd_same (.cons (.str _) (.cons (.int _) (.cons (x3.new h5) .nil)))
      have x6 := tpL _ "pay" (.int yc) (.int yc) q6 (.int _) h6
      refine fin (b := .cons (.set z1 (.plus (.name "n") (.int (ya - 6)))) (.cons (.rep 2 (.cons (.pay (.name z1)) .nil)) (.cons (.pay (.int yc)) .nil))) (((((n2.new h3).new h4).new h5).new h6).new h7) (.tup upd_same (.cons (((((x2.new h3).new h4).new h5).new h6).new h7) (.cons ((x5.new h6).new h7) (.cons (x6.new h7) .nil))))
        ⟨by decide, ⟨hz1, by decide, ⟨by decide, N.hn⟩, by decide, by omega, by omega⟩, by decide, ⟨by decide, by decide, pay1 (.name z1) ⟨by decide, hz1⟩ 3 (by decide)⟩, by decide, cO, trivial⟩ (by simp only [Bk.sz, St.sz]; omega) (by simp only [Bk.wt, St.wt]; omega) (Nat.le_of_ble_eq_true rfl)
    refine ⟨_, rfl, rfl, _, rfl, ite2 (fun _ => ?_) (fun _ => ?_)⟩
    · refine ⟨_, rfl, _, rfl, _, rfl, by show 2 ≤ sizeLine; decide, fun q1 h1 => ⟨by show 1 ≤ sizeLine; decide, fun q2 h2 => ⟨by show 0 ≤ sizeLine; decide, fun q3 h3 => ⟨by show 4 ≤ sizeLine; decide, fun q4 h4 => ⟨by show 1 ≤ sizeLine; decide, fun q5 h5 => ⟨by show 0 ≤ sizeLine; decide, fun q6 h6 => ⟨by show 4 ≤ sizeLine; decide, fun q7 h7 => ⟨by show 1 ≤ sizeLine; decide, fun q8 h8 => ?_⟩⟩⟩⟩⟩⟩⟩⟩
      have v1 := tpB (tpL H8 "pay" (.int yc) (.int yc) q1 (.int _) h1) h2
      have s2 : Sx [] H8 (upd (upd H8 q1 (.tup [.str "pay", .int yc])) q2 (.tup [.ref q1])) := (Sx.n0 h1).new h2
      have t1 := t1.keep s2.tk0
      have t2 := t2.keep s2.tk0
      generalize upd (upd H8 q1 (.tup [.str "pay", .int yc])) q2 (.tup [.ref q1]) = H9 at h3 h4 h5 h6 h7 h8 v1 s2 t1 t2 ⊢
      have v3 : Tp (upd H9 q3 (.tup [])) (.ref q3) (.tuple Bk.nil.ds) := .tup upd_same .nil
      have v4 := tpB (.tup upd_same (.cons (.str "if") (.cons ((t1.new h3).new h4) (.cons ((v1.new h3).new h4) (.cons (v3.new h4) .nil))))) h5
      have n5 := ((s2.new (o := .tup []) h3).new (o := .tup [.str "if", .ref p1, .ref q2, .ref q3]) h4).new (o := .tup [.ref q4]) h5
      have t2 := ((t2.new (o := .tup []) h3).new (o := .tup [.str "if", .ref p1, .ref q2, .ref q3]) h4).new (o := .tup [.ref q4]) h5
      generalize upd (upd (upd H9 q3 (.tup [])) q4 (.tup [.str "if", .ref p1, .ref q2, .ref q3])) q5 (.tup [.ref q4]) = H9 at h6 h7 h8 v4 n5 t2 ⊢
      have v6 : Tp (upd H9 q6 (.tup [])) (.ref q6) (.tuple Bk.nil.ds) := .tup upd_same .nil
      exact fin (b := .cons (.ite (.rest (.name "n") (2 + by') yr) (.cons (.ite (.less (.name "n") (.int (ya - 6))) (.cons (.pay (.int yc)) .nil) .nil) .nil) .nil) .nil) (((n5.new h6).new h7).new h8) (tpB (.tup upd_same (.cons (.str _) (.cons ((t2.new h6).new h7) (.cons ((v4.new h6).new h7) (.cons (v6.new h7) .nil))))) h8)
        ⟨by decide, ⟨rO, ⟨by decide, ⟨lO, pay1 _ cO 2 (by decide), trivial⟩, trivial⟩, trivial⟩, trivial⟩ (by simp only [Bk.sz, St.sz]; omega) (by simp only [Bk.wt, St.wt]; omega) (Nat.le_of_ble_eq_true rfl)
    refine ⟨_, rfl, rfl, _, rfl, ite2 (fun _ => ?_) (fun _ => ?_)⟩
    · refine ⟨_, rfl, by show 2 ≤ sizeLine; decide, fun q1 h1 => ⟨by show 1 ≤ sizeLine; decide, fun q2 h2 => ?_⟩⟩
      exact fin (b := .cons (.pay (.int yc)) .nil) ((Sx.n0 h1).new h2) (tpB (tpL _ _ _ _ _ (.int _) h1) h2) (pay1 _ cO 4 (by decide)) (by simp only [Bk.sz, St.sz]; omega) (by simp only [Bk.wt, St.wt]; omega) (Nat.le_of_ble_eq_true rfl)
    · refine ⟨_, rfl, _, rfl, a, c, cs7, _, nm, ns, rfl, D8, N8, na, nc, by omega, fun H9 cs9 k9 v es n w' r cc s9 D9 k9a k9b T9 B9 hn hw hrr hcc => ?_⟩
      obtain ⟨b, rfl, bo, bsz, bwt, btr, btf⟩ := Bk.of B9
      exact q H9 cs9 k9 v b (s8.trans s9) D9 (by omega) (by omega) T9 bo (by omega) (by omega) (by omega)
end
/-! ### programs of a list of statements -/
def Bk.ofL : List St → Bk
  | [] => .nil
  | s :: l => .cons s (Bk.ofL l)
theorem Bk.ofL_lst : ∀ l : List St, (Bk.ofL l).lst = l
  | [] => rfl
  | s :: l => by rw [Bk.ofL, Bk.lst, Bk.ofL_lst l]
theorem Bk.ofL_ds (l : List St) : (Bk.ofL l).ds = l.map St.d := by rw [Bk.ds_lst, Bk.ofL_lst]
theorem Bk.ofL_sz (l : List St) : (Bk.ofL l).sz = (l.map St.sz).sum := by rw [Bk.sz_lst, Bk.ofL_lst]
theorem Bk.wt_sum : ∀ b : Bk, b.wt = (b.lst.map St.wt).sum
  | .nil => rfl
  | .cons s b => by rw [Bk.wt, Bk.lst, List.map_cons, List.sum_cons, Bk.wt_sum b]
theorem Bk.ofL_ok {ns : List Str} {d : Nat} : ∀ {l : List St}, (∀ s ∈ l, s.ok ns d) → (Bk.ofL l).ok ns (d + 1)
  | [], _ => trivial
  | s :: l, h => ⟨by omega, h s (List.mem_cons_self ..), Bk.ofL_ok fun x hx => h x (List.mem_cons_of_mem _ hx)⟩
theorem Bk.mem_ok {ns : List Str} {d : Nat} : ∀ {b : Bk} {s : St}, b.ok ns d → s ∈ b.lst → s.ok ns (d - 1)
  | .cons s0 b, s, ⟨h1, h2, h3⟩, h => by
    rcases List.mem_cons.1 (show s ∈ s0 :: b.lst from h) with rfl | h
    · exact h2
    · exact Bk.mem_ok h3 h
theorem sum_take_le (f : St → Nat) : ∀ (l : List St) (n : Nat), ((l.take n).map f).sum ≤ (l.map f).sum
  | [], n => by simp
  | s :: l, 0 => by simp
  | s :: l, n + 1 => by
    have := sum_take_le f l n
    simp only [List.take_succ_cons, List.map_cons, List.sum_cons]
    omega
/-- its first statements, and one payment more -/
def Bk.more (b : Bk) (n : Nat) (i : Int) : Bk := Bk.ofL (b.lst.take n ++ [.pay (.int i)])
theorem Bk.more_ok {ns : List Str} {b : Bk} (h : b.ok ns 4) (n : Nat) {i : Int} (h1 : -99 ≤ i) (h2 : i ≤ 99) : (b.more n i).ok ns 4 := Bk.ofL_ok fun s hs => by
  rcases List.mem_append.1 hs with hs | hs
  · exact Bk.mem_ok h (List.mem_of_mem_take hs)
  · rw [List.mem_singleton.mp hs]
    exact ⟨by decide, h1, h2⟩
theorem Bk.more_sz (b : Bk) (n : Nat) (i : Int) : (b.more n i).sz ≤ b.sz + 1 := by
  have := sum_take_le St.sz b.lst n
  unfold Bk.more
  rw [Bk.ofL_sz, List.map_append, List.sum_append, b.sz_lst]
  simp only [List.map_cons, List.map_nil, List.sum_cons, List.sum_nil, St.sz]
  omega
theorem Bk.more_wt (b : Bk) (n : Nat) (i : Int) : (b.more n i).wt ≤ b.wt + 1 := by
  have := sum_take_le St.wt b.lst n
  unfold Bk.more
  rw [Bk.wt_sum, Bk.ofL_lst, List.map_append, List.sum_append, b.wt_sum]
  simp only [List.map_cons, List.map_nil, List.sum_cons, List.sum_nil, St.wt]
  omega
theorem TpAll.mem {H : Hp} : ∀ {vs : List V} {ds : List PyData} {v : V}, TpAll H vs ds → v ∈ vs → ∃ d ∈ ds, Tp H v d
  | _, _, _, .cons a b, h => by
    rcases List.mem_cons.1 h with rfl | h
    · exact ⟨_, List.mem_cons_self .., a⟩
    · obtain ⟨d, hd, t⟩ := TpAll.mem b h
      exact ⟨d, List.mem_cons_of_mem _ hd, t⟩
abbrev sIsTrue : Stmt := topS 46
abbrev nIsTrue : List Str := ["_law_names_here", "_law_test_here"]
theorem scIsTrue : FnScope nIsTrue ["_law_names_here", "_law_test_here"] (defScope sIsTrue) := ⟨rfl, rfl, rfl, by decide +kernel, rfl, by decide +kernel, by decide +kernel⟩
/-! ### the law's own runs -/
def spVal9 (ns : List Str) (d : Nat) : Sp := fun vs H Q _ => ∃ (v : V) (N : Addr) (e : Ex) (ρ : Str → Int), vs = [.ref N, v] ∧ Tp H v e.d ∧ e.ok ns d ∧ En H N ρ ∧ Q (.int (e.ev ρ)) H
def spTru9 (ns : List Str) (n : Nat) : Sp := fun vs H Q _ => ∃ (v : V) (N : Addr) (t : Ts) (ρ : Str → Int), vs = [.ref N, v] ∧ Tp H v t.d ∧ 1 ≤ n ∧ t.ok ns (n - 1) ∧ En H N ρ ∧ Q (.bl (t.ev ρ)) H
section
variable {w : World} {P : Program} {K : PySem.W.Frag} {mg : Str → Option Value} {base : Heap}
theorem ok_val9 {f : Addr} {fd : FuncData} {ns : List Str} (F_value : Fun K "_law_value" "_law_value" sValue f fd) (b_value : Binds K fd ["_law_names_here", "_law_expression_here"] []) (m_value : mg "_law_value" = some (.ref f))
    (z_isinstance : mg "isinstance" = none) (z_int : mg "int" = none) (z_str : mg "str" = none) :
    ∀ d : Nat, FnOk P w K mg base CX0 (d + 1) f fd ["_law_names_here", "_law_expression_here"] (spVal9 ns d) := by
  intro d
  induction d with
  | zero => exact ⟨fun vs H Q E h => by obtain ⟨_, _, _, _, rfl, _⟩ := h; rfl, fun _ _ _ _ _ _ _ _ _ _ _ _ _ h => by
      obtain ⟨_, _, e, _, _, _, h, _⟩ := h
      cases e <;> exact absurd h.1 (by decide)⟩
  | succ d G_value =>
    refine F_value.ok scValue (fun vs H Q E h => ?_) (fun cdv A outer s H vs Q E hr h => ?_)
    · obtain ⟨_, _, _, _, rfl, _⟩ := h
      rfl
    · obtain ⟨v, N, e, ρ, rfl, t, ho, ⟨kvs, hN, hv⟩, q⟩ := h
      refine ⟨_, (pss_cons (ps_if (pt_val (pe_callB call_isi (by rfl) z_isinstance (by decide +kernel) (pa_cons (pv 1) (pa_cons (pe_bltn (v := .ty "int") (by rfl) z_int (by decide +kernel) rfl) pa_nil)))) (pss_one (ps_ret (pv 1))) pss_nil)
      (pss_cons (ps_if (pt_val (pe_callB call_isi (by rfl) z_isinstance (by decide +kernel) (pa_cons (pv 1) (pa_cons (pe_bltn (v := .ty "str") (by rfl) z_str (by decide +kernel) rfl) pa_nil)))) (pss_one (ps_ret (pe_dget2 (hu_of hr) (pv 0) (pv 1) pe_int ⟨rfl, rfl, rfl, rfl⟩))) pss_nil)
      (pss_cons (ps_if (pt_cmpR op_eq (pe_ix ix_tup (pv 1) pe_int (fun _ _ => rfl)) pe_str (nomark _)) (pss_one (ps_ret (pe_op op_mul (pe_ix ix_tup (pv 1) pe_int (fun _ _ => rfl)) (pe_call G_value (hr.mono (by omega)) (by rfl) m_value F_value.kp b_value .nil pass0 (pa_cons (pv 0) (pa_cons (pe_ix ix_tup (pv 1) pe_int (fun _ _ => rfl)) pa_nil)))))) pss_nil)
      (pss_cons (ps_par (i := 2) (j := 3) (by rfl) scValue.nd rfl rfl (by decide) rfl rfl (pa_cons (pe_call G_value (hr.mono (by omega)) (by rfl) m_value F_value.kp b_value .nil pass0 (pa_cons (pv 0) (pa_cons (pe_ix ix_tup (pv 1) pe_int (fun _ _ => rfl)) pa_nil))) (pa_cons (pe_call G_value (hr.mono (by omega)) (by rfl) m_value F_value.kp b_value .nil pass0 (pa_cons (pv 0) (pa_cons (pe_ix ix_tup (pv 1) pe_int (fun _ _ => rfl)) pa_nil))) pa_nil)) (by rfl))
      (pss_one (ps_ret (pe_ifExp (pt_cmpR op_eq (pe_ix ix_tup (pv 1) pe_int (fun _ _ => rfl)) pe_str (nomark _)) (pe_op op_add (pv 2) (pv 3)) (pe_op op_sub (pv 2) (pv 3))))))))), ?_⟩
      cases e with
      | int i =>
        obtain rfl := tpI t
        exact ⟨_, rfl, _, _, _, _, _, rfl, .ty _, .base (.int i), kit_ty (r := true) (by decide +kernel), _, rfl, iteT ⟨_, rfl, q⟩⟩
      | name z =>
        obtain rfl := tpS t
        refine ⟨_, rfl, _, _, _, _, _, rfl, .ty _, .base (.str z), kit_ty (r := false) (by decide +kernel), _, rfl, iteF ⟨_, rfl, _, _, _, _, _, rfl, .ty _, .base (.str z), kit_ty (r := true) (by decide +kernel), _, rfl, iteT ⟨_, rfl, N, rfl, .inl ⟨kvs, .inl hN⟩, _, rfl, _, DGet.k (k := .inr z) hN, ?_⟩⟩⟩
        rw [hv z]
        exact q
      | plus x y =>
        obtain ⟨a, p, u, r, rfl, ha, t1, t2, t3⟩ := tp3 t
        obtain rfl := tpS t1
        refine ⟨_, rfl, _, _, _, _, _, rfl, .ty _, .base (.tup ha), kit_ty (r := false) (by decide +kernel), _, rfl, iteF ⟨_, rfl, _, _, _, _, _, rfl, .ty _, .base (.tup ha), kit_ty (r := false) (by decide +kernel), _, rfl, iteF ?_⟩⟩
        refine ⟨_, rfl, a, _, _, _, rfl, rfl, SqT.of ha, rfl, rfl, _, rfl, iteN (by decide +kernel) ?_⟩
        refine ⟨_, rfl, _, rfl, a, _, _, u, rfl, rfl, SqT.of ha, rfl, u, N, x, ρ, rfl, t2, ho.2.1, ⟨kvs, hN, hv⟩, ?_⟩
        refine ⟨_, rfl, _, rfl, a, _, _, r, rfl, rfl, SqT.of ha, rfl, r, N, y, ρ, rfl, t3, ho.2.2, ⟨kvs, hN, hv⟩, ?_⟩
        refine ⟨_, _, rfl, ?_⟩
        exact ⟨_, rfl, a, _, _, _, rfl, rfl, SqT.of ha, rfl, rfl, _, rfl, iteP (by decide +kernel) ⟨_, rfl, _, rfl, _, _, rfl, rfl, q⟩⟩
      | minus x y =>
        obtain ⟨a, p, u, r, rfl, ha, t1, t2, t3⟩ := tp3 t
        obtain rfl := tpS t1
        refine ⟨_, rfl, _, _, _, _, _, rfl, .ty _, .base (.tup ha), kit_ty (r := false) (by decide +kernel), _, rfl, iteF ⟨_, rfl, _, _, _, _, _, rfl, .ty _, .base (.tup ha), kit_ty (r := false) (by decide +kernel), _, rfl, iteF ?_⟩⟩
        refine ⟨_, rfl, a, _, _, _, rfl, rfl, SqT.of ha, rfl, rfl, _, rfl, iteN (by decide +kernel) ?_⟩
        refine ⟨_, rfl, _, rfl, a, _, _, u, rfl, rfl, SqT.of ha, rfl, u, N, x, ρ, rfl, t2, ho.2.1, ⟨kvs, hN, hv⟩, ?_⟩
        refine ⟨_, rfl, _, rfl, a, _, _, r, rfl, rfl, SqT.of ha, rfl, r, N, y, ρ, rfl, t3, ho.2.2, ⟨kvs, hN, hv⟩, ?_⟩
        refine ⟨_, _, rfl, ?_⟩
        exact ⟨_, rfl, a, _, _, _, rfl, rfl, SqT.of ha, rfl, rfl, _, rfl, iteN (by decide +kernel) ⟨_, rfl, _, rfl, _, _, rfl, rfl, q⟩⟩
      | times f x =>
        obtain ⟨a, p, u, r, rfl, ha, t1, t2, t3⟩ := tp3 t
        obtain rfl := tpS t1
        obtain rfl := tpI t2
        refine ⟨_, rfl, _, _, _, _, _, rfl, .ty _, .base (.tup ha), kit_ty (r := false) (by decide +kernel), _, rfl, iteF ⟨_, rfl, _, _, _, _, _, rfl, .ty _, .base (.tup ha), kit_ty (r := false) (by decide +kernel), _, rfl, iteF ?_⟩⟩
        refine ⟨_, rfl, a, _, _, _, rfl, rfl, SqT.of ha, rfl, rfl, _, rfl, iteP (by decide +kernel) ?_⟩
        have h1 : -9 ≤ f := ho.2.1
        have h2 : f ≤ 9 := ho.2.2.1
        refine ⟨_, rfl, a, _, _, _, rfl, rfl, SqT.of ha, rfl, _, rfl, _, rfl, a, _, _, r, rfl, rfl, SqT.of ha, rfl, r, N, x, ρ, rfl, t3, ho.2.2.2, ⟨kvs, hN, hv⟩, ?_⟩
        exact ⟨_, _, rfl, rfl, .inl ⟨by omega, by omega⟩, q⟩

theorem ok_tru9 {f fV : Addr} {fd fdV : FuncData} {ns : List Str} (F_is_true : Fun K "_law_is_true" "_law_is_true" sIsTrue f fd) (F_value : Fun K "_law_value" "_law_value" sValue fV fdV)
    (b_is_true : Binds K fd ["_law_names_here", "_law_test_here"] []) (b_value : Binds K fdV ["_law_names_here", "_law_expression_here"] []) (m_is_true : mg "_law_is_true" = some (.ref f)) (m_value : mg "_law_value" = some (.ref fV)) (z_int : mg "int" = none)
    (G_value : FnOk P w K mg base CX0 5 fV fdV ["_law_names_here", "_law_expression_here"] (spVal9 ns 3)) :
    ∀ n : Nat, FnOk P w K mg base CX0 (n + 5) f fd ["_law_names_here", "_law_test_here"] (spTru9 ns n) := by
  intro n
  induction n with
  | zero => exact ⟨fun vs H Q E h => by obtain ⟨_, _, _, _, rfl, _⟩ := h; rfl, fun _ _ _ _ _ _ _ _ _ _ _ _ _ h => by
      obtain ⟨_, _, e, _, _, _, h, _⟩ := h
      omega⟩
  | succ n G_is_true =>
    refine F_is_true.ok scIsTrue (fun vs H Q E h => ?_) (fun cdv A outer s H vs Q E hr h => ?_)
    · obtain ⟨_, _, _, _, rfl, _⟩ := h
      rfl
    · obtain ⟨v, N, e, ρ, rfl, t, _, ho, En0, q⟩ := h
      refine ⟨_, (pss_cons (ps_if (pt_cmpR op_eq (pe_ix ix_tup (pv 1) pe_int (fun _ _ => rfl)) pe_str (nomark _)) (pss_one (ps_ret (pe_not (pe_call G_is_true (hr.mono (by omega)) (by rfl) m_is_true F_is_true.kp b_is_true .nil pass0 (pa_cons (pv 0) (pa_cons (pe_ix ix_tup (pv 1) pe_int (fun _ _ => rfl)) pa_nil)))))) pss_nil)
      (pss_cons (ps_if (pt_cmpR op_eq (pe_ix ix_tup (pv 1) pe_int (fun _ _ => rfl)) pe_str (nomark _)) (pss_one (ps_ret (pe_cmpR op_eq (pe_op op_mod (pe_callTy call_int1 (by rfl) z_int boot_int (pa_cons (pe_call G_value (hr.mono (by omega)) (by rfl) m_value F_value.kp b_value .nil pass0 (pa_cons (pv 0) (pa_cons (pe_ix ix_tup (pv 1) pe_int (fun _ _ => rfl)) pa_nil))) pa_nil)) (pe_ix ix_tup (pv 1) pe_int (fun _ _ => rfl))) (pe_ix ix_tup (pv 1) pe_int (fun _ _ => rfl)) (nomark _)))) pss_nil)
      (pss_one (ps_ret (pe_cmpR op_lt (pe_call G_value (hr.mono (by omega)) (by rfl) m_value F_value.kp b_value .nil pass0 (pa_cons (pv 0) (pa_cons (pe_ix ix_tup (pv 1) pe_int (fun _ _ => rfl)) pa_nil))) (pe_call G_value (hr.mono (by omega)) (by rfl) m_value F_value.kp b_value .nil pass0 (pa_cons (pv 0) (pa_cons (pe_ix ix_tup (pv 1) pe_int (fun _ _ => rfl)) pa_nil))) (nomark _)))))), ?_⟩
      cases e with
      | rest x b r =>
        obtain ⟨a, p, u, y, z, rfl, ha, t1, t2, t3, t4⟩ := tp4 t
        obtain rfl := tpS t1
        obtain rfl := tpI t3
        obtain rfl := tpI t4
        obtain ⟨o1, o2, o3, o4, o5⟩ := ho
        refine ⟨_, rfl, a, _, _, _, rfl, rfl, SqT.of ha, rfl, rfl, _, rfl, iteN (by decide +kernel) ?_⟩
        refine ⟨_, rfl, a, _, _, _, rfl, rfl, SqT.of ha, rfl, rfl, _, rfl, iteP (by decide +kernel) ?_⟩
        refine ⟨_, rfl, _, rfl, a, _, _, u, rfl, rfl, SqT.of ha, rfl, u, N, x, ρ, rfl, t2, o1, En0, .inl ⟨_, rfl, ?_⟩⟩
        refine ⟨_, rfl, a, _, _, _, rfl, rfl, SqT.of ha, rfl, _, b, rfl, rfl, (by show (0 : Int) < b; omega), ?_⟩
        refine ⟨_, rfl, a, _, _, _, rfl, rfl, SqT.of ha, rfl, rfl, ?_⟩
        have e1 : decide (V.int (x.ev ρ % b) = V.int r) = decide ((x.ev ρ - r) % b = 0) := by
          rw [decide_eq_decide, ← mod_is o4 o5]
          simp
        rw [e1]
        exact q
      | less x y =>
        obtain ⟨a, p, u, r, rfl, ha, t1, t2, t3⟩ := tp3 t
        obtain rfl := tpS t1
        refine ⟨_, rfl, a, _, _, _, rfl, rfl, SqT.of ha, rfl, rfl, _, rfl, iteN (by decide +kernel) ?_⟩
        refine ⟨_, rfl, a, _, _, _, rfl, rfl, SqT.of ha, rfl, rfl, _, rfl, iteN (by decide +kernel) ?_⟩
        refine ⟨_, rfl, _, rfl, a, _, _, u, rfl, rfl, SqT.of ha, rfl, u, N, x, ρ, rfl, t2, ho.1, En0, ?_⟩
        refine ⟨_, rfl, _, rfl, a, _, _, r, rfl, rfl, SqT.of ha, rfl, r, N, y, ρ, rfl, t3, ho.2, En0, ?_⟩
        exact ⟨_, _, rfl, rfl, q⟩
      | not t' =>
        obtain ⟨a, p, u, rfl, ha, t1, t2⟩ := tp2 t
        obtain rfl := tpS t1
        refine ⟨_, rfl, a, _, _, _, rfl, rfl, SqT.of ha, rfl, rfl, _, rfl, iteP (by decide +kernel) ?_⟩
        refine ⟨_, rfl, _, rfl, a, _, _, u, rfl, rfl, SqT.of ha, rfl, u, N, t', ρ, rfl, t2, ho.1, ho.2, En0, ?_⟩
        exact ⟨_, rfl, q⟩
end
/-! ### a list is made longer by a tuple -/
theorem extend_tup (l : Addr) (items : Array Value) (n : Nat) (b : Addr) (items2 : Array Value) (n2 : Nat) (dd : Option Addr) (sl : Array (Option Value)) (hs0 : ¬(!items.isEmpty && Builtin.List.listTooLong (items.size + items2.size)) = true) (hs1 : items.size ≤ sizeLine) (hs2 : items.size + items2.size ≤ sizeLine + 1) :
    Meets (Builtin.«list.extend» ⟨[.ref l, .ref b], []⟩) (fun _ R s => s.heap.get? l = some { cls := .type "list", data := .seq items n } ∧ s.heap.get? b = some { cls := .type "tuple", dict := dd, data := .seq items2 n2, slots := sl } ∧ R (.ok (.ret Value.none)) { s with heap := s.heap.update l (Obj.mapSeq fun x => x ++ items2), toks := s.toks }) :=
  .of_wp fun pr w0 A0 R0 s0 h0 => by
    obtain ⟨hp, g, d, tk, os⟩ := s0; obtain ⟨ht, hb, h⟩ := h0
    have f1 := AutoSeq1.idx_int; have f2 := AutoSeq1.sub_tuple_tuple; have f3 := AutoSeq1.sub_list_list; have f4 := AutoSeq1.sub_tuple_list; have f5 := AutoSeq1.sub_list_tuple
    have hz' : ((items ++ items2).size ≤ sizeLine + 1) := by rw [Array.size_append]; exact hs2
    (wp_walk using (wpAny_updateSeq ht rfl (hz := hs1) (_hz' := hz')), AutoSeq1.wpAny_loadPart' ht, AutoSeq1.wpAny_loadPart' hb; exact ⟨_, rfl, h⟩)
def rExtendT (K : PySem.W.Frag) : V → List V → Hp → VK → Prop := fun x vs H Q => ∃ l b xs zs, x = .ref l ∧ vs = [.ref b] ∧ H l = some (.lst xs) ∧ SqT K H b zs ∧ xs.length + zs.length ≤ sizeLine ∧ Q .non (upd H l (.lst (xs ++ zs)))
theorem mt_extendT {X : Cx} : MtM X "list.extend" (rExtendT X.K) := by
  intro pins s σ H x0 vs v us Q I rx rv h
  rcases h with ⟨l, b, xs, zs, rfl, rfl, hH, hB, hz, q⟩
  cases rx
  obtain ⟨u, rfl, ru⟩ := rv.one
  cases ru
  rcases I.lstM hH with ⟨z, its, n, r, hl, e⟩
  obtain ⟨its2, r2, ⟨⟨cls, dd, data, sl⟩, ho, hc, n2, hd⟩, hs⟩ := I.tuple hB
  simp only at hc hd
  subst hc hd
  have hl2 := r2.length
  have hsz : its.toArray.size + its2.toArray.size ≤ sizeLine := by rw [List.size_toArray, List.size_toArray, ← hl2, ← hl]; exact hz
  have hlong : (¬ (!its.toArray.isEmpty && Builtin.List.listTooLong (its.toArray.size + its2.toArray.size)) = true) := by
    rw [notLongL hsz]; rw [Bool.and_false]
    simp
  refine call_meets F.slot_list_extend ⟨_, e, rfl⟩ F.entry_list_extend
    (F.args_list_extend_2 _ _) (extend_tup l its.toArray n b its2.toArray n2 dd sl hlong (by rw [List.size_toArray]; omega) (by omega)) ⟨e, ho, ?_⟩
  refine (⟨.non, _, I.lset (its' := its ++ its2) hH e (by simp) (r.append r2) ?_, rfl, q⟩)
  rw [List.length_append]
  exact hz
theorem TpAll.reverse {H : Hp} : ∀ {vs : List V} {ds : List PyData}, TpAll H vs ds → TpAll H vs.reverse ds.reverse
  | _, _, .nil => .nil
  | _, _, .cons a b => by
    rw [List.reverse_cons]; rw [List.reverse_cons]
    exact (TpAll.reverse b).append (.cons a .nil)
theorem TpAll.dpL {K : PySem.W.Frag} {H : Hp} {l : Addr} {vs : List V} {ds : List PyData} (h : H l = some (.lst vs)) (t : TpAll H vs ds) : Dp K H (.ref l) (.list ds) := .lst (SqL.of h) t.dp
theorem eqvL_nil {ds : List PyData} (h : ds ≠ []) : PyData.eqv (.list ds) (.list []) = false := by
  cases ds with
  | nil => exact absurd rfl h
  | cons _ _ => rfl
theorem Sh.lst' {n : Nat} {es : List PyData} (h : ShA n es) : Sh (n + 1) (.list es) := ⟨by simp only [PyData.canLay0, h.1], by simp only [PyData.depth]; have := h.2; omega⟩
theorem ShA.of_mem {n : Nat} : ∀ {es : List PyData}, (∀ e ∈ es, Sh n e) → ShA n es
  | [], _ => .nil
  | e :: es, h => .cons (h e (List.mem_cons_self ..)) (ShA.of_mem fun x hx => h x (List.mem_cons_of_mem _ hx))
theorem sne {x y : Str} (h : (x == y) = false) : ¬ (decide (V.str x = V.str y) = true) := fun z => by
  have e := V.str.inj (of_decide_eq_true z)
  rw [e] at h
  simp at h
/-! ### the law's own sign -/
theorem Ex.ok_sh {ns : List Str} (hn : ∀ z ∈ ns, NmOk z) : ∀ (x : Ex) (n : Nat), x.ok ns n → Sh n x.d
  | .int i, n, _ => .int i
  | .name z, n, h => .str (hn z h.2).ok
  | .plus x y, n, ⟨h1, h2, h3⟩ => by
    obtain ⟨m, rfl⟩ : ∃ m : Nat, n = m + 1 := ⟨n - 1, by omega⟩
    exact .tup (.cons (.str (by decide +kernel)) (.cons (Ex.ok_sh hn x m h2) (.cons (Ex.ok_sh hn y m h3) .nil)))
  | .minus x y, n, ⟨h1, h2, h3⟩ => by
    obtain ⟨m, rfl⟩ : ∃ m : Nat, n = m + 1 := ⟨n - 1, by omega⟩
    exact .tup (.cons (.str (by decide +kernel)) (.cons (Ex.ok_sh hn x m h2) (.cons (Ex.ok_sh hn y m h3) .nil)))
  | .times f x, n, ⟨h1, h2, h3, h4⟩ => by
    obtain ⟨m, rfl⟩ : ∃ m : Nat, n = m + 1 := ⟨n - 1, by omega⟩
    exact .tup (.cons (.str (by decide +kernel)) (.cons (.int f) (.cons (Ex.ok_sh hn x m h4) .nil)))
theorem Ts.ok_sh {ns : List Str} (hn : ∀ z ∈ ns, NmOk z) : ∀ (t : Ts) (n : Nat), t.ok ns n → Sh (n + 4) t.d
  | .rest x b r, n, h => (Sh.tup (.cons (.str (by decide +kernel)) (.cons (Ex.ok_sh hn x 3 h.1) (.cons (.int b) (.cons (.int r) .nil))))).mono (by omega)
  | .less x y, n, h => (Sh.tup (.cons (.str (by decide +kernel)) (.cons (Ex.ok_sh hn x 3 h.1) (.cons (Ex.ok_sh hn y 3 h.2) .nil)))).mono (by omega)
  | .not t, n, ⟨h1, h2⟩ => by
    obtain ⟨m, rfl⟩ : ∃ m : Nat, n = m + 1 := ⟨n - 1, by omega⟩
    exact .tup (.cons (.str (by decide +kernel)) (.cons (Ts.ok_sh hn t m h2) .nil))
mutual
theorem St.ok_sh {ns : List Str} (hn : ∀ z ∈ ns, NmOk z) : ∀ (s : St) (d : Nat), s.ok ns d → Sh (2 * d + 9) s.d
  | .set z e, d, ⟨h1, h2⟩ => (Sh.tup (.cons (.str (by decide +kernel)) (.cons (.str (hn z h1).ok) (.cons (Ex.ok_sh hn e 3 h2) .nil)))).mono (by omega)
  | .pay e, d, h => (Sh.tup (.cons (.str (by decide +kernel)) (.cons (Ex.ok_sh hn e 3 h) .nil))).mono (by omega)
  | .stop, d, _ => (Sh.tup (n := 0) (.cons (.str (by decide +kernel)) .nil)).mono (by omega)
  | .ite t y n, d, ⟨h1, h2, h3⟩ => (Sh.tup (n := 2 * d + 8) (.cons (.str (by decide +kernel)) (.cons ((Ts.ok_sh hn t 2 h1).mono (by omega)) (.cons ((Sh.tup (Bk.ok_sh hn y d h2)).mono (by omega)) (.cons ((Sh.tup (Bk.ok_sh hn n d h3)).mono (by omega)) .nil))))).mono (by omega)
  | .rep k y, d, ⟨_, _, h3⟩ => (Sh.tup (n := 2 * d + 8) (.cons (.str (by decide +kernel)) (.cons (.int k) (.cons ((Sh.tup (Bk.ok_sh hn y d h3)).mono (by omega)) .nil)))).mono (by omega)
theorem Bk.ok_sh {ns : List Str} (hn : ∀ z ∈ ns, NmOk z) : ∀ (b : Bk) (d : Nat), b.ok ns d → ShA (2 * d + 7) b.ds
  | .nil, _, _ => .nil
  | .cons s b, d, ⟨h1, h2, h3⟩ => .cons ((St.ok_sh hn s (d - 1) h2).mono (by omega)) (Bk.ok_sh hn b d h3)
end
/-- the statements on a stack, the top first -/
def Stt (H : Hp) (L : Addr) (ws : List (Int × St)) : Prop := ∃ vals : List V, H L = some (.lst vals.reverse) ∧ TpAll H vals (ws.map fun x => x.2.d)
theorem Stt.keep {H H' : Hp} {L : Addr} {ws : List (Int × St)} (h : Stt H L ws) (s : Sx [] H H') : Stt H' L ws := by
  obtain ⟨vals, h1, h2⟩ := h
  exact ⟨vals, s _ _ (by simp) h1, h2.keep s.tk0⟩
theorem Stt.pop {H : Hp} {L : Addr} {ws : List (Int × St)} {y : Int × St} (h : Stt H L (y :: ws)) : ∃ (acc : List V) (x : V), H L = some (.lst acc) ∧ acc[acc.length - 1]? = some x ∧ Tp H x y.2.d ∧ Stt (upd H L (.lst acc.dropLast)) L ws ∧ acc.length = ws.length + 1 := by
  obtain ⟨vals, h1, h2⟩ := h
  cases h2 with
  | cons h3 h4 =>
    have e := h4.len
    rw [List.length_map] at e
    refine ⟨_, _, h1, ?_, h3, ⟨_, by rw [upd_same, List.reverse_cons, List.dropLast_concat], h4.keep (Tk.lst h1)⟩, by rw [List.length_reverse, List.length_cons, e]⟩
    rw [List.reverse_cons, List.length_append]
    simp
theorem Stt.ext {H : Hp} {L : Addr} {ws es : List (Int × St)} {ys : List V} (h : Stt H L ws) (t : TpAll H ys (es.map fun x => x.2.d)) : ∃ acc, H L = some (.lst acc) ∧ acc.length = ws.length ∧ Stt (upd H L (.lst (acc ++ ys.reverse))) L (es ++ ws) := by
  obtain ⟨vals, h1, h2⟩ := h
  have e := h2.len
  rw [List.length_map] at e
  refine ⟨_, h1, by rw [List.length_reverse, e], ys ++ vals, by rw [upd_same, List.reverse_append], ?_⟩
  rw [List.map_append]
  exact (t.keep (Tk.lst h1)).append (h2.keep (Tk.lst h1))
theorem Stt.dk {H : Hp} {L N : Addr} {ws : List (Int × St)} {kvs : List (Key × V)} {o : HO} (h : Stt H L ws) (hn : H N = some (.dK kvs)) : Stt (upd H N o) L ws := by
  obtain ⟨vals, h1, h2⟩ := h
  have k : Tk H (upd H N o) := fun b xs e => by
    rw [upd_ne (fun z => by rw [z, hn] at e; cases e)]
    exact e
  exact ⟨vals, by rw [upd_ne (fun z => by rw [z, hn] at h1; cases h1)]; exact h1, h2.keep k⟩
theorem nums_ds : ∀ (b : Bk) (p : Int), (b.nums p).map (fun x => x.2.d) = b.lst.map St.d
  | .nil, _ => rfl
  | .cons s b, p => by
    show s.d :: (b.nums (p + s.sz)).map (fun x => x.2.d) = s.d :: b.lst.map St.d
    rw [nums_ds b]
/-- the names' values in a dict of so many entries -/
def Nd (H : Hp) (N : Addr) (ρ : Str → Int) (c : Nat) : Prop := ∃ kvs : List (Key × V), H N = some (.dK kvs) ∧ kvs.length ≤ c ∧ ∀ z, (valV kvs (.inr z)).getD (.int 0) = .int (ρ z)
theorem Nd.en {H : Hp} {N : Addr} {ρ : Str → Int} {c : Nat} (h : Nd H N ρ c) : En H N ρ := by
  obtain ⟨kvs, h1, _, h2⟩ := h
  exact ⟨kvs, h1, h2⟩
theorem Nd.sx {H H' : Hp} {N : Addr} {ρ : Str → Int} {c : Nat} (h : Nd H N ρ c) (s : Sx [] H H') : Nd H' N ρ c := by
  obtain ⟨kvs, h1, h2, h3⟩ := h
  exact ⟨kvs, s _ _ (by simp) h1, h2, h3⟩
theorem Nd.ls {H : Hp} {N Z : Addr} {ρ : Str → Int} {c : Nat} {xs : List V} {o : HO} (h : Nd H N ρ c) (hz : H Z = some (.lst xs)) : Nd (upd H Z o) N ρ c := by
  obtain ⟨kvs, h1, h2, h3⟩ := h
  exact ⟨kvs, by rw [upd_ne (fun z => by rw [z, hz] at h1; cases h1)]; exact h1, h2, h3⟩
theorem Nd.up {H : Hp} {N : Addr} {ρ : Str → Int} {c e : Nat} (h : Nd H N ρ c) (l : c ≤ e) : Nd H N ρ e := by
  obtain ⟨kvs, h1, h2, h3⟩ := h
  exact ⟨kvs, h1, by omega, h3⟩
theorem Nd.set {H : Hp} {N : Addr} {ρ : Str → Int} {c : Nat} {kvs : List (Key × V)} (h : Nd H N ρ c) (hk : H N = some (.dK kvs)) (z : Str) (v : Int) : kvs.length ≤ c ∧ Nd (upd H N (.dK (putK kvs (.inr z) (.int v)))) N (fun y => if y = z then v else ρ y) (c + 1) := by
  obtain ⟨kvs', h1, h2, h3⟩ := h
  rw [hk] at h1
  cases h1
  refine ⟨h2, _, upd_same, ?_, fun y => ?_⟩
  · have : (putK kvs (.inr z) (.int v)).length ≤ kvs.length + 1 := by
      unfold putK
      split
      · rw [List.length_map]; omega
      · rw [List.length_append]; exact Nat.le_refl _
    omega
  · rw [valV_put]
    by_cases e : y = z
    · rw [if_pos (by rw [e])]
      show V.int v = V.int (if y = z then v else ρ y)
      rw [if_pos e]
    · rw [if_neg (fun q => e (Sum.inr.inj q)), h3 y]
      show V.int (ρ y) = V.int (if y = z then v else ρ y)
      rw [if_neg e]
/-- all that lies there is a right statement -/
def StkO (ns : List Str) (l : List (Int × St)) : Prop := ∀ x ∈ l, ∃ d, d ≤ 3 ∧ x.2.ok ns d
theorem StkO.nums {ns : List Str} {d : Nat} (hd : d ≤ 4) : ∀ {b : Bk} {p : Int}, b.ok ns d → StkO ns (b.nums p)
  | .nil, _, _ => fun x hx => by cases hx
  | .cons s b, p, ⟨h1, h2, h3⟩ => fun x hx => by
    rcases List.mem_cons.1 hx with rfl | hx
    · exact ⟨d - 1, by omega, h2⟩
    · exact StkO.nums hd h3 x hx
theorem StkO.ent {ns : List Str} {s : St} {d : Nat} {p : Int} {ρ : Str → Int} (hd : d ≤ 3) (h : s.ok ns d) : StkO ns (s.ent ρ p) := by
  cases s with
  | ite t y n =>
    simp only [St.ent]
    split
    · exact StkO.nums (by omega) h.2.1
    · exact StkO.nums (by omega) h.2.2
  | rep k y =>
    intro x hx
    simp only [St.ent] at hx
    obtain ⟨l, hl, hx⟩ := List.mem_flatten.1 hx
    obtain ⟨_, rfl⟩ := List.mem_replicate.mp hl
    exact StkO.nums (by omega) h.2.2 x hx
  | _ => intro x hx; cases hx
def spSig9 (ns : List Str) : Sp := fun vs H Q _ => ∃ (v : V) (b : Bk) (x : Int), vs = [v, .int x] ∧ Tp H v (.tuple b.ds) ∧ b.ok ns 4 ∧ (∀ z ∈ ns, NmOk z) ∧ b.sz < 16777216 ∧ b.wt ≤ 100 ∧ ∀ H', Sx [] H H' → Q (.int (sgn (b.run 0 (Wd.at x)).1.tot)) H'
section
variable {w : World} {P : Program} {K : PySem.W.Frag} {mg : Str → Option Value} {base : Heap}
set_option maxHeartbeats 4000001 in
theorem ok_sig9 {f fV fT : Addr} {fd fdV fdT : FuncData} {ns : List Str} (F : Fun K "_law_sign" "_law_sign" sSign f fd) (F_value : Fun K "_law_value" "_law_value" sValue fV fdV) (F_is_true : Fun K "_law_is_true" "_law_is_true" sIsTrue fT fdT)
    (G_value : FnOk P w K mg base CX0 5 fV fdV ["_law_names_here", "_law_expression_here"] (spVal9 ns 3)) (G_is_true : FnOk P w K mg base CX0 8 fT fdT ["_law_names_here", "_law_test_here"] (spTru9 ns 3))
    (b_value : Binds K fdV ["_law_names_here", "_law_expression_here"] []) (b_is_true : Binds K fdT ["_law_names_here", "_law_test_here"] [])
    (m_value : mg "_law_value" = some (.ref fV)) (m_is_true : mg "_law_is_true" = some (.ref fT)) (z_range : mg "range" = none) (z_list : mg "list" = none) (z_int : mg "int" = none) :
    FnOk P w K mg base CX0 9 f fd ["_law_program_here", "_law_number"] (spSig9 ns) := by
  refine F.ok scSign (fun vs H Q E h => ?_) (fun cdv A outer s H vs Q E hr h => ?_)
  · obtain ⟨_, _, _, rfl, _⟩ := h
    rfl
  · obtain ⟨v, b, x, rfl, t, ho, hns, hz, hw, q⟩ := h
    refine ⟨_, (pss_cons (ps_par3 (i := 2) (j := 3) (l := 4) (by rfl) scSign.nd rfl rfl rfl (by decide) (by decide) (by decide) rfl rfl rfl (pa_cons (pe_disp (pps_cons pe_str (pv 1) pps_nil) (by rfl) (by rfl) (fun z => by cases z) (by decide)) (pa_cons pe_int (pa_cons (pe_callTy call_list_of (by rfl) z_list boot_list (pa_cons (pe_revT (pv 0)) pa_nil)) pa_nil))) (by rfl))
      (C8.pss_cut (ps_for PassesOwn.never rfl (pi_range1 (by rfl) z_range (pa_cons pe_int pa_nil)) (pg_name (i := 5) scSign.nd rfl (by first | exact Or.inl rfl | exact Or.inr rfl)) (pss_cons (ps_if (pt_cmpR (op_eqD hr.units) (pv 4) (pe_lst pa_nil) (nomark _)) (pss_one (ps_ret (pe_op op_sub (pe_callTy call_int1 (by rfl) z_int boot_int (pa_cons (pe_cmpR op_gt (pv 3) pe_int (nomark _)) pa_nil)) (pe_callTy call_int1 (by rfl) z_int boot_int (pa_cons (pe_cmpR op_lt (pv 3) pe_int (nomark _)) pa_nil))))) pss_nil)
      (pss_cons (ps_set (i := 6) scSign.nd rfl (by first | exact Or.inl rfl | exact Or.inr rfl) (pe_bm0 PySem.F.plainAttrs_list PySem.F.slot_list_pop PySem.F.type_list_pop mt_pop (pv 4)))
      (pss_one (ps_if (pt_cmpR op_eq (pe_ix ix_tup (pv 6) pe_int (fun _ _ => rfl)) pe_str (nomark _)) (pss_one (ps_dput (hu_of hr) (pv 2) (pe_ix ix_tup (pv 6) pe_int (fun _ _ => rfl)) (pe_call G_value (hr.mono (by omega)) (by rfl) m_value F_value.kp b_value .nil pass0 (pa_cons (pv 2) (pa_cons (pe_ix ix_tup (pv 6) pe_int (fun _ _ => rfl)) pa_nil))) rfl)) (pss_one (ps_if (pt_cmpR op_eq (pe_ix ix_tup (pv 6) pe_int (fun _ _ => rfl)) pe_str (nomark _)) (pss_one (ps_set (i := 3) scSign.nd rfl (by first | exact Or.inl rfl | exact Or.inr rfl) (pe_op op_add (pv 3) (pe_call G_value (hr.mono (by omega)) (by rfl) m_value F_value.kp b_value .nil pass0 (pa_cons (pv 2) (pa_cons (pe_ix ix_tup (pv 6) pe_int (fun _ _ => rfl)) pa_nil)))))) (pss_one (ps_if (pt_cmpR op_eq (pe_ix ix_tup (pv 6) pe_int (fun _ _ => rfl)) pe_str (nomark _)) (pss_one (ps_expr (pe_bm PySem.F.plainAttrs_list PySem.F.slot_list_extend PySem.F.type_list_extend mt_extendT (pv 4) (pa_cons (pe_revT (pe_ifExp (pt_val (pe_call G_is_true (hr.mono (by omega)) (by rfl) m_is_true F_is_true.kp b_is_true .nil pass0 (pa_cons (pv 2) (pa_cons (pe_ix ix_tup (pv 6) pe_int (fun _ _ => rfl)) pa_nil)))) (pe_ix ix_tup (pv 6) pe_int (fun _ _ => rfl)) (pe_ix ix_tup (pv 6) pe_int (fun _ _ => rfl)))) pa_nil)))) (pss_one (ps_if (pt_cmpR op_eq (pe_ix ix_tup (pv 6) pe_int (fun _ _ => rfl)) pe_str (nomark _)) (pss_one (ps_for PassesOwn.never rfl (pi_range1 (by rfl) z_range (pa_cons (pe_ix ix_tup (pv 6) pe_int (fun _ _ => rfl)) pa_nil)) (pg_name (i := 7) scSign.nd rfl (by first | exact Or.inl rfl | exact Or.inr rfl)) (pss_one (ps_expr (pe_bm PySem.F.plainAttrs_list PySem.F.slot_list_extend PySem.F.type_list_extend mt_extendT (pv 4) (pa_cons (pe_revT (pe_ix ix_tup (pv 6) pe_int (fun _ _ => rfl))) pa_nil)))))) (pss_one (ps_set (i := 4) scSign.nd rfl (by first | exact Or.inl rfl | exact Or.inr rfl) (pe_lst pa_nil))))))))))))))
      (pss_one (ps_ret pe_non)))), ?_⟩
    refine fun N hN => ⟨_, rfl, upd_same, [(.inr "n", .int x)], rfl, by show 1 ≤ 15; decide, ?_⟩
    have en : mergeK [] [((.inr "n" : Key), V.int x)] = [(.inr "n", .int x)] := by
      show putK [] (.inr "n" : Key) (V.int x) = _
      rw [putK_new (fun kv h => by cases h)]
      rfl
    rw [en]
    have s1 : Sx [] H (upd (upd H N (.dK [])) N (.dK [(.inr "n", .int x)])) := (Sx.n0 hN).own hN
    have n1 : Nd (upd (upd H N (.dK [])) N (.dK [(.inr "n", .int x)])) N (Wd.at x).en 1 := ⟨[(.inr "n", .int x)], upd_same, Nat.le_refl _, fun z => by
      show (valV [((.inr "n" : Key), V.int x)] (.inr z)).getD (.int 0) = .int (if z = "n" then x else 0)
      by_cases h : z = "n"
      · rw [if_pos h, h]
        unfold valV
        rw [List.find?_cons_of_pos (by simp)]
        rfl
      · rw [if_neg h]
        unfold valV
        rw [List.find?_cons_of_neg (by simp only [decide_eq_true_eq]; exact fun e => h (Sum.inr.inj e).symm)]
        rfl⟩
    generalize upd (upd H N (.dK [])) N (.dK [(.inr "n", .int x)]) = H1 at s1 n1 ⊢
    obtain ⟨a, xs, rfl, ha, hx⟩ := t.tuple
    rw [b.ds_lst] at hx
    refine ⟨_, rfl, a, xs, rfl, SqT.of (s1 _ _ (by simp) ha), fun p hp => ⟨p, _, rfl, .inr (SqT.of upd_same), fun T hT => ?_⟩⟩
    refine ⟨_, _, _, rfl, ?_⟩
    have nx : Sx [] H1 (upd (upd H1 p (.tup xs.reverse)) T (.lst xs.reverse)) := (Sx.n0 hp).new hT
    have st0 : Stt (upd (upd H1 p (.tup xs.reverse)) T (.lst xs.reverse)) T (b.nums 0) := ⟨xs, upd_same, by rw [nums_ds]; exact (hx.keep s1.tk0).keep nx.tk0⟩
    have s2 := s1.trans nx
    have n2 := n1.sx nx
    have hHT : H T = none := (s1.new (o := .tup xs.reverse) hp).free (by simp) hT
    generalize upd (upd H1 p (.tup xs.reverse)) T (.lst xs.reverse) = H2 at st0 s2 n2 ⊢
    have bsn : ∀ {u : Int} {o : St}, True := trivial
    clear bsn
    refine ⟨fun _ _ => False, ?_, fun _ _ h => h.elim⟩
    refine ⟨200, rfl, by decide, by decide, for_range (n := 200) (fun i σ H' => ∃ (T : Addr) (w' : Wd) (ws : List (Int × St)) (o5 o6 o7 : Option V), σ = [some (.ref a), some (.int x), some (.ref N), some (.int w'.tot), some (.ref T), o5, o6, o7] ∧ Sx [] H H' ∧ H T = none ∧ Nd H' N w'.en (i + 1) ∧ Stt H' T ws ∧ StkO ns ws ∧ (runS ws w').1 = (b.run 0 (Wd.at x)).1 ∧ i + stkWt ws ≤ 100)
      ⟨T, Wd.at x, b.nums 0, _, _, _, rfl, s2, hHT, n2, st0, StkO.nums (by decide) ho, by rw [runS_nums], by rw [stkWt_nums]; omega⟩ (fun i σ H3 hi h => ?_) (fun σ H3 h => ?_)⟩
    rotate_left
    · obtain ⟨T, w', ws, o5, o6, o7, rfl, _, _, _, _, _, _, hm⟩ := h
      omega
    obtain ⟨T, w', ws, o5, o6, o7', rfl, s3, hHT, n3, st3, so, hrun, hm⟩ := h
    refine gnm ?_
    obtain ⟨vals, h3, t3⟩ := id st3
    have shA : ShA 50 (ws.map fun y => y.2.d).reverse := ShA.of_mem fun e he => by
      obtain ⟨y, hy, rfl⟩ := List.mem_map.mp (List.mem_reverse.mp he)
      obtain ⟨d, hd3, hd⟩ := so y hy
      exact (St.ok_sh hns y.2 d hd).mono (by omega)
    refine ⟨_, rfl, by show 0 ≤ sizeLine; decide, fun u hu => ⟨_, .list [], TpAll.dpL (Sx.n0 hu _ _ (by simp) h3) (t3.reverse.new hu), .lst (SqL.of upd_same) .nil, (Sh.lst' shA).shaped (by decide), by decide, _, rfl, ?_⟩⟩
    have s4 : Sx [] H (upd H3 u (.lst [])) := s3.new hu
    have n4 := n3.sx (Sx.n0 (o := .lst []) hu)
    have st4 := st3.keep (Sx.n0 (o := .lst []) hu)
    generalize upd H3 u (.lst []) = H4 at s4 n4 st4 ⊢
    clear shA h3 t3 st3 n3
    cases ws with
    | nil =>
      refine iteT ?_
      refine ⟨_, rfl, _, 0, rfl, rfl, .inr ⟨_, rfl, ?_⟩⟩
      refine ⟨_, rfl, _, 0, rfl, rfl, .inr ⟨_, rfl, ?_⟩⟩
      refine ⟨_, _, rfl, rfl, ?_⟩
      have q' := q H4 s4
      have et : (b.run 0 (Wd.at x)).1.tot = w'.tot := by rw [← hrun]; rfl
      rw [et] at q'
      unfold sgn at q'
      by_cases h1 : w'.tot < 0
      · rw [if_pos h1] at q'
        rw [show decide (w'.tot > 0) = false from decide_eq_false (by omega), show decide (w'.tot < 0) = true from decide_eq_true h1]
        exact q'
      · rw [if_neg h1] at q'
        by_cases h2 : 0 < w'.tot
        · rw [if_pos h2] at q'
          rw [show decide (w'.tot > 0) = true from decide_eq_true h2, show decide (w'.tot < 0) = false from decide_eq_false h1]
          exact q'
        · rw [if_neg h2] at q'
          rw [show decide (w'.tot > 0) = false from decide_eq_false h2, show decide (w'.tot < 0) = false from decide_eq_false h1]
          exact q'
    | cons y ws =>
      obtain ⟨p, st⟩ := y
      rw [show ((((p, st) : Int × St) :: ws).map fun y => y.2.d).reverse = ((ws.map fun y => y.2.d).reverse ++ [st.d]) from by simp, eqvL_nil (by simp)]
      refine iteF ?_
      obtain ⟨acc, xv, e1, e2, e4, e5, e6⟩ := st4.pop
      obtain ⟨d, hd3, sto⟩ := so _ (List.mem_cons_self)
      have sto : st.ok ns d := sto
      have so' : StkO ns ws := fun y hy => so y (List.mem_cons_of_mem _ hy)
      rw [stkWt_cons] at hm
      have stp := st.wt_pos
      have wle := wt_le ws
      have hm : i + (st.wt + stkWt ws) ≤ 100 := hm
      refine ⟨_, rfl, .inl ⟨rfl, _, SqL.of e1⟩, T, _, _, rfl, rfl, e1, e2, ?_⟩
      refine gnm ?_
      have k1 : Tk H4 (upd H4 T (.lst acc.dropLast)) := Tk.lst e1
      have ts5 := e4.keep k1
      have s5 : Sx [] H (upd H4 T (.lst acc.dropLast)) := s4.own hHT
      have n5 := n4.ls (o := .lst acc.dropLast) e1
      generalize upd H4 T (.lst acc.dropLast) = H5 at s5 n5 e5 ts5 ⊢
      clear k1 e1 e2 e4 e6 st4 n4 s4
      obtain ⟨ax, xs', rfl, hax⟩ := St.at_ ts5
      have n6 := n5.up (show i + 1 ≤ i + 1 + 1 by omega)
      refine ⟨_, rfl, ax, _, _, .str st.hd, rfl, rfl, SqT.of hax, at0 _ _, rfl, _, rfl, ?_⟩
      cases st with
      | set z ex =>
        obtain ⟨a', p1, p2, p3, ea, hA, t1, t2, t3⟩ := tp3 ts5
        cases ea
        obtain rfl := tpS t1
        obtain rfl := tpS t2
        obtain ⟨kvs, hNk, _, hv⟩ := id n5
        refine iteP (by simp only [St.hd]; decide +kernel) ?_
        have R6 := n5.set hNk z (ex.ev w'.en)
        refine ⟨_, rfl, _, rfl, ax, _, _, p3, rfl, rfl, SqT.of hA, rfl, p3, N, ex, w'.en, rfl, t3, sto.2, n5.en, ?_⟩
        refine ⟨_, rfl, _, rfl, ax, _, _, .str z, rfl, rfl, SqT.of hA, rfl, N, _, rfl, DPut.k (k := .inr z) hNk (lt_line (by have := R6.1; omega)), ?_⟩
        refine ⟨T, ⟨fun y => if y = z then ex.ev w'.en else w'.en y, w'.tot, w'.pl ++ [p]⟩, ws, _, _, _, rfl, s5.own hN, hHT, R6.2, e5.dk hNk, so', ?_, ?_⟩
        · rw [← hrun]
          rfl
        · have : (St.set z ex).wt = 1 := rfl
          omega
      | pay ex =>
        obtain ⟨a', p1, p2, ea, hA, t1, t2⟩ := tp2 ts5
        cases ea
        refine iteN (sne (show (("pay" : Str) == "set") = false by decide +kernel)) ?_
        refine ⟨_, rfl, ax, _, _, .str "pay", rfl, rfl, SqT.of hax, at0 _ _, rfl, _, rfl, iteP (by decide +kernel) ?_⟩
        refine ⟨_, rfl, _, rfl, _, rfl, ax, _, _, p2, rfl, rfl, SqT.of hA, rfl, p2, N, ex, w'.en, rfl, t2, sto, n5.en, ?_⟩
        refine ⟨_, _, rfl, rfl, ?_⟩
        refine ⟨T, ⟨w'.en, w'.tot + ex.ev w'.en, w'.pl ++ [p]⟩, ws, _, _, _, rfl, s5, hHT, n6, e5, so', ?_, ?_⟩
        · rw [← hrun]
          rfl
        · have : (St.pay ex).wt = 1 := rfl
          omega
      | stop =>
        refine iteN (sne (show (("stop" : Str) == "set") = false by decide +kernel)) ?_
        refine ⟨_, rfl, ax, _, _, .str "stop", rfl, rfl, SqT.of hax, at0 _ _, rfl, _, rfl, iteN (sne (show (("stop" : Str) == "pay") = false by decide +kernel)) ?_⟩
        refine ⟨_, rfl, ax, _, _, .str "stop", rfl, rfl, SqT.of hax, at0 _ _, rfl, _, rfl, iteN (sne (show (("stop" : Str) == "if") = false by decide +kernel)) ?_⟩
        refine ⟨_, rfl, ax, _, _, .str "stop", rfl, rfl, SqT.of hax, at0 _ _, rfl, _, rfl, iteN (sne (show (("stop" : Str) == "repeat") = false by decide +kernel)) ?_⟩
        refine ⟨by show 0 ≤ sizeLine; decide, fun T2 hT2 => ?_⟩
        refine ⟨T2, ⟨w'.en, w'.tot, w'.pl ++ [p]⟩, [], _, _, _, rfl, s5.new hT2, s5.free (by simp) hT2, n6.sx (Sx.n0 hT2), ⟨[], upd_same, .nil⟩, (fun y hy => by cases hy), ?_, ?_⟩
        · rw [← hrun]
          rfl
        · show i + 1 + 0 ≤ 100
          omega
      | ite ts y n =>
        obtain ⟨a', p1, p2, p3, p4, ea, hA, t1, t2, t3, t4⟩ := tp4 ts5
        cases ea
        refine iteN (sne (show (("if" : Str) == "set") = false by decide +kernel)) ?_
        refine ⟨_, rfl, ax, _, _, .str "if", rfl, rfl, SqT.of hax, at0 _ _, rfl, _, rfl, iteN (sne (show (("if" : Str) == "pay") = false by decide +kernel)) ?_⟩
        refine ⟨_, rfl, ax, _, _, .str "if", rfl, rfl, SqT.of hax, at0 _ _, rfl, _, rfl, iteP (by decide +kernel) ?_⟩
        obtain ⟨valsT, hT5, _⟩ := id e5
        have wt1 : (St.ite ts y n).wt = 1 + y.wt + n.wt := rfl
        have ew : stkWt ((St.ite ts y n).ent w'.en p) + 1 ≤ (St.ite ts y n).wt := ent_wt
        have el := wt_le ((St.ite ts y n).ent w'.en p)
        -- what is laid on the stack
        have go : ∀ (bl : Bk) (p0 : Int) (xs4 : List V) (p4 : Addr), H5 p4 = none → TpAll H5 xs4 (bl.lst.map St.d) → (St.ite ts y n).ent w'.en p = bl.nums p0 → ∃ acc6, (upd H5 p4 (.tup xs4.reverse)) T = some (.lst acc6) ∧ acc6.length + xs4.reverse.length ≤ sizeLine ∧
            ∃ (T' : Addr) (w0 : Wd) (ws : List (Int × St)) (o5 o6 o7 : Option V), [some (.ref a), some (.int x), some (.ref N), some (.int w'.tot), some (.ref T), some (.int (0 + (i : Int))), some (.ref ax), o7'] = [some (.ref a), some (.int x), some (.ref N), some (.int w0.tot), some (.ref T'), o5, o6, o7] ∧ Sx [] H (upd (upd H5 p4 (.tup xs4.reverse)) T (.lst (acc6 ++ xs4.reverse))) ∧ H T' = none ∧ Nd (upd (upd H5 p4 (.tup xs4.reverse)) T (.lst (acc6 ++ xs4.reverse))) N w0.en (i + 1 + 1) ∧ Stt (upd (upd H5 p4 (.tup xs4.reverse)) T (.lst (acc6 ++ xs4.reverse))) T' ws ∧ StkO ns ws ∧ (runS ws w0).1 = (b.run 0 (Wd.at x)).1 ∧ i + 1 + stkWt ws ≤ 100 := fun bl p0 xs4 p4 hp4 hx4 ee => by
          rw [← nums_ds bl p0, ← ee] at hx4
          obtain ⟨acc6, g1, g2, g3⟩ := (e5.keep (Sx.n0 (o := .tup xs4.reverse) hp4)).ext (es := (St.ite ts y n).ent w'.en p) (hx4.new hp4)
          have ylen := hx4.len
          rw [List.length_map] at ylen
          refine ⟨acc6, g1, le_line (by rw [g2, List.length_reverse]; omega), T, ⟨w'.en, w'.tot, w'.pl ++ [p]⟩, (St.ite ts y n).ent w'.en p ++ ws, _, _, _, rfl, (s5.new hp4).own hHT, hHT, (n6.sx (Sx.n0 hp4)).ls g1, g3, fun y hy => ?_, ?_, ?_⟩
          · rcases List.mem_append.1 hy with hy | hy
            · exact StkO.ent hd3 sto y hy
            · exact so' y hy
          · rw [← hrun, runS_append, runS_ent (.inl ⟨_, _, _, rfl⟩)]
            rfl
          · rw [stkWt_append]
            omega
        refine ⟨_, rfl, .inl ⟨rfl, _, SqL.of hT5⟩, _, rfl, _, rfl, ax, _, _, p2, rfl, rfl, SqT.of hA, rfl, p2, N, ts, w'.en, rfl, t2, by decide, sto.1, n5.en, ?_⟩
        refine ⟨_, rfl, ite2 (fun e => ?_) (fun e => ?_)⟩
        · obtain ⟨a4, xs4, rfl, ha4, hx4⟩ := t3.tuple
          rw [y.ds_lst] at hx4
          refine ⟨_, rfl, ax, _, _, _, rfl, rfl, SqT.of hA, rfl, a4, xs4, rfl, SqT.of ha4, fun p4 hp4 => ?_⟩
          obtain ⟨acc6, g1, g2, g3⟩ := go y (p + 1) xs4 p4 hp4 hx4 (by simp only [St.ent]; rw [if_pos e])
          exact ⟨T, p4, acc6, xs4.reverse, rfl, rfl, g1, SqT.of upd_same, g2, g3⟩
        · obtain ⟨a4, xs4, rfl, ha4, hx4⟩ := t4.tuple
          rw [n.ds_lst] at hx4
          refine ⟨_, rfl, ax, _, _, _, rfl, rfl, SqT.of hA, rfl, a4, xs4, rfl, SqT.of ha4, fun p4 hp4 => ?_⟩
          obtain ⟨acc6, g1, g2, g3⟩ := go n (p + 1 + y.sz) xs4 p4 hp4 hx4 (by simp only [St.ent]; rw [if_neg e])
          exact ⟨T, p4, acc6, xs4.reverse, rfl, rfl, g1, SqT.of upd_same, g2, g3⟩
      | rep k y =>
        obtain ⟨a', p1, p2, p3, ea, hA, t1, t2, t3⟩ := tp3 ts5
        cases ea
        obtain rfl := tpI t2
        refine iteN (sne (show (("repeat" : Str) == "set") = false by decide +kernel)) ?_
        refine ⟨_, rfl, ax, _, _, .str "repeat", rfl, rfl, SqT.of hax, at0 _ _, rfl, _, rfl, iteN (sne (show (("repeat" : Str) == "pay") = false by decide +kernel)) ?_⟩
        refine ⟨_, rfl, ax, _, _, .str "repeat", rfl, rfl, SqT.of hax, at0 _ _, rfl, _, rfl, iteN (sne (show (("repeat" : Str) == "if") = false by decide +kernel)) ?_⟩
        refine ⟨_, rfl, ax, _, _, .str "repeat", rfl, rfl, SqT.of hax, at0 _ _, rfl, _, rfl, iteP (by decide +kernel) ?_⟩
        have wt1 : (St.rep k y).wt = 1 + k.toNat * y.wt := rfl
        have k1 : 1 ≤ k := sto.1
        have k8 : k ≤ 8 := sto.2.1
        obtain ⟨a4, xs4, rfl, ha4, hx4⟩ := t3.tuple
        rw [y.ds_lst, ← nums_ds y (p + 1)] at hx4
        have ylen := hx4.len
        rw [List.length_map] at ylen
        have yl := wt_le (y.nums (p + 1))
        rw [stkWt_nums] at yl
        refine ⟨_, rfl, ax, _, _, _, rfl, rfl, SqT.of hA, rfl, k, rfl, by omega, by omega, for_range (n := k.toNat) (fun j σ H' => ∃ o7, σ = [some (.ref a), some (.int x), some (.ref N), some (.int w'.tot), some (.ref T), some (.int (0 + (i : Int))), some (.ref ax), o7] ∧ Sx [] H H' ∧ Tk H5 H' ∧ Nd H' N w'.en (i + 1 + 1) ∧ Stt H' T ((List.replicate j (y.nums (p + 1))).flatten ++ ws))
          ⟨_, rfl, s5, Tk.refl _, n6, e5⟩ (fun j σ H6 hj h => ?_) (fun σ H6 h => ?_)⟩
        · obtain ⟨o7, rfl, s6, k6, m6, e6⟩ := h
          refine gnm ?_
          obtain ⟨valsT, hT6, _⟩ := id e6
          refine ⟨_, rfl, .inl ⟨rfl, _, SqL.of hT6⟩, _, rfl, ax, _, _, _, rfl, rfl, SqT.of (k6 _ _ hA), rfl, a4, xs4, rfl, SqT.of (k6 _ _ ha4), fun p4 hp4 => ?_⟩
          have hx6 := (hx4.keep k6).new (o := .tup xs4.reverse) hp4
          obtain ⟨acc6, g1, g2, g3⟩ := (e6.keep (Sx.n0 (o := .tup xs4.reverse) hp4)).ext (es := y.nums (p + 1)) hx6
          have jl : ((List.replicate j (y.nums (p + 1))).flatten).length ≤ j * y.wt := by
            have := wt_le ((List.replicate j (y.nums (p + 1))).flatten)
            rw [stkWt_rep, stkWt_nums] at this
            exact this
          have jk : j * y.wt + y.wt ≤ k.toNat * y.wt := by
            rw [← Nat.succ_mul]
            exact Nat.mul_le_mul_right _ hj
          refine ⟨T, p4, acc6, xs4.reverse, rfl, rfl, g1, SqT.of upd_same, le_line (by rw [g2, List.length_reverse, List.length_append]; omega), ?_⟩
          refine ⟨_, rfl, (s6.new hp4).own hHT, (k6.trans (Sx.n0 hp4).tk0).trans (Tk.lst g1), (m6.sx (Sx.n0 hp4)).ls g1, ?_⟩
          rw [List.replicate_succ]; rw [List.flatten_cons, List.append_assoc]
          exact g3
        · obtain ⟨o7, rfl, s6, k6, m6, e6⟩ := h
          refine ⟨T, ⟨w'.en, w'.tot, w'.pl ++ [p]⟩, (St.rep k y).ent w'.en p ++ ws, _, _, _, rfl, s6, hHT, m6, e6, fun y hy => ?_, ?_, ?_⟩
          · rcases List.mem_append.1 hy with hy | hy
            · exact StkO.ent hd3 sto y hy
            · exact so' y hy
          · rw [← hrun, runS_append, runS_ent (.inr ⟨_, _, rfl⟩)]
            rfl
          · have ew : stkWt ((St.rep k y).ent w'.en p) + 1 ≤ (St.rep k y).wt := ent_wt
            rw [stkWt_append]
            omega
end
abbrev sPBareTest : Stmt := topS 2
abbrev nPBareTest : List Str := ["test"]
theorem scPBareTest : FnScope nPBareTest ["test"] (defScope sPBareTest) := ⟨rfl, rfl, rfl, by decide +kernel, rfl, by decide +kernel, by decide +kernel⟩
abbrev sPTestsWith : Stmt := topS 6
abbrev nPTestsWith : List Str := ["statement", "word"]
theorem scPTestsWith : FnScope nPTestsWith ["statement", "word"] (defScope sPTestsWith) := ⟨rfl, rfl, rfl, by decide +kernel, rfl, by decide +kernel, by decide +kernel⟩
/-! ### sums over statements -/
def Ts.bare : Ts → Ts
  | .not t => t.bare
  | t => t
def Ts.hd : Ts → Str
  | .rest _ _ _ => "rest"
  | .less _ _ => "less"
  | .not _ => "not"
theorem Ts.at_ {H : Hp} {x : V} {t : Ts} (h : Tp H x t.d) : ∃ a xs, x = .ref a ∧ H a = some (.tup (.str t.hd :: xs)) := by
  have e : ∃ ds, t.d = .tuple (.str t.hd :: ds) := by cases t <;> exact ⟨_, rfl⟩
  obtain ⟨ds, e⟩ := e
  rw [e] at h
  obtain ⟨a, xs, rfl, ha, hx⟩ := h.tuple
  cases hx with
  | cons h hs =>
    obtain rfl := tpS h
    exact ⟨a, _, rfl, ha⟩
def Ts.nots : Ts → Nat
  | .not t => t.nots + 1
  | _ => 0
/-- whether it has a test with this word -/
def St.tw (z : Str) : St → Bool
  | .ite t _ _ => decide (V.str t.bare.hd = V.str z)
  | _ => false
mutual
def St.sumO (own : St → Int) : St → Int
  | .ite t y n => own (.ite t y n) + (y.sumO own + n.sumO own)
  | .rep k y => own (.rep k y) + k * y.sumO own
  | s => own s
def Bk.sumO (own : St → Int) : Bk → Int
  | .nil => 0
  | .cons s b => s.sumO own + b.sumO own
end
def St.times : St → Int
  | .rep k _ => k
  | _ => 1
theorem St.sumO_eq (own : St → Int) (s : St) : s.sumO own = own s + s.times * (s.blks.map fun b => b.sumO own).sum := by
  cases s with
  | ite t y n => simp [St.sumO, St.times, St.blks]
  | rep k y => simp [St.sumO, St.times, St.blks]
  | set z e => simp [St.sumO, St.times, St.blks]
  | pay e => simp [St.sumO, St.times, St.blks]
  | stop => simp [St.sumO, St.times, St.blks]
theorem Bk.sumO_lst (own : St → Int) : ∀ b : Bk, b.sumO own = (b.lst.map fun s => s.sumO own).sum
  | .nil => rfl
  | .cons s b => by rw [Bk.sumO, Bk.lst, List.map_cons, List.sum_cons, Bk.sumO_lst own b]
/-- the factors are small, blocks lie at most so deep -/
def Bk.fac (b : Bk) : Nat → Prop
  | 0 => False
  | d + 1 => b.lst.length < 16777216 ∧ ∀ s ∈ b.lst, -1000000 ≤ s.times ∧ s.times ≤ 1000000 ∧ ∀ y ∈ s.blks, y.fac d
def spBare : Sp := fun vs H Q _ => ∃ (v : V) (t : Ts), vs = [v] ∧ Tp H v t.d ∧ ∀ v', Tp H v' t.bare.d → Q v' H
def spTestsWith : Sp := fun vs H Q _ => ∃ (v : V) (s : St) (z : Str), vs = [v, .str z] ∧ Tp H v s.d ∧ Q (.bl (s.tw z)) H
def spOwn (own : St → Int) : Sp := fun vs H Q _ => ∃ (v : V) (s : St), vs = [v] ∧ Tp H v s.d ∧ ∀ H', Sx [] H H' → Q (.int (own s)) H'
def spSum (T : Addr → Hp → Prop) (own : St → Int) (d : Nat) : Sp := fun vs H Q _ => ∃ (v : V) (b : Bk) (f : Addr), vs = [v, .ref f] ∧ Tp H v (.tuple b.ds) ∧ T f H ∧ b.fac d ∧ ∀ H', Sx [] H H' → Q (.int (b.sumO own)) H'
section
variable {w : World} {P : Program} {K : PySem.W.Frag} {mg : Str → Option Value} {base : Heap}
theorem ok_pbare {f : Addr} {fd : FuncData} {k : Nat} (F_pbare_test : Fun K "bare_test" "bare_test" sPBareTest f fd) : FnOk P w K mg base CX0 (k + 1) f fd ["test"] spBare := by
  refine F_pbare_test.ok scPBareTest (fun vs H Q E h => ?_) (fun cdv A outer s H vs Q E hr h => ?_)
  · obtain ⟨_, _, rfl, _⟩ := h
    rfl
  · obtain ⟨v, t, rfl, tt, q⟩ := h
    refine ⟨_, (C8.pss_cut (ps_while PassesOwn.never (pt_cmpR op_eq (pe_ix ix_tup (pv 0) pe_int (fun _ _ => rfl)) pe_str (nomark _)) (pss_one (ps_set (i := 0) scPBareTest.nd rfl (by first | exact Or.inl rfl | exact Or.inr rfl) (pe_ix ix_tup (pv 0) pe_int (fun _ _ => rfl)))))
      (pss_one (ps_ret (pv 0)))), ?_⟩
    refine ⟨fun σ H' => ∃ v', σ = [some v'] ∧ H' = H ∧ Tp H v' t.bare.d, ?_, ?_⟩
    · refine ⟨fun m σ H' => ∃ (v' : V) (t' : Ts), σ = [some v'] ∧ H' = H ∧ Tp H v' t'.d ∧ t'.bare = t.bare ∧ m = t'.nots, ⟨_, v, t, rfl, rfl, tt, rfl, rfl⟩, ?_⟩
      rintro m σ H' ⟨v', t', rfl, rfl, tt', hb, rfl⟩
      obtain ⟨a, xs, rfl, ha⟩ := Ts.at_ tt'
      refine ⟨_, rfl, a, _, _, .str t'.hd, rfl, rfl, SqT.of ha, at0 _ _, rfl, _, rfl, ?_⟩
      cases t' with
      | not u =>
        obtain ⟨a2, p1, p2, ea, hA, t1, t2⟩ := tp2 tt'
        cases ea
        refine iteP (by simp only [Ts.hd]; decide +kernel) ⟨fun σ H2 => σ = [some p2] ∧ H2 = H', fun σ H2 z => ⟨u.nots, Nat.lt_succ_self _, p2, u, z.1, z.2, t2, hb, rfl⟩, ?_⟩
        exact ⟨_, rfl, a, _, _, p2, rfl, rfl, SqT.of hA, rfl, rfl, rfl⟩
      | rest x b r => exact iteN (sne (show (("rest" : Str) == "not") = false by decide +kernel)) ⟨_, rfl, rfl, by rw [← hb]; exact tt'⟩
      | less x y => exact iteN (sne (show (("less" : Str) == "not") = false by decide +kernel)) ⟨_, rfl, rfl, by rw [← hb]; exact tt'⟩
    · rintro _ H' ⟨v', rfl, rfl, t'⟩
      exact ⟨_, rfl, q v' t'⟩
theorem ok_ptests {f fB : Addr} {fd fdB : FuncData} {k : Nat} (F_ptests_with : Fun K "tests_with" "tests_with" sPTestsWith f fd) (F_pbare_test : Fun K "bare_test" "bare_test" sPBareTest fB fdB) (G_pbare_test : FnOk P w K mg base CX0 1 fB fdB ["test"] spBare)
    (b_pbare_test : Binds K fdB ["test"] []) (m_pbare_test : mg "bare_test" = some (.ref fB)) : FnOk P w K mg base CX0 (k + 2) f fd ["statement", "word"] spTestsWith := by
  refine F_ptests_with.ok scPTestsWith (fun vs H Q E h => ?_) (fun cdv A outer s H vs Q E hr h => ?_)
  · obtain ⟨_, _, _, rfl, _⟩ := h
    rfl
  · obtain ⟨v, s, z, rfl, t, q⟩ := h
    refine ⟨_, (pss_one (ps_ret (pe_and (pe_cmpR op_eq (pe_ix ix_tup (pv 0) pe_int (fun _ _ => rfl)) pe_str (nomark _)) (pe_one (pe_cmpR op_eq (pe_ix ix_tup (pe_call G_pbare_test (hr.mono (by omega)) (by rfl) m_pbare_test F_pbare_test.kp b_pbare_test .nil pass0 (pa_cons (pe_ix ix_tup (pv 0) pe_int (fun _ _ => rfl)) pa_nil)) pe_int (fun _ _ => rfl)) (pv 1) (nomark _)))))), ?_⟩
    obtain ⟨a, xs, rfl, ha⟩ := St.at_ t
    refine ⟨_, rfl, a, _, _, .str s.hd, rfl, rfl, SqT.of ha, at0 _ _, rfl, _, rfl, ?_⟩
    cases s with
    | ite ts y n =>
      obtain ⟨a2, p1, p2, p3, p4, ea, hA, t1, t2, t3, t4⟩ := tp4 t
      cases ea
      refine iteP (by simp only [St.hd]; decide +kernel) ?_
      refine ⟨_, rfl, a, _, _, p2, rfl, rfl, SqT.of hA, rfl, p2, ts, rfl, t2, fun v' t' => ?_⟩
      obtain ⟨a3, xs3, rfl, ha3⟩ := Ts.at_ t'
      exact ⟨a3, _, _, .str ts.bare.hd, rfl, rfl, SqT.of ha3, at0 _ _, _, rfl, rfl, q⟩
    | set z e => exact iteN (sne (show (("set" : Str) == "if") = false by decide +kernel)) q
    | pay e => exact iteN (sne (show (("pay" : Str) == "if") = false by decide +kernel)) q
    | stop => exact iteN (sne (show (("stop" : Str) == "if") = false by decide +kernel)) q
    | rep k y => exact iteN (sne (show (("repeat" : Str) == "if") = false by decide +kernel)) q
end
def bkD (b : Bk) : PyData := .tuple b.ds
abbrev sSmall : Stmt := topS 35
abbrev nSmall : List Str := ["_law_many", "_law_found", "_law_k"]
theorem scSmall : FnScope nSmall ["_law_many"] (defScope sSmall) := ⟨rfl, rfl, rfl, by decide +kernel, rfl, by decide +kernel, by decide +kernel⟩
abbrev sFamily : Stmt := topS 44
abbrev nFamily : List Str := ["_law_deck_here", "_law_names_here", "_law_most", "_law_found", "_law_k", "_law_way"]
theorem scFamily : FnScope nFamily ["_law_deck_here", "_law_names_here", "_law_most"] (defScope sFamily) := ⟨rfl, rfl, rfl, by decide +kernel, rfl, by decide +kernel, by decide +kernel⟩
abbrev sSigns : Stmt := topS 48
abbrev nSigns : List Str := ["_law_family_here", "_law_number", "_law_program_here"]
theorem scSigns : FnScope nSigns ["_law_family_here", "_law_number"] (defScope sSigns) := ⟨rfl, rfl, rfl, by decide +kernel, rfl, by decide +kernel, by decide +kernel⟩
/-! ### lines over a number, and parts of the whole numbers -/
abbrev Ln := Int × Int
def lnV (l : Ln) (n : Int) : Int := l.1 * n + l.2
def lnD (l : Ln) : PyData := .tuple [.int l.1, .int l.2]
def lnAdd (a b : Ln) : Ln := (a.1 + b.1, a.2 + b.2)
def lnMul (f : Int) (a : Ln) : Ln := (f * a.1, f * a.2)
theorem lnV_add (a b : Ln) (n : Int) : lnV (lnAdd a b) n = lnV a n + lnV b n := by
  show (a.1 + b.1) * n + (a.2 + b.2) = (a.1 * n + a.2) + (b.1 * n + b.2)
  rw [Int.add_mul]; omega
theorem lnV_mul (f : Int) (a : Ln) (n : Int) : lnV (lnMul f a) n = f * lnV a n := by
  show f * a.1 * n + f * a.2 = f * (a.1 * n + a.2)
  rw [Int.mul_add, Int.mul_assoc]
def Ex.ln (σ : Str → Ln) : Ex → Ln
  | .int i => (0, i)
  | .name z => σ z
  | .plus x y => lnAdd (x.ln σ) (lnMul 1 (y.ln σ))
  | .minus x y => lnAdd (x.ln σ) (lnMul (-1) (y.ln σ))
  | .times f x => lnMul f (x.ln σ)
theorem Ex.ln_ev (σ : Str → Ln) (n : Int) : ∀ e : Ex, lnV (e.ln σ) n = e.ev (fun z => lnV (σ z) n)
  | .int i => by show 0 * n + i = i; omega
  | .name z => rfl
  | .plus x y => by simp only [Ex.ln, Ex.ev, lnV_add, lnV_mul, Ex.ln_ev σ n x, Ex.ln_ev σ n y]; omega
  | .minus x y => by simp only [Ex.ln, Ex.ev, lnV_add, lnV_mul, Ex.ln_ev σ n x, Ex.ln_ev σ n y]; omega
  | .times f x => by simp only [Ex.ln, Ex.ev, lnV_mul, Ex.ln_ev σ n x]
/-- both of a line lie within a bound -/
def LnB (B : Nat) (l : Ln) : Prop := l.1.natAbs ≤ B ∧ l.2.natAbs ≤ B
theorem LnB.mono {B C : Nat} {l : Ln} (h : LnB B l) (e : B ≤ C) : LnB C l := ⟨Nat.le_trans h.1 e, Nat.le_trans h.2 e⟩
theorem LnB.add {B C : Nat} {a b : Ln} (h : LnB B a) (k : LnB C b) : LnB (B + C) (lnAdd a b) := ⟨Nat.le_trans (Int.natAbs_add_le _ _) (Nat.add_le_add h.1 k.1), Nat.le_trans (Int.natAbs_add_le _ _) (Nat.add_le_add h.2 k.2)⟩
theorem LnB.mul {B : Nat} {f : Int} {a : Ln} (hf : f.natAbs ≤ 9) (h : LnB B a) : LnB (9 * B) (lnMul f a) := ⟨by
  show (f * a.1).natAbs ≤ _
  rw [Int.natAbs_mul]; exact Nat.mul_le_mul hf h.1, by
  show (f * a.2).natAbs ≤ _
  rw [Int.natAbs_mul]; exact Nat.mul_le_mul hf h.2⟩
theorem LnB.mul1 {B : Nat} {f : Int} {a : Ln} (hf : f.natAbs ≤ 1) (h : LnB B a) : LnB B (lnMul f a) := ⟨by
  show (f * a.1).natAbs ≤ _
  rw [Int.natAbs_mul]; exact Nat.le_trans (Nat.mul_le_mul hf h.1) (by omega), by
  show (f * a.2).natAbs ≤ _
  rw [Int.natAbs_mul]; exact Nat.le_trans (Nat.mul_le_mul hf h.2) (by omega)⟩
theorem Ex.ln_bd {ns : List Str} {σ : Str → Ln} {B : Nat} (hB : 99 ≤ B) (hσ : ∀ z, LnB B (σ z)) : ∀ (e : Ex) (d : Nat), e.ok ns d → LnB (9 ^ d * B) (e.ln σ)
  | .int i, d, ⟨_, h1, h2⟩ => by
    have p : B ≤ 9 ^ d * B := Nat.le_mul_of_pos_left _ (Nat.pow_pos (by decide))
    exact ⟨by show (0 : Int).natAbs ≤ _; simp, by show i.natAbs ≤ _; omega⟩
  | .name z, d, _ => (hσ z).mono (Nat.le_mul_of_pos_left _ (Nat.pow_pos (by decide)))
  | .plus x y, d, ⟨h1, h2, h3⟩ => by
    obtain ⟨m, rfl⟩ : ∃ m, d = m + 1 := ⟨d - 1, by omega⟩
    have a := Ex.ln_bd hB hσ x m h2
    have b := Ex.ln_bd hB hσ y m h3
    exact (a.add (b.mul1 (f := 1) (by decide))).mono (by rw [Nat.pow_succ, Nat.mul_comm (9 ^ m) 9, Nat.mul_assoc]; omega)
  | .minus x y, d, ⟨h1, h2, h3⟩ => by
    obtain ⟨m, rfl⟩ : ∃ m, d = m + 1 := ⟨d - 1, by omega⟩
    have a := Ex.ln_bd hB hσ x m h2
    have b := Ex.ln_bd hB hσ y m h3
    exact (a.add (b.mul1 (f := -1) (by decide))).mono (by rw [Nat.pow_succ, Nat.mul_comm (9 ^ m) 9, Nat.mul_assoc]; omega)
  | .times f x, d, ⟨h1, h2, h3, h4⟩ => by
    obtain ⟨m, rfl⟩ : ∃ m, d = m + 1 := ⟨d - 1, by omega⟩
    have a := Ex.ln_bd hB hσ x m h4
    exact (a.mul (f := f) (by omega)).mono (by rw [Nat.pow_succ, Nat.mul_comm (9 ^ m) 9, Nat.mul_assoc]; omega)
/-! ### ends of intervals -/
def oD : Option Int → PyData
  | none => .none
  | some i => .int i
def tlo : Option Int → Option Int → Option Int
  | none, b => b
  | some a, none => some a
  | some a, some b => some (if b > a then b else a)
def thi : Option Int → Option Int → Option Int
  | none, b => b
  | some a, none => some a
  | some a, some b => some (if b < a then b else a)
def inIv (lo hi : Option Int) (n : Int) : Prop := (∀ l, lo = some l → l ≤ n) ∧ ∀ h, hi = some h → n ≤ h
theorem inIv_lo {a b hi : Option Int} {n : Int} : inIv (tlo a b) hi n ↔ inIv a hi n ∧ ∀ l, b = some l → l ≤ n := by
  unfold inIv
  cases a with
  | none =>
    constructor
    · rintro ⟨h1, h2⟩; exact ⟨⟨fun l e => (nomatch e), h2⟩, h1⟩
    · rintro ⟨⟨_, h2⟩, h1⟩; exact ⟨h1, h2⟩
  | some a =>
    cases b with
    | none =>
      constructor
      · rintro ⟨h1, h2⟩; exact ⟨⟨h1, h2⟩, fun l e => by cases e⟩
      · rintro ⟨h, _⟩; exact h
    | some b =>
      constructor
      · rintro ⟨h1, h2⟩
        have z := h1 _ rfl
        refine ⟨⟨fun l e => ?_, h2⟩, fun l e => ?_⟩ <;> cases e <;> split at z <;> omega
      · rintro ⟨⟨h1, h2⟩, h3⟩
        have z1 := h1 _ rfl
        have z2 := h3 _ rfl
        refine ⟨fun l e => ?_, h2⟩
        cases e
        split <;> omega
theorem inIv_hi {lo a b : Option Int} {n : Int} : inIv lo (thi a b) n ↔ inIv lo a n ∧ ∀ h, b = some h → n ≤ h := by
  unfold inIv
  cases a with
  | none =>
    constructor
    · rintro ⟨h1, h2⟩; exact ⟨⟨h1, fun l e => by cases e⟩, h2⟩
    · rintro ⟨⟨h1, _⟩, h2⟩; exact ⟨h1, h2⟩
  | some a =>
    cases b with
    | none =>
      constructor
      · rintro ⟨h1, h2⟩; exact ⟨⟨h1, h2⟩, fun l e => by cases e⟩
      · rintro ⟨h, _⟩; exact h
    | some b =>
      constructor
      · rintro ⟨h1, h2⟩
        have z := h2 _ rfl
        refine ⟨⟨h1, fun l e => ?_⟩, fun l e => ?_⟩ <;> cases e <;> split at z <;> omega
      · rintro ⟨⟨h1, h2⟩, h3⟩
        have z1 := h2 _ rfl
        have z2 := h3 _ rfl
        refine ⟨h1, fun l e => ?_⟩
        cases e
        split <;> omega
/-- a part: some rests, from a low end to a high one -/
structure Pt where
  rs : List Int
  lo : Option Int
  hi : Option Int
def ptD (p : Pt) : PyData := .tuple [.list (p.rs.map .int), oD p.lo, oD p.hi]
def Pt.has (M : Int) (p : Pt) (n : Int) : Prop := n % M ∈ p.rs ∧ inIv p.lo p.hi n
/-- the parts are told in their order: of the same rest, the earlier lie lower -/
def Asc (M : Int) (l : List Pt) : Prop := l.Pairwise fun p q => ∀ a b, p.has M a → q.has M b → a % M = b % M → a < b
def pLast (l : Ln) : Int := if l.1 > 0 then (-l.2 - 1) / l.1 else l.2 / (-l.1)
def loLe : Option Int → Int → Bool
  | none, _ => true
  | some a, x => decide (a ≤ x)
def hiGt : Option Int → Int → Bool
  | none, _ => true
  | some b, x => decide (x < b)
def pBelow (l : Ln) (p : Pt) : List (Bool × Pt) :=
  if l.1 = 0 then [(decide (l.2 < 0), p)] else
    (if loLe p.lo (pLast l) = true then [(decide (l.1 > 0), ⟨p.rs, p.lo, thi p.hi (some (pLast l))⟩)] else []) ++
    (if hiGt p.hi (pLast l) = true then [(decide (l.1 < 0), ⟨p.rs, tlo p.lo (some (pLast l + 1)), p.hi⟩)] else [])
theorem pLast_is {l : Ln} (h : l.1 ≠ 0) (n : Int) : n ≤ pLast l ↔ (lnV l n < 0 ↔ 0 < l.1) := by
  unfold pLast lnV
  by_cases h1 : l.1 > 0
  · rw [if_pos h1, Int.le_ediv_iff_mul_le h1, Int.mul_comm]
    constructor
    · intro z; exact ⟨fun _ => h1, fun _ => by omega⟩
    · intro z; have := z.2 h1; omega
  · have h2 : 0 < -l.1 := by omega
    rw [if_neg h1, Int.le_ediv_iff_mul_le h2, Int.mul_neg, Int.mul_comm]
    constructor
    · intro z; exact ⟨fun y => by omega, fun y => by omega⟩
    · intro z
      by_cases y : l.1 * n + l.2 < 0
      · have := z.1 y; omega
      · omega
/-- parts told for one: they lie in it, cover it, in their order -/
structure Spl (M : Int) (p : Pt) (L : List Pt) : Prop where
  sub : ∀ q ∈ L, ∀ n, q.has M n → p.has M n
  cov : ∀ n, p.has M n → ∃ q ∈ L, q.has M n
  asc : Asc M L
theorem Spl.one (M : Int) (p : Pt) : Spl M p [p] := ⟨fun q hq n h => by rw [List.mem_singleton.mp hq] at h; exact h, fun n h => ⟨p, List.mem_singleton.mpr rfl, h⟩, List.pairwise_singleton _ _⟩
theorem Spl.comp {α β : Type} {M : Int} {p : Pt} (F : α × Pt → List (β × Pt)) : ∀ {L : List (α × Pt)}, Spl M p (L.map (·.2)) → (∀ x ∈ L, Spl M x.2 ((F x).map (·.2))) → Spl M p ((L.flatMap F).map (·.2)) := by
  intro L h k
  have e : (L.flatMap F).map (·.2) = L.flatMap fun x => (F x).map (·.2) := by rw [List.map_flatMap]
  rw [e]
  refine ⟨fun q hq n hn => ?_, fun n hn => ?_, ?_⟩
  · obtain ⟨x, hx, hq⟩ := List.mem_flatMap.mp hq
    exact h.sub x.2 (List.mem_map_of_mem hx) n ((k x hx).sub q hq n hn)
  · obtain ⟨q, hq, hn⟩ := h.cov n hn
    obtain ⟨x, hx, rfl⟩ := List.mem_map.mp hq
    obtain ⟨q2, hq2, hn2⟩ := (k x hx).cov n hn
    exact ⟨q2, List.mem_flatMap.mpr ⟨x, hx, hq2⟩, hn2⟩
  · have ha := h.asc
    clear h e
    induction L with
    | nil => exact List.Pairwise.nil
    | cons x L ih =>
      rw [List.map_cons] at ha
      have ha1 := List.pairwise_cons.mp ha
      refine List.pairwise_append.mpr ⟨(k x (List.mem_cons_self ..)).asc, ih (fun y hy => k y (List.mem_cons_of_mem _ hy)) ha1.2, fun q hq q2 hq2 a b h1 h2 h3 => ?_⟩
      obtain ⟨y, hy, hq2⟩ := List.mem_flatMap.mp hq2
      exact ha1.1 y.2 (List.mem_map_of_mem hy) a b ((k x (List.mem_cons_self ..)).sub q hq a h1) ((k y (List.mem_cons_of_mem _ hy)).sub q2 hq2 b h2) h3
theorem mem_ifl {α : Type} {c : Prop} [Decidable c] {a x : α} (h : x ∈ (if c then [a] else [])) : c ∧ x = a := by
  by_cases hc : c
  · rw [if_pos hc] at h; exact ⟨hc, List.mem_singleton.mp h⟩
  · rw [if_neg hc] at h; cases h
theorem pBelow_spl (M : Int) (l : Ln) (p : Pt) : Spl M p ((pBelow l p).map (·.2)) := by
  unfold pBelow
  by_cases h0 : l.1 = 0
  · rw [if_pos h0]; exact .one M p
  rw [if_neg h0]
  refine ⟨fun q hq n hn => ?_, fun n hn => ?_, ?_⟩
  · obtain ⟨x, hx, rfl⟩ := List.mem_map.mp hq
    rcases List.mem_append.1 hx with hx | hx
    · obtain ⟨_, rfl⟩ := mem_ifl hx
      exact ⟨hn.1, (inIv_hi.mp hn.2).1⟩
    · obtain ⟨_, rfl⟩ := mem_ifl hx
      exact ⟨hn.1, (inIv_lo.mp hn.2).1⟩
  · by_cases c : n ≤ pLast l
    · refine ⟨⟨p.rs, p.lo, thi p.hi (some (pLast l))⟩, List.mem_map.mpr ⟨(decide (l.1 > 0), ⟨p.rs, p.lo, thi p.hi (some (pLast l))⟩), List.mem_append_left _ ?_, rfl⟩, hn.1, inIv_hi.mpr ⟨hn.2, fun h e => by cases e; exact c⟩⟩
      · have : loLe p.lo (pLast l) = true := by
          cases e : p.lo with
          | none => rfl
          | some a => have := hn.2.1 a e; refine decide_eq_true ?_; omega
        rw [if_pos this]; exact List.mem_singleton.mpr rfl
    · refine ⟨⟨p.rs, tlo p.lo (some (pLast l + 1)), p.hi⟩, List.mem_map.mpr ⟨(decide (l.1 < 0), ⟨p.rs, tlo p.lo (some (pLast l + 1)), p.hi⟩), List.mem_append_right _ ?_, rfl⟩, hn.1, inIv_lo.mpr ⟨hn.2, fun h e => by cases e; omega⟩⟩
      · have : hiGt p.hi (pLast l) = true := by
          cases e : p.hi with
          | none => rfl
          | some a => have := hn.2.2 a e; refine decide_eq_true ?_; omega
        rw [if_pos this]; exact List.mem_singleton.mpr rfl
  · rw [Asc, List.map_append]
    refine List.pairwise_append.mpr ⟨?_, ?_, fun q hq q2 hq2 a b h1 h2 _ => ?_⟩
    · split
      · exact List.pairwise_singleton _ _
      · exact List.Pairwise.nil
    · split
      · exact List.pairwise_singleton _ _
      · exact List.Pairwise.nil
    · obtain ⟨x, hx, rfl⟩ := List.mem_map.mp hq
      obtain ⟨y, hy, rfl⟩ := List.mem_map.mp hq2
      obtain ⟨_, rfl⟩ := mem_ifl hx
      obtain ⟨_, rfl⟩ := mem_ifl hy
      have z1 := (inIv_hi.mp h1.2).2 _ rfl
      have z2 := (inIv_lo.mp h2.2).2 _ rfl
      omega
theorem pBelow_ok (M : Int) (l : Ln) (p : Pt) {x : Bool × Pt} (hx : x ∈ pBelow l p) {n : Int} (hn : x.2.has M n) : x.1 = decide (lnV l n < 0) := by
  unfold pBelow at hx
  by_cases h0 : l.1 = 0
  · rw [if_pos h0] at hx
    rw [List.mem_singleton.mp hx]
    refine decide_eq_decide.mpr ?_
    unfold lnV
    rw [h0]
    omega
  rw [if_neg h0] at hx
  have pl := pLast_is h0 n
  rcases List.mem_append.1 hx with hx | hx
  · obtain ⟨_, rfl⟩ := mem_ifl hx
    have z := pl.mp ((inIv_hi.mp hn.2).2 _ rfl)
    exact decide_eq_decide.mpr ⟨fun y => z.mpr y, fun y => z.mp y⟩
  · obtain ⟨_, rfl⟩ := mem_ifl hx
    have z1 : ¬ n ≤ pLast l := by have := (inIv_lo.mp hn.2).2 _ rfl; omega
    refine decide_eq_decide.mpr ?_
    by_cases y : lnV l n < 0
    · exact ⟨fun _ => y, fun _ => by
        by_cases w : 0 < l.1
        · exact absurd (pl.mpr ⟨fun _ => w, fun _ => y⟩) z1
        · omega⟩
    · refine ⟨fun w => ?_, fun w => absurd w y⟩
      exact absurd (pl.mpr ⟨fun v => absurd v y, fun v => by omega⟩) z1
theorem pBelow_rs {l : Ln} {p : Pt} {x : Bool × Pt} (hx : x ∈ pBelow l p) : x.2.rs = p.rs := by
  unfold pBelow at hx
  split at hx
  · rw [List.mem_singleton.mp hx]
  · rcases List.mem_append.1 hx with hx | hx
    · obtain ⟨_, rfl⟩ := mem_ifl hx; rfl
    · obtain ⟨_, rfl⟩ := mem_ifl hx; rfl
theorem pBelow_len (l : Ln) (p : Pt) : (pBelow l p).length ≤ 2 := by
  unfold pBelow
  split
  · simp
  · rw [List.length_append]
    have z : ∀ {c : Prop} [Decidable c] {a : Bool × Pt}, (if c then [a] else []).length ≤ 1 := fun {c} _ {a} => by split <;> simp
    exact Nat.add_le_add z z
/-- a test's parts -/
def pRest (l : Ln) (b r : Int) (p : Pt) : List (Bool × Pt) :=
  [true, false].flatMap fun tr => if (p.rs.filter fun x => decide (decide ((l.1 * x + l.2) % b = r) = tr)) = [] then [] else [(tr, ⟨p.rs.filter fun x => decide (decide ((l.1 * x + l.2) % b = r) = tr), p.lo, p.hi⟩)]
def pBy (σ : Str → Ln) : Ts → Pt → List (Bool × Pt)
  | .not t, p => (pBy σ t p).map fun x => (!x.1, x.2)
  | .less x y, p => pBelow ((Ex.minus x y).ln σ) p
  | .rest x b r, p => pRest (x.ln σ) b r p
theorem mem_pRest {l : Ln} {b r : Int} {p : Pt} {x : Bool × Pt} (hx : x ∈ pRest l b r p) : x.2 = ⟨p.rs.filter fun z => decide (decide ((l.1 * z + l.2) % b = r) = x.1), p.lo, p.hi⟩ := by
  obtain ⟨tr, _, h⟩ := List.mem_flatMap.mp hx
  split at h
  · cases h
  · rw [List.mem_singleton.mp h]
theorem pRest_in {l : Ln} {b r : Int} {p : Pt} (tr : Bool) {n M : Int} (h : p.has M n) (e : decide ((l.1 * (n % M) + l.2) % b = r) = tr) : ∃ q ∈ (pRest l b r p).map (·.2), q.has M n := by
  have hm : n % M ∈ p.rs.filter fun z => decide (decide ((l.1 * z + l.2) % b = r) = tr) := List.mem_filter.mpr ⟨h.1, decide_eq_true e⟩
  refine ⟨⟨_, p.lo, p.hi⟩, List.mem_map.mpr ⟨(tr, ⟨_, p.lo, p.hi⟩), List.mem_flatMap.mpr ⟨tr, by cases tr <;> simp, ?_⟩, rfl⟩, hm, h.2⟩
  rw [if_neg (fun z => by rw [z] at hm; cases hm)]
  exact List.mem_singleton.mpr rfl
theorem pRest_spl (M : Int) (l : Ln) (b r : Int) (p : Pt) : Spl M p ((pRest l b r p).map (·.2)) := by
  refine ⟨fun q hq n hn => ?_, fun n hn => pRest_in _ hn rfl, ?_⟩
  · obtain ⟨x, hx, rfl⟩ := List.mem_map.mp hq
    rw [mem_pRest hx] at hn
    exact ⟨(List.mem_filter.mp hn.1).1, hn.2⟩
  · rw [Asc, pRest, List.flatMap_cons, List.flatMap_cons, List.flatMap_nil, List.append_nil, List.map_append]
    refine List.pairwise_append.mpr ⟨?_, ?_, fun q hq q2 hq2 a b' h1 h2 h3 => ?_⟩
    · split
      · exact List.Pairwise.nil
      · exact List.pairwise_singleton _ _
    · split
      · exact List.Pairwise.nil
      · exact List.pairwise_singleton _ _
    · obtain ⟨x, hx, rfl⟩ := List.mem_map.mp hq
      obtain ⟨y, hy, rfl⟩ := List.mem_map.mp hq2
      split at hx
      · cases hx
      split at hy
      · cases hy
      rw [List.mem_singleton.mp hx] at h1
      rw [List.mem_singleton.mp hy] at h2
      have w1 := of_decide_eq_true (List.mem_filter.mp h1.1).2
      have w2 := of_decide_eq_true (List.mem_filter.mp h2.1).2
      rw [h3] at w1
      rw [w1] at w2
      cases w2
theorem line_mod {l : Ln} {n M b : Int} (hb : b ∣ M) : (l.1 * (n % M) + l.2) % b = lnV l n % b := by
  unfold lnV
  have e : l.1 * n = l.1 * (n % M) + l.1 * (M * (n / M)) := by
    rw [← Int.mul_add]
    congr 1
    have := Int.emod_add_mul_ediv n M
    omega
  obtain ⟨k, rfl⟩ := hb
  rw [e, show l.1 * (b * k * (n / (b * k))) = b * (l.1 * (k * (n / (b * k)))) by rw [Int.mul_assoc, ← Int.mul_assoc l.1 b, Int.mul_comm l.1 b, Int.mul_assoc]]
  rw [Int.add_right_comm, Int.add_mul_emod_self_left]
def Ts.dv (M : Int) : Ts → Prop
  | .rest _ b _ => b ∣ M
  | .less _ _ => True
  | .not t => t.dv M
theorem pBy_spl (M : Int) (σ : Str → Ln) : ∀ (t : Ts) (p : Pt), Spl M p ((pBy σ t p).map (·.2))
  | .rest x b r, p => pRest_spl M _ b r p
  | .less x y, p => pBelow_spl M _ p
  | .not t, p => by
    have h := pBy_spl M σ t p
    show Spl M p (((pBy σ t p).map fun x => (!x.1, x.2)).map (·.2))
    rw [List.map_map]
    exact h
theorem pBy_ok {ns : List Str} {M : Int} (σ : Str → Ln) : ∀ (t : Ts) (k : Nat) (p : Pt), t.ok ns k → t.dv M → ∀ x ∈ pBy σ t p, ∀ n, x.2.has M n → x.1 = t.ev (fun z => lnV (σ z) n)
  | .rest e b r, k, p, ⟨_, _, _, h0, h1⟩, hd, x, hx, n, hn => by
    have hx : x ∈ pRest (e.ln σ) b r p := hx
    rw [mem_pRest hx] at hn
    have w := of_decide_eq_true (List.mem_filter.mp hn.1).2
    rw [← w, line_mod hd, Ex.ln_ev]
    exact decide_eq_decide.mpr (mod_is h0 h1)
  | .less a b, k, p, _, _, x, hx, n, hn => by
    rw [pBelow_ok M _ p hx hn, Ex.ln_ev]
    refine decide_eq_decide.mpr ?_
    show _ - _ < 0 ↔ _ < _
    omega
  | .not t, k, p, ⟨_, ho⟩, hd, x, hx, n, hn => by
    rcases List.mem_map.mp hx with ⟨y, hy, rfl⟩
    show (!y.1) = !_
    rw [pBy_ok σ t _ p ho hd y hy n hn]
theorem pBy_len (σ : Str → Ln) : ∀ (t : Ts) (p : Pt), (pBy σ t p).length ≤ 2
  | .rest x b r, p => by
    show (pRest _ _ _ _).length ≤ 2
    rw [pRest, List.flatMap_cons, List.flatMap_cons, List.flatMap_nil, List.append_nil, List.length_append]
    have z : ∀ {c : Prop} [Decidable c] {a : Bool × Pt}, (if c then [] else [a]).length ≤ 1 := fun {c} _ {a} => by split <;> simp
    exact Nat.add_le_add z z
  | .less x y, p => pBelow_len _ p
  | .not t, p => by
    show ((pBy σ t p).map _).length ≤ 2
    rw [List.length_map]
    exact pBy_len σ t p
/-- the rests of a part are among those of another -/
def Rs (M : Int) (p : Pt) : Prop := p.rs.Nodup ∧ (∀ r ∈ p.rs, 0 ≤ r ∧ r < M) ∧ (p.rs.length : Int) ≤ M
theorem pBy_rs {M : Int} (σ : Str → Ln) : ∀ (t : Ts) (p : Pt), Rs M p → ∀ x ∈ pBy σ t p, Rs M x.2
  | .rest e b r, p, h, x, hx => by
    rw [mem_pRest (show x ∈ pRest (e.ln σ) b r p from hx)]
    refine ⟨h.1.filter _, fun r hr => h.2.1 r (List.mem_filter.mp hr).1, ?_⟩
    have := List.length_filter_le (fun z => decide (decide (((e.ln σ).1 * z + (e.ln σ).2) % b = r) = x.1)) p.rs
    have := h.2.2
    show ((p.rs.filter _).length : Int) ≤ M
    omega
  | .less a b, p, h, x, hx => by
    have e := pBelow_rs hx
    exact ⟨by rw [e]; exact h.1, by rw [e]; exact h.2.1, by rw [e]; exact h.2.2⟩
  | .not t, p, h, x, hx => by
    rcases List.mem_map.mp hx with ⟨y, hy, rfl⟩
    exact pBy_rs σ t p h y hy
/-! ### the ends of a program -/
def wtS (ws : List St) : Nat := (ws.map St.wt).sum
theorem wtS_cons (s : St) (r : List St) : wtS (s :: r) = s.wt + wtS r := by unfold wtS; rw [List.map_cons, List.sum_cons]
theorem wtS_app (l r : List St) : wtS (l ++ r) = wtS l + wtS r := by unfold wtS; rw [List.map_append, List.sum_append]
theorem wtS_lst (b : Bk) : wtS b.lst = b.wt := (Bk.wt_sum b).symm
def repS (k : Int) (y : Bk) : List St := (List.replicate k.toNat y.lst).flatten
theorem wtS_flat (l : List St) : ∀ n : Nat, wtS (List.replicate n l).flatten = n * wtS l
  | 0 => by rw [Nat.zero_mul]; rfl
  | n + 1 => by rw [List.replicate_succ, List.flatten_cons, wtS_app, wtS_flat l n, Nat.succ_mul, Nat.add_comm]
theorem wtS_rep (k : Int) (y : Bk) : wtS (repS k y) = k.toNat * y.wt := by rw [repS, wtS_flat, wtS_lst]
theorem wt_ite {b : Bool} (c : Ts) (y n : Bk) (r : List St) : wtS ((if b = true then y.lst else n.lst) ++ r) < wtS (.ite c y n :: r) := by
  rw [wtS_app, wtS_cons, St.wt]
  split <;> rw [wtS_lst] <;> omega
theorem wt_rep (k : Int) (y : Bk) (r : List St) : wtS (repS k y ++ r) < wtS (.rep k y :: r) := by
  rw [wtS_app, wtS_cons, wtS_rep, St.wt]
  omega
theorem wt_tl (s : St) (r : List St) : wtS r < wtS (s :: r) := by
  rw [wtS_cons]
  have := s.wt_pos
  omega
def totS (ws : List St) (ρ : Str → Int) (t : Int) : Int := match ws with
  | [] => t
  | .stop :: _ => t
  | .set z e :: r => totS r (fun y => if y = z then e.ev ρ else ρ y) t
  | .pay e :: r => totS r ρ (t + e.ev ρ)
  | .ite c y n :: r => totS ((if c.ev ρ = true then y.lst else n.lst) ++ r) ρ t
  | .rep k y :: r => totS (repS k y ++ r) ρ t
termination_by wtS ws
decreasing_by all_goals first | exact wt_ite _ _ _ _ | exact wt_rep _ _ _ | exact wt_tl _ _
def ends (ws : List St) (σ : Str → Ln) (t : Ln) (p : Pt) : List (Ln × Pt) := match ws with
  | [] => [(t, p)]
  | .stop :: _ => [(t, p)]
  | .set z e :: r => ends r (fun y => if y = z then e.ln σ else σ y) t p
  | .pay e :: r => ends r σ (lnAdd t (e.ln σ)) p
  | .ite c y n :: r => (pBy σ c p).flatMap fun x => ends ((if x.1 = true then y.lst else n.lst) ++ r) σ t x.2
  | .rep k y :: r => ends (repS k y ++ r) σ t p
termination_by wtS ws
decreasing_by all_goals first | exact wt_ite _ _ _ _ | exact wt_rep _ _ _ | exact wt_tl _ _
mutual
/-- the divisors of the rests divide it -/
def St.dv (M : Int) : St → Prop
  | .ite t y n => t.dv M ∧ y.dv M ∧ n.dv M
  | .rep _ y => y.dv M
  | _ => True
def Bk.dv (M : Int) : Bk → Prop
  | .nil => True
  | .cons s b => s.dv M ∧ b.dv M
end
/-- statements that stand on a stack -/
def WsOk (ns : List Str) (M : Int) (ws : List St) : Prop := ∀ s ∈ ws, (∃ d, s.ok ns d) ∧ s.dv M
theorem WsOk.bk {ns : List Str} {M : Int} {d : Nat} : ∀ {b : Bk}, b.ok ns d → b.dv M → WsOk ns M b.lst
  | .nil, _, _, s, hs => by cases hs
  | .cons x b, h, hd, s, hs => by
    rcases List.mem_cons.1 hs with rfl | hs
    · exact ⟨⟨_, h.2.1⟩, hd.1⟩
    · exact WsOk.bk h.2.2 hd.2 s hs
theorem WsOk.app {ns : List Str} {M : Int} {l r : List St} (a : WsOk ns M l) (b : WsOk ns M r) : WsOk ns M (l ++ r) := fun s hs => (List.mem_append.1 hs).elim (a s) (b s)
theorem WsOk.tl {ns : List Str} {M : Int} {s : St} {r : List St} (a : WsOk ns M (s :: r)) : WsOk ns M r := fun x hx => a x (List.mem_cons_of_mem _ hx)
theorem WsOk.ite {ns : List Str} {M : Int} {c : Ts} {y n : Bk} {r : List St} (a : WsOk ns M (.ite c y n :: r)) (b : Bool) : WsOk ns M ((if b = true then y.lst else n.lst) ++ r) := by
  obtain ⟨⟨d, h1, h2, h3⟩, h4, h5, h6⟩ := a _ (List.mem_cons_self ..)
  refine WsOk.app ?_ a.tl
  split
  · exact .bk h2 h5
  · exact .bk h3 h6
theorem WsOk.rep {ns : List Str} {M : Int} {k : Int} {y : Bk} {r : List St} (a : WsOk ns M (.rep k y :: r)) : WsOk ns M (repS k y ++ r) := by
  obtain ⟨⟨d, h1, h2, h3⟩, h4⟩ := a _ (List.mem_cons_self ..)
  refine WsOk.app (fun s hs => ?_) a.tl
  obtain ⟨l, hl, hs⟩ := List.mem_flatten.1 hs
  rw [(List.mem_replicate.mp hl).2] at hs
  exact WsOk.bk h3 h4 s hs
theorem ends_spl (M : Int) : ∀ (m : Nat) (ws : List St) (σ : Str → Ln) (t : Ln) (p : Pt), wtS ws ≤ m → Spl M p ((ends ws σ t p).map (·.2)) := by
  intro m
  induction m with
  | zero =>
    intro ws σ t p h
    cases ws with
    | nil => rw [ends]; exact .one M p
    | cons s r => have := wt_tl s r; omega
  | succ m ih =>
    intro ws σ t p h
    match ws with
    | [] => rw [ends]; exact .one M p
    | .stop :: r => rw [ends]; exact .one M p
    | .set z e :: r => rw [ends]; exact ih _ _ _ _ (by have := wt_tl (.set z e) r; omega)
    | .pay e :: r => rw [ends]; exact ih _ _ _ _ (by have := wt_tl (.pay e) r; omega)
    | .rep k y :: r => rw [ends]; exact ih _ _ _ _ (by have := wt_rep k y r; omega)
    | .ite c y n :: r =>
      rw [ends]
      exact Spl.comp _ (pBy_spl M σ c p) fun x _ => ih _ _ _ _ (by have := wt_ite (b := x.1) c y n r; omega)
theorem ends_ok {ns : List Str} {M : Int} : ∀ (m : Nat) (ws : List St) (σ : Str → Ln) (t : Ln) (p : Pt), wtS ws ≤ m → WsOk ns M ws → ∀ x ∈ ends ws σ t p, ∀ n, x.2.has M n → lnV x.1 n = totS ws (fun z => lnV (σ z) n) (lnV t n) := by
  intro m
  induction m with
  | zero =>
    intro ws σ t p h _ x hx n hn
    cases ws with
    | nil => rw [ends] at hx; rw [List.mem_singleton.mp hx, totS]
    | cons s r => have := wt_tl s r; omega
  | succ m ih =>
    intro ws σ t p h ho x hx n hn
    match ws, ho, hx with
    | [], ho, hx => rw [ends] at hx; rw [List.mem_singleton.mp hx, totS]
    | .stop :: r, ho, hx => rw [ends] at hx; rw [List.mem_singleton.mp hx, totS]
    | .set z e :: r, ho, hx =>
      rw [ends] at hx
      rw [ih _ _ _ _ (by have := wt_tl (.set z e) r; omega) ho.tl x hx n hn, totS]
      congr 1
      funext y
      by_cases c : y = z
      · rw [if_pos c, if_pos c, Ex.ln_ev]
      · rw [if_neg c, if_neg c]
    | .pay e :: r, ho, hx =>
      rw [ends] at hx
      rw [ih _ _ _ _ (by have := wt_tl (.pay e) r; omega) ho.tl x hx n hn, totS, lnV_add, Ex.ln_ev]
    | .rep k y :: r, ho, hx =>
      rw [ends] at hx
      rw [ih _ _ _ _ (by have := wt_rep k y r; omega) ho.rep x hx n hn, totS]
    | .ite c y z :: r, ho, hx =>
      rw [ends] at hx
      obtain ⟨w, hw, hx⟩ := List.mem_flatMap.mp hx
      obtain ⟨⟨d, h1, _⟩, h4, _⟩ := ho _ (List.mem_cons_self ..)
      have sp := ends_spl M _ ((if w.1 = true then y.lst else z.lst) ++ r) σ t w.2 (Nat.le_refl _)
      have e := pBy_ok σ c _ p h1 h4 w hw n (sp.sub x.2 (List.mem_map_of_mem hx) n hn)
      rw [ih _ _ _ _ (by have := wt_ite (b := w.1) c y z r; omega) (ho.ite _) x hx n hn, totS, e]
def tnS (ws : List St) : Nat := (ws.map fun s => s.tn true + s.tn false).sum
theorem tnS_cons (s : St) (r : List St) : tnS (s :: r) = s.tn true + s.tn false + tnS r := by unfold tnS; rw [List.map_cons, List.sum_cons]
theorem tnS_app (l r : List St) : tnS (l ++ r) = tnS l + tnS r := by unfold tnS; rw [List.map_append, List.sum_append]
theorem tnS_lst : ∀ b : Bk, tnS b.lst = b.tn true + b.tn false
  | .nil => rfl
  | .cons s b => by rw [Bk.lst, tnS_cons, tnS_lst b, Bk.tn, Bk.tn]; omega
theorem tnS_flat (l : List St) : ∀ n : Nat, tnS (List.replicate n l).flatten = n * tnS l
  | 0 => by rw [Nat.zero_mul]; rfl
  | n + 1 => by rw [List.replicate_succ, List.flatten_cons, tnS_app, tnS_flat l n, Nat.succ_mul, Nat.add_comm]
theorem len_flatMap {α β : Type} {F : α → List β} {B : Nat} : ∀ {l : List α}, (∀ x ∈ l, (F x).length ≤ B) → (l.flatMap F).length ≤ l.length * B
  | [], _ => by simp
  | x :: l, h => by
    rw [List.flatMap_cons, List.length_append, List.length_cons, Nat.succ_mul]
    have a := h x (List.mem_cons_self ..)
    have b := len_flatMap (l := l) fun y hy => h y (List.mem_cons_of_mem _ hy)
    omega
theorem ends_len : ∀ (m : Nat) (ws : List St) (σ : Str → Ln) (t : Ln) (p : Pt), wtS ws ≤ m → (ends ws σ t p).length ≤ 2 ^ tnS ws := by
  intro m
  induction m with
  | zero =>
    intro ws σ t p h
    cases ws with
    | nil => rw [ends]; exact Nat.le_refl _
    | cons s r => have := wt_tl s r; omega
  | succ m ih =>
    intro ws σ t p h
    match ws with
    | [] => rw [ends]; exact Nat.le_refl _
    | .stop :: r => rw [ends]; exact Nat.pow_pos (by decide)
    | .set z e :: r => rw [ends, tnS_cons]; simp only [St.tn, Nat.zero_add]; exact ih _ _ _ _ (by have := wt_tl (.set z e) r; omega)
    | .pay e :: r => rw [ends, tnS_cons]; simp only [St.tn, Nat.zero_add]; exact ih _ _ _ _ (by have := wt_tl (.pay e) r; omega)
    | .rep k y :: r =>
      rw [ends, tnS_cons]
      refine Nat.le_trans (ih _ _ _ _ (by have := wt_rep k y r; omega)) (Nat.pow_le_pow_right (by decide) ?_)
      rw [tnS_app, repS, tnS_flat, tnS_lst, St.tn, St.tn, Nat.mul_add]
      omega
    | .ite c y n :: r =>
      rw [ends, tnS_cons]
      have h2 : ∀ x : Bool × Pt, (ends ((if x.1 = true then y.lst else n.lst) ++ r) σ t x.2).length ≤ 2 ^ (y.tn true + y.tn false + (n.tn true + n.tn false) + tnS r) := fun x => by
        refine Nat.le_trans (ih _ _ _ _ (by have := wt_ite (b := x.1) c y n r; omega)) (Nat.pow_le_pow_right (by decide) ?_)
        rw [tnS_app]
        split <;> rw [tnS_lst] <;> omega
      refine Nat.le_trans (len_flatMap fun x _ => h2 x) ?_
      refine Nat.le_trans (Nat.mul_le_mul_right _ (pBy_len σ c p)) ?_
      rw [Nat.mul_comm, ← Nat.pow_succ]
      refine Nat.pow_le_pow_right (by decide) ?_
      rw [St.tn, St.tn]
      have : (if c.isR = true then 1 else 0) + (if c.isR = false then 1 else 0) = 1 := by cases c.isR <;> rfl
      omega
theorem ends_rs {M : Int} : ∀ (m : Nat) (ws : List St) (σ : Str → Ln) (t : Ln) (p : Pt), wtS ws ≤ m → Rs M p → ∀ x ∈ ends ws σ t p, Rs M x.2 := by
  intro m
  induction m with
  | zero =>
    intro ws σ t p h hp x hx
    cases ws with
    | nil => rw [ends] at hx; rw [List.mem_singleton.mp hx]; exact hp
    | cons s r => have := wt_tl s r; omega
  | succ m ih =>
    intro ws σ t p h hp x hx
    match ws, hx with
    | [], hx => rw [ends] at hx; rw [List.mem_singleton.mp hx]; exact hp
    | .stop :: r, hx => rw [ends] at hx; rw [List.mem_singleton.mp hx]; exact hp
    | .set z e :: r, hx => rw [ends] at hx; exact ih _ _ _ _ (by have := wt_tl (.set z e) r; omega) hp x hx
    | .pay e :: r, hx => rw [ends] at hx; exact ih _ _ _ _ (by have := wt_tl (.pay e) r; omega) hp x hx
    | .rep k y :: r, hx => rw [ends] at hx; exact ih _ _ _ _ (by have := wt_rep k y r; omega) hp x hx
    | .ite c y n :: r, hx =>
      rw [ends] at hx
      obtain ⟨w, hw, hx⟩ := List.mem_flatMap.mp hx
      exact ih _ _ _ _ (by have := wt_ite (b := w.1) c y n r; omega) (pBy_rs σ c p hp w hw) x hx
/-- how great the lines may be after so many statements -/
def lB (k : Nat) : Nat := 100 * 1024 ^ k
theorem lB_succ (k : Nat) : lB (k + 1) = 1024 * lB k := by unfold lB; rw [Nat.pow_succ]; omega
theorem lB_pos (k : Nat) : 100 ≤ lB k := Nat.le_mul_of_pos_right _ (Nat.pow_pos (by decide))
theorem lB_mono {j k : Nat} (h : j ≤ k) : lB j ≤ lB k := Nat.mul_le_mul_left _ (Nat.pow_le_pow_right (by decide) h)
theorem lB_set {k d : Nat} {ns : List Str} {σ : Str → Ln} {z : Str} {e : Ex} (h : ∀ y, LnB (lB k) (σ y)) (ho : e.ok ns 3) : ∀ y, LnB (lB (k + 1)) (if y = z then e.ln σ else σ y) := fun y => by
  have p := lB_pos k
  rw [lB_succ]
  split
  · exact (Ex.ln_bd (by omega) h e 3 ho).mono (by rw [show (9 : Nat) ^ 3 = 729 by decide]; omega)
  · exact (h y).mono (by omega)
theorem lB_pay {k : Nat} {ns : List Str} {σ : Str → Ln} {t : Ln} {e : Ex} (h : ∀ y, LnB (lB k) (σ y)) (ht : LnB (lB k) t) (ho : e.ok ns 3) : LnB (lB (k + 1)) (lnAdd t (e.ln σ)) := by
  have p := lB_pos k
  rw [lB_succ]
  exact (ht.add (Ex.ln_bd (by omega) h e 3 ho)).mono (by rw [show (9 : Nat) ^ 3 = 729 by decide]; omega)
theorem lB_all {k : Nat} {σ : Str → Ln} (h : ∀ y, LnB (lB k) (σ y)) : ∀ y, LnB (lB (k + 1)) (σ y) := fun y => (h y).mono (lB_mono (by omega))
theorem ends_bd {ns : List Str} {M : Int} : ∀ (m k : Nat) (ws : List St) (σ : Str → Ln) (t : Ln) (p : Pt), wtS ws ≤ m → WsOk ns M ws → (∀ y, LnB (lB k) (σ y)) → LnB (lB k) t → ∀ x ∈ ends ws σ t p, LnB (lB (k + m)) x.1 := by
  intro m
  induction m with
  | zero =>
    intro k ws σ t p h _ hs ht x hx
    cases ws with
    | nil => rw [ends] at hx; rw [List.mem_singleton.mp hx]; exact ht
    | cons s r => have := wt_tl s r; omega
  | succ m ih =>
    intro k ws σ t p h ho hs ht x hx
    have ek : k + (m + 1) = k + 1 + m := by omega
    have ht1 : LnB (lB (k + 1)) t := ht.mono (lB_mono (by omega))
    have fin : LnB (lB (k + (m + 1))) t := ht.mono (lB_mono (by omega))
    match ws, ho, hx with
    | [], ho, hx => rw [ends] at hx; rw [List.mem_singleton.mp hx]; exact fin
    | .stop :: r, ho, hx => rw [ends] at hx; rw [List.mem_singleton.mp hx]; exact fin
    | .set z e :: r, ho, hx =>
      rw [ends] at hx
      obtain ⟨⟨d, h1, h2⟩, _⟩ := ho _ (List.mem_cons_self ..)
      rw [ek]
      exact ih (k + 1) _ _ _ _ (by have := wt_tl (.set z e) r; omega) ho.tl (lB_set (d := d) hs h2) ht1 x hx
    | .pay e :: r, ho, hx =>
      rw [ends] at hx
      obtain ⟨⟨d, h2⟩, _⟩ := ho _ (List.mem_cons_self ..)
      rw [ek]
      exact ih (k + 1) _ _ _ _ (by have := wt_tl (.pay e) r; omega) ho.tl (lB_all hs) (lB_pay hs ht h2) x hx
    | .rep j y :: r, ho, hx => rw [ends] at hx; rw [ek]; exact ih (k + 1) _ _ _ _ (by have := wt_rep j y r; omega) ho.rep (lB_all hs) ht1 x hx
    | .ite c y n :: r, ho, hx =>
      rw [ends] at hx
      obtain ⟨w, hw, hx⟩ := List.mem_flatMap.mp hx
      rw [ek]
      exact ih (k + 1) _ _ _ _ (by have := wt_ite (b := w.1) c y n r; omega) (ho.ite _) (lB_all hs) ht1 x hx
theorem nums_st : ∀ (b : Bk) (p : Int), (b.nums p).map (·.2) = b.lst
  | .nil, _ => rfl
  | .cons s b, p => by
    show s :: (b.nums (p + s.sz)).map (·.2) = s :: b.lst
    rw [nums_st b]
/-- the runs' own total -/
theorem runS_tot : ∀ (m : Nat) (l : List (Int × St)) (w : Wd), wtS (l.map (·.2)) ≤ m → (runS l w).1.tot = totS (l.map (·.2)) w.en w.tot := by
  intro m
  induction m with
  | zero =>
    intro l w h
    cases l with
    | nil => rw [List.map_nil, totS]; rfl
    | cons s r => have := wt_tl s.2 (r.map (·.2)); rw [List.map_cons] at h; omega
  | succ m ih =>
    intro l w h
    match l, h with
    | [], _ => rw [List.map_nil, totS]; rfl
    | (p, .stop) :: r, _ => rw [List.map_cons, totS]; rfl
    | (p, .set z e) :: r, h =>
      have h : wtS (St.set z e :: r.map (·.2)) ≤ m + 1 := h
      rw [List.map_cons]
      have := wt_tl (.set z e) (r.map (·.2))
      rw [totS]
      exact ih r ⟨fun y => if y = z then e.ev w.en else w.en y, w.tot, w.pl ++ [p]⟩ (by omega)
    | (p, .pay e) :: r, h =>
      have h : wtS (St.pay e :: r.map (·.2)) ≤ m + 1 := h
      rw [List.map_cons]
      have := wt_tl (.pay e) (r.map (·.2))
      rw [totS]
      exact ih r ⟨w.en, w.tot + e.ev w.en, w.pl ++ [p]⟩ (by omega)
    | (p, .ite c y n) :: r, h =>
      have h : wtS (St.ite c y n :: r.map (·.2)) ≤ m + 1 := h
      rw [List.map_cons]
      have e1 : runS ((p, .ite c y n) :: r) w = runS ((St.ite c y n).ent w.en p ++ r) ⟨w.en, w.tot, w.pl ++ [p]⟩ := by
        rw [runS_append, runS_ent (.inl ⟨c, y, n, rfl⟩)]
        rfl
      have e2 : ((St.ite c y n).ent w.en p ++ r).map (·.2) = (if c.ev w.en = true then y.lst else n.lst) ++ r.map (·.2) := by
        rw [List.map_append, St.ent]
        split <;> rw [nums_st]
      have := wt_ite (b := c.ev w.en) c y n (r.map (·.2))
      rw [e1, totS, ih _ _ (by rw [e2]; omega), e2]
    | (p, .rep k y) :: r, h =>
      have h : wtS (St.rep k y :: r.map (·.2)) ≤ m + 1 := h
      rw [List.map_cons]
      have e1 : runS ((p, .rep k y) :: r) w = runS ((St.rep k y).ent w.en p ++ r) ⟨w.en, w.tot, w.pl ++ [p]⟩ := by
        rw [runS_append, runS_ent (.inr ⟨k, y, rfl⟩)]
        rfl
      have e2 : ((St.rep k y).ent w.en p ++ r).map (·.2) = repS k y ++ r.map (·.2) := by
        rw [List.map_append, St.ent, map_flat, nums_st]
        rfl
      have := wt_rep k y (r.map (·.2))
      rw [e1, totS, ih _ _ (by rw [e2]; omega), e2]
theorem run_tot (b : Bk) (n : Int) : (b.run 0 (Wd.at n)).1.tot = totS b.lst (fun y => if y = "n" then n else 0) 0 := by
  rw [← runS_nums, runS_tot _ _ _ (Nat.le_refl _), nums_st]
  rfl
/-! ### signs of the parts -/
def nAt : Str → Ln := fun y => if y = "n" then (1, 0) else (0, 0)
def p0 (M : Nat) : Pt := ⟨(List.range M).map fun (i : Nat) => (i : Int), none, none⟩
theorem p0_has {M : Nat} (h : 0 < M) (n : Int) : (p0 M).has M n := by
  have h1 := Int.emod_nonneg n (show (M : Int) ≠ 0 by omega)
  have h2 := Int.emod_lt_of_pos n (show (0 : Int) < M by omega)
  refine ⟨List.mem_map.mpr ⟨(n % M).toNat, List.mem_range.mpr (by omega), by omega⟩, fun l e => (nomatch e), fun l e => (nomatch e)⟩
theorem p0_rs (M : Nat) : Rs M (p0 M) := by
  refine ⟨?_, fun r hr => ?_, by rw [p0, List.length_map, List.length_range]; omega⟩
  · exact List.pairwise_map.mpr (List.nodup_range.imp fun h e => h (by omega))
  · obtain ⟨i, hi, rfl⟩ := List.mem_map.mp hr
    have := List.mem_range.mp hi
    omega
def sEnd (x : Ln × Pt) : List (Int × Pt) := (pBelow x.1 x.2).flatMap fun y => if y.1 = true then [(-1, y.2)] else (pBelow (lnMul (-1) x.1) y.2).map fun z => (if z.1 = true then 1 else 0, z.2)
def sparts (b : Bk) (M : Nat) : List (Int × Pt) := (ends b.lst nAt (0, 0) (p0 M)).flatMap sEnd
theorem sEnd_spl (M : Int) (x : Ln × Pt) : Spl M x.2 ((sEnd x).map (·.2)) := by
  refine Spl.comp _ (pBelow_spl M x.1 x.2) fun y _ => ?_
  by_cases c : y.1 = true
  · rw [if_pos c]; exact .one M y.2
  · rw [if_neg c, List.map_map]; exact pBelow_spl M _ y.2
theorem sparts_spl (b : Bk) (M : Nat) : Spl M (p0 M) ((sparts b M).map (·.2)) := Spl.comp _ (ends_spl M _ _ _ _ _ (Nat.le_refl _)) fun x _ => sEnd_spl M x
theorem sgn_of {t : Int} : sgn t = if t < 0 then -1 else if 0 < t then 1 else 0 := rfl
theorem sEnd_ok {M : Int} {x : Ln × Pt} {y : Int × Pt} (hy : y ∈ sEnd x) {n : Int} (hn : y.2.has M n) : y.1 = sgn (lnV x.1 n) := by
  obtain ⟨w, hw, h⟩ := List.mem_flatMap.mp hy
  by_cases c : w.1 = true
  · rw [if_pos c] at h
    rw [List.mem_singleton.mp h] at hn ⊢
    have e := pBelow_ok M _ _ hw hn
    rw [c] at e
    rw [sgn, if_pos (of_decide_eq_true e.symm)]
  · rw [if_neg c] at h
    rcases List.mem_map.mp h with ⟨z, hz, rfl⟩
    have hn2 := (pBelow_spl M _ w.2).sub z.2 (List.mem_map_of_mem hz) n hn
    have e1 := pBelow_ok M _ _ hw hn2
    have e2 := pBelow_ok M _ _ hz hn
    rw [lnV_mul] at e2
    have c1 : ¬ lnV x.1 n < 0 := fun z => c (by rw [e1]; exact decide_eq_true z)
    rw [sgn, if_neg c1]
    show (if z.1 = true then 1 else 0) = _
    rw [e2]
    by_cases d : 0 < lnV x.1 n
    · rw [if_pos d, if_pos (decide_eq_true (by omega))]
    · rw [if_neg d, if_neg (fun v => d (by have := of_decide_eq_true v; omega))]
/-- the sign of a program at a number -/
def sgAt (b : Bk) (n : Int) : Int := sgn (b.run 0 (Wd.at n)).1.tot
theorem sparts_ok {ns : List Str} {d : Nat} {b : Bk} {M : Nat} (ho : b.ok ns d) (hd : b.dv M) {y : Int × Pt} (hy : y ∈ sparts b M) {n : Int} (hn : y.2.has M n) : y.1 = sgAt b n := by
  obtain ⟨x, hx, hy⟩ := List.mem_flatMap.mp hy
  rw [sEnd_ok hy hn, sgAt, run_tot]
  have hn2 := (sEnd_spl M x).sub y.2 (List.mem_map_of_mem hy) n hn
  rw [ends_ok _ _ _ _ _ (Nat.le_refl _) (WsOk.bk ho hd) x hx n hn2]
  congr 2
  · funext z
    unfold nAt
    by_cases c : z = "n"
    · rw [if_pos c, if_pos c]; show 1 * n + 0 = n; omega
    · rw [if_neg c, if_neg c]; show 0 * n + 0 = 0; omega
  · show 0 * n + 0 = 0; omega
theorem sEnd_len (x : Ln × Pt) : (sEnd x).length ≤ 4 := by
  refine Nat.le_trans (len_flatMap (B := 2) fun y _ => ?_) (Nat.mul_le_mul_right 2 (pBelow_len x.1 x.2))
  split
  · simp
  · rw [List.length_map]; exact pBelow_len _ _
theorem sparts_len (b : Bk) (M : Nat) : (sparts b M).length ≤ 2 ^ (b.tn true + b.tn false) * 4 := by
  refine Nat.le_trans (len_flatMap (B := 4) fun y _ => sEnd_len y) (Nat.mul_le_mul_right 4 ?_)
  rw [← tnS_lst]
  exact ends_len _ _ _ _ _ (Nat.le_refl _)
theorem sEnd_rs {M : Int} {x : Ln × Pt} (h : Rs M x.2) {y : Int × Pt} (hy : y ∈ sEnd x) : Rs M y.2 := by
  obtain ⟨w, hw, hy⟩ := List.mem_flatMap.mp hy
  have e := pBelow_rs hw
  have hw2 : Rs M w.2 := ⟨by rw [e]; exact h.1, by rw [e]; exact h.2.1, by rw [e]; exact h.2.2⟩
  split at hy
  · rw [List.mem_singleton.mp hy]; exact hw2
  · obtain ⟨z, hz, rfl⟩ := List.mem_map.mp hy
    have e := pBelow_rs hz
    exact ⟨by rw [e]; exact hw2.1, by rw [e]; exact hw2.2.1, by rw [e]; exact hw2.2.2⟩
theorem sparts_rs {b : Bk} {M : Nat} {y : Int × Pt} (hy : y ∈ sparts b M) : Rs M y.2 := by
  obtain ⟨x, hx, hy⟩ := List.mem_flatMap.mp hy
  exact sEnd_rs (ends_rs _ _ _ _ _ (Nat.le_refl _) (p0_rs M) x hx) hy
/-! ### the whole numbers of one rest -/
theorem cls_mod (a r by_ : Int) : (a + (r - a) % by_) % by_ = r % by_ := by
  have e : a + (r - a) % by_ = r + by_ * (-((r - a) / by_)) := by
    have := Int.emod_add_mul_ediv (r - a) by_
    rw [Int.mul_neg]; omega
  rw [e, Int.add_mul_emod_self_left]
theorem mod_sub {n r l by_ : Int} (h : n % by_ = r % by_) : (n - l) % by_ = (r - l) % by_ := by rw [Int.sub_emod, h, ← Int.sub_emod]
theorem mod_le {a by_ : Int} (h : 0 < by_) (ha : 0 ≤ a) : a % by_ ≤ a := by
  have e := Int.emod_add_mul_ediv a by_
  have := Int.mul_nonneg (Int.le_of_lt h) (Int.ediv_nonneg ha (Int.le_of_lt h))
  omega
theorem first_le {n r l by_ : Int} (hb : 0 < by_) (h : n % by_ = r % by_) (hl : l ≤ n) : l + (r - l) % by_ ≤ n := by
  have e := mod_sub (l := l) h
  have := mod_le hb (show 0 ≤ n - l by omega)
  omega
theorem last_mod (a r by_ : Int) : (a - (a - r) % by_) % by_ = r % by_ := by
  have e : a - (a - r) % by_ = r + by_ * ((a - r) / by_) := by
    have := Int.emod_add_mul_ediv (a - r) by_
    omega
  rw [e, Int.add_mul_emod_self_left]
theorem last_ge {n r h by_ : Int} (hb : 0 < by_) (e : n % by_ = r % by_) (hl : n ≤ h) : n ≤ h - (h - r) % by_ := by
  have e2 : (h - n) % by_ = (h - r) % by_ := by rw [Int.sub_emod, e, ← Int.sub_emod]
  have := mod_le hb (show 0 ≤ h - n by omega)
  omega
def hasOne (r by_ : Int) (lo hi : Option Int) : Bool := match lo, hi with
  | some l, some h => decide (l + (r - l) % by_ ≤ h)
  | _, _ => true
theorem hasOne_is {r by_ : Int} {lo hi : Option Int} (hb : 0 < by_) : hasOne r by_ lo hi = true ↔ ∃ n, n % by_ = r % by_ ∧ inIv lo hi n := by
  match lo, hi with
  | some l, some h =>
    constructor
    · intro z
      have z := of_decide_eq_true z
      have := Int.emod_nonneg (r - l) (show by_ ≠ 0 by omega)
      exact ⟨_, cls_mod l r by_, fun x e => by cases e; omega, fun x e => by cases e; exact z⟩
    · rintro ⟨n, e, h1, h2⟩
      have a := h1 _ rfl
      have b := h2 _ rfl
      exact decide_eq_true (Int.le_trans (first_le hb e a) b)
  | some l, none => exact ⟨fun _ => ⟨_, cls_mod l r by_, fun x e => by cases e; have := Int.emod_nonneg (r - l) (show by_ ≠ 0 by omega); omega, fun x e => nomatch e⟩, fun _ => rfl⟩
  | none, some h => exact ⟨fun _ => ⟨_, last_mod h r by_, fun x e => (nomatch e), fun x e => by cases e; have := Int.emod_nonneg (h - r) (show by_ ≠ 0 by omega); omega⟩, fun _ => rfl⟩
  | none, none => exact ⟨fun _ => ⟨r, rfl, fun x e => (nomatch e), fun x e => (nomatch e)⟩, fun _ => rfl⟩
/-- a piece: from a low end to a high one, and the signs there -/
structure Pc where
  lo : Option Int
  hi : Option Int
  s : List Int
def pcD (p : Pc) : PyData := .tuple [oD p.lo, oD p.hi, .tuple (p.s.map .int)]
def Pc.has (p : Pc) (n : Int) : Prop := inIv p.lo p.hi n
/-- pieces cover the numbers of one rest, in their order, with their signs -/
structure Tl0 (r by_ : Int) (f : Int → List Int) (L : List Pc) : Prop where
  cov : ∀ n, n % by_ = r → ∃ p ∈ L, p.has n
  ord : L.Pairwise fun p q => ∀ a b, a % by_ = r → b % by_ = r → p.has a → q.has b → a < b
  ok : ∀ p ∈ L, ∀ n, n % by_ = r → p.has n → p.s = f n
structure Tl (r by_ : Int) (f : Int → List Int) (L : List Pc) : Prop extends Tl0 r by_ f L where
  ne : ∀ p ∈ L, ∃ n, n % by_ = r ∧ p.has n
theorem Tl0.fine {r by_ r' by' : Int} {f : Int → List Int} {L : List Pc} (h : Tl0 r by_ f L) (hd : by_ ∣ by') (hr : r' % by_ = r) : Tl0 r' by' f L := by
  have k : ∀ n : Int, n % by' = r' → n % by_ = r := fun n e => by rw [← hr, ← e, Int.emod_emod_of_dvd n hd]
  exact ⟨fun n e => h.cov n (k n e), h.ord.imp fun z a b ha hb => z a b (k a ha) (k b hb), fun p hp n e => h.ok p hp n (k n e)⟩
def col (b : Bk) (M : Nat) (r : Int) : List Pc := (sparts b M).flatMap fun x => if r ∈ x.2.rs ∧ hasOne r M x.2.lo x.2.hi = true then [⟨x.2.lo, x.2.hi, [x.1]⟩] else []
theorem pairwise_fm {α β : Type} {R : α → α → Prop} {S : β → β → Prop} {F : α → List β} (h1 : ∀ x, (F x).Pairwise S) (h2 : ∀ x y, R x y → ∀ a ∈ F x, ∀ b ∈ F y, S a b) : ∀ {l : List α}, l.Pairwise R → (l.flatMap F).Pairwise S
  | [], _ => .nil
  | x :: l, h => by
    have h := List.pairwise_cons.mp h
    rw [List.flatMap_cons]
    refine List.pairwise_append.mpr ⟨h1 x, pairwise_fm h1 h2 h.2, fun a ha b hb => ?_⟩
    obtain ⟨y, hy, hb⟩ := List.mem_flatMap.mp hb
    exact h2 x y (h.1 y hy) a ha b hb
theorem col_tl {ns : List Str} {d : Nat} {b : Bk} {M : Nat} (hM : 0 < M) (ho : b.ok ns d) (hd : b.dv M) {r : Int} (r0 : 0 ≤ r) (r1 : r < M) : Tl0 r M (fun n => [sgAt b n]) (col b M r) := by
  have sp := sparts_spl b M
  have rr : r % (M : Int) = r := Int.emod_eq_of_lt r0 r1
  have hM2 : (0 : Int) < M := by omega
  refine ⟨fun n e => ?_, ?_, fun p hp n e hn => ?_⟩
  · obtain ⟨q, hq, hn⟩ := sp.cov n (p0_has hM n)
    obtain ⟨x, hx, rfl⟩ := List.mem_map.mp hq
    refine ⟨⟨x.2.lo, x.2.hi, [x.1]⟩, List.mem_flatMap.mpr ⟨x, hx, ?_⟩, hn.2⟩
    have c : r ∈ x.2.rs ∧ hasOne r M x.2.lo x.2.hi = true := ⟨by rw [← e]; exact hn.1, (hasOne_is hM2).mpr ⟨n, by rw [e, rr], hn.2⟩⟩
    rw [if_pos c]
    exact List.mem_singleton.mpr rfl
  · have asc := sp.asc
    rw [Asc, List.pairwise_map] at asc
    refine pairwise_fm (fun x => ?_) (fun x y h p hp q hq a b' ea eb ha hb => ?_) asc
    · split
      · exact List.pairwise_singleton _ _
      · exact .nil
    · obtain ⟨c1, rfl⟩ := mem_ifl hp
      obtain ⟨c2, rfl⟩ := mem_ifl hq
      exact h a b' ⟨by rw [ea]; exact c1.1, ha⟩ ⟨by rw [eb]; exact c2.1, hb⟩ (by rw [ea, eb])
  · obtain ⟨x, hx, hp⟩ := List.mem_flatMap.mp hp
    obtain ⟨c1, rfl⟩ := mem_ifl hp
    show [x.1] = _
    rw [sparts_ok ho hd hx ⟨by rw [e]; exact c1.1, hn⟩]
def crossed (r by_ : Int) (P Q : List Pc) : List Pc := P.flatMap fun p => Q.flatMap fun q => if hasOne r by_ (tlo p.lo q.lo) (thi p.hi q.hi) = true then [⟨tlo p.lo q.lo, thi p.hi q.hi, p.s ++ q.s⟩] else []
theorem both_is {a b c d : Option Int} {n : Int} : inIv (tlo a c) (thi b d) n ↔ inIv a b n ∧ inIv c d n := by
  rw [inIv_lo, inIv_hi]
  unfold inIv
  constructor
  · rintro ⟨⟨⟨h1, h2⟩, h3⟩, h4⟩; exact ⟨⟨h1, h2⟩, h4, h3⟩
  · rintro ⟨⟨h1, h2⟩, h4, h3⟩; exact ⟨⟨⟨h1, h2⟩, h3⟩, h4⟩
theorem crossed_tl {r by_ : Int} {f g : Int → List Int} {P Q : List Pc} (hb : 0 < by_) (hr : r % by_ = r) (hP : Tl0 r by_ f P) (hQ : Tl0 r by_ g Q) : Tl r by_ (fun n => f n ++ g n) (crossed r by_ P Q) := by
  have mem : ∀ {x : Pc}, x ∈ crossed r by_ P Q → ∃ p ∈ P, ∃ q ∈ Q, hasOne r by_ (tlo p.lo q.lo) (thi p.hi q.hi) = true ∧ x = ⟨tlo p.lo q.lo, thi p.hi q.hi, p.s ++ q.s⟩ := fun {x} hx => by
    obtain ⟨p, hp, hx⟩ := List.mem_flatMap.mp hx
    obtain ⟨q, hq, hx⟩ := List.mem_flatMap.mp hx
    obtain ⟨c, e⟩ := mem_ifl hx
    exact ⟨p, hp, q, hq, c, e⟩
  refine ⟨⟨fun n e => ?_, ?_, fun x hx n e hn => ?_⟩, fun x hx => ?_⟩
  · obtain ⟨p, hp, h1⟩ := hP.cov n e
    obtain ⟨q, hq, h2⟩ := hQ.cov n e
    have iv := both_is.mpr ⟨h1, h2⟩
    refine ⟨⟨tlo p.lo q.lo, thi p.hi q.hi, p.s ++ q.s⟩, List.mem_flatMap.mpr ⟨p, hp, List.mem_flatMap.mpr ⟨q, hq, ?_⟩⟩, iv⟩
    rw [if_pos ((hasOne_is hb).mpr ⟨n, by rw [e, hr], iv⟩)]
    exact List.mem_singleton.mpr rfl
  · refine pairwise_fm (fun p => pairwise_fm (R := fun p q => ∀ a b, a % by_ = r → b % by_ = r → p.has a → q.has b → a < b) (fun q => ?_) (fun q q' h x hx y hy a b ea eb ha hb' => ?_) hQ.ord) (fun p p' h x hx y hy a b ea eb ha hb' => ?_) hP.ord
    · split
      · exact List.pairwise_singleton _ _
      · exact .nil
    · obtain ⟨_, rfl⟩ := mem_ifl hx
      obtain ⟨_, rfl⟩ := mem_ifl hy
      exact h a b ea eb (both_is.mp ha).2 (both_is.mp hb').2
    · obtain ⟨q, _, hx⟩ := List.mem_flatMap.mp hx
      obtain ⟨q', _, hy⟩ := List.mem_flatMap.mp hy
      obtain ⟨_, rfl⟩ := mem_ifl hx
      obtain ⟨_, rfl⟩ := mem_ifl hy
      exact h a b ea eb (both_is.mp ha).1 (both_is.mp hb').1
  · obtain ⟨p, hp, q, hq, _, rfl⟩ := mem hx
    have iv := both_is.mp hn
    show p.s ++ q.s = _
    rw [hP.ok p hp n e iv.1, hQ.ok q hq n e iv.2]
  · obtain ⟨p, hp, q, hq, c, rfl⟩ := mem hx
    obtain ⟨n, e, iv⟩ := (hasOne_is hb).mp c
    exact ⟨n, by rw [e, hr], iv⟩
theorem merge_tl {r by_ : Int} {f : Int → List Int} {A R : List Pc} {q p : Pc} (h : Tl r by_ f (A ++ q :: p :: R)) (e : q.s = p.s) : Tl r by_ f (A ++ ⟨q.lo, p.hi, p.s⟩ :: R) := by
  obtain ⟨⟨cov, ord, ok⟩, ne⟩ := h
  have o := List.pairwise_append.mp ord
  have o1 := List.pairwise_cons.mp o.2.1
  have o2 := List.pairwise_cons.mp o1.2
  obtain ⟨x, ex, hx⟩ := ne q (by simp)
  obtain ⟨y, ey, hy⟩ := ne p (by simp)
  have xy : x < y := o1.1 p (List.mem_cons_self ..) x y ex ey hx hy
  -- what lies in the one lies in one of the two
  have key : ∀ n, n % by_ = r → inIv q.lo p.hi n → q.has n ∨ p.has n := fun n en hn => by
    by_cases c1 : q.has n
    · exact .inl c1
    by_cases c2 : p.has n
    · exact .inr c2
    exfalso
    obtain ⟨s, hs, hsn⟩ := cov n en
    rcases List.mem_append.1 hs with hs | hs
    · have w := o.2.2 s hs q (List.mem_cons_self ..) n x en ex hsn hx
      exact c1 ⟨hn.1, fun t et => by have := hx.2 t et; omega⟩
    · rcases List.mem_cons.1 hs with rfl | hs
      · exact c1 hsn
      · rcases List.mem_cons.1 hs with rfl | hs
        · exact c2 hsn
        · have w := o2.1 s hs y n ey en hy hsn
          exact c2 ⟨fun t et => by have := hy.1 t et; omega, hn.2⟩
  have sub1 : ∀ n, n % by_ = r → q.has n → inIv q.lo p.hi n := fun n en hn => ⟨hn.1, fun t et => by
    have := o1.1 p (List.mem_cons_self ..) n y en ey hn hy
    have := hy.2 t et
    omega⟩
  have sub2 : ∀ n, n % by_ = r → p.has n → inIv q.lo p.hi n := fun n en hn => ⟨fun t et => by
    have := o1.1 p (List.mem_cons_self ..) x n ex en hx hn
    have := hx.1 t et
    omega, hn.2⟩
  refine ⟨⟨fun n en => ?_, ?_, fun s hs n en hn => ?_⟩, fun s hs => ?_⟩
  · obtain ⟨s, hs, hsn⟩ := cov n en
    rcases List.mem_append.1 hs with hs | hs
    · exact ⟨s, List.mem_append_left _ hs, hsn⟩
    · rcases List.mem_cons.1 hs with rfl | hs
      · exact ⟨_, List.mem_append_right _ (List.mem_cons_self ..), sub1 n en hsn⟩
      · rcases List.mem_cons.1 hs with rfl | hs
        · exact ⟨_, List.mem_append_right _ (List.mem_cons_self ..), sub2 n en hsn⟩
        · exact ⟨s, List.mem_append_right _ (List.mem_cons_of_mem _ hs), hsn⟩
  · refine List.pairwise_append.mpr ⟨o.1, List.pairwise_cons.mpr ⟨fun s hs a b ea eb ha hb => ?_, o2.2⟩, fun s hs t ht a b ea eb ha hb => ?_⟩
    · rcases key a ea ha with ha | ha
      · exact o1.1 s (List.mem_cons_of_mem _ hs) a b ea eb ha hb
      · exact o2.1 s hs a b ea eb ha hb
    · rcases List.mem_cons.1 ht with rfl | ht
      · rcases key b eb hb with hb | hb
        · exact o.2.2 s hs q (by simp) a b ea eb ha hb
        · exact o.2.2 s hs p (by simp) a b ea eb ha hb
      · exact o.2.2 s hs t (by simp [ht]) a b ea eb ha hb
  · rcases List.mem_append.1 hs with hs | hs
    · exact ok s (List.mem_append_left _ hs) n en hn
    · rcases List.mem_cons.1 hs with rfl | hs
      · rcases key n en hn with hn | hn
        · rw [← ok q (by simp) n en hn]; exact e.symm
        · exact ok p (by simp) n en hn
      · exact ok s (by simp [hs]) n en hn
  · rcases List.mem_append.1 hs with hs | hs
    · exact ne s (List.mem_append_left _ hs)
    · rcases List.mem_cons.1 hs with rfl | hs
      · exact ⟨x, ex, sub1 x ex hx⟩
      · exact ne s (by simp [hs])
def jstep (acc : List Pc) (p : Pc) : List Pc := match acc.getLast? with
  | some q => if q.s = p.s then acc.dropLast ++ [⟨q.lo, p.hi, p.s⟩] else acc ++ [p]
  | none => acc ++ [p]
def joined (P : List Pc) : List Pc := P.foldl jstep []
theorem jstep_tl {r by_ : Int} {f : Int → List Int} {acc R : List Pc} {p : Pc} (h : Tl r by_ f (acc ++ p :: R)) : Tl r by_ f (jstep acc p ++ R) := by
  unfold jstep
  cases e : acc.getLast? with
  | none => rw [List.append_assoc]; exact h
  | some q =>
    show Tl r by_ f ((if q.s = p.s then _ else _) ++ R)
    by_cases c : q.s = p.s
    · rw [if_pos c, List.append_assoc]
      obtain ⟨A, rfl⟩ : ∃ A, acc = A ++ [q] := by
        have hne : acc ≠ [] := fun z => by rw [z] at e; cases e
        refine ⟨acc.dropLast, ?_⟩
        have := List.dropLast_concat_getLast hne
        rw [List.getLast?_eq_getLast hne] at e
        rw [← Option.some.inj e]
        exact this.symm
      rw [List.append_assoc] at h
      rw [List.dropLast_concat]
      exact merge_tl h c
    · rw [if_neg c, List.append_assoc]; exact h
theorem joined_tl {r by_ : Int} {f : Int → List Int} {P : List Pc} (h : Tl r by_ f P) : Tl r by_ f (joined P) := by
  have z : ∀ (R acc : List Pc), Tl r by_ f (acc ++ R) → Tl r by_ f (R.foldl jstep acc) := by
    intro R
    induction R with
    | nil => intro acc h; rw [List.append_nil] at h; exact h
    | cons p R ih => intro acc h; exact ih _ (jstep_tl h)
  exact z P [] h
theorem jstep_len (acc : List Pc) (p : Pc) : (jstep acc p).length ≤ acc.length + 1 := by
  unfold jstep
  split
  · split
    · rw [List.length_append, List.length_dropLast]; simp
    · simp
  · simp
theorem joined_len (P : List Pc) : (joined P).length ≤ P.length := by
  have z : ∀ (R acc : List Pc), (R.foldl jstep acc).length ≤ acc.length + R.length := by
    intro R
    induction R with
    | nil => intro acc; simp
    | cons p R ih =>
      intro acc
      have a := ih (jstep acc p)
      have b := jstep_len acc p
      rw [List.foldl_cons]; rw [List.length_cons]
      omega
  have := z P []
  simpa [joined] using this
/-! ### so many pieces -/
theorem nodup_len {α : Type} [DecidableEq α] : ∀ {l m : List α}, l.Nodup → (∀ x ∈ l, x ∈ m) → l.length ≤ m.length
  | [], _, _, _ => (Nat.zero_le _)
  | x :: l, m, h, s => by
    have h := List.nodup_cons.mp h
    have hx := s x (List.mem_cons_self ..)
    have := nodup_len (l := l) (m := m.erase x) h.2 fun y hy => (List.mem_erase_of_ne (fun e => h.1 (by rw [← e]; exact hy))).mpr (s y (List.mem_cons_of_mem _ hy))
    rw [List.length_erase_of_mem hx] at this
    have := List.length_pos_of_mem hx
    rw [List.length_cons]
    omega
theorem Tl.lows {r by_ : Int} {f : Int → List Int} {L : List Pc} (h : Tl r by_ f L) : (L.map Pc.lo).Nodup := by
  have z : ∀ {L : List Pc}, (L.Pairwise fun p q => ∀ a b, a % by_ = r → b % by_ = r → p.has a → q.has b → a < b) → (∀ p ∈ L, ∃ n, n % by_ = r ∧ p.has n) → (L.map Pc.lo).Nodup := by
    intro L ho hne
    induction L with
    | nil => exact .nil
    | cons p L ih =>
      have ho := List.pairwise_cons.mp ho
      rw [List.map_cons]
      refine List.nodup_cons.mpr ⟨fun hm => ?_, ih ho.2 fun q hq => hne q (List.mem_cons_of_mem _ hq)⟩
      obtain ⟨q, hq, e⟩ := List.mem_map.mp hm
      obtain ⟨x, ex, hx⟩ := hne p (List.mem_cons_self ..)
      obtain ⟨y, ey, hy⟩ := hne q (List.mem_cons_of_mem _ hq)
      have xy := ho.1 q hq x y ex ey hx hy
      have hxq : q.has x := ⟨fun l el => hx.1 l (by rw [← e]; exact el), fun t et => by have := hy.2 t et; omega⟩
      have := ho.1 q hq x x ex ex hx hxq
      omega
  exact z h.ord h.ne
theorem crossed_len {r by_ : Int} {f g : Int → List Int} {P Q : List Pc} (hb : 0 < by_) (hr : r % by_ = r) (hP : Tl0 r by_ f P) (hQ : Tl0 r by_ g Q) : (crossed r by_ P Q).length ≤ P.length + Q.length := by
  have h := (crossed_tl hb hr hP hQ).lows
  have z := nodup_len (m := P.map Pc.lo ++ Q.map Pc.lo) h fun x hx => by
    rcases List.mem_map.mp hx with ⟨y, hy, rfl⟩
    obtain ⟨p, hp, hy⟩ := List.mem_flatMap.mp hy
    obtain ⟨q, hq, hy⟩ := List.mem_flatMap.mp hy
    obtain ⟨_, rfl⟩ := mem_ifl hy
    have e : tlo p.lo q.lo = p.lo ∨ tlo p.lo q.lo = q.lo := by
      cases p.lo with
      | none => exact .inr rfl
      | some a =>
        cases q.lo with
        | none => exact .inl rfl
        | some b =>
          show some _ = some a ∨ some _ = some b
          by_cases c : b > a
          · exact .inr (by rw [if_pos c])
          · exact .inl (by rw [if_neg c])
    rcases e with e | e
    · exact List.mem_append_left _ (List.mem_map.mpr ⟨p, hp, e.symm⟩)
    · exact List.mem_append_right _ (List.mem_map.mpr ⟨q, hq, e.symm⟩)
  simpa using z
/-! ### the table of a family -/
/-- a program with a period of its own -/
structure Per (ns : List Str) (x : Nat × Bk) : Prop where
  pos : 0 < x.1
  dvd : x.1 ∣ 60
  ok : ∃ d, x.2.ok ns d
  dv : x.2.dv x.1
def famAt (bs : List Bk) (n : Int) : List Int := bs.map fun b => sgAt b n
def crossAll (r per : Nat) : List (Nat × Bk) → List Pc → List Pc
  | [], P => P
  | x :: l, P => crossAll r per l (crossed r per P (col x.2 x.1 ((r % x.1 : Nat) : Int)))
def tabR (l : List (Nat × Bk)) (per r : Nat) : List Pc := joined (crossAll r per l [⟨none, none, []⟩])
theorem col_tl' {ns : List Str} {x : Nat × Bk} (h : Per ns x) {r per : Nat} (hd : x.1 ∣ per) : Tl0 r per (fun n => [sgAt x.2 n]) (col x.2 x.1 ((r % x.1 : Nat) : Int)) := by
  obtain ⟨d, ho⟩ := h.ok
  refine (col_tl h.pos ho h.dv (r := ((r % x.1 : Nat) : Int)) (by omega) (by have := Nat.mod_lt r h.pos; omega)).fine (Int.ofNat_dvd.mpr hd) ?_
  rw [Int.natCast_emod]
theorem crossAll_tl {ns : List Str} {r per : Nat} (hp : 0 < per) (hr : r < per) : ∀ (l : List (Nat × Bk)) (P : List Pc) (f : Int → List Int), (∀ x ∈ l, Per ns x ∧ x.1 ∣ per) → Tl r per f P → Tl r per (fun n => f n ++ famAt (l.map (·.2)) n) (crossAll r per l P) ∧ (crossAll r per l P).length ≤ P.length + (l.map fun x => (col x.2 x.1 ((r % x.1 : Nat) : Int)).length).sum := by
  intro l
  induction l with
  | nil =>
    intro P f _ h
    refine ⟨?_, by show P.length ≤ P.length + 0; omega⟩
    have e : (fun n => f n ++ famAt (([] : List (Nat × Bk)).map (·.2)) n) = f := by funext n; exact List.append_nil _
    rw [e]; exact h
  | cons x l ih =>
    intro P f hx h
    have h1 := hx x (List.mem_cons_self ..)
    have hb : (0 : Int) < per := by omega
    have rr : (r : Int) % (per : Int) = r := Int.emod_eq_of_lt (by omega) (by omega)
    have c := crossed_tl hb rr h.toTl0 (col_tl' h1.1 h1.2)
    have cl := crossed_len hb rr h.toTl0 (col_tl' h1.1 h1.2)
    obtain ⟨i1, i2⟩ := ih _ _ (fun y hy => hx y (List.mem_cons_of_mem _ hy)) c
    refine ⟨?_, by rw [List.map_cons, List.sum_cons]; show (crossAll r per l _).length ≤ _; omega⟩
    have e : (fun n => (fun n => f n ++ (fun n => [sgAt x.2 n]) n) n ++ famAt (l.map (·.2)) n) = fun n => f n ++ famAt ((x :: l).map (·.2)) n := by
      funext n
      show f n ++ [sgAt x.2 n] ++ famAt (l.map (·.2)) n = f n ++ (sgAt x.2 n :: famAt (l.map (·.2)) n)
      rw [List.append_assoc]; rfl
    rw [← e]; exact i1
theorem tabR_tl {ns : List Str} {l : List (Nat × Bk)} {r per : Nat} (hp : 0 < per) (hr : r < per) (h : ∀ x ∈ l, Per ns x ∧ x.1 ∣ per) : Tl r per (famAt (l.map (·.2))) (tabR l per r) := by
  have one : Tl r per (fun _ => []) [⟨none, none, []⟩] := by
    refine ⟨⟨fun n _ => ⟨_, List.mem_singleton.mpr rfl, fun x e => (nomatch e), fun x e => (nomatch e)⟩, List.pairwise_singleton _ _, fun p hp n _ _ => by rw [List.mem_singleton.mp hp]⟩, fun p hp => ⟨r, Int.emod_eq_of_lt (by omega) (by omega), ?_⟩⟩
    rw [List.mem_singleton.mp hp]
    exact ⟨fun x e => (nomatch e), fun x e => (nomatch e)⟩
  have := (crossAll_tl hp hr l _ _ h one).1
  have e : (fun n => (fun _ => []) n ++ famAt (l.map (·.2)) n) = famAt (l.map (·.2)) := by funext n; exact List.nil_append _
  rw [e] at this
  exact joined_tl this
/-! ### the order of numbers, and the first one -/
def ordN (n : Int) : Int := if n > 0 then 2 * n - 1 else -2 * n
theorem ordN_up {a b : Int} (h0 : 0 ≤ a) (h : a ≤ b) : ordN a ≤ ordN b := by unfold ordN; split <;> split <;> omega
theorem ordN_dn {a b : Int} (h0 : a ≤ 0) (h : b ≤ a) : ordN a ≤ ordN b := by unfold ordN; split <;> split <;> omega
theorem ordN_inj {a b : Int} (h : ordN a = ordN b) : a = b := by unfold ordN at h; split at h <;> split at h <;> omega
def hiLt : Option Int → Int → Bool
  | some h, x => decide (h < x)
  | none, _ => false
def loGt : Option Int → Int → Bool
  | some l, x => decide (x < l)
  | none, _ => false
def upOf (r by_ : Int) (lo : Option Int) : Int := (tlo lo (some 0)).getD 0 + (r - (tlo lo (some 0)).getD 0) % by_
def dnOf (r by_ : Int) (hi : Option Int) : Int := (thi hi (some (-1))).getD 0 - ((thi hi (some (-1))).getD 0 - r) % by_
def firstOf (r by_ : Int) (lo hi : Option Int) : Int := if hiLt hi (upOf r by_ lo) = true then dnOf r by_ hi else if loGt lo (dnOf r by_ hi) = true then upOf r by_ lo else if ordN (dnOf r by_ hi) < ordN (upOf r by_ lo) then dnOf r by_ hi else upOf r by_ lo
theorem tlo0 (lo : Option Int) : ∃ s, tlo lo (some 0) = some s ∧ 0 ≤ s ∧ (∀ l, lo = some l → l ≤ s) ∧ ∀ n, 0 ≤ n → (∀ l, lo = some l → l ≤ n) → s ≤ n := by
  cases lo with
  | none => exact ⟨0, rfl, by omega, fun l e => (nomatch e), fun n h _ => h⟩
  | some a =>
    refine ⟨_, rfl, by split <;> omega, fun l e => by cases e; split <;> omega, fun n h k => ?_⟩
    have := k a rfl
    split <;> omega
theorem thi0 (hi : Option Int) : ∃ s, thi hi (some (-1)) = some s ∧ s < 0 ∧ (∀ l, hi = some l → s ≤ l) ∧ ∀ n, n < 0 → (∀ l, hi = some l → n ≤ l) → n ≤ s := by
  cases hi with
  | none => exact ⟨-1, rfl, by omega, fun l e => (nomatch e), fun n h _ => by omega⟩
  | some a =>
    refine ⟨_, rfl, by split <;> omega, fun l e => by cases e; split <;> omega, fun n h k => ?_⟩
    have := k a rfl
    split <;> omega
theorem firstOf_ok {r by_ : Int} {lo hi : Option Int} (hb : 0 < by_) (hr : r % by_ = r) (hne : ∃ n, n % by_ = r ∧ inIv lo hi n) : (firstOf r by_ lo hi) % by_ = r ∧ inIv lo hi (firstOf r by_ lo hi) ∧ ∀ n, n % by_ = r → inIv lo hi n → ordN (firstOf r by_ lo hi) ≤ ordN n := by
  obtain ⟨s, es, s0, s1, s2⟩ := tlo0 lo
  obtain ⟨t, et, t0, t1, t2⟩ := thi0 hi
  have u : upOf r by_ lo = s + (r - s) % by_ := by unfold upOf; rw [es]; rfl
  have d : dnOf r by_ hi = t - (t - r) % by_ := by unfold dnOf; rw [et]; rfl
  have um : upOf r by_ lo % by_ = r := by rw [u, cls_mod, hr]
  have dm : dnOf r by_ hi % by_ = r := by rw [d, last_mod, hr]
  have us : s ≤ upOf r by_ lo := by rw [u]; have := Int.emod_nonneg (r - s) (show by_ ≠ 0 by omega); omega
  have dt : dnOf r by_ hi ≤ t := by rw [d]; have := Int.emod_nonneg (t - r) (show by_ ≠ 0 by omega); omega
  have ule : ∀ n, n % by_ = r → inIv lo hi n → 0 ≤ n → upOf r by_ lo ≤ n := fun n en hn h0 => by rw [u]; exact first_le hb (by rw [en, hr]) (s2 n h0 hn.1)
  have dge : ∀ n, n % by_ = r → inIv lo hi n → n < 0 → n ≤ dnOf r by_ hi := fun n en hn h0 => by rw [d]; exact last_ge hb (by rw [en, hr]) (t2 n h0 hn.2)
  have ulo : ∀ l, lo = some l → l ≤ upOf r by_ lo := fun l e => by have := s1 l e; omega
  have dhi : ∀ h, hi = some h → dnOf r by_ hi ≤ h := fun h e => by have := t1 h e; omega
  unfold firstOf
  obtain ⟨n0, e0, h0⟩ := hne
  by_cases c1 : hiLt hi (upOf r by_ lo) = true
  · rw [if_pos c1]
    have neg : ∀ n, n % by_ = r → inIv lo hi n → n < 0 := fun n en hn => by
      cases e : hi with
      | none => rw [e] at c1; cases c1
      | some h =>
        have c2 : h < upOf r by_ lo := by rw [e] at c1; exact of_decide_eq_true c1
        by_cases z : n < 0
        · exact z
        · have := ule n en hn (by omega)
          have := hn.2 h e
          omega
    have n0n := neg n0 e0 h0
    refine ⟨dm, ⟨fun l e => ?_, dhi⟩, fun n en hn => ordN_dn (by omega) (dge n en hn (neg n en hn))⟩
    have := h0.1 l e
    have := dge n0 e0 h0 n0n
    omega
  rw [if_neg c1]
  by_cases c2 : loGt lo (dnOf r by_ hi) = true
  · rw [if_pos c2]
    have pos : ∀ n, n % by_ = r → inIv lo hi n → 0 ≤ n := fun n en hn => by
      cases e : lo with
      | none => rw [e] at c2; cases c2
      | some l =>
        have c3 : dnOf r by_ hi < l := by rw [e] at c2; exact of_decide_eq_true c2
        by_cases z : 0 ≤ n
        · exact z
        · have := dge n en hn (by omega)
          have := hn.1 l e
          omega
    refine ⟨um, ⟨ulo, fun h e => ?_⟩, fun n en hn => ordN_up (by omega) (ule n en hn (pos n en hn))⟩
    have := h0.2 h e
    have := ule n0 e0 h0 (pos n0 e0 h0)
    omega
  rw [if_neg c2]
  have uh : ∀ h, hi = some h → upOf r by_ lo ≤ h := fun h e => by
    rw [e] at c1
    by_cases z : upOf r by_ lo ≤ h
    · exact z
    · exact absurd (show hiLt (some h) (upOf r by_ lo) = true from decide_eq_true (by omega)) c1
  have dl : ∀ l, lo = some l → l ≤ dnOf r by_ hi := fun l e => by
    rw [e] at c2
    by_cases z : l ≤ dnOf r by_ hi
    · exact z
    · exact absurd (show loGt (some l) (dnOf r by_ hi) = true from decide_eq_true (by omega)) c2
  have ou : ∀ n, n % by_ = r → inIv lo hi n → 0 ≤ n → ordN (upOf r by_ lo) ≤ ordN n := fun n en hn h => ordN_up (by omega) (ule n en hn h)
  have od : ∀ n, n % by_ = r → inIv lo hi n → n < 0 → ordN (dnOf r by_ hi) ≤ ordN n := fun n en hn h => ordN_dn (by omega) (dge n en hn h)
  split
  · rename_i c
    refine ⟨dm, ⟨dl, dhi⟩, fun n en hn => ?_⟩
    by_cases z : 0 ≤ n
    · have := ou n en hn z; omega
    · exact od n en hn (by omega)
  · rename_i c
    refine ⟨um, ⟨ulo, uh⟩, fun n en hn => ?_⟩
    by_cases z : 0 ≤ n
    · exact ou n en hn z
    · have := od n en hn (by omega); omega
/-! ### the kinds of signs -/
abbrev Kd := List Int × Int
def kput (L : List Kd) (s : List Int) (m : Int) : List Kd := if (L.lookup s).isSome = true then L.map fun x => if x.1 = s then (s, m) else x else L ++ [(s, m)]
def kstep (per : Nat) (L : List Kd) (x : Nat × Pc) : List Kd := match L.lookup x.2.s with
  | none => L ++ [(x.2.s, firstOf x.1 per x.2.lo x.2.hi)]
  | some m => if ordN (firstOf x.1 per x.2.lo x.2.hi) < ordN m then kput L x.2.s (firstOf x.1 per x.2.lo x.2.hi) else L
/-- what has been found of these rows -/
structure KOk (per : Nat) (rows : List (Nat × Pc)) (L : List Kd) : Prop where
  from_ : ∀ y ∈ L, ∃ x ∈ rows, x.2.s = y.1 ∧ y.2 = firstOf x.1 per x.2.lo x.2.hi
  each : ∀ x ∈ rows, ∃ m, (x.2.s, m) ∈ L ∧ ordN m ≤ ordN (firstOf x.1 per x.2.lo x.2.hi)
  nd : (L.map (·.1)).Nodup
theorem lookup_mem {s : List Int} {m : Int} : ∀ {L : List Kd}, L.lookup s = some m → (s, m) ∈ L
  | [], h => by cases h
  | (t, k) :: L, h => by
    rw [List.lookup_cons] at h
    by_cases c : s = t
    · rw [c, beq_self_eq_true] at h
      cases h
      rw [c]
      exact List.mem_cons_self ..
    · rw [show (s == t) = false from beq_false_of_ne c] at h
      exact List.mem_cons_of_mem _ (lookup_mem h)
theorem lookup_none {s : List Int} : ∀ {L : List Kd}, L.lookup s = none → ∀ m, (s, m) ∉ L
  | [], _, _, h => by cases h
  | (t, k) :: L, h, m, hm => by
    rw [List.lookup_cons] at h
    by_cases c : s = t
    · rw [c, beq_self_eq_true] at h; cases h
    · rw [show (s == t) = false from beq_false_of_ne c] at h
      rcases List.mem_cons.1 hm with e | hm
      · cases e; exact c rfl
      · exact lookup_none h m hm
theorem nodup_key {L : List Kd} (h : (L.map (·.1)).Nodup) {s : List Int} {m k : Int} (a : (s, m) ∈ L) (b : (s, k) ∈ L) : m = k := by
  induction L with
  | nil => cases a
  | cons x L ih =>
    rw [List.map_cons] at h
    have h := List.nodup_cons.mp h
    rcases List.mem_cons.1 a with e1 | a1 <;> rcases List.mem_cons.1 b with e2 | b1
    · rw [← e1] at e2; cases e2; rfl
    · exact absurd (List.mem_map.mpr ⟨_, b1, by rw [← e1]⟩) h.1
    · exact absurd (List.mem_map.mpr ⟨_, a1, by rw [← e2]⟩) h.1
    · exact ih h.2 a1 b1
theorem kstep_ok {per : Nat} {rows : List (Nat × Pc)} {L : List Kd} (h : KOk per rows L) (x : Nat × Pc) : KOk per (rows ++ [x]) (kstep per L x) := by
  have up : ∀ y ∈ L, ∃ z ∈ rows ++ [x], z.2.s = y.1 ∧ y.2 = firstOf z.1 per z.2.lo z.2.hi := fun y hy => by
    obtain ⟨z, hz, e⟩ := h.from_ y hy
    exact ⟨z, List.mem_append_left _ hz, e⟩
  unfold kstep
  cases e : L.lookup x.2.s with
  | none =>
    have nn := lookup_none e
    refine ⟨fun y hy => ?_, fun z hz => ?_, ?_⟩
    · rcases List.mem_append.1 hy with hy | hy
      · exact up y hy
      · rw [List.mem_singleton.mp hy]
        exact ⟨x, by simp, rfl, rfl⟩
    · rcases List.mem_append.1 hz with hz | hz
      · obtain ⟨m, hm, o⟩ := h.each z hz
        exact ⟨m, List.mem_append_left _ hm, o⟩
      · rw [(List.mem_singleton.mp hz)]
        exact ⟨_, List.mem_append_right _ (List.mem_singleton.mpr rfl), Int.le_refl _⟩
    · rw [List.map_append]
      refine List.nodup_append.mpr ⟨h.nd, by simp, fun a ha b hb => ?_⟩
      rintro rfl
      obtain ⟨y, hy, rfl⟩ := List.mem_map.mp ha
      have eb : y.1 = x.2.s := by simpa using hb
      exact nn y.2 (by rw [← eb]; exact hy)
  | some m =>
    have hm := lookup_mem e
    show KOk per (rows ++ [x]) (if _ then _ else _)
    by_cases c : ordN (firstOf x.1 per x.2.lo x.2.hi) < ordN m
    · rw [if_pos c, kput, if_pos (by rw [e]; rfl)]
      refine ⟨fun y hy => ?_, fun z hz => ?_, ?_⟩
      · obtain ⟨w, hw, rfl⟩ := List.mem_map.mp hy
        by_cases cw : w.1 = x.2.s
        · rw [if_pos cw]; exact ⟨x, by simp, rfl, rfl⟩
        · rw [if_neg cw]; exact up w hw
      · rcases List.mem_append.1 hz with hz | hz
        · obtain ⟨k, hk, o⟩ := h.each z hz
          by_cases cz : z.2.s = x.2.s
          · refine ⟨_, List.mem_map.mpr ⟨(z.2.s, k), hk, by rw [if_pos cz, cz]⟩, ?_⟩
            rw [cz] at hk
            rw [nodup_key h.nd hk hm] at o
            exact Int.le_trans (Int.le_of_lt c) o
          · exact ⟨k, List.mem_map.mpr ⟨(z.2.s, k), hk, by rw [if_neg cz]⟩, o⟩
        · rw [(List.mem_singleton.mp hz)]
          exact ⟨_, List.mem_map.mpr ⟨(x.2.s, m), hm, by rw [if_pos rfl]⟩, Int.le_refl _⟩
      · rw [List.map_map]
        have : ((fun y : Kd => y.1) ∘ fun w : Kd => if w.1 = x.2.s then (x.2.s, firstOf x.1 per x.2.lo x.2.hi) else w) = fun w => w.1 := by
          funext w
          show (if w.1 = x.2.s then (x.2.s, firstOf x.1 per x.2.lo x.2.hi) else w).1 = w.1
          by_cases cw : w.1 = x.2.s
          · rw [if_pos cw, cw]
          · rw [if_neg cw]
        rw [this]
        exact h.nd
    · rw [if_neg c]
      refine ⟨up, fun z hz => ?_, h.nd⟩
      rcases List.mem_append.1 hz with hz | hz
      · exact h.each z hz
      · rw [(List.mem_singleton.mp hz)]
        exact ⟨m, hm, by omega⟩
/-- the kinds of signs that a family has, each with its first number -/
structure Kinds (bs : List Bk) (L : List Kd) : Prop where
  at_ : ∀ y ∈ L, famAt bs y.2 = y.1 ∧ ∀ n, famAt bs n = y.1 → ordN y.2 ≤ ordN n
  all : ∀ n, ∃ m, (famAt bs n, m) ∈ L
  nd : (L.map (·.1)).Nodup
def rowsT (l : List (Nat × Bk)) (per : Nat) : List (Nat × Pc) := (List.range per).flatMap fun r => (tabR l per r).map fun p => (r, p)
theorem kinds_of {ns : List Str} {l : List (Nat × Bk)} {per : Nat} (hp : 0 < per) (h : ∀ x ∈ l, Per ns x ∧ x.1 ∣ per) {L : List Kd} (k : KOk per (rowsT l per) L) : Kinds (l.map (·.2)) L := by
  have hb : (0 : Int) < per := by omega
  have row : ∀ x ∈ rowsT l per, x.1 < per ∧ x.2 ∈ tabR l per x.1 := fun x hx => by
    obtain ⟨r, hr, hx⟩ := List.mem_flatMap.mp hx
    obtain ⟨p, hp, rfl⟩ := List.mem_map.mp hx
    exact ⟨List.mem_range.mp hr, hp⟩
  have ft : ∀ x ∈ rowsT l per, (firstOf x.1 per x.2.lo x.2.hi) % (per : Int) = x.1 ∧ x.2.has (firstOf x.1 per x.2.lo x.2.hi) ∧ ∀ n, n % (per : Int) = x.1 → x.2.has n → ordN (firstOf x.1 per x.2.lo x.2.hi) ≤ ordN n := fun x hx => by
    obtain ⟨h1, h2⟩ := row x hx
    exact firstOf_ok hb (Int.emod_eq_of_lt (by omega) (by omega)) ((tabR_tl hp h1 h).ne x.2 h2)
  have cov : ∀ n : Int, ∃ x ∈ rowsT l per, n % (per : Int) = x.1 ∧ x.2.has n ∧ x.2.s = famAt (l.map (·.2)) n := fun n => by
    have e1 := Int.emod_nonneg n (show (per : Int) ≠ 0 by omega)
    have e2 := Int.emod_lt_of_pos n hb
    have er : n % (per : Int) = ((n % (per : Int)).toNat : Int) := by omega
    have hr : (n % (per : Int)).toNat < per := by omega
    have T := tabR_tl (l := l) hp hr h
    obtain ⟨p, hp, hn⟩ := T.cov n er
    exact ⟨((n % (per : Int)).toNat, p), List.mem_flatMap.mpr ⟨_, List.mem_range.mpr hr, List.mem_map.mpr ⟨p, hp, rfl⟩⟩, er, hn, T.ok p hp n er hn⟩
  refine ⟨fun y hy => ?_, fun n => ?_, k.nd⟩
  · obtain ⟨x, hx, e1, e2⟩ := k.from_ y hy
    obtain ⟨f1, f2, f3⟩ := ft x hx
    obtain ⟨r1, r2⟩ := row x hx
    have T := tabR_tl hp r1 h
    refine ⟨by rw [e2, ← T.ok x.2 r2 _ f1 f2]; exact e1, fun n en => ?_⟩
    obtain ⟨z, hz, ez, zn, zs⟩ := cov n
    obtain ⟨m, hm, o⟩ := k.each z hz
    have e3 : y = (z.2.s, y.2) := by rw [zs, en]
    have em : y.2 = m := by rw [e3] at hy; exact nodup_key k.nd hy hm
    rw [em]
    exact Int.le_trans o ((ft z hz).2.2 n ez zn)
  · obtain ⟨z, hz, ez, zn, zs⟩ := cov n
    obtain ⟨m, hm, o⟩ := k.each z hz
    exact ⟨m, by rw [← zs]; exact hm⟩
abbrev sPLineOf : Stmt := topS 13
abbrev nPLineOf : List Str := ["expression", "lines", "factor"]
theorem scPLineOf : FnScope nPLineOf ["expression", "lines"] (defScope sPLineOf) := ⟨rfl, rfl, rfl, by decide +kernel, rfl, by decide +kernel, by decide +kernel⟩
abbrev sPTimesLine : Stmt := topS 14
abbrev nPTimesLine : List Str := ["factor", "line"]
theorem scPTimesLine : FnScope nPTimesLine ["factor", "line"] (defScope sPTimesLine) := ⟨rfl, rfl, rfl, by decide +kernel, rfl, by decide +kernel, by decide +kernel⟩
abbrev sPSumLine : Stmt := topS 15
abbrev nPSumLine : List Str := ["one", "other"]
theorem scPSumLine : FnScope nPSumLine ["one", "other"] (defScope sPSumLine) := ⟨rfl, rfl, rfl, by decide +kernel, rfl, by decide +kernel, by decide +kernel⟩
abbrev sPTighterLow : Stmt := topS 16
abbrev nPTighterLow : List Str := ["low", "other"]
theorem scPTighterLow : FnScope nPTighterLow ["low", "other"] (defScope sPTighterLow) := ⟨rfl, rfl, rfl, by decide +kernel, rfl, by decide +kernel, by decide +kernel⟩
abbrev sPTighterHigh : Stmt := topS 17
abbrev nPTighterHigh : List Str := ["high", "other"]
theorem scPTighterHigh : FnScope nPTighterHigh ["high", "other"] (defScope sPTighterHigh) := ⟨rfl, rfl, rfl, by decide +kernel, rfl, by decide +kernel, by decide +kernel⟩
abbrev sPOrderOf : Stmt := topS 21
abbrev nPOrderOf : List Str := ["number"]
theorem scPOrderOf : FnScope nPOrderOf ["number"] (defScope sPOrderOf) := ⟨rfl, rfl, rfl, by decide +kernel, rfl, by decide +kernel, by decide +kernel⟩
abbrev sPHasOne : Stmt := topS 23
abbrev nPHasOne : List Str := ["rest", "by", "low", "high"]
theorem scPHasOne : FnScope nPHasOne ["rest", "by", "low", "high"] (defScope sPHasOne) := ⟨rfl, rfl, rfl, by decide +kernel, rfl, by decide +kernel, by decide +kernel⟩
abbrev sPLeastCommon : Stmt := topS 28
abbrev nPLeastCommon : List Str := ["one", "other"]
theorem scPLeastCommon : FnScope nPLeastCommon ["one", "other"] (defScope sPLeastCommon) := ⟨rfl, rfl, rfl, by decide +kernel, rfl, by decide +kernel, by decide +kernel⟩
abbrev sPBezout : Stmt := topS 29
abbrev nPBezout : List Str := ["one", "other", "times", "after", "quotient"]
theorem scPBezout : FnScope nPBezout ["one", "other"] (defScope sPBezout) := ⟨rfl, rfl, rfl, by decide +kernel, rfl, by decide +kernel, by decide +kernel⟩
/-! ### lines, ends of intervals -/
def oV : Option Int → V
  | none => .non
  | some i => .int i
theorem oV_tp {H : Hp} : ∀ o : Option Int, Tp H (oV o) (oD o)
  | none => .non
  | some i => .int i
theorem tpO {H : Hp} {v : V} {o : Option Int} (h : Tp H v (oD o)) : v = oV o := by
  cases o with
  | none => cases h; rfl
  | some i => cases h; rfl
theorem tpLn {H : Hp} {v : V} {l : Ln} (h : Tp H v (lnD l)) : ∃ a, v = .ref a ∧ H a = some (.tup [.int l.1, .int l.2]) := by
  obtain ⟨a, p, q, e, ha, t1, t2⟩ := tp2 h
  obtain rfl := tpI t1
  obtain rfl := tpI t2
  exact ⟨a, e, ha⟩
theorem lnTp {H : Hp} {a : Addr} {i j : Int} (h : H a = some (.tup [.int i, .int j])) : Tp H (.ref a) (lnD (i, j)) := .tup h (.cons (.int i) (.cons (.int j) .nil))
def spTimesL : Sp := fun vs H Q _ => ∃ (f : Int) (v : V) (l : Ln), vs = [.int f, v] ∧ Tp H v (lnD l) ∧ -9 ≤ f ∧ f ≤ 9 ∧ ∀ H' r, Sx [] H H' → Tp H' r (lnD (lnMul f l)) → Q r H'
def spSumL : Sp := fun vs H Q _ => ∃ (v u : V) (l k : Ln), vs = [v, u] ∧ Tp H v (lnD l) ∧ Tp H u (lnD k) ∧ ∀ H' r, Sx [] H H' → Tp H' r (lnD (lnAdd l k)) → Q r H'
/-- the names' lines, in a dict -/
def EnL (H : Hp) (N : Addr) (σ : Str → Ln) : Prop := ∃ kvs : List (Key × V), H N = some (.dK kvs) ∧ ∀ z, (∀ v, valV kvs (.inr z) = some v → Tp H v (lnD (σ z))) ∧ (valV kvs (.inr z) = none → σ z = (0, 0))
theorem EnL.sx {H H' : Hp} {N : Addr} {σ : Str → Ln} (h : EnL H N σ) (s : Sx [] H H') : EnL H' N σ := by
  obtain ⟨kvs, h1, h2⟩ := h
  exact ⟨kvs, s _ _ (by simp) h1, fun z => ⟨fun v e => ((h2 z).1 v e).keep s.tk0, (h2 z).2⟩⟩
def spLine (ns : List Str) (d : Nat) : Sp := fun vs H Q _ => ∃ (v : V) (N : Addr) (e : Ex) (σ : Str → Ln), vs = [v, .ref N] ∧ Tp H v e.d ∧ e.ok ns d ∧ EnL H N σ ∧ ∀ H' r, Sx [] H H' → Tp H' r (lnD (e.ln σ)) → Q r H'
def spTlo : Sp := fun vs H Q _ => ∃ a b : Option Int, vs = [oV a, oV b] ∧ Q (oV (tlo a b)) H
def spThi : Sp := fun vs H Q _ => ∃ a b : Option Int, vs = [oV a, oV b] ∧ Q (oV (thi a b)) H
def spOrd : Sp := fun vs H Q _ => ∃ n : Int, vs = [.int n] ∧ Q (.int (ordN n)) H
def spHas : Sp := fun vs H Q _ => ∃ (r by_ : Int) (lo hi : Option Int), vs = [.int r, .int by_, oV lo, oV hi] ∧ 0 < by_ ∧ Q (.bl (hasOne r by_ lo hi)) H
section
variable {w : World} {P : Program} {K : PySem.W.Frag} {mg : Str → Option Value} {base : Heap}
theorem ok_ptimes {f : Addr} {fd : FuncData} {k : Nat} (F : Fun K "times_line" "times_line" sPTimesLine f fd) : FnOk P w K mg base CX0 (k + 1) f fd ["factor", "line"] spTimesL := by
  refine F.ok scPTimesLine (fun vs H Q E h => ?_) (fun cdv A outer s H vs Q E hr h => ?_)
  · obtain ⟨_, _, _, rfl, _⟩ := h
    rfl
  · obtain ⟨f, v, l, rfl, t, h1, h2, q⟩ := h
    obtain ⟨a, rfl, ha⟩ := tpLn t
    refine ⟨_, (pss_one (ps_ret (pe_tup (pa_cons (pe_op op_mul (pv 0) (pe_ix ix_tup (pv 1) pe_int (fun _ _ => rfl))) (pa_cons (pe_op op_mul (pv 0) (pe_ix ix_tup (pv 1) pe_int (fun _ _ => rfl))) pa_nil))))), ?_⟩
    have c : ∀ x : Int, CMul f x := fun x => .inl ⟨by omega, by omega⟩
    refine ⟨_, rfl, _, rfl, a, _, _, _, rfl, rfl, SqT.of ha, rfl, _, _, rfl, rfl, c _, _, rfl, _, rfl, a, _, _, _, rfl, rfl, SqT.of ha, rfl, _, _, rfl, rfl, c _, by show 2 ≤ sizeLine; decide, fun p hp => ?_⟩
    exact q _ _ (Sx.n0 hp) (lnTp upd_same)
theorem ok_psuml {f : Addr} {fd : FuncData} {k : Nat} (F : Fun K "sum_line" "sum_line" sPSumLine f fd) : FnOk P w K mg base CX0 (k + 1) f fd ["one", "other"] spSumL := by
  refine F.ok scPSumLine (fun vs H Q E h => ?_) (fun cdv A outer s H vs Q E hr h => ?_)
  · obtain ⟨_, _, _, _, rfl, _⟩ := h
    rfl
  · obtain ⟨v, u, l, k, rfl, t, t', q⟩ := h
    obtain ⟨a, rfl, ha⟩ := tpLn t
    obtain ⟨b, rfl, hb⟩ := tpLn t'
    refine ⟨_, (pss_one (ps_ret (pe_tup (pa_cons (pe_op op_add (pe_ix ix_tup (pv 0) pe_int (fun _ _ => rfl)) (pe_ix ix_tup (pv 1) pe_int (fun _ _ => rfl))) (pa_cons (pe_op op_add (pe_ix ix_tup (pv 0) pe_int (fun _ _ => rfl)) (pe_ix ix_tup (pv 1) pe_int (fun _ _ => rfl))) pa_nil))))), ?_⟩
    refine ⟨_, rfl, a, _, _, _, rfl, rfl, SqT.of ha, rfl, _, rfl, b, _, _, _, rfl, rfl, SqT.of hb, rfl, _, _, rfl, rfl, ?_⟩
    refine ⟨_, rfl, a, _, _, _, rfl, rfl, SqT.of ha, rfl, _, rfl, b, _, _, _, rfl, rfl, SqT.of hb, rfl, _, _, rfl, rfl, by show 2 ≤ sizeLine; decide, fun p hp => ?_⟩
    exact q _ _ (Sx.n0 hp) (lnTp upd_same)
theorem ok_ptlo {f : Addr} {fd : FuncData} {k : Nat} (F : Fun K "tighter_low" "tighter_low" sPTighterLow f fd) (z_max : mg "max" = none) : FnOk P w K mg base CX0 (k + 1) f fd ["low", "other"] spTlo := by
  refine F.ok scPTighterLow (fun vs H Q E h => ?_) (fun cdv A outer s H vs Q E hr h => ?_)
  · obtain ⟨_, _, rfl, _⟩ := h
    rfl
  · obtain ⟨a, b, rfl, q⟩ := h
    refine ⟨_, (pss_cons (ps_if (PW.pt (pw_or (pt_cmpR op_isN (pv 0) pe_non (nomark _)) (pw_or1 (pt_cmpR op_isN (pv 1) pe_non (nomark _))))) (pss_one (ps_ret (pe_ifExp (pt_cmpR op_isN (pv 0) pe_non (nomark _)) (pv 1) (pv 0)))) pss_nil)
      (pss_one (ps_ret (pe_callB (call_max2 rfl) (by rfl) z_max boot_max (pa_cons (pv 0) (pa_cons (pv 1) pa_nil)))))), ?_⟩
    have yes : ∀ {A B : Prop}, A → if decide ((V.non : V) = V.non) = true then A else B := fun h => iteP (decide_eq_true rfl) h
    have no : ∀ {i : Int} {A B : Prop}, B → if decide ((V.int i : V) = V.non) = true then A else B := fun h => iteN (fun e => nomatch (of_decide_eq_true e)) h
    cases a with
    | none => exact ⟨_, rfl, rfl, _, rfl, yes (iteT ⟨_, rfl, rfl, _, rfl, yes ⟨_, rfl, q⟩⟩)⟩
    | some a =>
      cases b with
      | none => exact ⟨_, rfl, rfl, _, rfl, no ⟨_, rfl, rfl, _, rfl, yes ⟨_, rfl, rfl, _, rfl, no ⟨_, rfl, q⟩⟩⟩⟩
      | some b => exact ⟨_, rfl, rfl, _, rfl, no ⟨_, rfl, rfl, _, rfl, no ⟨_, rfl, _, rfl, _, _, rfl, q⟩⟩⟩
theorem ok_pthi {f : Addr} {fd : FuncData} {k : Nat} (F : Fun K "tighter_high" "tighter_high" sPTighterHigh f fd) (z_min : mg "min" = none) : FnOk P w K mg base CX0 (k + 1) f fd ["high", "other"] spThi := by
  refine F.ok scPTighterHigh (fun vs H Q E h => ?_) (fun cdv A outer s H vs Q E hr h => ?_)
  · obtain ⟨_, _, rfl, _⟩ := h
    rfl
  · obtain ⟨a, b, rfl, q⟩ := h
    refine ⟨_, (pss_cons (ps_if (PW.pt (pw_or (pt_cmpR op_isN (pv 0) pe_non (nomark _)) (pw_or1 (pt_cmpR op_isN (pv 1) pe_non (nomark _))))) (pss_one (ps_ret (pe_ifExp (pt_cmpR op_isN (pv 0) pe_non (nomark _)) (pv 1) (pv 0)))) pss_nil)
      (pss_one (ps_ret (pe_callB (call_min2 rfl) (by rfl) z_min boot_min (pa_cons (pv 0) (pa_cons (pv 1) pa_nil)))))), ?_⟩
    have yes : ∀ {A B : Prop}, A → if decide ((V.non : V) = V.non) = true then A else B := fun h => iteP (decide_eq_true rfl) h
    have no : ∀ {i : Int} {A B : Prop}, B → if decide ((V.int i : V) = V.non) = true then A else B := fun h => iteN (fun e => nomatch (of_decide_eq_true e)) h
    cases a with
    | none => exact ⟨_, rfl, rfl, _, rfl, yes (iteT ⟨_, rfl, rfl, _, rfl, yes ⟨_, rfl, q⟩⟩)⟩
    | some a =>
      cases b with
      | none => exact ⟨_, rfl, rfl, _, rfl, no ⟨_, rfl, rfl, _, rfl, yes ⟨_, rfl, rfl, _, rfl, no ⟨_, rfl, q⟩⟩⟩⟩
      | some b => exact ⟨_, rfl, rfl, _, rfl, no ⟨_, rfl, rfl, _, rfl, no ⟨_, rfl, _, rfl, _, _, rfl, q⟩⟩⟩
theorem ok_pord {f : Addr} {fd : FuncData} {k : Nat} (F : Fun K "order_of" "order_of" sPOrderOf f fd) : FnOk P w K mg base CX0 (k + 1) f fd ["number"] spOrd := by
  refine F.ok scPOrderOf (fun vs H Q E h => ?_) (fun cdv A outer s H vs Q E hr h => ?_)
  · obtain ⟨_, rfl, _⟩ := h
    rfl
  · obtain ⟨n, rfl, q⟩ := h
    refine ⟨_, (pss_one (ps_ret (pe_ifExp (pt_cmpR op_gt (pv 0) pe_int (nomark _)) (pe_op op_sub (pe_op op_mul pe_int (pv 0)) pe_int) (pe_op op_mul (pe_un un_neg pe_int) (pv 0))))), ?_⟩
    refine (⟨_, rfl, _, _, rfl, rfl, _, rfl, ?_⟩)
    unfold ordN at q
    by_cases c : n > 0
    · rw [if_pos c] at q
      exact iteP (decide_eq_true c) ⟨_, rfl, _, _, rfl, rfl, .inl ⟨by decide, by decide⟩, _, _, rfl, rfl, q⟩
    · rw [if_neg c] at q
      exact iteN (fun e => c (of_decide_eq_true e)) ⟨_, rfl, _, rfl, _, _, rfl, rfl, .inl ⟨by decide, by decide⟩, q⟩
theorem ok_phas {f : Addr} {fd : FuncData} {k : Nat} (F : Fun K "has_one" "has_one" sPHasOne f fd) : FnOk P w K mg base CX0 (k + 1) f fd ["rest", "by", "low", "high"] spHas := by
  refine F.ok scPHasOne (fun vs H Q E h => ?_) (fun cdv A outer s H vs Q E hr h => ?_)
  · obtain ⟨_, _, _, _, rfl, _⟩ := h
    rfl
  · obtain ⟨r, by_, lo, hi, rfl, hb, q⟩ := h
    refine ⟨_, (pss_one (ps_ret (pe_or (pe_cmpR op_isN (pv 2) pe_non (nomark _)) (pe_or (pe_cmpR op_isN (pv 3) pe_non (nomark _)) (pe_one (pe_cmpR op_le (pe_op op_add (pv 2) (pe_op op_mod (pe_op op_sub (pv 0) (pv 2)) (pv 1))) (pv 3) (nomark _))))))), ?_⟩
    have yes : decide ((V.non : V) = V.non) = true := decide_eq_true rfl
    have no : ∀ {i : Int}, decide ((V.int i : V) = V.non) = false := decide_eq_false (fun e => nomatch e)
    cases lo with
    | none => exact ⟨_, rfl, rfl, true, by rw [← yes]; rfl, iteT q⟩
    | some l =>
      refine ⟨_, rfl, rfl, false, congrArg V.bl no, iteF ?_⟩
      cases hi with
      | none => exact ⟨_, rfl, rfl, true, by rw [← yes]; rfl, iteT q⟩
      | some u => exact ⟨_, rfl, rfl, false, congrArg V.bl no, iteF ⟨_, rfl, _, rfl, _, rfl, _, _, rfl, rfl, _, rfl, _, _, rfl, rfl, hb, _, _, rfl, rfl, _, rfl, _, _, rfl, rfl, q⟩⟩
theorem ok_pline {f fT fS fI : Addr} {fd fdT fdS fdI : FuncData} {ns : List Str} (F_pline_of : Fun K "line_of" "line_of" sPLineOf f fd) (F_ptimes_line : Fun K "times_line" "times_line" sPTimesLine fT fdT) (F_psum_line : Fun K "sum_line" "sum_line" sPSumLine fS fdS) (F_pis_integer : Fun K "is_integer" "is_integer" sPIsInteger fI fdI)
    (G_ptimes_line : FnOk P w K mg base CX0 1 fT fdT ["factor", "line"] spTimesL) (G_psum_line : FnOk P w K mg base CX0 1 fS fdS ["one", "other"] spSumL) (G_pis_integer : FnOk P w K mg base CX0 1 fI fdI ["value"] spIsInt)
    (b_pline_of : Binds K fd ["expression", "lines"] []) (b_ptimes_line : Binds K fdT ["factor", "line"] []) (b_psum_line : Binds K fdS ["one", "other"] []) (b_pis_integer : Binds K fdI ["value"] [])
    (m_pline_of : mg "line_of" = some (.ref f)) (m_ptimes_line : mg "times_line" = some (.ref fT)) (m_psum_line : mg "sum_line" = some (.ref fS)) (m_pis_integer : mg "is_integer" = some (.ref fI)) (z_isinstance : mg "isinstance" = none) (z_str : mg "str" = none) :
    ∀ d : Nat, FnOk P w K mg base CX0 (d + 2) f fd ["expression", "lines"] (spLine ns d) := by
  intro d
  induction d with
  | zero => exact ⟨fun vs H Q E h => by obtain ⟨_, _, _, _, rfl, _⟩ := h; rfl, fun _ _ _ _ _ _ _ _ _ _ _ _ _ h => by
      obtain ⟨_, _, e, _, _, _, h, _⟩ := h
      cases e <;> exact absurd h.1 (by decide)⟩
  | succ d G_pline_of =>
    refine F_pline_of.ok scPLineOf (fun vs H Q E h => ?_) (fun cdv A outer s H vs Q E hr h => ?_)
    · obtain ⟨_, _, _, _, rfl, _⟩ := h
      rfl
    · obtain ⟨v, N, e, σ, rfl, t, ho, hE, q⟩ := h
      refine ⟨_, (pss_cons (ps_if (pt_val (pe_call G_pis_integer (hr.mono (by omega)) (by rfl) m_pis_integer F_pis_integer.kp b_pis_integer .nil pass0 (pa_cons (pv 0) pa_nil))) (pss_one (ps_ret (pe_tup (pa_cons pe_int (pa_cons (pv 0) pa_nil))))) pss_nil)
      (pss_cons (ps_if (pt_val (pe_callB call_isi (by rfl) z_isinstance (by decide +kernel) (pa_cons (pv 0) (pa_cons (pe_bltn (v := .ty "str") (by rfl) z_str (by decide +kernel) rfl) pa_nil)))) (pss_one (ps_ret (pe_dget2 (hu_of hr) (pv 1) (pv 0) (pe_tup (pa_cons pe_int (pa_cons pe_int pa_nil))) ⟨rfl, rfl, rfl, rfl⟩))) pss_nil)
      (pss_cons (ps_if (pt_cmpR op_eq (pe_ix ix_tup (pv 0) pe_int (fun _ _ => rfl)) pe_str (nomark _)) (pss_one (ps_ret (pe_call G_ptimes_line (hr.mono (by omega)) (by rfl) m_ptimes_line F_ptimes_line.kp b_ptimes_line .nil pass0 (pa_cons (pe_ix ix_tup (pv 0) pe_int (fun _ _ => rfl)) (pa_cons (pe_call G_pline_of (hr.mono (by omega)) (by rfl) m_pline_of F_pline_of.kp b_pline_of .nil pass0 (pa_cons (pe_ix ix_tup (pv 0) pe_int (fun _ _ => rfl)) (pa_cons (pv 1) pa_nil))) pa_nil))))) pss_nil)
      (C8.pss_cut (ps_set (i := 2) scPLineOf.nd rfl (by first | exact Or.inl rfl | exact Or.inr rfl) (pe_ifExp (pt_cmpR op_eq (pe_ix ix_tup (pv 0) pe_int (fun _ _ => rfl)) pe_str (nomark _)) pe_int (pe_un un_neg pe_int)))
      (pss_one (ps_ret (pe_call G_psum_line (hr.mono (by omega)) (by rfl) m_psum_line F_psum_line.kp b_psum_line .nil pass0 (pa_cons (pe_call G_pline_of (hr.mono (by omega)) (by rfl) m_pline_of F_pline_of.kp b_pline_of .nil pass0 (pa_cons (pe_ix ix_tup (pv 0) pe_int (fun _ _ => rfl)) (pa_cons (pv 1) pa_nil))) (pa_cons (pe_call G_ptimes_line (hr.mono (by omega)) (by rfl) m_ptimes_line F_ptimes_line.kp b_ptimes_line .nil pass0 (pa_cons (pv 2) (pa_cons (pe_call G_pline_of (hr.mono (by omega)) (by rfl) m_pline_of F_pline_of.kp b_pline_of .nil pass0 (pa_cons (pe_ix ix_tup (pv 0) pe_int (fun _ _ => rfl)) (pa_cons (pv 1) pa_nil))) pa_nil))) pa_nil))))))))), ?_⟩
      have isI := Ex.isIntV t
      refine ⟨_, rfl, _, _, rfl, isI, _, rfl, ?_⟩
      obtain ⟨kvs, hN, hv⟩ := id hE
      cases e with
      | int i =>
        obtain rfl := tpI t
        exact iteT ⟨_, rfl, by show 2 ≤ sizeLine; decide, fun p hp => q _ _ (Sx.n0 hp) (lnTp upd_same)⟩
      | name z =>
        obtain rfl := tpS t
        refine iteF ⟨_, rfl, _, _, _, _, _, rfl, .ty _, .base (.str z), kit_ty (r := true) (by decide +kernel), _, rfl, iteT ⟨_, rfl, N, rfl, .inl ⟨kvs, .inl hN⟩, _, rfl, by show 2 ≤ sizeLine; decide, fun p hp => ⟨_, DGet.k (k := .inr z) (Sx.n0 hp _ _ (by simp) hN), ?_⟩⟩⟩
        cases e : valV kvs (.inr z) with
        | none =>
          refine q _ _ (Sx.n0 hp) ?_
          show Tp _ _ (lnD (σ z))
          rw [(hv z).2 e]
          exact lnTp upd_same
        | some u => exact q _ _ (Sx.n0 hp) (((hv z).1 u e).new hp)
      | plus x y =>
        obtain ⟨a, p, u, r, rfl, ha, t1, t2, t3⟩ := tp3 t
        obtain rfl := tpS t1
        refine iteF ⟨_, rfl, _, _, _, _, _, rfl, .ty _, .base (.tup ha), kit_ty (r := false) (by decide +kernel), _, rfl, iteF ?_⟩
        refine ⟨_, rfl, a, _, _, _, rfl, rfl, SqT.of ha, rfl, rfl, _, rfl, iteN (by decide +kernel) ?_⟩
        refine ⟨fun σ' H' => σ' = [some (.ref a), some (.ref N), some (.int 1)] ∧ H' = H, ⟨_, rfl, a, _, _, _, rfl, rfl, SqT.of ha, rfl, rfl, _, rfl, iteP (by decide +kernel) ⟨rfl, rfl⟩⟩, ?_⟩
        rintro _ _ ⟨rfl, rfl⟩
        refine ⟨_, rfl, a, _, _, u, rfl, rfl, SqT.of ha, rfl, _, rfl, u, N, x, σ, rfl, t2, ho.2.1, hE, fun H1 r1 s1 u1 => ?_⟩
        refine ⟨_, rfl, _, rfl, a, _, _, r, rfl, rfl, SqT.of (s1 _ _ (by simp) ha), rfl, _, rfl, r, N, y, σ, rfl, t3.keep s1.tk0, ho.2.2, hE.sx s1, fun H2 r2 s2 u2 => ?_⟩
        refine ⟨1, r2, _, rfl, u2, by decide, by decide, fun H3 r3 s3 u3 => ?_⟩
        exact ⟨r1, r3, _, _, rfl, (u1.keep s2.tk0).keep s3.tk0, u3, fun H4 r4 s4 u4 => q _ _ (((s1.trans s2).trans s3).trans s4) u4⟩
      | minus x y =>
        obtain ⟨a, p, u, r, rfl, ha, t1, t2, t3⟩ := tp3 t
        obtain rfl := tpS t1
        refine iteF ⟨_, rfl, _, _, _, _, _, rfl, .ty _, .base (.tup ha), kit_ty (r := false) (by decide +kernel), _, rfl, iteF ?_⟩
        refine ⟨_, rfl, a, _, _, _, rfl, rfl, SqT.of ha, rfl, rfl, _, rfl, iteN (by decide +kernel) ?_⟩
        refine ⟨fun σ' H' => σ' = [some (.ref a), some (.ref N), some (.int (-1))] ∧ H' = H, ⟨_, rfl, a, _, _, _, rfl, rfl, SqT.of ha, rfl, rfl, _, rfl, iteN (by decide +kernel) ⟨1, rfl, rfl, rfl⟩⟩, ?_⟩
        rintro _ _ ⟨rfl, rfl⟩
        refine ⟨_, rfl, a, _, _, u, rfl, rfl, SqT.of ha, rfl, _, rfl, u, N, x, σ, rfl, t2, ho.2.1, hE, fun H1 r1 s1 u1 => ?_⟩
        refine ⟨_, rfl, _, rfl, a, _, _, r, rfl, rfl, SqT.of (s1 _ _ (by simp) ha), rfl, _, rfl, r, N, y, σ, rfl, t3.keep s1.tk0, ho.2.2, hE.sx s1, fun H2 r2 s2 u2 => ?_⟩
        refine ⟨-1, r2, _, rfl, u2, by decide, by decide, fun H3 r3 s3 u3 => ?_⟩
        exact ⟨r1, r3, _, _, rfl, (u1.keep s2.tk0).keep s3.tk0, u3, fun H4 r4 s4 u4 => q _ _ (((s1.trans s2).trans s3).trans s4) u4⟩
      | times f x =>
        obtain ⟨a, p, u, r, rfl, ha, t1, t2, t3⟩ := tp3 t
        obtain rfl := tpS t1
        obtain rfl := tpI t2
        refine iteF ⟨_, rfl, _, _, _, _, _, rfl, .ty _, .base (.tup ha), kit_ty (r := false) (by decide +kernel), _, rfl, iteF ?_⟩
        refine ⟨_, rfl, a, _, _, _, rfl, rfl, SqT.of ha, rfl, rfl, _, rfl, iteP (by decide +kernel) ?_⟩
        refine ⟨_, rfl, a, _, _, _, rfl, rfl, SqT.of ha, rfl, _, rfl, a, _, _, r, rfl, rfl, SqT.of ha, rfl, _, rfl, r, N, x, σ, rfl, t3, ho.2.2.2, hE, fun H1 r1 s1 u1 => ?_⟩
        exact ⟨f, r1, _, rfl, u1, ho.2.1, ho.2.2.1, fun H2 r2 s2 u2 => q _ _ (s1.trans s2) u2⟩
end
/-! ### the least common multiple -/
def spBez : Sp := fun vs H Q _ => ∃ m n : Nat, vs = [.int m, .int n] ∧ 0 < m ∧ m ≤ 1000000 ∧ n ≤ 1000000 ∧ ∀ H' a t, Sx [] H H' → H' a = some (.tup [.int (Nat.gcd m n), t]) → Q (.ref a) H'
def spLcm : Sp := fun vs H Q _ => ∃ m n : Nat, vs = [.int m, .int n] ∧ 0 < m ∧ 0 < n ∧ m ≤ 1000000 ∧ n ≤ 1000000 ∧ ∀ H', Sx [] H H' → Q (.int (Nat.lcm m n)) H'
section
variable {w : World} {P : Program} {K : PySem.W.Frag} {mg : Str → Option Value} {base : Heap}
theorem ok_pbez {f : Addr} {fd : FuncData} {k : Nat} (F : Fun K "bezout" "bezout" sPBezout f fd) : FnOk P w K mg base CX0 (k + 1) f fd ["one", "other"] spBez := by
  refine F.ok scPBezout (fun vs H Q E h => ?_) (fun cdv A outer s H vs Q E hr h => ?_)
  · obtain ⟨_, _, rfl, _⟩ := h
    rfl
  · obtain ⟨m, n, rfl, m0, m1, n1, q⟩ := h
    refine ⟨_, (pss_cons (ps_asg (pe_tup (pa_cons pe_int (pa_cons pe_int pa_nil))) (pg_tup rfl (pgs_cons (pg_name (i := 2) scPBezout.nd rfl (by first | exact Or.inl rfl | exact Or.inr rfl)) (pgs_cons (pg_name (i := 3) scPBezout.nd rfl (by first | exact Or.inl rfl | exact Or.inr rfl)) pgs_nil))))
      (C8.pss_cut (ps_while PassesOwn.never (pt_truth (pv 1) (fun _ => rfl)) (pss_cons (ps_set (i := 4) scPBezout.nd rfl (by first | exact Or.inl rfl | exact Or.inr rfl) (pe_op op_fdiv (pv 0) (pv 1)))
      (pss_cons (ps_par (i := 0) (j := 1) (by rfl) scPBezout.nd rfl rfl (by decide) rfl rfl (pa_cons (pv 1) (pa_cons (pe_op op_sub (pv 0) (pe_op op_mul (pv 4) (pv 1))) pa_nil)) (by rfl))
      (pss_one (ps_par (i := 2) (j := 3) (by rfl) scPBezout.nd rfl rfl (by decide) rfl rfl (pa_cons (pv 3) (pa_cons (pe_op op_sub (pv 2) (pe_op op_mul (pv 4) (pv 3))) pa_nil)) (by rfl))))))
      (pss_one (ps_ret (pe_tup (pa_cons (pv 0) (pa_cons (pv 2) pa_nil))))))), ?_⟩
    refine ⟨by show 2 ≤ sizeLine; decide, fun p hp => ⟨p, _, rfl, SqT.of upd_same, rfl, _, _, rfl, gnm ⟨_, _, rfl, gnm ⟨rfl, ?_⟩⟩⟩⟩
    have s0 : Sx [] H (upd H p (.tup [.int 1, .int 0])) := Sx.n0 hp
    refine ⟨fun σ' H' => ∃ (t u : Int) (o4 : Option V), σ' = [some (.int (Nat.gcd m n)), some (.int 0), some (.int t), some (.int u), o4] ∧ Sx [] H H', ?_, ?_⟩
    · refine ⟨fun b' σ' H' => ∃ (a b : Nat) (t u : Int) (o4 : Option V), σ' = [some (.int a), some (.int b), some (.int t), some (.int u), o4] ∧ Nat.gcd a b = Nat.gcd m n ∧ 0 < a ∧ a ≤ 1000000 ∧ b ≤ 1000000 ∧ Sx [] H H' ∧ b' = b, ⟨n, m, n, 1, 0, _, rfl, rfl, m0, m1, n1, s0, rfl⟩, ?_⟩
      rintro b' σ' H' ⟨a, b, t, u, o4, rfl, hg, a0, a1, b1, sx, rfl⟩
      by_cases c : b' = 0
      · subst c
        refine ⟨_, rfl, false, by simp [TruV], iteF ⟨t, u, o4, ?_, sx⟩⟩
        rw [← hg, Nat.gcd_zero_right]
        rfl
      · refine ⟨_, rfl, true, by simp [TruV, c], iteT ⟨fun σ' H' => ∃ (a b : Nat) (t u : Int) (o4 : Option V), σ' = [some (.int a), some (.int b), some (.int t), some (.int u), o4] ∧ Nat.gcd a b = Nat.gcd m n ∧ 0 < a ∧ a ≤ 1000000 ∧ b ≤ 1000000 ∧ Sx [] H H' ∧ b < b', fun σ' H' z => ?_, ?_⟩⟩
        · obtain ⟨a, b, t, u, o4, h1, h2, h3, h4, h5, h6, h7⟩ := z
          exact ⟨b, h7, a, b, t, u, o4, h1, h2, h3, h4, h5, h6, rfl⟩
        · have qb : (a : Int) / (b' : Int) ≤ a := Int.ediv_le_self _ (by omega)
          have q0 : 0 ≤ (a : Int) / (b' : Int) := Int.ediv_nonneg (by omega) (by omega)
          refine ⟨_, rfl, _, rfl, _, _, rfl, rfl, ⟨by omega, by omega⟩, gnm ?_⟩
          refine ⟨_, rfl, _, rfl, _, rfl, _, rfl, _, _, rfl, rfl, .inl ⟨by omega, by omega⟩, _, _, rfl, rfl, _, _, rfl, ?_⟩
          refine ⟨_, rfl, _, rfl, _, rfl, _, rfl, _, _, rfl, rfl, .inl ⟨by omega, by omega⟩, _, _, rfl, rfl, _, _, rfl, ?_⟩
          have em : (a : Int) - (a : Int) / (b' : Int) * (b' : Int) = ((a % b' : Nat) : Int) := by
            rw [Int.natCast_emod, Int.emod_def, Int.mul_comm]
          refine ⟨b', a % b', _, _, _, by rw [← em]; rfl, ?_, by omega, b1, ?_, sx, Nat.mod_lt _ (by omega)⟩
          · rw [← hg, Nat.gcd_comm b', ← Nat.gcd_rec b' a, Nat.gcd_comm]
          · have := Nat.mod_le a b'; omega
    · rintro _ H' ⟨t, u, o4, rfl, sx⟩
      exact ⟨_, rfl, _, rfl, by show 2 ≤ sizeLine; decide, fun p hp => q _ _ _ (sx.trans (Sx.n0 hp)) upd_same⟩
theorem ok_plcm {f fB : Addr} {fd fdB : FuncData} {k : Nat} (F : Fun K "least_common" "least_common" sPLeastCommon f fd) (F_pbezout : Fun K "bezout" "bezout" sPBezout fB fdB) (G_pbezout : FnOk P w K mg base CX0 1 fB fdB ["one", "other"] spBez) (b_pbezout : Binds K fdB ["one", "other"] []) (m_pbezout : mg "bezout" = some (.ref fB)) : FnOk P w K mg base CX0 (k + 2) f fd ["one", "other"] spLcm := by
  refine F.ok scPLeastCommon (fun vs H Q E h => ?_) (fun cdv A outer s H vs Q E hr h => ?_)
  · obtain ⟨_, _, rfl, _⟩ := h
    rfl
  · obtain ⟨m, n, rfl, m0, n0, m1, n1, q⟩ := h
    refine ⟨_, (pss_one (ps_ret (pe_op op_mul (pe_op op_fdiv (pv 0) (pe_ix ix_tup (pe_call G_pbezout (hr.mono (by omega)) (by rfl) m_pbezout F_pbezout.kp b_pbezout .nil pass0 (pa_cons (pv 0) (pa_cons (pv 1) pa_nil))) pe_int (fun _ _ => rfl))) (pv 1)))), ?_⟩
    refine ⟨_, rfl, _, rfl, _, rfl, m, n, rfl, m0, m1, n1, fun H1 a t s1 ea => ?_⟩
    have g0 : 0 < Nat.gcd m n := Nat.gcd_pos_of_pos_left n m0
    have g1 : Nat.gcd m n ≤ m := Nat.gcd_le_left n m0
    have e : (m : Int) / ((Nat.gcd m n : Nat) : Int) * (n : Int) = ((Nat.lcm m n : Nat) : Int) := by
      have h1 : m / Nat.gcd m n * n = Nat.lcm m n := by
        unfold Nat.lcm
        rw [Nat.mul_comm m n, Nat.mul_div_assoc n (Nat.gcd_dvd_left m n), Nat.mul_comm]
      rw [← h1, Int.natCast_mul, Int.natCast_ediv]
    have b1 : (m : Int) / ((Nat.gcd m n : Nat) : Int) ≤ m := Int.ediv_le_self _ (by omega)
    have b0 : 0 ≤ (m : Int) / ((Nat.gcd m n : Nat) : Int) := Int.ediv_nonneg (by omega) (by omega)
    refine ⟨a, _, _, _, rfl, rfl, SqT.of ea, rfl, _, _, rfl, rfl, ⟨by omega, by omega⟩, _, rfl, _, _, rfl, rfl, .inl ⟨by omega, by omega⟩, ?_⟩
    show Q (.int ((m : Int) / ((Nat.gcd m n : Nat) : Int) * (n : Int))) H1
    rw [e]
    exact q _ s1
end
abbrev sPWaysOf : Stmt := topS 10
abbrev nPWaysOf : List Str := ["statement", "lines", "part", "truth", "inner"]
theorem scPWaysOf : FnScope nPWaysOf ["statement", "lines", "part"] (defScope sPWaysOf) := ⟨rfl, rfl, rfl, by decide +kernel, rfl, by decide +kernel, by decide +kernel⟩
abbrev sPPartsBy : Stmt := topS 11
abbrev nPPartsBy : List Str := ["test", "lines", "part", "rests", "low", "high", "slope", "height", "found", "truth", "chosen", "inner", "rest"]
theorem scPPartsBy : FnScope nPPartsBy ["test", "lines", "part"] (defScope sPPartsBy) := ⟨rfl, rfl, rfl, by decide +kernel, rfl, by decide +kernel, by decide +kernel⟩
abbrev sPPartsBelow : Stmt := topS 12
abbrev nPPartsBelow : List Str := ["line", "part", "rests", "low", "high", "slope", "height", "last", "found"]
theorem scPPartsBelow : FnScope nPPartsBelow ["line", "part"] (defScope sPPartsBelow) := ⟨rfl, rfl, rfl, by decide +kernel, rfl, by decide +kernel, by decide +kernel⟩
/-! ### values told one by one -/
inductive All2 {α β : Type} (R : α → β → Prop) : List α → List β → Prop
  | nil : All2 R [] []
  | cons {x : α} {y : β} {xs : List α} {ys : List β} : R x y → All2 R xs ys → All2 R (x :: xs) (y :: ys)
namespace All2
variable {α β : Type} {R S : α → β → Prop}
theorem imp (h : ∀ x y, R x y → S x y) : ∀ {xs : List α} {ys : List β}, All2 R xs ys → All2 S xs ys
  | _, _, .nil => .nil
  | _, _, .cons a b => .cons (h _ _ a) (imp h b)
theorem len : ∀ {xs : List α} {ys : List β}, All2 R xs ys → xs.length = ys.length
  | _, _, .nil => rfl
  | _, _, .cons _ b => by rw [List.length_cons, List.length_cons, len b]
theorem get : ∀ {xs : List α} {ys : List β} {i : Nat} {x : α}, All2 R xs ys → xs[i]? = some x → ∃ y, ys[i]? = some y ∧ R x y
  | _, _, 0, _, .cons a _, e => ⟨_, rfl, by cases e; exact a⟩
  | _, _, i + 1, _, .cons _ b, e => get (i := i) b e
theorem app : ∀ {xs zs : List α} {ys ws : List β}, All2 R xs ys → All2 R zs ws → All2 R (xs ++ zs) (ys ++ ws)
  | _, _, _, _, .nil, h => h
  | _, _, _, _, .cons a b, h => .cons a (app b h)
theorem snoc {xs : List α} {ys : List β} {x : α} {y : β} (h : All2 R xs ys) (r : R x y) : All2 R (xs ++ [x]) (ys ++ [y]) := h.app (.cons r .nil)
end All2
/-- tuples stand, lists outside N stand -/
structure Kl (N : List Addr) (H H' : Hp) : Prop where
  t : Tk H H'
  l : ∀ b xs, b ∉ N → H b = some (.lst xs) → H' b = some (.lst xs)
theorem Sx.kl {N : List Addr} {H H' : Hp} (s : Sx [] H H') : Kl N H H' := ⟨s.tk0, fun b xs _ e => s b _ (by simp) e⟩
theorem Kl.own {N : List Addr} {H : Hp} {p : Addr} {ys zs : List V} (e : H p = some (.lst ys)) (n : p ∈ N) : Kl N H (upd H p (.lst zs)) := ⟨Tk.lst e, fun b xs hb h => by rw [upd_ne (fun z => hb (by rw [z]; exact n))]; exact h⟩
theorem Kl.trans {N : List Addr} {H H1 H2 : Hp} (a : Kl N H H1) (b : Kl N H1 H2) : Kl N H H2 := ⟨a.t.trans b.t, fun x xs n e => b.l x xs n (a.l x xs n e)⟩
/-- own lists, all there -/
def Own (N : List Addr) (H : Hp) : Prop := ∀ b ∈ N, H b ≠ none
theorem Own.sx {N : List Addr} {H H' : Hp} (h : Own N H) (s : Sx [] H H') : Own N H' := fun b hb e => h b hb (s.free (by simp) e)
theorem Own.cons {N : List Addr} {H : Hp} {F : Addr} {o : HO} (h : Own N H) (e : H F = some o) : Own (F :: N) H := fun b hb => by
  rcases List.mem_cons.1 hb with rfl | hb
  · rw [e]; simp
  · exact h b hb
theorem Own.nin {N : List Addr} {H : Hp} {F : Addr} (h : Own N H) (e : H F = none) : F ∉ N := fun hm => h F hm e
/-- a part, its list of rests at no address of N -/
def PtV (N : List Addr) (H : Hp) (v : V) (p : Pt) : Prop := ∃ a l, v = .ref a ∧ H a = some (.tup [.ref l, oV p.lo, oV p.hi]) ∧ H l = some (.lst (p.rs.map V.int)) ∧ l ∉ N
theorem PtV.keep {N : List Addr} {H H' : Hp} {v : V} {p : Pt} (h : PtV N H v p) (k : Kl N H H') : PtV N H' v p := by
  obtain ⟨a, l, e, h1, h2, h3⟩ := h
  exact ⟨a, l, e, k.t _ _ h1, k.l _ _ h3 h2, h3⟩
theorem PtV.more {N : List Addr} {H : Hp} {v : V} {p : Pt} {F : Addr} (h : PtV N H v p) (n : H F = none) : PtV (F :: N) H v p := by
  obtain ⟨a, l, e, h1, h2, h3⟩ := h
  exact ⟨a, l, e, h1, h2, fun z => (List.mem_cons.1 z).elim (fun e => by rw [e, n] at h2; cases h2) h3⟩
theorem PtV.anti {N : List Addr} {H : Hp} {v : V} {p : Pt} {F : Addr} (h : PtV (F :: N) H v p) : PtV N H v p := by
  obtain ⟨a, l, e, h1, h2, h3⟩ := h
  exact ⟨a, l, e, h1, h2, fun z => h3 (List.mem_cons_of_mem _ z)⟩
/-- a truth and a part -/
def BpV (N : List Addr) (H : Hp) (v : V) (x : Bool × Pt) : Prop := ∃ a u, v = .ref a ∧ H a = some (.tup [.bl x.1, u]) ∧ PtV N H u x.2
theorem BpV.keep {N : List Addr} {H H' : Hp} {v : V} {x : Bool × Pt} (h : BpV N H v x) (k : Kl N H H') : BpV N H' v x := by
  obtain ⟨a, u, e, h1, h2⟩ := h
  exact ⟨a, u, e, k.t _ _ h1, h2.keep k⟩
theorem BpV.anti {N : List Addr} {H : Hp} {v : V} {x : Bool × Pt} {F : Addr} (h : BpV (F :: N) H v x) : BpV N H v x := by
  obtain ⟨a, u, e, h1, h2⟩ := h
  exact ⟨a, u, e, h1, h2.anti⟩
theorem lB_log {B : Nat} {i : Int} (hB : B ≤ lB 100) (h : i.natAbs ≤ B) : i.natAbs.log2 < 9000 := by
  by_cases c : i.natAbs = 0
  · rw [c]; decide
  · refine (Nat.log2_lt c).mpr (Nat.lt_of_le_of_lt (Nat.le_trans h hB) ?_)
    exact Nat.le_of_ble_eq_true (by decide +kernel)
abbrev rIsNon : R2 := fun x y H Q => y = V.non ∧ Q (V.bl (decide (x = V.non))) H
theorem orLe {i j : Nat} {σ : L2.St} {H : Hp} {Q : Bool → Hp → Prop} {lo : Option Int} {x : Int} (hi : σ[i]? = some (some (oV lo))) (hj : σ[j]? = some (some (.int x))) (q : Q (loLe lo x) H) :
    tOr (tTest (tOp rIsNon (tVar i) (tC .non))) (tTest (tOp (rI0 fun i j => .bl (decide (i ≤ j))) (tVar i) (tVar j))) σ H Q := by
  cases lo with
  | none => exact ⟨_, hi, rfl, _, rfl, iteP (decide_eq_true rfl) q⟩
  | some a => exact ⟨_, hi, rfl, _, rfl, iteN (fun e => nomatch (of_decide_eq_true e)) ⟨_, hi, _, hj, _, _, rfl, rfl, _, rfl, q⟩⟩
theorem orLt {i j : Nat} {σ : L2.St} {H : Hp} {Q : Bool → Hp → Prop} {hi : Option Int} {x : Int} (h1 : σ[i]? = some (some (oV hi))) (hj : σ[j]? = some (some (.int x))) (q : Q (hiGt hi x) H) :
    tOr (tTest (tOp rIsNon (tVar i) (tC .non))) (tTest (tOp (rI0 fun i j => .bl (decide (i < j))) (tVar j) (tVar i))) σ H Q := by
  cases hi with
  | none => exact ⟨_, h1, rfl, _, rfl, iteP (decide_eq_true rfl) q⟩
  | some a => exact ⟨_, h1, rfl, _, rfl, iteN (fun e => nomatch (of_decide_eq_true e)) ⟨_, hj, _, h1, _, _, rfl, rfl, _, rfl, q⟩⟩
def spBelow : Sp := fun vs H Q _ => ∃ (N : List Addr) (v u : V) (l : Ln) (p : Pt), vs = [v, u] ∧ Own N H ∧ Tp H v (lnD l) ∧ LnB (lB 100) l ∧ PtV N H u p ∧
  ∀ H' L ys, Sx [] H H' → H L = none → H' L = some (.lst ys) → All2 (BpV N H') ys (pBelow l p) → Q (.ref L) H'
section
variable {w : World} {P : Program} {K : PySem.W.Frag} {mg : Str → Option Value} {base : Heap}
theorem ok_pbelow {f fL fH : Addr} {fd fdL fdH : FuncData} {k : Nat} (F_pparts_below : Fun K "parts_below" "parts_below" sPPartsBelow f fd) (F_ptighter_low : Fun K "tighter_low" "tighter_low" sPTighterLow fL fdL) (F_ptighter_high : Fun K "tighter_high" "tighter_high" sPTighterHigh fH fdH)
    (G_ptighter_low : FnOk P w K mg base CX0 1 fL fdL ["low", "other"] spTlo) (G_ptighter_high : FnOk P w K mg base CX0 1 fH fdH ["high", "other"] spThi)
    (b_ptighter_low : Binds K fdL ["low", "other"] []) (b_ptighter_high : Binds K fdH ["high", "other"] []) (m_ptighter_low : mg "tighter_low" = some (.ref fL)) (m_ptighter_high : mg "tighter_high" = some (.ref fH)) :
    FnOk P w K mg base CX0 (k + 2) f fd ["line", "part"] spBelow := by
  refine F_pparts_below.ok scPPartsBelow (fun vs H Q E h => ?_) (fun cdv A outer s H vs Q E hr h => ?_)
  · obtain ⟨_, _, _, _, _, rfl, _⟩ := h
    rfl
  · obtain ⟨N, v, u, l, p, rfl, hN, t, hB, hp, q⟩ := h
    obtain ⟨a, rfl, ha⟩ := tpLn t
    obtain ⟨b, R, rfl, hb, hR, nR⟩ := id hp
    refine ⟨_, (pss_cons (ps_asg (pv 1) (pg_tup rfl (pgs_cons (pg_name (i := 2) scPPartsBelow.nd rfl (by first | exact Or.inl rfl | exact Or.inr rfl)) (pgs_cons (pg_name (i := 3) scPPartsBelow.nd rfl (by first | exact Or.inl rfl | exact Or.inr rfl)) (pgs_cons (pg_name (i := 4) scPPartsBelow.nd rfl (by first | exact Or.inl rfl | exact Or.inr rfl)) pgs_nil)))))
      (pss_cons (ps_asg (pv 0) (pg_tup rfl (pgs_cons (pg_name (i := 5) scPPartsBelow.nd rfl (by first | exact Or.inl rfl | exact Or.inr rfl)) (pgs_cons (pg_name (i := 6) scPPartsBelow.nd rfl (by first | exact Or.inl rfl | exact Or.inr rfl)) pgs_nil))))
      (pss_cons (ps_if (pt_cmpR op_eq (pv 5) pe_int (nomark _)) (pss_one (ps_ret (pe_lst (pa_cons (pe_tup (pa_cons (pe_cmpR op_lt (pv 6) pe_int (nomark _)) (pa_cons (pv 1) pa_nil))) pa_nil)))) pss_nil)
      (C8.pss_cut (ps_set (i := 7) scPPartsBelow.nd rfl (by first | exact Or.inl rfl | exact Or.inr rfl) (pe_ifExp (pt_cmpR op_gt (pv 5) pe_int (nomark _)) (pe_op op_fdivW (pe_op op_sub (pe_un un_neg (pv 6)) pe_int) (pv 5)) (pe_op op_fdivW (pv 6) (pe_un un_neg (pv 5)))))
      (pss_cons (ps_set (i := 8) scPPartsBelow.nd rfl (by first | exact Or.inl rfl | exact Or.inr rfl) (pe_lst pa_nil))
      (C8.pss_cut (ps_if (PW.pt (pw_or (pt_cmpR op_isN (pv 3) pe_non (nomark _)) (pw_or1 (pt_cmpR op_le (pv 3) (pv 7) (nomark _))))) (pss_one (ps_expr (pe_bm PySem.F.plainAttrs_list PySem.F.slot_list_append PySem.F.type_list_append mt_append (pv 8) (pa_cons (pe_tup (pa_cons (pe_cmpR op_gt (pv 5) pe_int (nomark _)) (pa_cons (pe_tup (pa_cons (pv 2) (pa_cons (pv 3) (pa_cons (pe_call G_ptighter_high (hr.mono (by omega)) (by rfl) m_ptighter_high F_ptighter_high.kp b_ptighter_high .nil pass0 (pa_cons (pv 4) (pa_cons (pv 7) pa_nil))) pa_nil)))) pa_nil))) pa_nil)))) pss_nil)
      (C8.pss_cut (ps_if (PW.pt (pw_or (pt_cmpR op_isN (pv 4) pe_non (nomark _)) (pw_or1 (pt_cmpR op_lt (pv 7) (pv 4) (nomark _))))) (pss_one (ps_expr (pe_bm PySem.F.plainAttrs_list PySem.F.slot_list_append PySem.F.type_list_append mt_append (pv 8) (pa_cons (pe_tup (pa_cons (pe_cmpR op_lt (pv 5) pe_int (nomark _)) (pa_cons (pe_tup (pa_cons (pv 2) (pa_cons (pe_call G_ptighter_low (hr.mono (by omega)) (by rfl) m_ptighter_low F_ptighter_low.kp b_ptighter_low .nil pass0 (pa_cons (pv 3) (pa_cons (pe_op op_add (pv 7) pe_int) pa_nil))) (pa_cons (pv 4) pa_nil)))) pa_nil))) pa_nil)))) pss_nil)
      (pss_one (ps_ret (pv 8)))))))))), ?_⟩
    refine ⟨_, rfl, b, _, rfl, SqT.of hb, rfl, _, _, rfl, gnm ⟨_, _, rfl, gnm ⟨_, _, rfl, gnm ⟨rfl, ?_⟩⟩⟩⟩
    refine ⟨_, rfl, a, _, rfl, SqT.of ha, rfl, _, _, rfl, gnm ⟨_, _, rfl, gnm ⟨rfl, ?_⟩⟩⟩
    refine (⟨_, rfl, rfl, _, rfl, ?_⟩)
    by_cases c0 : l.1 = 0
    · refine iteP (decide_eq_true (congrArg V.int c0)) ⟨_, rfl, _, _, rfl, rfl, _, rfl, by show 2 ≤ sizeLine; decide, fun x hx => ⟨by show 1 ≤ sizeLine; decide, fun L hL => ?_⟩⟩
      have s1 := Sx.n0 (o := .tup [.bl (decide (l.2 < 0)), .ref b]) hx
      have s2 := Sx.n0 (o := .lst [.ref x]) hL
      refine q _ L _ (s1.trans s2) (s1.free (by simp) hL) upd_same ?_
      rw [pBelow, if_pos c0]
      exact .cons ⟨x, _, rfl, s2 _ _ (by simp) upd_same, hp.keep (s1.trans s2).kl⟩ .nil
    refine iteN (fun e => c0 (V.int.inj (of_decide_eq_true e))) ?_
    refine ⟨fun σ' H' => σ' = [some (.ref a), some (.ref b), some (.ref R), some (oV p.lo), some (oV p.hi), some (.int l.1), some (.int l.2), some (.int (pLast l)), none] ∧ H = H', ?_, ?_⟩
    · refine ⟨_, rfl, _, _, rfl, rfl, _, rfl, ?_⟩
      have lg : l.1.natAbs.log2 < 9000 := lB_log (Nat.le_refl _) hB.1
      by_cases c1 : l.1 > 0
      · refine iteP (decide_eq_true c1) ⟨_, rfl, _, rfl, _, _, rfl, rfl, _, rfl, _, _, rfl, rfl, ⟨by omega, lg⟩, gnm ⟨?_, rfl⟩⟩
        rw [pLast, if_pos c1]
        rfl
      · refine iteN (fun e => c1 (of_decide_eq_true e)) ⟨_, rfl, _, rfl, _, rfl, _, _, rfl, rfl, ⟨by omega, by rw [Int.natAbs_neg]; exact lg⟩, gnm ⟨?_, rfl⟩⟩
        rw [pLast, if_neg c1]
        rfl
    · rintro _ _ ⟨rfl, rfl⟩
      refine ⟨by show 0 ≤ sizeLine; decide, fun F hF => gnm ?_⟩
      have s0 := Sx.n0 (o := .lst []) hF
      have nFN := hN.nin hF
      have hp0 : PtV (F :: N) (upd H F (.lst [])) (.ref b) p := (hp.more hF).keep s0.kl
      have pt : ∀ {H' : Hp}, Sx [] H H' → H' R = some (.lst (p.rs.map V.int)) ∧ R ∉ F :: N := fun {H'} sx => ⟨sx _ _ (by simp) hR, fun z => (List.mem_cons.1 z).elim (fun e => by rw [e, hF] at hR; cases hR) nR⟩
      refine ⟨fun σ' H' => ∃ ys, σ' = [some (.ref a), some (.ref b), some (.ref R), some (oV p.lo), some (oV p.hi), some (.int l.1), some (.int l.2), some (.int (pLast l)), some (.ref F)] ∧ Sx [] H H' ∧ H' F = some (.lst ys) ∧ ys.length ≤ 1 ∧ All2 (BpV (F :: N) H') ys (if loLe p.lo (pLast l) = true then [(decide (l.1 > 0), ⟨p.rs, p.lo, thi p.hi (some (pLast l))⟩)] else []), ?_, ?_⟩
      · refine orLe rfl rfl ?_
        by_cases c : loLe p.lo (pLast l) = true
        · refine iteP c ?_
          refine ⟨_, rfl, .inl ⟨rfl, _, SqL.of upd_same⟩, _, rfl, _, _, rfl, rfl, _, rfl, _, rfl, _, rfl, _, rfl, p.hi, some (pLast l), rfl, by show 3 ≤ sizeLine; decide, fun x hx => ⟨by show 2 ≤ sizeLine; decide, fun y hy => ?_⟩⟩
          have s1 := Sx.n0 (o := .tup [.ref R, oV p.lo, oV (thi p.hi (some (pLast l)))]) hx
          have s2 := Sx.n0 (o := .tup [.bl (decide (l.1 > 0)), .ref x]) hy
          have sx := (s0.trans s1).trans s2
          have eF := s2 _ _ (by simp) (s1 _ _ (by simp) upd_same)
          have k : Kl (F :: N) _ _ := Kl.own (zs := [] ++ [.ref y]) eF (List.mem_cons_self ..)
          refine ⟨F, [], _, rfl, rfl, eF, by decide, _, rfl, sx.own hF, upd_same, Nat.le_refl _, ?_⟩
          rw [if_pos c]
          exact .cons ⟨y, _, rfl, k.t _ _ upd_same, x, R, rfl, k.t _ _ (s2 _ _ (by simp) upd_same), k.l _ _ (pt sx).2 (pt sx).1, (pt sx).2⟩ .nil
        · exact iteN c ⟨[], rfl, s0, upd_same, by decide, by rw [if_neg c]; exact .nil⟩
      · rintro _ H1 ⟨ys, rfl, sA, eA, lA, aA⟩
        refine ⟨fun σ' H' => ∃ ys, σ' = [some (.ref a), some (.ref b), some (.ref R), some (oV p.lo), some (oV p.hi), some (.int l.1), some (.int l.2), some (.int (pLast l)), some (.ref F)] ∧ Sx [] H H' ∧ H' F = some (.lst ys) ∧ All2 (BpV (F :: N) H') ys (pBelow l p), ?_, ?_⟩
        · refine orLt rfl rfl ?_
          by_cases c : hiGt p.hi (pLast l) = true
          · refine iteP c ?_
            refine ⟨_, rfl, .inl ⟨rfl, _, SqL.of eA⟩, _, rfl, _, _, rfl, rfl, _, rfl, _, rfl, _, rfl, _, _, rfl, rfl, p.lo, some (pLast l + 1), rfl, _, rfl, by show 3 ≤ sizeLine; decide, fun x hx => ⟨by show 2 ≤ sizeLine; decide, fun y hy => ?_⟩⟩
            have s1 := Sx.n0 (o := .tup [.ref R, oV (tlo p.lo (some (pLast l + 1))), oV p.hi]) hx
            have s2 := Sx.n0 (o := .tup [.bl (decide (l.1 < 0)), .ref x]) hy
            have sx := (sA.trans s1).trans s2
            have eF := s2 _ _ (by simp) (s1 _ _ (by simp) eA)
            have k : Kl (F :: N) _ _ := Kl.own (zs := ys ++ [.ref y]) eF (List.mem_cons_self ..)
            refine ⟨F, ys, _, rfl, rfl, eF, lt_line (by omega), _, rfl, sx.own hF, upd_same, ?_⟩
            rw [pBelow, if_neg c0]
            refine All2.app (aA.imp fun x z h => h.keep (((s1.trans s2).kl).trans k)) ?_
            rw [if_pos c]
            exact .cons ⟨y, _, rfl, k.t _ _ upd_same, x, R, rfl, k.t _ _ (s2 _ _ (by simp) upd_same), k.l _ _ (pt sx).2 (pt sx).1, (pt sx).2⟩ .nil
          · refine iteN c ⟨ys, rfl, sA, eA, ?_⟩
            rw [pBelow, if_neg c0, if_neg c, List.append_nil]
            exact aA
        · rintro _ H2 ⟨ys, rfl, sA, eA, aA⟩
          exact ⟨_, rfl, q H2 F ys sA hF eA (aA.imp fun x z h => h.anti)⟩
end
theorem ix_tupK {X : Cx} {K : PySem.W.Frag} (h : X.K = K) : IxR X (rIxT K) := h ▸ ix_tup
def spBy (ns : List Str) (d : Nat) : Sp := fun vs H Q _ => ∃ (N : List Addr) (v u : V) (D : Addr) (t : Ts) (σ : Str → Ln) (k : Nat) (p : Pt), vs = [v, .ref D, u] ∧ Own N H ∧ Tp H v t.d ∧ t.ok ns (d - 1) ∧ 1 ≤ d ∧ EnL H D σ ∧ (∀ z, LnB (lB k) (σ z)) ∧ k ≤ 90 ∧ PtV N H u p ∧ p.rs.length ≤ 1000 ∧ (∀ r ∈ p.rs, 0 ≤ r ∧ r ≤ 1000) ∧
  ∀ H' L ys, Sx [] H H' → H L = none → H' L = some (.lst ys) → All2 (BpV N H') ys (pBy σ t p) → Q (.ref L) H'
theorem Ex.ok_up {ns : List Str} : ∀ {e : Ex} {n m : Nat}, e.ok ns n → n ≤ m → e.ok ns m
  | .int _, _, _, ⟨h1, h⟩, l => ⟨by omega, h⟩
  | .name _, _, _, ⟨h1, h⟩, l => ⟨by omega, h⟩
  | .plus _ _, _, _, ⟨h1, h2, h3⟩, l => ⟨by omega, Ex.ok_up h2 (by omega), Ex.ok_up h3 (by omega)⟩
  | .minus _ _, _, _, ⟨h1, h2, h3⟩, l => ⟨by omega, Ex.ok_up h2 (by omega), Ex.ok_up h3 (by omega)⟩
  | .times _ _, _, _, ⟨h1, h2, h3, h4⟩, l => ⟨by omega, h2, h3, Ex.ok_up h4 (by omega)⟩
abbrev rtest (l : Ln) (b r : Int) (tr : Bool) : Int → Bool := fun z => decide (decide ((l.1 * z + l.2) % b = r) = tr)
theorem rtest_v {l : Ln} {b r z : Int} {tr : Bool} : decide (V.bl (decide (V.int ((l.1 * z + l.2) % b) = V.int r)) = V.bl tr) = rtest l b r tr z := by simp [rtest]
def rItem (l : Ln) (b r : Int) (p : Pt) (tr : Bool) : List (Bool × Pt) := if (p.rs.filter (rtest l b r tr)) = [] then [] else [(tr, ⟨p.rs.filter (rtest l b r tr), p.lo, p.hi⟩)]
theorem pRest_eq (l : Ln) (b r : Int) (p : Pt) : pRest l b r p = [true, false].flatMap (rItem l b r p) := rfl
theorem take_fm {α β : Type} {l : List α} {j : Nat} {x : α} (f : α → List β) (h : l[j]? = some x) : (l.take (j + 1)).flatMap f = (l.take j).flatMap f ++ f x := by
  rw [List.take_add_one, h, List.flatMap_append]
  simp
theorem pBelow_len' (l : Ln) (p : Pt) : (pBelow l p).length ≤ 2 := pBelow_len l p
section
variable {w : World} {P : Program} {K : PySem.W.Frag} {mg : Str → Option Value} {base : Heap}
theorem ok_pby {f fB fL : Addr} {fd fdB fdL : FuncData} {ns : List Str} (F_pparts_by : Fun K "parts_by" "parts_by" sPPartsBy f fd) (F_pparts_below : Fun K "parts_below" "parts_below" sPPartsBelow fB fdB) (F_pline_of : Fun K "line_of" "line_of" sPLineOf fL fdL)
    (G_pparts_below : FnOk P w K mg base CX0 2 fB fdB ["line", "part"] spBelow) (G_pline_of : FnOk P w K mg base CX0 6 fL fdL ["expression", "lines"] (spLine ns 4))
    (b_pparts_by : Binds K fd ["test", "lines", "part"] []) (b_pparts_below : Binds K fdB ["line", "part"] []) (b_pline_of : Binds K fdL ["expression", "lines"] []) (m_pparts_by : mg "parts_by" = some (.ref f)) (m_pparts_below : mg "parts_below" = some (.ref fB)) (m_pline_of : mg "line_of" = some (.ref fL)) :
    ∀ d : Nat, FnOk P w K mg base CX0 (d + 7) f fd ["test", "lines", "part"] (spBy ns d) := by
  intro d
  induction d with
  | zero => exact ⟨fun vs H Q E h => by obtain ⟨_, _, _, _, _, _, _, _, rfl, _⟩ := h; rfl, fun _ _ _ _ _ _ _ _ _ _ _ _ _ h => by
      obtain ⟨_, _, _, _, _, _, _, _, _, _, _, _, h, _⟩ := h
      omega⟩
  | succ d G_pparts_by =>
    refine F_pparts_by.ok scPPartsBy (fun vs H Q E h => ?_) (fun cdv A outer s H vs Q E hr h => ?_)
    · obtain ⟨_, _, _, _, _, _, _, _, rfl, _⟩ := h
      rfl
    · obtain ⟨N, v, u, D, t, σ, k, p, rfl, hN, tt, ho, _, hE, hB, hk, hp, pl, pr, q⟩ := h
      refine ⟨_, (pss_cons (ps_if (pt_cmpR op_eq (pe_ix (ix_tupK (K := K) rfl) (pv 0) pe_int (fun _ _ => rfl)) pe_str (nomark _)) (pss_one (ps_ret (pe_lc (own := [("truth", 9), ("inner", 11)]) (g := gTup K 2 (gCons (gName 9) (gCons (gName 11) gNil))) (tt := tYes) rfl scPPartsBy.nd (pi_list (pe_call G_pparts_by (hr.mono (by omega)) (by rfl) m_pparts_by F_pparts_by.kp b_pparts_by .nil pass0 (pa_cons (pe_ix (ix_tupK (K := K) rfl) (pv 0) pe_int (fun _ _ => rfl)) (pa_cons (pv 1) (pa_cons (pv 2) pa_nil))))) (blkOk_by (N := nPPartsBy) (sc := defScope sPPartsBy) (by decide +kernel)) (fun _ _ _ _ _ => (pg_tup rfl (pgs_cons (pg_name (i := 9) scPPartsBy.nd rfl (by first | exact Or.inl rfl | exact Or.inr rfl)) (pgs_cons (pg_name (i := 11) scPPartsBy.nd rfl (by first | exact Or.inl rfl | exact Or.inr rfl)) pgs_nil)))) (fun _ _ _ _ _ => pts_nil) (fun _ _ _ _ _ => (pe_tup (pa_cons (pe_not (pv 9)) (pa_cons (pv 11) pa_nil))))))) pss_nil)
      (pss_cons (ps_if (pt_cmpR op_eq (pe_ix (ix_tupK (K := K) rfl) (pv 0) pe_int (fun _ _ => rfl)) pe_str (nomark _)) (pss_one (ps_ret (pe_call G_pparts_below (hr.mono (by omega)) (by rfl) m_pparts_below F_pparts_below.kp b_pparts_below .nil pass0 (pa_cons (pe_call G_pline_of (hr.mono (by omega)) (by rfl) m_pline_of F_pline_of.kp b_pline_of .nil pass0 (pa_cons (pe_tup (pa_cons pe_str (pa_cons (pe_ix (ix_tupK (K := K) rfl) (pv 0) pe_int (fun _ _ => rfl)) (pa_cons (pe_ix (ix_tupK (K := K) rfl) (pv 0) pe_int (fun _ _ => rfl)) pa_nil)))) (pa_cons (pv 1) pa_nil))) (pa_cons (pv 2) pa_nil))))) pss_nil)
      (pss_cons (ps_asg (pv 2) (pg_tup rfl (pgs_cons (pg_name (i := 3) scPPartsBy.nd rfl (by first | exact Or.inl rfl | exact Or.inr rfl)) (pgs_cons (pg_name (i := 4) scPPartsBy.nd rfl (by first | exact Or.inl rfl | exact Or.inr rfl)) (pgs_cons (pg_name (i := 5) scPPartsBy.nd rfl (by first | exact Or.inl rfl | exact Or.inr rfl)) pgs_nil)))))
      (pss_cons (ps_asg (pe_call G_pline_of (hr.mono (by omega)) (by rfl) m_pline_of F_pline_of.kp b_pline_of .nil pass0 (pa_cons (pe_ix (ix_tupK (K := K) rfl) (pv 0) pe_int (fun _ _ => rfl)) (pa_cons (pv 1) pa_nil))) (pg_tup rfl (pgs_cons (pg_name (i := 6) scPPartsBy.nd rfl (by first | exact Or.inl rfl | exact Or.inr rfl)) (pgs_cons (pg_name (i := 7) scPPartsBy.nd rfl (by first | exact Or.inl rfl | exact Or.inr rfl)) pgs_nil))))
      (pss_cons (ps_set (i := 8) scPPartsBy.nd rfl (by first | exact Or.inl rfl | exact Or.inr rfl) (pe_lst pa_nil))
      (C8.pss_cut (ps_for PassesOwn.never rfl (pi_tup (pe_tup (pa_cons pe_bl (pa_cons pe_bl pa_nil)))) (pg_name (i := 9) scPPartsBy.nd rfl (by first | exact Or.inl rfl | exact Or.inr rfl)) (pss_cons (ps_setLc (i := 10) (own := [("rest", 12)]) (g := gName 12) (tt := _) rfl scPPartsBy.nd rfl rfl (sw_true rfl rfl rfl (by decide +kernel)) (pi_list (pv 3)) (blkOk_by (N := nPPartsBy) (sc := defScope sPPartsBy) (by decide +kernel)) (fun _ _ _ _ _ => (pg_name (i := 12) scPPartsBy.nd rfl (by first | exact Or.inl rfl | exact Or.inr rfl))) (fun _ _ _ _ _ => pts_one (pt_cmpR op_eq (pe_cmpR op_eq (pe_op op_mod (pe_op op_add (pe_op op_mul (pv 6) (pv 12)) (pv 7)) (pe_ix (ix_tupK (K := K) rfl) (pv 0) pe_int (fun _ _ => rfl))) (pe_ix (ix_tupK (K := K) rfl) (pv 0) pe_int (fun _ _ => rfl)) (nomark _)) (pv 9) (nomark _))) (fun _ _ _ _ _ => (pv 12)))
      (pss_one (ps_if (pt_truth (pv 10) (fun _ => rfl)) (pss_one (ps_expr (pe_bm PySem.F.plainAttrs_list PySem.F.slot_list_append PySem.F.type_list_append mt_append (pv 8) (pa_cons (pe_tup (pa_cons (pv 9) (pa_cons (pe_tup (pa_cons (pv 10) (pa_cons (pv 4) (pa_cons (pv 5) pa_nil)))) pa_nil))) pa_nil)))) pss_nil))))
      (pss_one (ps_ret (pv 8))))))))), ?_⟩
      obtain ⟨a, xs, rfl, ha⟩ := Ts.at_ tt
      refine ⟨_, rfl, a, _, _, .str t.hd, rfl, rfl, SqT.of ha, at0 _ _, rfl, _, rfl, ?_⟩
      cases t with
      | not t =>
        obtain ⟨a2, p1, p2, ea, hA, t1, t2⟩ := tp2 tt
        cases ea
        refine iteP (by simp only [Ts.hd]; decide +kernel) ?_
        refine ⟨_, rfl, a, _, _, p2, rfl, rfl, SqT.of hA, rfl, _, rfl, _, rfl, N, p2, u, D, t, σ, k, p, rfl, hN, t2, ho.2, ho.1, hE, hB, hk, hp, pl, pr, fun H1 L ys s1 nL eL aL => ?_⟩
        have al : (pBy σ (.not t) p) = (pBy σ t p).map fun x => (!x.1, x.2) := rfl
        refine ⟨L, rfl, ⟨ys, SqL.of eL⟩, fun Z hZ => lc_list (xs := ys) (fun j H' => Sx [] H1 H' ∧ ∃ vals, H' Z = some (.lst vals) ∧ vals.length = j ∧ All2 (BpV (Z :: N) H') vals ((pBy σ (.not t) p).take j)) ⟨Sx.n0 hZ, [], upd_same, rfl, .nil⟩ (fun j H' _ p => SqL.of (p.1 _ _ (by simp) eL)) (fun j y H' hj p => ?_) (fun H' p => ?_)⟩
        · obtain ⟨sA, vals, eZ, vlen, av⟩ := p
          obtain ⟨x, hx, ai⟩ := aL.get hj
          have jl : j < 2 := by
            have h1 := (List.getElem?_eq_some_iff.mp hx).1
            have := pBy_len σ t p
            omega
          obtain ⟨ai1, ai2, eai, hai, pai⟩ := ai
          subst eai
          have hai' := sA _ _ (by simp) hai
          refine ⟨ai1, _, rfl, SqT.of hai', rfl, _, _, rfl, gnm ⟨_, _, rfl, gnm ⟨rfl, rfl, ?_⟩⟩⟩
          refine ⟨_, rfl, x.1, rfl, _, rfl, by show 2 ≤ sizeLine; decide, fun w hw => ?_⟩
          have s2 := Sx.n0 (o := .tup [.bl (!x.1), ai2]) hw
          have eZ2 := s2 _ _ (by simp) eZ
          have kz : Kl (Z :: N) _ _ := Kl.own (zs := vals ++ [.ref w]) eZ2 (List.mem_cons_self ..)
          refine ⟨vals, eZ2, lt_line (by omega), (sA.trans s2).own hZ, _, upd_same, by rw [List.length_append, vlen]; rfl, ?_⟩
          rw [List.take_add_one, al, List.getElem?_map, hx]
          refine (av.imp fun x z h => h.keep (s2.kl.trans kz)).snoc ⟨w, ai2, rfl, kz.t _ _ upd_same, ((pai.more hZ).keep (sA.kl.trans s2.kl)).keep kz⟩
        · obtain ⟨sA, vals, eZ, vlen, av⟩ := p
          refine q H' Z vals (s1.trans sA) (s1.free (by simp) hZ) eZ ?_
          rw [List.take_of_length_le (by rw [al, List.length_map, ← aL.len]; exact Nat.le_refl _)] at av
          exact av.imp fun x z h => h.anti
      | rest x b r =>
        obtain ⟨a2, p1, p2, p3, p4, ea, hA, t1, t2, t3, t4⟩ := tp4 tt
        cases ea
        obtain rfl := tpI t3
        obtain rfl := tpI t4
        refine iteN (sne (show (("rest" : Str) == "not") = false by decide +kernel)) ⟨_, rfl, a, _, _, .str "rest", rfl, rfl, SqT.of ha, at0 _ _, rfl, _, rfl, iteN (sne (show (("rest" : Str) == "less") = false by decide +kernel)) ?_⟩
        obtain ⟨c, R, rfl, hc, hR, nR⟩ := id hp
        refine ⟨_, rfl, c, _, rfl, SqT.of hc, rfl, _, _, rfl, gnm ⟨_, _, rfl, gnm ⟨_, _, rfl, gnm ⟨rfl, ?_⟩⟩⟩⟩
        refine ⟨_, rfl, a, _, _, p2, rfl, rfl, SqT.of hA, rfl, _, rfl, p2, D, x, σ, rfl, t2, Ex.ok_up ho.1 (by decide), hE, fun H1 r1 s1 u1 => ?_⟩
        obtain ⟨b1, rfl, hb1⟩ := tpLn u1
        refine ⟨b1, _, rfl, SqT.of hb1, rfl, _, _, rfl, gnm ⟨_, _, rfl, gnm ⟨rfl, ?_⟩⟩⟩
        refine ⟨by show 0 ≤ sizeLine; decide, fun F hF => gnm ?_⟩
        have s2 : Sx [] H (upd H1 F (.lst [])) := s1.trans (Sx.n0 hF)
        have hFH : H F = none := s1.free (by simp) hF
        have RF : R ≠ F := fun e => by rw [e, hFH] at hR; cases hR
        have nRF : R ∉ F :: N := fun z => (List.mem_cons.1 z).elim RF nR
        refine ⟨fun σ' H' => ∃ o9 o10 o11 o12 ys, σ' = [some (.ref a), some (.ref D), some (.ref c), some (.ref R), some (oV p.lo), some (oV p.hi), some (.int (x.ln σ).1), some (.int (x.ln σ).2), some (.ref F), o9, o10, o11, o12] ∧ Sx [] H H' ∧ H' F = some (.lst ys) ∧ All2 (BpV (F :: N) H') ys (pRest (x.ln σ) b r p), ?_, ?_⟩
        · refine ⟨by show 2 ≤ sizeLine; decide, fun T hT => ?_⟩
          have s3 := s2.trans (Sx.n0 (o := .tup [.bl true, .bl false]) hT)
          have eT : (upd (upd H1 F (.lst [])) T (.tup [.bl true, .bl false])) T = some (.tup [.bl true, .bl false]) := upd_same
          have eF3 : (upd (upd H1 F (.lst [])) T (.tup [.bl true, .bl false])) F = some (.lst []) := Sx.n0 hT _ _ (by simp) upd_same
          generalize upd (upd H1 F (.lst [])) T (.tup [.bl true, .bl false]) = H3 at s3 eT eF3 ⊢
          refine ⟨T, rfl, ⟨_, SqT.of eT⟩, for_tup (xs := [.bl true, .bl false]) (fun j σ' H' => ∃ o9 o10 o11 o12 ys, σ' = [some (.ref a), some (.ref D), some (.ref c), some (.ref R), some (oV p.lo), some (oV p.hi), some (.int (x.ln σ).1), some (.int (x.ln σ).2), some (.ref F), o9, o10, o11, o12] ∧ Sx [] H H' ∧ Tk H3 H' ∧ H' F = some (.lst ys) ∧ ys.length ≤ j ∧ All2 (BpV (F :: N) H') ys (([true, false].take j).flatMap (rItem (x.ln σ) b r p)))
            ⟨_, _, _, _, [], rfl, s3, Tk.refl _, eF3, Nat.le_refl _, .nil⟩ (fun j σ' H' _ z => by obtain ⟨_, _, _, _, _, _, _, z, _⟩ := z; exact SqT.of (z _ _ eT)) (fun j y σ' H4 hj z => ?_) (fun σ' H' z => ?_)⟩
          · obtain ⟨o9, o10, o11, o12, ys, rfl, s4, k4, eF4, l4, a4⟩ := z
            obtain ⟨tr, rfl, htr⟩ : ∃ tr, y = .bl tr ∧ [true, false][j]? = some tr := by
              match j, hj with
              | 0, hj => cases hj; exact ⟨true, rfl, rfl⟩
              | 1, hj => cases hj; exact ⟨false, rfl, rfl⟩
              | j + 2, hj => simp at hj
            refine gnm ?_
            have eR4 := s4 _ _ (by simp) hR
            refine ⟨_, rfl, R, rfl, ⟨_, SqL.of eR4⟩, fun Z hZ => lc_list (xs := p.rs.map V.int) (fun i H' => Sx [] H4 H' ∧ H' Z = some (.lst (((p.rs.take i).filter (rtest (x.ln σ) b r tr)).map V.int))) ⟨Sx.n0 hZ, upd_same⟩ (fun i H' _ z => SqL.of (z.1 _ _ (by simp) eR4)) (fun i y H5 hi z => ?_) (fun H5 z => ?_)⟩
            · obtain ⟨s5, eZ5⟩ := z
              rw [List.getElem?_map] at hi
              obtain ⟨rr, hrr, rfl⟩ := Option.map_eq_some_iff.mp hi
              have rb := pr rr (List.mem_of_getElem? hrr)
              have il := (List.getElem?_eq_some_iff.mp hrr).1
              have hA5 := s5 _ _ (by simp) (s4 _ _ (by simp) hA)
              have b2 : 2 ≤ b ∧ b ≤ 6 := ⟨ho.2.1, ho.2.2.1⟩
              refine gnm ⟨rfl, ?_⟩
              refine ⟨_, rfl, _, rfl, _, _, rfl, rfl, .inr ⟨by omega, by omega⟩, _, rfl, _, _, rfl, rfl, _, rfl, a, _, _, _, rfl, rfl, SqT.of hA5, rfl, _, _, rfl, rfl, by omega, _, rfl, a, _, _, _, rfl, rfl, SqT.of hA5, rfl, rfl, _, rfl, rfl, _, rfl, ?_⟩
              have tk : (p.rs.take (i + 1)).filter (rtest (x.ln σ) b r tr) = (p.rs.take i).filter (rtest (x.ln σ) b r tr) ++ if rtest (x.ln σ) b r tr rr = true then [rr] else [] := by
                rw [List.take_add_one, hrr, List.filter_append]
                congr 1
                show List.filter _ [rr] = _
                rw [List.filter_cons, List.filter_nil]
              cases ct : rtest (x.ln σ) b r tr rr with
              | true =>
                refine iteP (rtest_v.trans ct) ⟨_, rfl, _, eZ5, lt_line ?_, s5.own hZ, ?_⟩
                · rw [List.length_map]
                  have := List.length_filter_le (rtest (x.ln σ) b r tr) (p.rs.take i)
                  rw [List.length_take] at this
                  omega
                · rw [upd_same, tk, if_pos ct, List.map_append]
                  rfl
              | false =>
                refine iteN (fun e => by rw [rtest_v.symm.trans e] at ct; cases ct) ⟨s5, ?_⟩
                rw [tk, if_neg (by rw [ct]; simp), List.append_nil]
                exact eZ5
            · obtain ⟨s5, eZ5⟩ := z
              rw [List.length_map, List.take_length] at eZ5
              have eF5 := s5 _ _ (by simp) eF4
              have eR5 := s5 _ _ (by simp) eR4
              have sx5 := s4.trans s5
              have ZF : Z ≠ F := fun e => by rw [e, eF4] at hZ; cases hZ
              have nZ : Z ∉ F :: N := fun z => (List.mem_cons.1 z).elim ZF (hN.nin (s4.free (by simp) hZ))
              have tf := take_fm (rItem (x.ln σ) b r p) htr
              refine ⟨_, rfl, !((p.rs.filter (rtest (x.ln σ) b r tr)).map V.int).isEmpty, .inl ⟨_, SqL.of eZ5, rfl⟩, ?_⟩
              have a5 := a4.imp fun y z h => h.keep (s5.kl (N := F :: N))
              by_cases ce : p.rs.filter (rtest (x.ln σ) b r tr) = []
              · refine iteN (by rw [ce]; decide) ⟨_, _, _, _, ys, rfl, sx5, k4.trans s5.tk0, eF5, by omega, ?_⟩
                rw [tf, rItem, if_pos ce, List.append_nil]
                exact a5
              · have ne : (!((p.rs.filter (rtest (x.ln σ) b r tr)).map V.int).isEmpty) = true := by
                  cases he : p.rs.filter (rtest (x.ln σ) b r tr) with
                  | nil => exact absurd he ce
                  | cons _ _ => rfl
                refine iteP ne ?_
                refine ⟨_, rfl, .inl ⟨rfl, _, SqL.of eF5⟩, _, rfl, _, rfl, _, rfl, _, rfl, by show 3 ≤ sizeLine; decide, fun u hu => ⟨by show 2 ≤ sizeLine; decide, fun w' hw => ?_⟩⟩
                have s6 := Sx.n0 (o := .tup [.ref Z, oV p.lo, oV p.hi]) hu
                have s7 := Sx.n0 (o := .tup [.bl tr, .ref u]) hw
                have eF7 := s7 _ _ (by simp) (s6 _ _ (by simp) eF5)
                have kk : Kl (F :: N) _ _ := Kl.own (zs := ys ++ [.ref w']) eF7 (List.mem_cons_self ..)
                refine ⟨F, ys, _, rfl, rfl, eF7, lt_line (by have := (List.getElem?_eq_some_iff.mp htr).1; simp at this; omega), _, _, _, _, _, rfl, ((sx5.trans s6).trans s7).own hFH, ((k4.trans s5.tk0).trans (s6.tk0.trans s7.tk0)).trans kk.t, upd_same, by rw [List.length_append]; show ys.length + 1 ≤ _; omega, ?_⟩
                rw [tf, rItem, if_neg ce]
                refine (a5.imp fun y z h => h.keep ((s6.kl.trans s7.kl).trans kk)).snoc ⟨w', .ref u, rfl, kk.t _ _ upd_same, u, Z, rfl, kk.t _ _ (s7 _ _ (by simp) upd_same), kk.l _ _ nZ ((s6.trans s7) _ _ (by simp) eZ5), nZ⟩
          · obtain ⟨o9, o10, o11, o12, ys, rfl, s4, k4, eF4, l4, a4⟩ := z
            exact ⟨_, _, _, _, ys, rfl, s4, eF4, by rw [pRest_eq]; exact a4⟩
        · rintro _ H4 ⟨o9, o10, o11, o12, ys, rfl, s4, eF4, a4⟩
          exact ⟨_, rfl, q H4 F ys s4 hFH eF4 (a4.imp fun x z h => h.anti)⟩
      | less x y =>
        obtain ⟨a2, p1, p2, p3, ea, hA, t1, t2, t3⟩ := tp3 tt
        cases ea
        refine iteN (sne (show (("less" : Str) == "not") = false by decide +kernel)) ⟨_, rfl, a, _, _, .str "less", rfl, rfl, SqT.of ha, at0 _ _, rfl, _, rfl, iteP (by decide +kernel) ?_⟩
        refine ⟨_, rfl, a, _, _, p2, rfl, rfl, SqT.of hA, rfl, _, rfl, a, _, _, p3, rfl, rfl, SqT.of hA, rfl, by show 3 ≤ sizeLine; decide, fun m hm => ?_⟩
        have s0 := Sx.n0 (o := .tup [.str "minus", p2, p3]) hm
        refine ⟨_, rfl, .ref m, D, .minus x y, σ, rfl, .tup upd_same (.cons (.str _) (.cons (t2.new hm) (.cons (t3.new hm) .nil))), ⟨by decide, ho.1, ho.2⟩, hE.sx s0, fun H1 r1 s1 u1 => ?_⟩
        have bd : LnB (lB 100) ((Ex.minus x y).ln σ) := by
          refine (Ex.ln_bd (ns := ns) (B := lB k) (by have := lB_pos k; omega) hB (.minus x y) 4 ⟨by decide, ho.1, ho.2⟩).mono (Nat.le_trans ?_ (lB_mono (show k + 2 ≤ 100 by omega)))
          rw [lB_succ, lB_succ, show (9 : Nat) ^ 4 = 6561 by decide]
          omega
        exact ⟨_, rfl, N, r1, u, _, p, rfl, (hN.sx s0).sx s1, u1, bd, hp.keep ((s0.trans s1).kl), fun H2 L ys s2 nL eL aL => q H2 L ys ((s0.trans s1).trans s2) ((s0.trans s1).free (by simp) nL) eL aL⟩
end
/-! ### {**d, k: v} -/
section
variable {P : Program} {w : World} {κ : Type} [DecidableEq κ] {knd : KeyKind P w κ} {A : Around} {E : Value → Shared → Prop} {s : Shared}
theorem put_pairs {d : Addr} {kvs : List (κ × Value)} {k : κ} {key v : Value} {Q : Unit → Shared → Prop} (hkey : knd.is k key = true) (hm : s.heap.DictOf knd d kvs) (hQ : ∀ h', h'.DictOf knd d (stored kvs k v) → Heap.SameBut d s.heap h' → Q () { s with heap := h' })
    (hsz : kvs.length ≤ sizeLine) : wpAny (model P w) A (dictPut d (knd.hash k) key v) Q E s := by
  rcases hm with ⟨o, es, ep, ho, hc, hd, hk, hp, hn⟩
  have hes : (es.size ≤ sizeLine) := by
    have e1 := hp.length
    have e2 : es.toList.length = es.size := by simp
    omega
  unfold dictPut
  refine (wpAny_bind (wpAny_dictFind_of hkey ho hd hk ?_))
  have hidx : ((es.findIdx? fun e => knd.is k e.key) = kvs.findIdx? fun kv => decide (kv.1 = k)) := by
    rw [← hp.findIdx k]
    obtain ⟨l⟩ := es
    simp
  cases hi : (es.findIdx? fun e => knd.is k e.key) with
  | some i =>
    have a1 := any_of_findIdx_some (hidx ▸ hi)
    refine wpAny_updateDict ho hd (hQ _ ⟨_, _, ep, Heap.get?_update_self _ ho (Obj.isFreed_of_dict (Obj.data_mapDict hd _)), hc.mapDict _, Obj.data_mapDict hd _, hk.modify _ _, ?_, ?_⟩ (Heap.SameBut.update ..))
    · rw [stored, if_pos a1]
      have hl : (es.toList.findIdx? fun e => knd.is k e.key) = some i := by
        rw [← hi]
        obtain ⟨l⟩ := es
        simp
      have := hp.modify hn hl v
      obtain ⟨l⟩ := es
      simpa using this
    · rw [stored, if_pos a1, keys_map_store]
      exact hn
  | none =>
    have hnot : (k ∉ kvs.map (·.1)) := not_mem_of_findIdx_none (hidx ▸ hi)
    have hany : ¬ (kvs.any fun kv => decide (kv.1 = k)) = true := fun z => by
      obtain ⟨kv, hkv, he⟩ := List.any_eq_true.mp z
      exact (hnot (List.mem_map.mpr ⟨kv, hkv, of_decide_eq_true he⟩))
    refine wpAny_updateDictKeys (hz := hes) ho hd (hQ _ ⟨_, _, ep + 1, Heap.get?_update_self _ ho (Obj.isFreed_of_dict (Obj.data_mapDictKeys hd _)), hc.mapDictKeys _, Obj.data_mapDictKeys hd _, hk.push hkey _, ?_, ?_⟩ (Heap.SameBut.update ..))
    · rw [stored, if_neg hany]
      have := (hp.append hkey (knd.hash k) v)
      obtain ⟨l⟩ := es
      simpa using this
    · rw [stored, if_neg hany, List.map_append]
      refine List.nodup_append.mpr ⟨hn, by simp, fun a ha b hb => ?_⟩
      have hb : b = k := by simpa using hb
      rw [hb]
      exact fun e => hnot (e ▸ ha)
theorem merge_plain {d o : Addr} {kvs more : List (κ × Value)} {Q : Unit → Shared → Prop} (hdo : d ≠ o) (hoS : (o == sysModules) = false) (hd : s.heap.DictOf knd d kvs) (ho : s.heap.DictOf knd o more)
    (hQ : ∀ h', h'.DictOf knd d (merged kvs more) → h'.DictOf knd o more → Heap.SameBut d s.heap h' → Q () { s with heap := h' }) (hsz : kvs.length + more.length ≤ sizeLine) : wpAny (model P w) A (mergeMapping d (.ref o) false) Q E s := by
  rcases id hd with ⟨od, esd, epd, hod, hcd, hdd, hkd, hpd, hnd⟩
  rcases id ho with ⟨oo, eso, epo, hoo, hco, hdo', hko, hpo, hno⟩
  have hT := ho.typeIs
  unfold mergeMapping
  refine wpAny_bind (wpAny_isInstance (T := "dict") (U := "dict") (b := true) hT (by kernel_rfl) ?_)
  dsimp only
  rw [if_pos rfl]
  refine wpAny_bind (wpAny_specialOf hT (r := some (.builtin "dict.__iter__")) (by kernel_rfl) ?_)
  rw [show ((some (Value.builtin "dict.__iter__") == some (Value.builtin "dict.__iter__")) : Bool) = true by decide +kernel]
  refine (wpAny_bind (wpAny_pure ?_))
  dsimp only
  rw [(if_neg (by rw [hoS]; exact Bool.false_ne_true))]
  refine (wpAny_bind (wpAny_dictEntries hod hdd ?_))
  have hlen : (more.length = eso.size) := by rw [← hpo.length]; simp
  have noref : ∀ e ∈ eso.toList, ∀ a, e.key ≠ .ref a := fun e he a z => by
    obtain ⟨k, hk, _⟩ := hko e (by simpa using he)
    have := knd.byValue k e.key hk
    rw [z] at this
    cases this
  have loop : wpAny (model P w) A (do
      let l ← dictEntries o
      let epoch ← dictEpoch o
      forIn (List.range l.size) PUnit.unit fun i (_ : PUnit) => (do
          let l' ← dictEntries o
          match l'[i]? with
            | some e => do
              holding [e.key, e.val] (dictPut d e.hash e.key e.val)
              let ep' ← dictEpoch o
              if ((ep' != epoch) = true) then do
                  (unsupported "dict.changed-during-merge" : Sem PUnit)
                  pure ((ForInStep.yield PUnit.unit))
                else pure ((ForInStep.yield PUnit.unit))
            | _ => do
              (unsupported "dict.changed-during-merge" : Sem PUnit)
              pure (ForInStep.yield (PUnit.unit)) : Sem (ForInStep PUnit))
      pure ()) Q E s := by
    refine wpAny_bind (wpAny_dictEntries hoo hdo' (wpAny_bind (wpAny_dictEpoch hoo hdo' (wpAny_bind ?_))))
    refine wpAny_forIn_list _ (fun rest _ s' => ∃ h' i, s' = { s with heap := h' } ∧ rest = (List.range eso.size).drop i ∧ i ≤ eso.size ∧ h'.DictOf knd d (merged kvs (more.take i)) ∧ h'.get? o = some oo ∧ Heap.SameBut d s.heap h') _ ?_ ?_ _ _ ⟨s.heap, 0, rfl, rfl, Nat.zero_le _, by simpa [merged] using hd, hoo, Heap.SameBut.refl _ _⟩
    · rintro x rest b s' (⟨h', i, rfl, hr, hi, hd', hoo', hs'⟩)
      have hlt : i < eso.size := by
        by_cases c : i < eso.size
        · exact c
        · rw [List.drop_of_length_le (by rw [List.length_range]; omega)] at hr; cases hr
      rw [List.drop_eq_getElem_cons (by rw [List.length_range]; exact hlt), List.getElem_range] at hr
      injection hr with hx hrest
      subst hx
      refine (wpAny_bind (wpAny_dictEntries hoo' hdo' ?_))
      rw [(Array.getElem?_eq_getElem hlt)]
      rcases ⟨more[x]'(by rw [hlen]; exact hlt), List.getElem?_eq_getElem _⟩ with ⟨kv, hkv⟩ : ∃ kv, more[x]? = some kv
      obtain ⟨k, v⟩ := kv
      rcases hpo.get? (e := eso[x]) (by simp [hlt]) hkv with ⟨hkey, hval⟩
      rcases hko eso[x] (Array.getElem_mem hlt) with ⟨k', hkey', hhash⟩
      have eqv : (k' = k) := knd.inj _ _ _ hkey' hkey; subst eqv
      show wpAny _ _ (holding [eso[x].key, eso[x].val] (dictPut d eso[x].hash eso[x].key eso[x].val) >>= _) _ _ _
      rw [hhash, hval]
      have hmx : ((merged kvs (more.take x)).length ≤ sizeLine) := by
        have e1 := (merged_length_le kvs (more.take x))
        rw [List.length_take] at e1
        omega
      refine wpAny_bind (wpAny_holding (put_pairs hkey hd' (fun h2 hd2 hs2 => ?_) hmx))
      have ho2 : h2.get? o = some oo := (hs2.2 o (Ne.symm hdo)).trans hoo'
      refine wpAny_bind (wpAny_dictEpoch ho2 hdo' ?_)
      rw [if_neg (by simp)]
      exact wpAny_pure ⟨h2, x + 1, rfl, hrest, hlt, by rw [merged_take_succ kvs more x (k', v) hkv]; exact hd2, ho2, hs'.trans hs2⟩
    · rintro b s' (⟨h', i, rfl, hr, hi, hd', hoo', hs'⟩)
      have hi2 : eso.size ≤ i := by
        by_cases c : i < eso.size
        · rw [List.drop_eq_getElem_cons (by rw [List.length_range]; exact c)] at hr; cases hr
        · omega
      rw [List.take_of_length_le (by omega)] at hd'
      exact wpAny_pure (hQ h' hd' ⟨oo, eso, epo, hoo', hco, hdo', hko, hpo, hno⟩ hs')
  by_cases hem : esd.isEmpty = true
  · rw [if_pos hem]
    refine wpAny_bind (wpAny_dictEntries hoo hdo' (wpAny_bind ?_))
    rw [← Array.forIn_toList]
    refine wpAny_forIn_list _ (fun rest _ s' => s' = s ∧ ∀ e ∈ rest, e ∈ eso.toList) _ ?_ ?_ _ _ ⟨rfl, fun e he => he⟩
    · rintro e rest b s' ⟨rfl, hr⟩
      have hn := noref e (hr e (List.mem_cons_self ..))
      split
      · rename_i a ha
        exact absurd ha (hn a)
      · exact wpAny_pure ⟨rfl, fun x hx => hr x (List.mem_cons_of_mem _ hx)⟩
    · rintro b s' ⟨rfl, _⟩
      exact loop
  · rw [if_neg hem]
    exact loop
end
section
variable {P : Program} {w : World} {κ : Type} [DecidableEq κ] {knd : KeyKind P w κ} {A : Around} {E : Value → Shared → Prop} {s : Shared}
theorem wp_display_un {D K V : Sem Value} {Q : Value → Shared → Prop}
    (hD : wpAny (model P w) A D (fun m s1 => ∃ (o : Addr) (more : List (κ × Value)), m = .ref o ∧ s.heap.objs.size ≠ o ∧ (o == sysModules) = false ∧ s1.heap.DictOf knd s.heap.objs.size [] ∧ s1.heap.DictOf knd o more ∧ more.length ≤ sizeLine ∧
      ∀ h2, h2.DictOf knd s.heap.objs.size (merged [] more) → Heap.SameBut s.heap.objs.size s1.heap h2 → wpAny (model P w) A (subDict [(K, V)]) (fun sub s3 => ∃ kvs more2, s.heap.objs.size ≠ sub ∧ (sub == sysModules) = false ∧ s3.heap.DictOf knd s.heap.objs.size kvs ∧ s3.heap.DictOf knd sub more2 ∧ kvs.length + more2.length ≤ sizeLine ∧
        ∀ h4, h4.DictOf knd s.heap.objs.size (merged kvs more2) → Heap.SameBut s.heap.objs.size s3.heap h4 → Q (.ref s.heap.objs.size) { s3 with heap := h4 }) E { s1 with heap := h2 }) E { s with heap := s.heap.push { cls := .type "dict", data := .dict #[] } }) :
    wpAny (model P w) A (dictDisplay [(none, D), (some K, V)]) Q E s := by
  unfold dictDisplay
  simp only [List.forIn_cons, List.forIn_nil, List.isEmpty_nil, if_true, pure_bind, bind_assoc, List.nil_append, List.length_singleton]
  refine (wpAny_bind (wpAny_alloc ?_))
  refine wpAny_bind (wpAny_holding (wpAny_mono hD (fun m s1 h => ?_) fun _ _ e => e))
  obtain ⟨o, more, rfl, n1, hS, hd, ho, hz, q⟩ := h
  refine wpAny_bind (wpAny_onRaise (wpAny_tryCatch (wpAny_onRaise (wpAny_holding (merge_plain n1 hS hd ho (fun h2 hd2 _ hs2 => ?_) (by rw [List.length_nil]; omega))))))
  rw [if_neg (by decide)]
  refine (wpAny_bind (wpAny_pure ?_))
  dsimp only
  refine (wpAny_bind (wpAny_pure ?_))
  dsimp only
  rw [if_neg (by simp)]
  refine wpAny_bind (wpAny_bind (wpAny_holding (wpAny_mono (q h2 hd2 hs2) (fun sub s3 h => ?_) fun _ _ e => e)))
  obtain ⟨kvs, more2, n2, hS2, hd3, ho3, hz3, q3⟩ := h
  refine wpAny_bind (wpAny_onRaise (wpAny_holding (merge_plain n2 hS2 hd3 ho3 (fun h4 hd4 _ hs4 => ?_) hz3)))
  exact wpAny_pure (wpAny_pure (q3 h4 hd4 hs4))
end
/-- {**d, k: v} -/
def tDunp (td tk tv : TE) : TE := fun σ H Q => ∀ p, H p = none → td σ (upd H p (.dK [])) fun x H1 => ∃ (a : Addr) (kvs : List (Key × V)), x = .ref a ∧ H1 a = some (.dK kvs) ∧ H1 p = some (.dK []) ∧ a ≠ p ∧ kvs.length < 1000 ∧
  ∀ q, (upd H1 p (.dK kvs)) q = none → tk σ (upd (upd H1 p (.dK kvs)) q (.dK [])) fun y H2 => tv σ H2 fun z H3 => ∃ key, y = kV key ∧ H3 p = some (.dK kvs) ∧ H3 q = some (.dK []) ∧ p ≠ q ∧ Q (.ref p) (upd (upd H3 q (.dK [(key, z)])) p (.dK (putK kvs key z)))
theorem pe_dunp {X : Cx} {d k v : Expr} {td tk tv : TE} {pos : Pos} (hd : PE X d td) (hk : PE X k tk) (hv : PE X v tv) : PE X (.Dict [none, some k] [d, v] pos) (tDunp td tk tv) := by
  refine (⟨fun pins s σ H Q I q => ?_⟩)
  have hn := (I.hok.fresh (Nat.le_refl s.heap.objs.size))
  have big := I.big
  have I1 := I.laid (a := s.heap.objs.size) (o := .dK []) (h' := s.heap.push { cls := .type "dict", data := .dict #[] }) (t' := s.toks) (fun _ _ q => Heap.get?_push_of_some _ q) (Nat.le_refl _) (dk_empty s.heap big)
  rw [arm_eval_Dict]
  refine (wpAny_bind (wpAny_standAt ?_))
  show wpAny _ _ (dictDisplay [(none, do let x ← eval d X.env; standAt pos; pure x), (some (eval k X.env), do let x ← eval v X.env; standAt pos; pure x)]) _ _ _
  refine wp_display_un (knd := mixKind X.prog X.w) (wpAny_bind (thn (hd.run pins _ σ _ _ I1 (q _ hn)) fun m s1 hh => wpAny_bind (wpAny_standAt (wpAny_pure ?_))))
  obtain ⟨x, H1, J1, r1, a, kvs, rfl, ea, ep, nap, hl, q2⟩ := hh
  obtain rfl : m = Value.ref a := r1
  obtain ⟨z0, hd0, vs0, r0, dd0⟩ := dk_of J1.hok ep
  obtain ⟨za, hda, vsa, ra, dda⟩ := dk_of J1.hok ea
  cases r0
  have hnd : (vsa.map (·.1)).Nodup := by obtain ⟨_, _, _, _, _, _, _, _, hn⟩ := dda; exact hn
  refine ⟨a, vsa, rfl, fun e => nap e.symm, hda, dd0, dda, by rw [← ra.length]; omega, fun h2 dd2 hs2 => ?_⟩
  rw [merged_nil_of_nodup vsa hnd] at dd2
  have J2 : Inv X pins σ (upd H1 s.heap.objs.size (.dK kvs)) { s1 with heap := h2 } := d_write (t' := s1.toks) J1 (by rw [ep]; exact True.intro) hs2 (let ⟨q, _, _, hq, _⟩ := dd2; ⟨q, hq⟩) (dk_new (by omega) hd0 ra dd2)
  have hn2 := J2.hok.fresh (Nat.le_refl h2.objs.size)
  have J3 := J2.laid (a := h2.objs.size) (o := .dK []) (h' := h2.push { cls := .type "dict", data := .dict #[] }) (t' := s1.toks) (fun _ _ q => Heap.get?_push_of_some _ q) (Nat.le_refl _) (dk_empty h2 J2.big)
  refine wpAny_subDict (knd := mixKind X.prog X.w) (by show 1 ≤ 15; decide) (evalPairs_cons (thn (hk.run pins _ σ _ _ J3 (q2 _ hn2)) fun kv s2 hh => wpAny_bind ?_))
  obtain ⟨y, H2, J4, ry, q3⟩ := hh
  refine thn (hv.run pins _ σ _ _ J4 q3) fun vv s3 hh => wpAny_bind (wpAny_standAt (wpAny_pure (evalPairs_nil ?_)))
  obtain ⟨z, H3, J5, rz, key, rfl, ep3, eq3, npq, q4⟩ := hh
  obtain ⟨zq, hdq, vsq, rq, ddq⟩ := dk_of J5.hok eq3
  cases rq
  obtain ⟨zp, hdp, vsp, rp, ddp⟩ := dk_of J5.hok ep3
  refine ⟨[(key, vv)], ⟨kV_is ry, rfl, True.intro⟩, ddq, fun h4 dd4 hs4 => ?_⟩
  have hk1 : merged ([] : List (Key × Value)) [(key, vv)] = [(key, vv)] := rfl
  rw [hk1] at dd4
  have J6 : Inv X pins σ (upd H3 h2.objs.size (.dK [(key, z)])) { s3 with heap := h4, toks := s3.toks + 1 } := d_write (t' := s3.toks + 1) J5 (by rw [eq3]; exact True.intro) hs4 (let ⟨q, _, _, hq, _⟩ := dd4; ⟨q, hq⟩) (dk_new (show 1 ≤ sizeLine by decide) hdq (.cons ⟨rfl, rz⟩ .nil) dd4)
  have ddp4 : h4.DictOf (mixKind X.prog X.w) s.heap.objs.size vsp := ddp.sameBut hs4 npq
  refine ⟨vsp, [(key, vv)], npq, hdq, ddp4, dd4, ?_, fun h5 dd5 hs5 => ?_⟩
  · have := rp.length
    have : (1000 : Nat) ≤ sizeLine := by decide
    show vsp.length + 1 ≤ sizeLine
    omega
  · have ep6 : (upd H3 h2.objs.size (.dK [(key, z)])) s.heap.objs.size = some (.dK kvs) := by rw [upd_ne npq]; exact ep3
    have dd6 : h5.DictOf (mixKind X.prog X.w) s.heap.objs.size (stored vsp key vv) := dd5
    refine ⟨.ref s.heap.objs.size, _, d_write (t' := s3.toks + 1) J6 (by rw [ep6]; exact True.intro) hs5 (let ⟨q, _, _, hq, _⟩ := dd6; ⟨q, hq⟩) (dk_new ?_ hdp (rp.put key rz) dd6), rfl, q4⟩
    have : (1001 : Nat) ≤ sizeLine := by decide
    have := length_putK kvs key z
    omega
/-! ### a tuple so many times -/
theorem tuple_mul1 (l : Addr) (items : Array Value) (n : Nat) (dd : Option Addr) (sl : Array (Option Value)) (u : Tok) (c1 : items.isEmpty = false) :
    Meets (Builtin.«tuple.__mul__» ⟨[.ref l, .int 1 u], []⟩) (fun _ R s => s.heap.get? l = some { cls := .type "tuple", dict := dd, data := .seq items n, slots := sl } ∧
      R (.ok (.ret (Value.ref l))) s) :=
  .of_wp fun pr w A R s h => by
    rcases s with ⟨hp, g, d, tk, os⟩
    obtain ⟨hl, h⟩ := h
    have f1 := AutoSeq1.idx_int
    (wp_walk using wpAny_loadPart' hl)
    repeat (first
      | (refine wpAny_ite_false (decide_eq_false (by decide)) ?_; wp_walk using wpAny_loadPart' hl)
      | (refine wpAny_ite_true (decide_eq_true (by rw [c1]; rfl)) ?_; wp_walk using wpAny_loadPart' hl))
    exact ⟨_, rfl, h⟩
theorem tuple_mul0 (l : Addr) (items : Array Value) (n : Nat) (dd : Option Addr) (sl : Array (Option Value)) (x : Int) (tx : Tok) (c0 : (decide (x < -(2 ^ 63)) || decide (x ≥ 2 ^ 63)) = false) (c1 : (items.isEmpty || x == 1) = false) (c2 : (decide (x ≤ 0) || items.isEmpty) = true) :
    Meets (Builtin.«tuple.__mul__» ⟨[.ref l, .int x tx], []⟩) (fun _ R s => s.heap.get? l = some { cls := .type "tuple", dict := dd, data := .seq items n, slots := sl } ∧
      R (.ok (.ret (Value.ref s.heap.objs.size))) { s with heap := s.heap.push { cls := Value.type "tuple", data := Data.seq #[] }, toks := s.toks }) :=
  .of_wp fun pr w0 A0 R0 s0 h0 => by
    obtain ⟨hp, g, d, tk, os⟩ := s0
    obtain ⟨ht, h⟩ := h0
    have f1 := AutoSeq1.idx_int
    (wp_walk using AutoSeq1.wpAny_loadPart' ht)
    repeat (first
      | (refine wpAny_ite_false (decide_eq_false (by rw [c0]; exact Bool.false_ne_true)) ?_; wp_walk using AutoSeq1.wpAny_loadPart' ht)
      | (refine wpAny_ite_false (decide_eq_false (by rw [c1]; exact Bool.false_ne_true)) ?_; wp_walk using AutoSeq1.wpAny_loadPart' ht)
      | (refine wpAny_ite_true (decide_eq_true c2) ?_; wp_walk using AutoSeq1.wpAny_loadPart' ht))
    exact ⟨_, rfl, h⟩
def rRepW (K : PySem.W.Frag) : R2 := fun x y H Q => ∃ l k xs, x = .ref l ∧ y = .int k ∧ SqT K H l xs ∧ xs ≠ [] ∧ 0 ≤ k ∧ k ≤ 10000 ∧ xs.length ≤ 1000 ∧ (k = 1 → Q (.ref l) H) ∧ (k ≠ 1 → ∀ p, H p = none → Q (.ref p) (upd H p (.tup (List.replicate k.toNat xs).flatten)))
section
variable {X : Cx}
theorem op_repW : OpR X (binaryOp .Mult) (rRepW X.K) := by
  intro pins s σ H x0 y0 v u Q I rx ry h
  obtain ⟨l, k, xs, rfl, rfl, hT, hne, h1, h2, hz, q1, q⟩ := h
  cases rx
  obtain ⟨t, rfl⟩ := ry
  rcases I.tuple hT with ⟨its, r, ⟨⟨cls, dd, data, sl⟩, ho, hc, n, hd⟩, hs⟩
  simp only at hc hd
  subst hc hd
  have hle : (its.length = xs.length) := r.length.symm
  have hn : (its ≠ []) := fun e => hne (by
    exact List.eq_nil_of_length_eq_zero (e ▸ hle).symm)
  have hi : (its.toArray.isEmpty = false) := by
    cases its with
    | nil => exact absurd rfl hn
    | cons a b => rfl
  have hsz0 : (its.toArray.size = xs.length) := by rw [List.size_toArray, hle]
  by_cases hk : k = 1
  · subst hk
    exact wpAny_binaryOp_repeat_ref (U := "int") (T := "tuple") (by decide) ⟨_, ho, rfl⟩ (fun s' => typeIs_int s' 1 t) noFill_tuple_mul F.fills_int_mul F.slot_int_rmul repeat_tuple F.slot_int_index.lookup
      (call_meets F.slot_int_rmul (typeIs_int s 1 t) F.entry_int_rmul (F.args_int_rmul_2 _ _) (int_rmul_tuple 1 t l its.toArray n dd sl)
        ⟨ho, rfl, ⟨_, ho, rfl⟩, call_meets F.slot_tuple_mul ⟨_, ho, rfl⟩ F.entry_tuple_mul (F.args_tuple_mul_2 _ _) (tuple_mul1 l its.toArray n dd sl t hi) ⟨ho, .ref l, H, I, rfl, q1 rfl⟩⟩)
  have q := q hk
  have c0 : ((decide (k < -(2 ^ 63)) || decide (k ≥ 2 ^ 63)) = false) := by
    (rw [decide_eq_false (by omega), decide_eq_false (by omega)]; rfl)
  have c1 : ((its.toArray.isEmpty || k == 1) = false) := by
    rw [hi, Bool.false_or]
    exact (beq_eq_false_iff_ne.mpr (by omega))
  by_cases hk0 : k = 0
  · subst hk0
    refine wpAny_binaryOp_repeat_ref (U := "int") (T := "tuple") (by decide) ⟨_, ho, rfl⟩ (fun s' => typeIs_int s' 0 t) noFill_tuple_mul F.fills_int_mul F.slot_int_rmul repeat_tuple F.slot_int_index.lookup
      (call_meets F.slot_int_rmul (typeIs_int s 0 t) F.entry_int_rmul (F.args_int_rmul_2 _ _) (int_rmul_tuple 0 t l its.toArray n dd sl)
        ⟨ho, rfl, ⟨_, ho, rfl⟩, call_meets F.slot_tuple_mul ⟨_, ho, rfl⟩ F.entry_tuple_mul (F.args_tuple_mul_2 _ _) (tuple_mul0 l its.toArray n dd sl 0 t c0 c1 (by rw [hi]; rfl)) ⟨ho, ?_⟩⟩)
    exact ⟨.ref s.heap.objs.size, _, I.laid (t' := s.toks) (o := .tup []) (fun b ob q => Heap.get?_push_of_some _ q) (Nat.le_refl _) ⟨by show 0 ≤ sizeLine; decide, [], .nil, IsTup.new _ _⟩, rfl, q _ (I.hok.fresh (Nat.le_refl _))⟩
  have hm : ((its.toArray.size : Nat) : Int) * k ≤ 10000000 := by
    rw [hsz0]
    have a1 : (((xs.length : Nat) : Int) * k ≤ 1000 * k) := Int.mul_le_mul_of_nonneg_right (by omega) (by omega)
    omega
  have flen : ((List.replicate k.toNat its).flatten.length ≤ sizeLine) := by
    rw [PyProof.Rows.lm_len_rep_flat]; rw [hle, sizeLine_eq]
    have a1 : k.toNat * xs.length ≤ 10000 * 1000 := Nat.mul_le_mul (by omega) hz
    omega
  have c2 : ((decide (k ≤ 0) || its.toArray.isEmpty) = false) := by
    rw [hi, Bool.or_false]
    exact (decide_eq_false (by omega))
  have c4 : (Builtin.Tuple.tupleTooMany (((its.toArray.size : Nat) : Int) * k) = false) := by
    rw [Builtin.Tuple.tupleTooMany, sizeLine_eq]
    exact (decide_eq_false (by omega))
  refine wpAny_binaryOp_repeat_ref (U := "int") (T := "tuple") (by decide) ⟨_, ho, rfl⟩ (fun s' => typeIs_int s' k t) noFill_tuple_mul F.fills_int_mul F.slot_int_rmul repeat_tuple F.slot_int_index.lookup
    (call_meets F.slot_int_rmul (typeIs_int s k t) F.entry_int_rmul (F.args_int_rmul_2 _ _) (int_rmul_tuple k t l its.toArray n dd sl) ⟨ho, rfl, ⟨_, ho, rfl⟩,
      call_meets F.slot_tuple_mul ⟨_, ho, rfl⟩ F.entry_tuple_mul (F.args_tuple_mul_2 _ _) (tuple_mulW l its.toArray n dd sl k t c0 c1 c2 (by omega) c4 (by rw [size_rep, List.size_toArray]; exact flen)) ⟨ho, ?_⟩⟩)
  rw [size_rep]
  refine (⟨.ref s.heap.objs.size, _, I.laid (t' := s.toks) (o := .tup (List.replicate k.toNat xs).flatten) (fun b ob q => Heap.get?_push_of_some _ q) (Nat.le_refl _) ?_, rfl, q _ (I.hok.fresh (Nat.le_refl _))⟩)
  exact ⟨by rw [PyProof.Rows.lm_len_rep_flat, sizeLine_eq]; have a1 : k.toNat * xs.length ≤ 10000 * 1000 := Nat.mul_le_mul (by omega) hz; omega, _, r.rep k.toNat, IsTup.new _ _⟩
end
theorem rep_tp {K : PySem.W.Frag} {H : Hp} {l : Addr} {x : V} {d : PyData} {m : Int} {Q : VK} (h : H l = some (.tup [x])) (t : Tp H x d) (h1 : 0 ≤ m) (h2 : m ≤ 10000)
    (q : ∀ H' z, Sx [] H H' → Tp H' z (.tuple (List.replicate m.toNat d)) → Q z H') : rRepW K (.ref l) (.int m) H Q := by
  refine ⟨l, m, [x], rfl, rfl, SqT.of h, by simp, h1, h2, by show 1 ≤ 1000; decide, fun e => ?_, fun _ p hp => ?_⟩
  · subst e
    exact q H _ (Sx.refl _) (.tup h (.cons t .nil))
  · have fl : ∀ n : Nat, (List.replicate n [x]).flatten = List.replicate n x := fun n => by
      induction n with
      | zero => rfl
      | succ n ih => rw [List.replicate_succ, List.flatten_cons, ih]; rfl
    have tr : ∀ n : Nat, TpAll H (List.replicate n x) (List.replicate n d) := fun n => by
      induction n with
      | zero => exact .nil
      | succ n ih => exact .cons t ih
    rw [fl]
    exact q _ _ (Sx.n0 hp) (.tup upd_same ((tr _).new hp))
/-! ### an empty tuple so many times is itself -/
theorem tuple_mulE (l : Addr) (items : Array Value) (n : Nat) (dd : Option Addr) (sl : Array (Option Value)) (x : Int) (tx : Tok) (c0 : (decide (x < -(2 ^ 63)) || decide (x ≥ 2 ^ 63)) = false) (c1 : items.isEmpty = true) :
    Meets (Builtin.«tuple.__mul__» ⟨[.ref l, .int x tx], []⟩) (fun _ R s => s.heap.get? l = some { cls := .type "tuple", dict := dd, data := .seq items n, slots := sl } ∧ R (.ok (.ret (Value.ref l))) s) :=
  .of_wp fun pr w A R s h => by
    rcases s with ⟨hp, g, d, tk, os⟩
    obtain ⟨hl, h⟩ := h
    have f1 := AutoSeq1.idx_int
    (wp_walk using wpAny_loadPart' hl)
    repeat (first
      | (refine wpAny_ite_false (decide_eq_false (by rw [c0]; decide)) ?_; wp_walk using wpAny_loadPart' hl)
      | (refine wpAny_ite_true (decide_eq_true (by rw [c1]; rfl)) ?_; wp_walk using wpAny_loadPart' hl))
    exact ⟨_, rfl, h⟩
def rRepA (K : PySem.W.Frag) : R2 := fun x y H Q => rRepW K x y H Q ∨ ∃ l k, x = .ref l ∧ y = .int k ∧ SqT K H l [] ∧ 0 ≤ k ∧ k ≤ 10000 ∧ Q (.ref l) H
theorem op_repA {X : Cx} : OpR X (binaryOp .Mult) (rRepA X.K) := by
  intro pins s σ H x0 y0 v u Q I rx ry h
  rcases h with h | ⟨l, k, rfl, rfl, hT, h1, h2, q⟩
  · exact op_repW pins s σ H x0 y0 v u Q I rx ry h
  · cases rx
    obtain ⟨tq, rfl⟩ := ry
    rcases I.tuple hT with ⟨its, r, ⟨⟨cls, dd, data, sl⟩, ho, hc, n, hd⟩, hs⟩
    simp only at hc hd
    subst hc hd
    have hle : its.length = 0 := r.length.symm
    have hi : its.toArray.isEmpty = true := by
      rw [List.eq_nil_of_length_eq_zero hle]; rfl
    have c0 : ((decide (k < -(2 ^ 63)) || decide (k ≥ 2 ^ 63)) = false) := by
      (rw [decide_eq_false (by omega), decide_eq_false (by omega)]; rfl)
    exact wpAny_binaryOp_repeat_ref (U := "int") (T := "tuple") (by decide) ⟨_, ho, rfl⟩ (fun s' => typeIs_int s' k tq) noFill_tuple_mul F.fills_int_mul F.slot_int_rmul repeat_tuple F.slot_int_index.lookup
      (call_meets F.slot_int_rmul (typeIs_int s k tq) F.entry_int_rmul (F.args_int_rmul_2 _ _) (int_rmul_tuple k tq l its.toArray n dd sl)
        ⟨ho, rfl, ⟨_, ho, rfl⟩, call_meets F.slot_tuple_mul ⟨_, ho, rfl⟩ F.entry_tuple_mul (F.args_tuple_mul_2 _ _) (tuple_mulE l its.toArray n dd sl k tq c0 hi) ⟨ho, .ref l, H, I, rfl, q⟩⟩)
theorem repT {H : Hp} {xs : List V} {ds : List PyData} (h : TpAll H xs ds) : ∀ n : Nat, TpAll H (List.replicate n xs).flatten (List.replicate n ds).flatten
  | 0 => .nil
  | n + 1 => by
    simp only [List.replicate_succ, List.flatten_cons]
    exact h.append (repT h n)
theorem rep_any {K : PySem.W.Frag} {H : Hp} {v : V} {ds : List PyData} {m : Int} {Q : VK} (h : Tp H v (.tuple ds)) (hl : ds.length ≤ 1000) (h1 : 0 ≤ m) (h2 : m ≤ 10000)
    (q : ∀ H' z, Sx [] H H' → Tp H' z (.tuple (List.replicate m.toNat ds).flatten) → Q z H') : rRepA K v (.int m) H Q := by
  obtain ⟨a, xs, rfl, ha, hx⟩ := h.tuple
  have xl := hx.len
  by_cases e : xs = []
  · subst e
    cases hx
    refine .inr ⟨a, m, rfl, rfl, SqT.of ha, h1, h2, q H _ (Sx.refl _) (.tup ha ?_)⟩
    have z := repT (H := H) (xs := []) (ds := []) .nil m.toNat
    have e0 : ∀ {α : Type} (n : Nat), (List.replicate n ([] : List α)).flatten = [] := fun n => by simp
    rw [e0]
    exact .nil
  · refine .inl ⟨a, m, xs, rfl, rfl, SqT.of ha, e, h1, h2, by omega, fun em => ?_, fun _ p hp => ?_⟩
    · subst em
      refine q H _ (Sx.refl _) (.tup ha ?_)
      have z := repT hx 1
      simpa using z
    · exact q _ _ (Sx.n0 hp) (.tup upd_same ((repT hx m.toNat).new hp))
abbrev sPEndsOf : Stmt := topS 9
abbrev nPEndsOf : List Str := ["block", "lines", "total", "part", "at", "statement", "found", "inner", "first"]
theorem scPEndsOf : FnScope nPEndsOf ["block", "lines", "total", "part"] (defScope sPEndsOf) := ⟨rfl, rfl, rfl, by decide +kernel, rfl, by decide +kernel, by decide +kernel⟩
/-! ### the ways of a statement, the ends of a program -/
theorem pt_truthK {X : Cx} {K : PySem.W.Frag} (h : X.K = K) {a : Expr} {ta : TE} (ha : PE X a ta) (hc : ∀ whole, isTrue a X.env whole = (do let v ← whole; standAt a.pos; holding [v] (truthy v))) :
    PT X a (fun σ H Q => ta σ H fun x H' => ∃ k, TruV K x H' k ∧ Q k H') := h ▸ pt_truth ha hc
def WyV (N : List Addr) (H : Hp) (v : V) (x : Pt × List St) : Prop := ∃ a u z, v = .ref a ∧ H a = some (.tup [u, z]) ∧ PtV N H u x.1 ∧ Tp H z (.tuple (x.2.map St.d))
theorem WyV.keep {N : List Addr} {H H' : Hp} {v : V} {x : Pt × List St} (h : WyV N H v x) (k : Kl N H H') : WyV N H' v x := by
  obtain ⟨a, u, z, e, h1, h2, h3⟩ := h
  exact ⟨a, u, z, e, k.t _ _ h1, h2.keep k, h3.keep k.t⟩
theorem WyV.anti {N : List Addr} {H : Hp} {v : V} {x : Pt × List St} {F : Addr} (h : WyV (F :: N) H v x) : WyV N H v x := by
  obtain ⟨a, u, z, e, h1, h2, h3⟩ := h
  exact ⟨a, u, z, e, h1, h2.anti, h3⟩
def ways (σ : Str → Ln) : St → Pt → List (Pt × List St)
  | .ite c y n, p => (pBy σ c p).map fun x => (x.2, if x.1 = true then y.lst else n.lst)
  | .rep k y, p => [(p, repS k y)]
  | _, _ => []
def St.cmp : St → Prop
  | .ite _ _ _ => True
  | .rep _ _ => True
  | _ => False
theorem ends_ways {s : St} (hc : s.cmp) (r : List St) (σ : Str → Ln) (t : Ln) (p : Pt) : ends (s :: r) σ t p = (ways σ s p).flatMap fun x => ends (x.2 ++ r) σ t x.1 := by
  cases s with
  | ite c y n => rw [ends, ways, List.flatMap_map]
  | rep k y => rw [ends, ways]; simp
  | _ => exact hc.elim
def PtOk (p : Pt) : Prop := p.rs.length ≤ 1000 ∧ ∀ r ∈ p.rs, 0 ≤ r ∧ r ≤ 1000
theorem repS_ds (k : Int) (y : Bk) : (repS k y).map St.d = (List.replicate k.toNat y.ds).flatten := by
  rw [repS, List.map_flatten, List.map_replicate, y.ds_lst]
/-- a tuple so many times, of any size -/
theorem rep_tpA {K : PySem.W.Frag} {H : Hp} {v : V} {ds : List PyData} {m : Int} {Q : VK} (h : Tp H v (.tuple ds)) (hl : ds.length ≤ 1000) (h1 : 0 ≤ m) (h2 : m ≤ 10000) (q : ∀ H' z, Sx [] H H' → Tp H' z (.tuple (List.replicate m.toNat ds).flatten) → Q z H') : rRepA K v (.int m) H Q := rep_any h hl h1 h2 q
theorem TpAll.dropN {H : Hp} : ∀ (n : Nat) {vs : List V} {ds : List PyData}, TpAll H vs ds → TpAll H (vs.drop n) (ds.drop n)
  | 0, _, _, h => h
  | _ + 1, _, _, .nil => .nil
  | n + 1, _, _, .cons _ b => TpAll.dropN n b
/-- what stands behind a place of a tuple -/
theorem sl_from {K : PySem.W.Frag} {H : Hp} {v : V} {ds : List PyData} {i : Nat} {j : Int} {Q : VK} (hj : j = (i : Nat)) (h : Tp H v (.tuple ds)) (q : ∀ H' z, Sx [] H H' → Tp H' z (.tuple (ds.drop i)) → Q z H') : rSlA K v (some j) none H Q := by
  subst hj
  obtain ⟨a, xs, rfl, ha, hx⟩ := h.tuple
  have xl := hx.len
  have e0 := HT.sIx_nat xs.length 0 i
  refine ⟨a, xs, rfl, SqT.of ha, fun e => ?_, fun _ p hp => ?_⟩
  · refine q H _ (Sx.refl _) (.tup ha ?_)
    rw [e0] at e
    by_cases c : i = 0
    · rw [c]; exact hx
    · have : xs.length = 0 := by omega
      have : xs = [] := List.length_eq_zero_iff.mp this
      subst this
      cases hx
      rw [List.drop_nil]
      exact .nil
  · refine q _ _ (Sx.n0 hp) (.tup upd_same ?_)
    unfold cutV
    rw [e0, HT.sIx_none, List.take_of_length_le (by rw [List.length_drop]; omega)]
    by_cases c : i ≤ xs.length
    · rw [Nat.min_eq_left c]; exact (TpAll.dropN i hx).new hp
    · rw [Nat.min_eq_right (by omega), List.drop_length, List.drop_of_length_le (by omega)]; exact .nil
theorem sl_from' {K : PySem.W.Frag} {H : Hp} {v : V} {σ : L2.St} {ds : List PyData} {i : Nat} {j : Int} {Q : VK} (hj : j = (i : Nat)) (h : Tp H v (.tuple ds)) (q : ∀ H' z, Sx [] H H' → Tp H' z (.tuple (ds.drop i)) → Q z H') : tNoPart σ H fun u H3 => rSlA K v (some j) u H3 Q := sl_from hj h q
def spWays (ns : List Str) : Sp := fun vs H Q _ => ∃ (N : List Addr) (v u : V) (D : Addr) (s : St) (σ : Str → Ln) (k : Nat) (p : Pt), vs = [v, .ref D, u] ∧ Own N H ∧ Tp H v s.d ∧ s.cmp ∧ (∃ d, s.ok ns d) ∧ s.sz ≤ 1000 ∧ EnL H D σ ∧ (∀ z, LnB (lB k) (σ z)) ∧ k ≤ 90 ∧ PtV N H u p ∧ PtOk p ∧
  ∀ H' L ys, Sx [] H H' → H L = none → H' L = some (.lst ys) → All2 (WyV N H') ys (ways σ s p) → Q (.ref L) H'
section
variable {w : World} {P : Program} {K : PySem.W.Frag} {mg : Str → Option Value} {base : Heap}
theorem ok_pways {f fB : Addr} {fd fdB : FuncData} {ns : List Str} (F_pways_of : Fun K "ways_of" "ways_of" sPWaysOf f fd) (F_pparts_by : Fun K "parts_by" "parts_by" sPPartsBy fB fdB) (G_pparts_by : FnOk P w K mg base CX0 10 fB fdB ["test", "lines", "part"] (spBy ns 3)) (b_pparts_by : Binds K fdB ["test", "lines", "part"] []) (m_pparts_by : mg "parts_by" = some (.ref fB)) :
    FnOk P w K mg base CX0 11 f fd ["statement", "lines", "part"] (spWays ns) := by
  refine F_pways_of.ok scPWaysOf (fun vs H Q E h => ?_) (fun cdv A outer s H vs Q E hr h => ?_)
  · obtain ⟨_, _, _, _, _, _, _, _, rfl, _⟩ := h
    rfl
  · obtain ⟨N, v, u, D, st, σ, k, p, rfl, hN, t, hc, ⟨d, ho⟩, hz, hE, hB, hk, hp, po, q⟩ := h
    refine ⟨_, (pss_cons (ps_if (pt_cmpR op_eq (pe_ix (ix_tupK (K := K) rfl) (pv 0) pe_int (fun _ _ => rfl)) pe_str (nomark _)) (pss_one (ps_ret (pe_lst (pa_cons (pe_tup (pa_cons (pv 2) (pa_cons (pe_op op_repA (pe_ix (ix_tupK (K := K) rfl) (pv 0) pe_int (fun _ _ => rfl)) (pe_ix (ix_tupK (K := K) rfl) (pv 0) pe_int (fun _ _ => rfl))) pa_nil))) pa_nil)))) pss_nil)
      (pss_one (ps_ret (pe_lc (own := [("truth", 3), ("inner", 4)]) (g := gTup K 2 (gCons (gName 3) (gCons (gName 4) gNil))) (tt := tYes) rfl scPWaysOf.nd (pi_list (pe_call G_pparts_by (hr.mono (by omega)) (by rfl) m_pparts_by F_pparts_by.kp b_pparts_by .nil pass0 (pa_cons (pe_ix (ix_tupK (K := K) rfl) (pv 0) pe_int (fun _ _ => rfl)) (pa_cons (pv 1) (pa_cons (pv 2) pa_nil))))) (blkOk_by (N := nPWaysOf) (sc := defScope sPWaysOf) (by decide +kernel)) (fun _ _ _ _ _ => (pg_tup rfl (pgs_cons (pg_name (i := 3) scPWaysOf.nd rfl (by first | exact Or.inl rfl | exact Or.inr rfl)) (pgs_cons (pg_name (i := 4) scPWaysOf.nd rfl (by first | exact Or.inl rfl | exact Or.inr rfl)) pgs_nil)))) (fun _ _ _ _ _ => pts_nil) (fun _ _ _ _ _ => (pe_tup (pa_cons (pv 4) (pa_cons (pe_ifExp (pt_truthK (K := K) rfl (pv 3) (fun _ => rfl)) (pe_ix (ix_tupK (K := K) rfl) (pv 0) pe_int (fun _ _ => rfl)) (pe_ix (ix_tupK (K := K) rfl) (pv 0) pe_int (fun _ _ => rfl))) pa_nil)))))))), ?_⟩
    cases st with
    | ite c y n =>
      obtain ⟨a, p1, p2, p3, p4, rfl, hA, t1, t2, t3, t4⟩ := tp4 t
      obtain rfl := tpS t1
      refine ⟨_, rfl, a, _, _, _, rfl, rfl, SqT.of hA, rfl, rfl, _, rfl, iteN (by decide +kernel) ?_⟩
      refine ⟨_, rfl, a, _, _, p2, rfl, rfl, SqT.of hA, rfl, _, rfl, _, rfl, N, p2, u, D, c, σ, k, p, rfl, hN, t2, ho.1, by decide, hE, hB, hk, hp, po.1, po.2, fun H1 L ys s1 nL eL aL => ?_⟩
      refine ⟨L, rfl, ⟨ys, SqL.of eL⟩, fun Z hZ => lc_list (xs := ys) (fun j H' => Sx [] H1 H' ∧ ∃ vals, H' Z = some (.lst vals) ∧ vals.length = j ∧ All2 (WyV (Z :: N) H') vals ((ways σ (.ite c y n) p).take j)) ⟨Sx.n0 hZ, [], upd_same, rfl, .nil⟩ (fun j H' _ p => SqL.of (p.1 _ _ (by simp) eL)) (fun j x H' hj z => ?_) (fun H' z => ?_)⟩
      · obtain ⟨sA, vals, eZ, vlen, av⟩ := z
        obtain ⟨x, hx, ai1, ai2, rfl, hai, pai⟩ := aL.get hj
        have jl : j < 2 := by
          have h1 := (List.getElem?_eq_some_iff.mp hx).1
          have := pBy_len σ c p
          omega
        have hA1 := sA _ _ (by simp) (s1 _ _ (by simp) hA)
        refine ⟨ai1, _, rfl, SqT.of (sA _ _ (by simp) hai), rfl, _, _, rfl, gnm ⟨_, _, rfl, gnm ⟨rfl, rfl, ?_⟩⟩⟩
        have fin : ∀ (z : V), Tp H' z (.tuple ((if x.1 = true then y.lst else n.lst).map St.d)) → [ai2, z].length ≤ sizeLine ∧ ∀ w', H' w' = none → ∃ acc, (upd H' w' (.tup [ai2, z])) Z = some (.lst acc) ∧ acc.length < sizeLine ∧ Sx [] H1 (upd (upd H' w' (.tup [ai2, z])) Z (.lst (acc ++ [.ref w']))) ∧ ∃ vals, (upd (upd H' w' (.tup [ai2, z])) Z (.lst (acc ++ [.ref w']))) Z = some (.lst vals) ∧ vals.length = j + 1 ∧ All2 (WyV (Z :: N) (upd (upd H' w' (.tup [ai2, z])) Z (.lst (acc ++ [.ref w'])))) vals ((ways σ (.ite c y n) p).take (j + 1)) := fun z tz => by
          refine ⟨by show 2 ≤ sizeLine; decide, fun w' hw => ?_⟩
          have s2 := Sx.n0 (o := .tup [ai2, z]) hw
          have eZ2 := s2 _ _ (by simp) eZ
          have kz : Kl (Z :: N) _ _ := Kl.own (zs := vals ++ [.ref w']) eZ2 (List.mem_cons_self ..)
          refine ⟨vals, eZ2, lt_line (by omega), (sA.trans s2).own hZ, _, upd_same, by rw [List.length_append, vlen]; rfl, ?_⟩
          rw [List.take_add_one, ways, List.getElem?_map, hx]
          exact (av.imp fun x z h => h.keep (s2.kl.trans kz)).snoc ⟨w', ai2, z, rfl, kz.t _ _ upd_same, ((pai.more hZ).keep (sA.kl.trans s2.kl)).keep kz, (tz.new hw).keep kz.t⟩
        refine ⟨_, rfl, _, rfl, x.1, by simp [TruV], ?_⟩
        cases hx1 : x.1 with
        | true =>
          rw [hx1, if_pos rfl] at fin
          refine iteT ⟨_, rfl, a, _, _, p3, rfl, rfl, SqT.of hA1, rfl, fin p3 ?_⟩
          rw [← y.ds_lst]
          exact (t3.keep s1.tk0).keep sA.tk0
        | false =>
          rw [hx1, if_neg (by decide)] at fin
          refine iteF ⟨_, rfl, a, _, _, p4, rfl, rfl, SqT.of hA1, rfl, fin p4 ?_⟩
          rw [← n.ds_lst]
          exact (t4.keep s1.tk0).keep sA.tk0
      · obtain ⟨sA, vals, eZ, vlen, av⟩ := z
        refine q H' Z vals (s1.trans sA) (s1.free (by simp) hZ) eZ ?_
        rw [List.take_of_length_le (by rw [ways, List.length_map, ← aL.len]; exact Nat.le_refl _)] at av
        exact av.imp fun x z h => h.anti
    | rep j y =>
      obtain ⟨a, p1, p2, p3, rfl, hA, t1, t2, t3⟩ := tp3 t
      obtain rfl := tpS t1
      obtain rfl := tpI t2
      refine ⟨_, rfl, a, _, _, _, rfl, rfl, SqT.of hA, rfl, rfl, _, rfl, iteP (by decide +kernel) ?_⟩
      have yz : y.sz ≤ 1000 := by have : (St.rep j y).sz = 1 + y.sz := by rw [St.sz_blks]; simp [St.blks]
                                  omega
      refine ⟨_, rfl, _, rfl, a, _, _, p3, rfl, rfl, SqT.of hA, rfl, _, rfl, a, _, _, _, rfl, rfl, SqT.of hA, rfl, rep_tpA t3 (by have := bk_le y; rw [y.ds_lst, List.length_map]; omega) (by have := ho.1; omega) (by have := ho.2.1; omega) fun H1 z s1 tz => ?_⟩
      refine ⟨by show 2 ≤ sizeLine; decide, fun x hx => ⟨by show 1 ≤ sizeLine; decide, fun L hL => ?_⟩⟩
      have s2 := Sx.n0 (o := .tup [u, z]) hx
      have s3 := Sx.n0 (o := .lst [.ref x]) hL
      refine q _ L _ ((s1.trans s2).trans s3) ((s1.trans s2).free (by simp) hL) upd_same ?_
      refine .cons ⟨x, u, z, rfl, s3 _ _ (by simp) upd_same, hp.keep ((s1.trans s2).trans s3).kl, ?_⟩ .nil
      rw [repS_ds]
      exact (tz.new hx).new hL
    | _ => exact hc.elim
end
/-! ### enumerate(tuple) -/
theorem meets_enumT (l : Addr) (items : Array Value) (n : Nat) (dct : Option Addr) (sl : Array (Option Value)) :
    Meets (Builtin.«enumerate.__new__» ⟨[.type "enumerate", .ref l], []⟩) (fun _ R s => s.heap.get? l = some { cls := .type "tuple", dict := dct, data := .seq items n, slots := sl } ∧
      R (.ok (.ret (.ref (s.heap.push { cls := .type "tuple_iterator", data := .fields #[.ref l, .int 0 0] }).objs.size)))
        { s with heap := (s.heap.push { cls := .type "tuple_iterator", data := .fields #[.ref l, .int 0 0] }).push { cls := .type "enumerate", data := .fields #[.none, .bool false, .ref s.heap.objs.size, rawInt 0, .none, .none] } }) :=
  .of_wp fun pr w0 A0 R0 s0 h0 => by
    obtain ⟨hp, g, d, tk, os⟩ := s0; obtain ⟨ht, h⟩ := h0
    have hsb := sub_enumerate
    have hT : Heap.IsTuple (Shared.heap ⟨hp, g, d, tk, os⟩) l items := ⟨_, ht, rfl, n, rfl⟩
    (wp_walk using AutoSeq1.wpAny_loadPart' ht)
    refine wpAny_stack_any fun stk => wpAny_pure ?_
    split
    · rename_i c _ _ _ _ _
      cases (c == Value.type "enumerate") <;> (wp_walk using AutoSeq1.wpAny_loadPart' ht, wpAny_pyIter_tuple hT; exact ⟨_, rfl, h⟩)
    · (wp_walk using AutoSeq1.wpAny_loadPart' ht, wpAny_pyIter_tuple hT; exact ⟨_, rfl, h⟩)
theorem call_enumT {pr : Program} {w : World} {A : Around} {E : Value → Shared → Prop} {s : Shared} {l : Addr} {items : Array Value} {Q : Value → Shared → Prop} (hL : s.heap.IsTuple l items)
    (h : ∀ h', IsEnum h' (s.heap.objs.size + 1) s.heap.objs.size 0 .none → h'.IsTupleIter s.heap.objs.size l 0 → h'.objs.size = s.heap.objs.size + 2 →
      (∀ y oy, s.heap.get? y = some oy → h'.get? y = some oy) → Q (.ref (s.heap.objs.size + 1)) { s with heap := h' }) :
    wpAny (model pr w) A (call (.type "enumerate") [.ref l]) Q E s := by
  obtain ⟨⟨c, dct, dt, sl⟩, ht, hc, n, hd⟩ := hL
  have hc : c = .type "tuple" := hc
  have hd : dt = .seq items n := hd
  subst hc hd
  refine callType_new F.called_enumerate (by decide) (F.typeCall_enumerate_1 _) (F.newCall_enumerate_1 _) (fun ob => F.args_object_init_2 ob _) F.entry_enumerate_new (meets_enumT l items n dct sl) ⟨ht, ?_⟩
  have hz : (s.heap.push { cls := .type "tuple_iterator", data := .fields #[.ref l, .int 0 0] }).objs.size = s.heap.objs.size + 1 := Heap.size_push ..
  show _ ∧ _
  rw [hz]
  have he : IsEnum ((s.heap.push { cls := .type "tuple_iterator", data := .fields #[.ref l, .int 0 0] }).push { cls := .type "enumerate", data := .fields #[.none, .bool false, .ref s.heap.objs.size, rawInt 0, .none, .none] }) (s.heap.objs.size + 1) s.heap.objs.size 0 .none := by
    have e := Heap.get?_push_size (s.heap.push { cls := .type "tuple_iterator", data := .fields #[.ref l, .int 0 0] }) (o := { cls := .type "enumerate", data := .fields #[.none, .bool false, .ref s.heap.objs.size, rawInt 0, .none, .none] }) rfl
    rw [hz] at e
    exact e
  exact ⟨⟨_, he, rfl⟩, h _ he ⟨_, Heap.get?_push_of_some _ (Heap.get?_push_size _ rfl), rfl, rfl⟩ (by rw [Heap.size_push, hz]) fun b o x => Heap.get?_push_of_some _ (Heap.get?_push_of_some _ x)⟩
/-- the tuple at a as it stands at each turn, each item in a new pair -/
def IteT (K : PySem.W.Frag) (a : Addr) : It :=
  ⟨fun i H => ∃ (xs : List V) (x : V), SqT K H a xs ∧ xs[i]? = some x, fun i H v H' => ∃ T x, v = .ref T ∧ H T = none ∧ H' = upd H T (.tup [.int (i : Nat), x]) ∧ ∀ xs, SqT K H a xs → xs[i]? = some x, fun i H => ∃ xs : List V, SqT K H a xs ∧ xs.length = i⟩
theorem tupInj {X : Cx} {pins : List (Addr × Obj)} {σ : L2.St} {H : Hp} {s : Shared} {a : Addr} {xs ys : List V} (I : Inv X pins σ H s) (h1 : SqT X.K H a xs) (h2 : SqT X.K H a ys) : xs = ys := I.tuple_inj h1 h2
theorem turn_enumT {P : Program} {w : World} {K : PySem.W.Frag} {elts : List Expr} {kk : Nat} {tpos : Pos} (a e it : Addr) :
    Turn P w K (.Tuple elts kk tpos) (IteT K a) [e, it] e (fun i h => (∃ old, IsEnum h e it ((i : Nat) : Int) old) ∧ h.IsTupleIter it a i ∧ e ≠ it ∧ a ≠ it ∧ a ≠ e) where
  mem := by simp
  obj := fun i h st b hb => by
    rcases st with ⟨⟨old, he⟩, ⟨o, ho, hc, hd⟩, _⟩
    rcases (show b = e ∨ b = it by simpa using hb) with z | z
    · rw [z]
      exact ⟨_, he, fun v q => nomatch q⟩
    · rw [z]
      exact ⟨o, ho, fun v q => by rw [hd] at q; cases q⟩
  keep := fun i h h' st k => by
    obtain ⟨⟨was, ee⟩, hi, ne⟩ := st
    exact ⟨⟨was, k e (by simp) _ ee⟩, hi.at fun o q => k it (by simp) o q, ne⟩
  item := by
    intro X hP hw hK hc i pins s σ H Ex I hf st hg
    subst hP hw hK
    obtain ⟨⟨old, he⟩, hit, hne, hai, hae⟩ := st
    obtain ⟨xs, x, hq, hx⟩ := hg
    rcases I.tuple hq with ⟨its, rv, p, hz⟩
    rcases rv.get hx with ⟨u, hu, ru⟩
    have hel : (e < s.heap.objs.size) := Heap.lt_size he
    have hil : (it < s.heap.objs.size) := by obtain ⟨_, q, _⟩ := hit; exact Heap.lt_size q
    have hlt : i < its.toArray.size := by
      rw [List.size_toArray]
      exact (List.getElem?_eq_some_iff.mp hu).1
    refine wpAny_pyNext_enum_itemD (Draws.tuple (prog := X.prog) (w := X.w) (A := X.A.in1) (I.ok.hd hc) it a hai its.toArray) he ⟨hit, p⟩ hlt hne (by simp [hne, hae.symm]) fun x' h' tk hP ho hs' hT hsz hk => ?_
    have ex : x' = u := by
      have q : its[i]? = some x' := by simpa using hP
      rw [hu] at q
      exact ((Option.some.inj q).symm)
    subst ex
    refine ⟨_, rfl, wpAny_letOwnedTupleGo_enum (s := { s with heap := h', toks := tk + 1 }) ho fun h'' he' sb => ?_⟩
    have hT2 : h''.get? s.heap.objs.size = some { cls := .type "tuple", data := .seq #[.int i tk, x'] } := (sb.2 _ (Nat.ne_of_gt hel)).trans hT
    have made : ObjOk X.prog X.w (upd H s.heap.objs.size (.tup [.int (i : Nat), x])) h'' s.heap.objs.size (.tup [.int (i : Nat), x]) :=
      ⟨by show 2 ≤ sizeLine; decide, [.int i tk, x'], .cons ⟨_, rfl⟩ (.cons ru .nil), ⟨_, hT2, rfl, _, rfl⟩⟩
    have I1 : Inv X pins σ (upd H s.heap.objs.size (.tup [.int (i : Nat), x])) { s with heap := h'', toks := tk + 1 } :=
      Inv.turnedNew (ch := [e, it]) I (fun b ob hb q => (sb.2 b (fun z => hb (by simp [z]))).trans (hk b ob (fun z => hb (by simp [z])) (fun z => hb (by simp [z])) q)) hf (Nat.le_refl _) made
    refine ⟨.ref s.heap.objs.size, _, I1, rfl, ⟨_, x, rfl, I.hok.fresh (Nat.le_refl _), rfl, fun ys hy => by rw [tupInj I hy hq]; exact hx⟩, ⟨⟨x', ?_⟩, hs'.1.at fun o q => (sb.2 it (Ne.symm hne)).trans q, hne, hai, hae⟩, fun b hb => ?_⟩
    · have e1 : (((i + 1 : Nat) : Int) = (i : Int) + 1) := by omega
      rw [e1]; exact he'
    · have hb' : (b < s.heap.objs.size) := by
        rcases (show b = e ∨ b = it by simpa using hb) with z | z
        · rw [z]; exact hel
        · rw [z]; exact hil
      rw [(upd_ne (Nat.ne_of_lt hb'))]
      exact (hf b hb).1
  done := by
    intro X hP hw hK hc i pins s σ H Ex I hf st hg
    subst hP hw hK
    obtain ⟨⟨old, he⟩, hit, hne, hai, hae⟩ := st
    obtain ⟨xs, hq, hx⟩ := hg
    rcases I.tuple hq with ⟨its, rv, p, hz⟩
    rcases hf it (by simp) with ⟨f0, f1, f2, f3, f4, f5⟩
    have hl := rv.length
    subst hx
    have en : xs.length = its.toArray.size := by rw [List.size_toArray]; exact hl
    rw [en] at he hit
    exact wpAny_pyNext_enum_endD (Draws.tuple (prog := X.prog) (w := X.w) (A := X.A.in1) (I.ok.hd hc) it a hai its.toArray) he ⟨hit, p⟩ fun h' eb => ⟨rfl, I.turned (t' := s.toks) (fun b o hb q => eb b o hb q) f0 f1 f3 f4 f5⟩
  self := fun A i s Q Ex st h => wpAny_pyIter_enum st.1.choose_spec h
def iEnumT (K : PySem.W.Frag) (ta : TA) : TI := fun σ H R => ta σ H fun vs H1 => ∃ a xs, vs = [.ref a] ∧ SqT K H1 a xs ∧ R (IteT K a) H1
theorem pi_enumT {X : Cx} {e : Expr} {ta : TA} {p pos tpos : Pos} {elts : List Expr} {kk : Nat} (hg : Gl X "enumerate") (hm : X.mg "enumerate" = none) (ha : PA X [e] ta) (hs : starEach [e] X.env = [(false, eval e X.env)] := by rfl) :
    PI X (.Tuple elts kk tpos) (.Call (.Name "enumerate" p) [e] [] pos) (iEnumT X.K ta) := by
  refine (⟨fun pins s σ H R I h => ?_⟩)
  refine (Call_ (ld_blt I hg hm boot_enumerate (PyProof.Rows.callWith_type1 (thn (ha.run pos pins s σ H _ I h) fun us s1 ⟨vs, H1, I1, r1, q1⟩ => ?_) hs rfl)))
  rcases q1 with ⟨a, xs, ex, hq, q⟩
  subst ex
  cases r1 with
  | cons r rr =>
    cases rr
    cases r
    obtain ⟨its, rv, p', hz⟩ := I1.tuple hq
    have hal : a < s1.heap.objs.size := by obtain ⟨_, z, _⟩ := p'; exact Heap.lt_size z
    refine call_enumT p' fun h' he hit hsz hk => wpAny_pyIter_enum he ?_
    have I2 : (Inv X pins σ H1 { s1 with heap := h' }) := I1.kept (t' := s1.toks) hk
    refine ⟨s1.heap.objs.size + 1, [s1.heap.objs.size + 1, s1.heap.objs.size], _, _, H1, rfl, I2, turn_enumT a (s1.heap.objs.size + 1) s1.heap.objs.size, ⟨⟨.none, he⟩, hit, Nat.succ_ne_self _, Nat.ne_of_lt hal, Nat.ne_of_lt (Nat.lt_succ_of_lt hal)⟩, fun b hb => ?_, q⟩
    have hle : (s1.heap.objs.size ≤ b) := by
      rcases (show b = s1.heap.objs.size + 1 ∨ b = s1.heap.objs.size by simpa using hb) with z | z
      · rw [z]
        exact Nat.le_add_right _ _
      · rw [z]; exact Nat.le_refl _
    exact (I1.fpOk hle (I1.hok.fresh hle))
theorem walk_enumT {K : PySem.W.Frag} {a : Addr} {xs : List V} : Walk (IteT K a) xs.length (fun H => SqT K H a xs) (YPair (fun i => some (.int (i : Nat))) (fun i => xs[i]?)) := by
  refine ⟨fun i _ hi q => ⟨xs, xs[i], q, by simp [hi]⟩, fun _ q => ⟨xs, q, rfl⟩, fun i H v H' _ q y => ?_⟩
  rcases y with ⟨T, x, h1, h2, h3, h4⟩
  exact (⟨T, .int (i : Nat), x, h1, h2, h3, rfl, h4 xs q⟩)
/-! ### the ends of a program -/
theorem Tk.dk {H : Hp} {p : Addr} {ks : List (Key × V)} {o : HO} (h : H p = some (.dK ks)) : Tk H (upd H p o) := fun b xs e => by
  rw [upd_ne (fun z => by rw [z, h] at e; cases e)]
  exact e
def EnLk (H : Hp) (N : Addr) (σ : Str → Ln) (k : Nat) : Prop := ∃ kvs : List (Key × V), H N = some (.dK kvs) ∧ kvs.length ≤ k + 1 ∧ ∀ z, (∀ v, valV kvs (.inr z) = some v → Tp H v (lnD (σ z))) ∧ (valV kvs (.inr z) = none → σ z = (0, 0))
theorem EnLk.sx {H H' : Hp} {N : Addr} {σ : Str → Ln} {k : Nat} (h : EnLk H N σ k) (s : Sx [] H H') : EnLk H' N σ k := by
  obtain ⟨kvs, h1, hl, h2⟩ := h
  exact ⟨kvs, s _ _ (by simp) h1, hl, fun z => ⟨fun v e => ((h2 z).1 v e).keep s.tk0, (h2 z).2⟩⟩
theorem EnLk.en {H : Hp} {N : Addr} {σ : Str → Ln} {k : Nat} (h : EnLk H N σ k) : EnL H N σ := by
  obtain ⟨kvs, h1, _, h2⟩ := h
  exact ⟨kvs, h1, h2⟩
theorem EnLk.up {H : Hp} {N : Addr} {σ : Str → Ln} {k j : Nat} (h : EnLk H N σ k) (e : k ≤ j) : EnLk H N σ j := by
  obtain ⟨kvs, h1, hl, h2⟩ := h
  exact ⟨kvs, h1, by omega, h2⟩
def EpV (N : List Addr) (H : Hp) (v : V) (x : Ln × Pt) : Prop := ∃ a u z, v = .ref a ∧ H a = some (.tup [u, z]) ∧ Tp H u (lnD x.1) ∧ PtV N H z x.2
theorem EpV.keep {N : List Addr} {H H' : Hp} {v : V} {x : Ln × Pt} (h : EpV N H v x) (k : Kl N H H') : EpV N H' v x := by
  obtain ⟨a, u, z, e, h1, h2, h3⟩ := h
  exact ⟨a, u, z, e, k.t _ _ h1, h2.keep k.t, h3.keep k⟩
theorem EpV.anti {N : List Addr} {H : Hp} {v : V} {x : Ln × Pt} {F : Addr} (h : EpV (F :: N) H v x) : EpV N H v x := by
  obtain ⟨a, u, z, e, h1, h2, h3⟩ := h
  exact ⟨a, u, z, e, h1, h2, h3.anti⟩
theorem PtOk.of {p q : Pt} (h : PtOk p) (hl : q.rs.length ≤ p.rs.length) (hs : ∀ r ∈ q.rs, r ∈ p.rs) : PtOk q := ⟨Nat.le_trans hl h.1, fun r hr => h.2 r (hs r hr)⟩
theorem pBy_ptok (σ : Str → Ln) : ∀ (t : Ts) (p : Pt), PtOk p → ∀ x ∈ pBy σ t p, PtOk x.2
  | .rest e b r, p, h, x, hx => by
    rw [mem_pRest (show x ∈ pRest (e.ln σ) b r p from hx)]
    exact h.of (List.length_filter_le _ _) fun r hr => (List.mem_filter.mp hr).1
  | .less a b, p, h, x, hx => by
    have e := pBelow_rs hx
    exact h.of (by rw [e]; exact Nat.le_refl _) fun r hr => by rw [e] at hr; exact hr
  | .not t, p, h, x, hx => by
    rcases List.mem_map.mp hx with ⟨y, hy, rfl⟩
    exact pBy_ptok σ t p h y hy
theorem ways_ok {ns : List Str} {M : Int} {σ : Str → Ln} {s : St} {r : List St} {p : Pt} (ho : WsOk ns M (s :: r)) (hp : PtOk p) {x : Pt × List St} (hx : x ∈ ways σ s p) : WsOk ns M (x.2 ++ r) ∧ wtS (x.2 ++ r) < wtS (s :: r) ∧ tnS (x.2 ++ r) ≤ tnS (s :: r) ∧ PtOk x.1 := by
  cases s with
  | ite c y n =>
    obtain ⟨w, hw, rfl⟩ := List.mem_map.mp hx
    refine ⟨ho.ite w.1, wt_ite c y n r, ?_, pBy_ptok σ c p hp w hw⟩
    rw [tnS_app, tnS_cons, St.tn, St.tn]
    show tnS (if w.1 = true then y.lst else n.lst) + _ ≤ _
    split <;> rw [tnS_lst] <;> omega
  | rep k y =>
    obtain rfl := List.mem_singleton.mp hx
    refine ⟨ho.rep, wt_rep k y r, ?_, hp⟩
    rw [tnS_app, tnS_cons, repS, tnS_flat, tnS_lst, St.tn, St.tn, Nat.mul_add]
    omega
  | _ => cases hx
theorem len_wt : ∀ l : List St, l.length ≤ wtS l
  | [] => Nat.zero_le _
  | s :: l => by
    rw [wtS_cons, List.length_cons]
    have := len_wt l
    have := s.wt_pos
    omega
theorem ways_len (σ : Str → Ln) (s : St) (p : Pt) : (ways σ s p).length ≤ 2 := by
  cases s with
  | ite c y n => rw [ways, List.length_map]; exact pBy_len σ c p
  | rep k y => simp [ways]
  | _ => simp [ways]
theorem St.kinds (s : St) : s = .stop ∨ (∃ y e, s = .set y e) ∨ (∃ e, s = .pay e) ∨ s.cmp := by
  cases s with
  | stop => exact .inl rfl
  | set y e => exact .inr (.inl ⟨y, e, rfl⟩)
  | pay e => exact .inr (.inr (.inl ⟨e, rfl⟩))
  | ite _ _ _ => exact .inr (.inr (.inr trivial))
  | rep _ _ => exact .inr (.inr (.inr trivial))
theorem St.cmp_hd {s : St} (h : s.cmp) : ¬ (decide (V.str s.hd = V.str "stop") = true) ∧ ¬ (decide (V.str s.hd = V.str "set") = true) ∧ ¬ (decide (V.str s.hd = V.str "pay") = true) := by
  cases s with
  | ite _ _ _ => exact ⟨sne (show (("if" : Str) == "stop") = false by decide +kernel), sne (show (("if" : Str) == "set") = false by decide +kernel), sne (show (("if" : Str) == "pay") = false by decide +kernel)⟩
  | rep _ _ => exact ⟨sne (show (("repeat" : Str) == "stop") = false by decide +kernel), sne (show (("repeat" : Str) == "set") = false by decide +kernel), sne (show (("repeat" : Str) == "pay") = false by decide +kernel)⟩
  | _ => exact h.elim
theorem EnLk.put {H : Hp} {P : Addr} {σ : Str → Ln} {kvs : List (Key × V)} {y : Str} {r : V} {l : Ln} {k : Nat} (e : H P = some (.dK (putK kvs (.inr y) r))) (hl : kvs.length ≤ k + 1) (hr : Tp H r (lnD l)) (h : ∀ z, (∀ v, valV kvs (.inr z) = some v → Tp H v (lnD (σ z))) ∧ (valV kvs (.inr z) = none → σ z = (0, 0))) :
    EnLk H P (fun z => if z = y then l else σ z) (k + 1) := by
  refine ⟨_, e, by have := length_putK kvs (Sum.inr y : Key) r; omega, fun z => ?_⟩
  rw [valV_put]
  by_cases c : z = y
  · rw [if_pos (by rw [c])]
    show (∀ v, some r = some v → Tp H v (lnD (if z = y then l else σ z))) ∧ _
    rw [if_pos c]
    exact ⟨fun v e => by cases e; exact hr, fun e => nomatch e⟩
  · rw [if_neg (fun e => c (Sum.inr.inj e))]
    show (∀ v, _ = some v → Tp H v (lnD (if z = y then l else σ z))) ∧ (_ → (if z = y then l else σ z) = _)
    rw [if_neg c]
    exact h z
def spEnds (ns : List Str) (M : Int) (d : Nat) : Sp := fun vs H Q _ => ∃ (N : List Addr) (v : V) (D : Addr) (u z : V) (ws : List St) (σ : Str → Ln) (t : Ln) (k : Nat) (p : Pt), vs = [v, .ref D, u, z] ∧ Own N H ∧ Tp H v (.tuple (ws.map St.d)) ∧ WsOk ns M ws ∧ wtS ws < d ∧ k + wtS ws ≤ 90 ∧ tnS ws ≤ 20 ∧
  EnLk H D σ k ∧ (∀ y, LnB (lB k) (σ y)) ∧ Tp H u (lnD t) ∧ LnB (lB k) t ∧ PtV N H z p ∧ PtOk p ∧ ∀ H' L ys, Sx [] H H' → H L = none → H' L = some (.lst ys) → All2 (EpV N H') ys (ends ws σ t p) → Q (.ref L) H'
theorem len_ends {ws : List St} {σ : Str → Ln} {t : Ln} {p : Pt} (h : tnS ws ≤ 20) : (ends ws σ t p).length ≤ 1048576 := Nat.le_trans (ends_len _ ws σ t p (Nat.le_refl _)) (Nat.le_trans (Nat.pow_le_pow_right (by decide) h) (by decide))
section
variable {w : World} {P : Program} {K : PySem.W.Frag} {mg : Str → Option Value} {base : Heap}
theorem ok_pends {f fL fS fW : Addr} {fd fdL fdS fdW : FuncData} {ns : List Str} {M : Int} (F_pends_of : Fun K "ends_of" "ends_of" sPEndsOf f fd) (F_pline_of : Fun K "line_of" "line_of" sPLineOf fL fdL) (F_psum_line : Fun K "sum_line" "sum_line" sPSumLine fS fdS) (F_pways_of : Fun K "ways_of" "ways_of" sPWaysOf fW fdW)
    (G_pline_of : FnOk P w K mg base CX0 6 fL fdL ["expression", "lines"] (spLine ns 4)) (G_psum_line : FnOk P w K mg base CX0 1 fS fdS ["one", "other"] spSumL) (G_pways_of : FnOk P w K mg base CX0 11 fW fdW ["statement", "lines", "part"] (spWays ns))
    (b_pends_of : Binds K fd ["block", "lines", "total", "part"] []) (b_pline_of : Binds K fdL ["expression", "lines"] []) (b_psum_line : Binds K fdS ["one", "other"] []) (b_pways_of : Binds K fdW ["statement", "lines", "part"] [])
    (m_pends_of : mg "ends_of" = some (.ref f)) (m_pline_of : mg "line_of" = some (.ref fL)) (m_psum_line : mg "sum_line" = some (.ref fS)) (m_pways_of : mg "ways_of" = some (.ref fW)) (z_enumerate : mg "enumerate" = none) :
    ∀ d : Nat, FnOk P w K mg base CX0 (d + 11) f fd ["block", "lines", "total", "part"] (spEnds ns M d) := by
  intro d
  induction d with
  | zero => exact ⟨fun vs H Q E h => by obtain ⟨_, _, _, _, _, _, _, _, _, _, rfl, _⟩ := h; rfl, fun _ _ _ _ _ _ _ _ _ _ _ _ _ h => by
      obtain ⟨_, _, _, _, _, _, _, _, _, _, _, _, _, _, h, _⟩ := h
      omega⟩
  | succ d G_pends_of =>
    refine F_pends_of.ok scPEndsOf (fun vs H Q E h => ?_) (fun cdv A outer s H vs Q E hr h => ?_)
    · obtain ⟨_, _, _, _, _, _, _, _, _, _, rfl, _⟩ := h
      rfl
    · obtain ⟨N, v, D, u, z, ws, σ, t, k, p, rfl, hN, tv, ho, hw, hk, htn, hE, hB, tu, hBt, hp, po, q⟩ := h
      obtain ⟨a, xs, rfl, ha, hx⟩ := tv.tuple
      have xl := hx.len
      rw [List.length_map] at xl
      refine ⟨_, (C8.pss_cut (ps_for PassesOwn.never rfl (pi_enumT (by rfl) z_enumerate (pa_cons (pv 0) pa_nil)) (pg_tup rfl (pgs_cons (pg_name (i := 4) scPEndsOf.nd rfl (by first | exact Or.inl rfl | exact Or.inr rfl)) (pgs_cons (pg_name (i := 5) scPEndsOf.nd rfl (by first | exact Or.inl rfl | exact Or.inr rfl)) pgs_nil))) (pss_cons (ps_if (pt_cmpR op_eq (pe_ix ix_tup (pv 5) pe_int (fun _ _ => rfl)) pe_str (nomark _)) (pss_one ps_break) pss_nil)
      (pss_one (ps_if (pt_cmpR op_eq (pe_ix ix_tup (pv 5) pe_int (fun _ _ => rfl)) pe_str (nomark _)) (pss_one (ps_set (i := 1) scPEndsOf.nd rfl (by first | exact Or.inl rfl | exact Or.inr rfl) (pe_dunp (pv 1) (pe_ix ix_tup (pv 5) pe_int (fun _ _ => rfl)) (pe_call G_pline_of (hr.mono (by omega)) (by rfl) m_pline_of F_pline_of.kp b_pline_of .nil pass0 (pa_cons (pe_ix ix_tup (pv 5) pe_int (fun _ _ => rfl)) (pa_cons (pv 1) pa_nil)))))) (pss_one (ps_if (pt_cmpR op_eq (pe_ix ix_tup (pv 5) pe_int (fun _ _ => rfl)) pe_str (nomark _)) (pss_one (ps_set (i := 2) scPEndsOf.nd rfl (by first | exact Or.inl rfl | exact Or.inr rfl) (pe_call G_psum_line (hr.mono (by omega)) (by rfl) m_psum_line F_psum_line.kp b_psum_line .nil pass0 (pa_cons (pv 2) (pa_cons (pe_call G_pline_of (hr.mono (by omega)) (by rfl) m_pline_of F_pline_of.kp b_pline_of .nil pass0 (pa_cons (pe_ix ix_tup (pv 5) pe_int (fun _ _ => rfl)) (pa_cons (pv 1) pa_nil))) pa_nil))))) (pss_cons (ps_set (i := 6) scPEndsOf.nd rfl (by first | exact Or.inl rfl | exact Or.inr rfl) (pe_lst pa_nil))
      (C8.pss_cut (ps_for PassesOwn.never rfl (pi_list (pe_call G_pways_of (hr.mono (by omega)) (by rfl) m_pways_of F_pways_of.kp b_pways_of .nil pass0 (pa_cons (pv 5) (pa_cons (pv 1) (pa_cons (pv 3) pa_nil))))) (pg_tup rfl (pgs_cons (pg_name (i := 7) scPEndsOf.nd rfl (by first | exact Or.inl rfl | exact Or.inr rfl)) (pgs_cons (pg_name (i := 8) scPEndsOf.nd rfl (by first | exact Or.inl rfl | exact Or.inr rfl)) pgs_nil))) (pss_one (ps_expr (pe_bm PySem.F.plainAttrs_list PySem.F.slot_list_extend PySem.F.type_list_extend mt_extend (pv 6) (pa_cons (pe_call G_pends_of (hr.mono (by omega)) (by rfl) m_pends_of F_pends_of.kp b_pends_of .nil pass0 (pa_cons (pe_op op_catA (pv 8) (pe_slice sl_tupA (pv 0) (po_some (pe_op op_add (pv 4) pe_int)) po_none)) (pa_cons (pv 1) (pa_cons (pv 2) (pa_cons (pv 7) pa_nil))))) pa_nil)))))
      (pss_one (ps_ret (pv 6)))))))))))
      (pss_one (ps_ret (pe_lst (pa_cons (pe_tup (pa_cons (pv 2) (pa_cons (pv 3) pa_nil))) pa_nil))))), ?_⟩
      refine ⟨fun σ' H' => ∃ D' u' t' o4 o5 o6 o7 o8, σ' = [some (.ref a), some (.ref D'), some u', some z, o4, o5, o6, o7, o8] ∧ Sx [] H H' ∧ Tp H' u' (lnD t') ∧ ends ws σ t p = [(t', p)], ?_, ?_⟩
      · refine ⟨_, rfl, a, xs, rfl, SqT.of ha, for_it (walk_enumT (xs := xs)) (fun i σ' H' => ∃ D' u' σi ti o4 o5 o6 o7 o8, σ' = [some (.ref a), some (.ref D'), some u', some z, o4, o5, o6, o7, o8] ∧ Sx [] H H' ∧ EnLk H' D' σi (k + i) ∧ (∀ y, LnB (lB (k + i)) (σi y)) ∧ Tp H' u' (lnD ti) ∧ LnB (lB (k + i)) ti ∧ ends ws σ t p = ends (ws.drop i) σi ti p ∧ wtS (ws.drop i) + i ≤ wtS ws ∧ tnS (ws.drop i) ≤ 20)
          ⟨D, u, σ, t, _, _, _, _, _, rfl, Sx.refl _, hE, hB, tu, hBt, rfl, by show wtS ws + 0 ≤ _; omega, htn⟩ (fun i σ' H1 _ z => by obtain ⟨_, _, _, _, _, _, _, _, _, _, z, _⟩ := z; exact SqT.of (z _ _ (by simp) ha)) (fun i x σ' H1 H2 hi y0 y => ?_) (fun σ' H1 y => ?_)⟩
        · obtain ⟨D', u', σi, ti, o4, o5, o6, o7, o8, rfl, s1, hE1, hB1, tu1, hBt1, he, hwt, htn1⟩ := y0
          obtain ⟨T, y1, y2, rfl, nT, rfl, h1, h2⟩ := y
          obtain rfl : V.int (i : Nat) = y1 := Option.some.inj h1
          have h2 : xs[i]? = some y2 := h2
          obtain ⟨sd, hsd, ts⟩ := hx.get h2
          rw [List.getElem?_map] at hsd
          obtain ⟨st, hst, rfl⟩ := Option.map_eq_some_iff.mp hsd
          have il := (List.getElem?_eq_some_iff.mp hst).1
          have hdr : ws.drop i = st :: ws.drop (i + 1) := by
            rw [List.drop_eq_getElem_cons il]
            congr 1
            exact (List.getElem?_eq_some_iff.mp hst).2
          rw [hdr] at he hwt htn1
          have hoi : WsOk ns M (st :: ws.drop (i + 1)) := fun x hx => ho x (List.mem_of_mem_drop (by rw [hdr]; exact hx))
          have wi := wt_tl st (ws.drop (i + 1))
          have tni : tnS (ws.drop (i + 1)) ≤ 20 := by rw [tnS_cons] at htn1; omega
          refine ⟨T, _, rfl, SqT.of upd_same, rfl, _, _, rfl, gnm ⟨_, _, rfl, gnm ⟨rfl, ?_⟩⟩⟩
          have s2 := s1.new (o := .tup [.int (i : Nat), y2]) nT
          have ts2 := ts.keep s2.tk0
          have hE2 : EnLk (upd H1 T (.tup [.int (i : Nat), y2])) D' σi (k + i) := hE1.sx (Sx.n0 nT)
          have tu2 := tu1.new (o := .tup [.int (i : Nat), y2]) nT
          generalize upd H1 T (.tup [.int (i : Nat), y2]) = H2 at s2 ts2 hE2 tu2 ⊢
          obtain ⟨a2, xs2, rfl, ha2⟩ := St.at_ ts2
          obtain ⟨⟨dd, ho2⟩, _⟩ := hoi st (List.mem_cons_self ..)
          refine ⟨_, rfl, a2, _, _, .str st.hd, rfl, rfl, SqT.of ha2, at0 _ _, rfl, _, rfl, ?_⟩
          rcases st.kinds with rfl | ⟨y, e, rfl⟩ | ⟨e, rfl⟩ | hc
          · refine iteP (by simp only [St.hd]; decide +kernel) ⟨D', u', ti, _, _, _, _, _, rfl, s2, tu2, ?_⟩
            rw [he, ends]
          · obtain ⟨a3, q1, q2, q3, ea, hA, t1, t2, t3⟩ := tp3 ts2
            cases ea
            obtain rfl := tpS t2
            obtain ⟨kvs, hD2, hl2, hv2⟩ := id hE2
            refine iteN (sne (show (("set" : Str) == "stop") = false by decide +kernel)) ⟨_, rfl, a2, _, _, .str "set", rfl, rfl, SqT.of ha2, at0 _ _, rfl, _, rfl, iteP (by decide +kernel) ?_⟩
            intro Pp hPp
            have sa := Sx.n0 (o := .dK []) hPp
            have DP : D' ≠ Pp := fun z => by rw [z, hPp] at hD2; cases hD2
            refine ⟨_, rfl, D', kvs, rfl, sa _ _ (by simp) hD2, upd_same, DP, by omega, fun Qd hQd => ?_⟩
            rw [upd_upd] at hQd ⊢
            have sb : Sx [] H2 (upd H2 Pp (.dK kvs)) := Sx.n0 hPp
            have sc := Sx.n0 (o := .dK []) hQd
            have sbc := sb.trans sc
            refine ⟨_, rfl, a2, _, _, _, rfl, rfl, SqT.of (sbc _ _ (by simp) hA), rfl, ?_⟩
            refine ⟨_, rfl, a2, _, _, q3, rfl, rfl, SqT.of (sbc _ _ (by simp) hA), rfl, _, rfl, q3, D', e, σi, rfl, t3.keep sbc.tk0, Ex.ok_up ho2.2 (by decide), (hE2.sx sbc).en, fun H3 r3 s3 u3 => ?_⟩
            have eP3 : H3 Pp = some (.dK kvs) := s3 _ _ (by simp) (sc _ _ (by simp) upd_same)
            have eQ3 : H3 Qd = some (.dK []) := s3 _ _ (by simp) upd_same
            have PQ : Pp ≠ Qd := fun z => by rw [← z, upd_same] at hQd; cases hQd
            have k1 : Tk H3 (upd H3 Qd (.dK [(.inr y, r3)])) := Tk.dk eQ3
            have eP4 : (upd H3 Qd (.dK [(.inr y, r3)])) Pp = some (.dK kvs) := by rw [upd_ne PQ]; exact eP3
            have k2 : Tk (upd H3 Qd (.dK [(.inr y, r3)])) (upd (upd H3 Qd (.dK [(.inr y, r3)])) Pp (.dK (putK kvs (.inr y) r3))) := Tk.dk eP4
            have sx : Sx [] H2 (upd (upd H3 Qd (.dK [(.inr y, r3)])) Pp (.dK (putK kvs (.inr y) r3))) := (((sbc.trans s3).own (sb.free (by simp) hQd)).own hPp)
            have u4 := (u3.keep k1).keep k2
            refine ⟨.inr y, rfl, eP3, eQ3, PQ, gnm ?_⟩
            have e1 : k + (i + 1) = k + i + 1 := by omega
            refine ⟨Pp, u', fun z => if z = y then e.ln σi else σi z, ti, _, _, _, _, _, rfl, s2.trans sx, ?_, ?_, tu2.keep sx.tk0, ?_, ?_, by omega, tni⟩
            · rw [e1]
              exact EnLk.put (σ := σi) upd_same hl2 u4 fun z => ⟨fun v ev => ((hv2 z).1 v ev).keep sx.tk0, (hv2 z).2⟩
            · rw [e1]; exact lB_set (d := dd) hB1 ho2.2
            · rw [e1]; exact hBt1.mono (lB_mono (by omega))
            · rw [he, ends]
          · obtain ⟨a3, q1, q2, ea, hA, t1, t2⟩ := tp2 ts2
            cases ea
            refine iteN (sne (show (("pay" : Str) == "stop") = false by decide +kernel)) ⟨_, rfl, a2, _, _, .str "pay", rfl, rfl, SqT.of ha2, at0 _ _, rfl, _, rfl, iteN (by decide +kernel) ⟨_, rfl, a2, _, _, .str "pay", rfl, rfl, SqT.of ha2, at0 _ _, rfl, _, rfl, iteP (by decide +kernel) ?_⟩⟩
            have ho2' : e.ok ns 3 := ho2
            refine ⟨_, rfl, _, rfl, a2, _, _, q2, rfl, rfl, SqT.of hA, rfl, _, rfl, q2, D', e, σi, rfl, t2, Ex.ok_up ho2' (by decide), hE2.en, fun H3 r3 s3 u3 => ?_⟩
            refine ⟨u', r3, ti, _, rfl, tu2.keep s3.tk0, u3, fun H4 r4 s4 u4 => gnm ?_⟩
            have e1 : k + (i + 1) = k + i + 1 := by omega
            refine ⟨D', r4, σi, lnAdd ti (e.ln σi), _, _, _, _, _, rfl, (s2.trans s3).trans s4, ((hE2.sx s3).sx s4).up (by omega), by rw [e1]; exact lB_all hB1, u4, by rw [e1]; exact lB_pay hB1 hBt1 ho2', by rw [he, ends], by omega, tni⟩
          · have hh := St.cmp_hd hc
            refine iteN hh.1 ⟨_, rfl, a2, _, _, .str st.hd, rfl, rfl, SqT.of ha2, at0 _ _, rfl, _, rfl, iteN hh.2.1 ⟨_, rfl, a2, _, _, .str st.hd, rfl, rfl, SqT.of ha2, at0 _ _, rfl, _, rfl, iteN hh.2.2 ?_⟩⟩
            refine ⟨by show 0 ≤ sizeLine; decide, fun F hF => gnm ?_⟩
            have s3 := s2.trans (Sx.n0 (o := .lst []) hF)
            have hFH : H F = none := s2.free (by simp) hF
            have nF := Sx.n0 (o := .lst []) hF
            have eF : (upd H2 F (.lst [])) F = some (.lst []) := upd_same
            have ts3 := ts2.keep nF.tk0
            have hE3 : EnLk (upd H2 F (.lst [])) D' σi (k + i) := hE2.sx nF
            have tu3 := tu2.keep nF.tk0
            generalize upd H2 F (.lst []) = H3 at s3 eF ts3 hE3 tu3 ⊢
            have sz1000 : st.sz ≤ 1000 := by
              have := St.sz_wt ho2
              rw [wtS_cons] at hwt
              omega
            refine ⟨fun σ' H' => ∃ o4 o5 o7 o8 vals, σ' = [some (.ref a), some (.ref D'), some u', some z, o4, o5, some (.ref F), o7, o8] ∧ Sx [] H H' ∧ H' F = some (.lst vals) ∧ All2 (EpV (F :: N) H') vals (ends ws σ t p), ?_, ?_⟩
            · refine ⟨_, rfl, _, rfl, _, rfl, F :: N, .ref a2, z, D', st, σi, k + i, p, rfl, (hN.sx s3).cons eF, ts3, hc, ⟨dd, ho2⟩, sz1000, hE3.en, hB1, by omega, (hp.more hFH).keep s3.kl, po, fun H4 L ys s4 nL eL aL => ?_⟩
              have eF4 := s4 _ _ (by simp) eF
              have LF : L ≠ F := fun z => by rw [z, eF] at nL; cases nL
              refine ⟨L, rfl, ⟨ys, SqL.of eL⟩, for_list (xs := ys) (fun j σ' H' => ∃ o5 o7 o8 vals, σ' = [some (.ref a), some (.ref D'), some u', some z, some (.int (i : Nat)), o5, some (.ref F), o7, o8] ∧ Sx [] H H' ∧ Kl (F :: N) H4 H' ∧ Sx [F] H4 H' ∧ H' F = some (.lst vals) ∧ All2 (EpV (F :: N) H') vals (((ways σi st p).take j).flatMap fun x => ends (x.2 ++ ws.drop (i + 1)) σi ti x.1))
                ⟨_, _, _, [], rfl, s3.trans s4, ⟨Tk.refl _, fun _ _ _ h => h⟩, Sx.refl _, eF4, .nil⟩ (fun j σ' H' _ y => by obtain ⟨_, _, _, _, _, _, _, y, _⟩ := y; exact SqL.of (y _ _ (by simp [LF]) eL)) (fun j y σ' H' hj y0 => ?_) (fun σ' H' y0 => ?_)⟩
              · obtain ⟨o5', o7, o8, vals, rfl, s5, kl5, sF5, eF5, a5⟩ := y0
                obtain ⟨x, hx, ai, u1, z1, rfl, hai, pai, tz⟩ := aL.get hj
                have hxm := List.mem_of_getElem? hx
                obtain ⟨wo, ww, wt', wp⟩ := ways_ok hoi po hxm
                have jl : j < 2 := by
                  have h1 := (List.getElem?_eq_some_iff.mp hx).1
                  have := ways_len σi st p
                  omega
                have lx := len_wt (x.2 ++ ws.drop (i + 1))
                refine ⟨ai, _, rfl, SqT.of (kl5.t _ _ hai), rfl, _, _, rfl, gnm ⟨_, _, rfl, gnm ⟨rfl, ?_⟩⟩⟩
                have tv5 : Tp H' (.ref a) (.tuple (ws.map St.d)) := tv.keep s5.tk0
                refine ⟨_, rfl, .inl ⟨rfl, _, SqL.of eF5⟩, _, rfl, _, rfl, _, rfl, _, _, rfl, rfl, _, rfl, ?_⟩
                refine sl_from' (i := i + 1) (show (i : Int) + 1 = ((i + 1 : Nat) : Int) by omega) tv5 fun H6 z6 s6 t6 => ?_
                refine cat_tp ((tz.keep kl5.t).keep s6.tk0) t6 (by rw [List.length_append] at lx; rw [List.length_map, List.length_drop, List.length_map]; rw [List.length_drop] at lx; omega) fun H7 z7 s7 _ t7 => ?_
                rw [← List.map_drop, ← List.map_append] at t7
                have s67 := s6.trans s7
                have eF7 := s67 _ _ (by simp) eF5
                have sD : Sx [F] H3 H' := (s4.mono (by simp)).trans sF5
                have hE7 : EnLk H7 D' σi (k + i) := by
                  obtain ⟨kvs, hD3, hl3, hv3⟩ := hE3
                  have DF : D' ≠ F := fun z => by rw [z, eF] at hD3; cases hD3
                  have tk : Tk H3 H7 := (s4.tk0.trans kl5.t).trans s67.tk0
                  exact ⟨kvs, s67 _ _ (by simp) (sD _ _ (by simp [DF]) hD3), hl3, fun y => ⟨fun v e => ((hv3 y).1 v e).keep tk, (hv3 y).2⟩⟩
                refine ⟨_, rfl, _, rfl, _, rfl, F :: N, z7, D', u', u1, x.2 ++ ws.drop (i + 1), σi, ti, k + i, x.1, rfl, ((hN.sx s5).sx s67).cons eF7, t7, wo, by omega, by omega, by omega, hE7, hB1, ((tu3.keep s4.tk0).keep kl5.t).keep s67.tk0, hBt1, (pai.keep kl5).keep s67.kl, wp, fun H8 L8 zs s8 nL8 eL8 aL8 => ?_⟩
                have eF8 := s8 _ _ (by simp) eF7
                have vl := a5.len
                have zl := aL8.len
                have le1 := len_ends (ws := x.2 ++ ws.drop (i + 1)) (σ := σi) (t := ti) (p := x.1) (by omega)
                have le2 : (((ways σi st p).take j).flatMap fun x => ends (x.2 ++ ws.drop (i + 1)) σi ti x.1).length ≤ j * 1048576 := by
                  refine Nat.le_trans (len_flatMap (B := 1048576) fun y hy => ?_) (Nat.mul_le_mul_right _ (by rw [List.length_take]; omega))
                  exact len_ends (Nat.le_trans (ways_ok hoi po (List.mem_of_mem_take hy)).2.2.1 htn1)
                have kk : Kl (F :: N) H8 (upd H8 F (.lst (vals ++ zs))) := Kl.own eF8 (List.mem_cons_self ..)
                refine ⟨F, L8, vals, zs, rfl, rfl, eF8, eL8, le_line (by omega), _, _, _, _, rfl, ((s5.trans s67).trans s8).own hFH, ((kl5.trans s67.kl).trans s8.kl).trans kk, ((sF5.trans (s67.mono (by simp))).trans (s8.mono (by simp))).trans ((Sx.refl (ex := [F]) _).put (by simp)), upd_same, ?_⟩
                rw [List.take_add_one, hx, List.flatMap_append]
                refine All2.app (a5.imp fun v y h => h.keep ((s67.kl.trans s8.kl).trans kk)) ?_
                have : (Option.toList (some x)).flatMap (fun x => ends (x.2 ++ ws.drop (i + 1)) σi ti x.1) = ends (x.2 ++ ws.drop (i + 1)) σi ti x.1 := by simp
                rw [this]
                exact aL8.imp fun v y h => h.keep kk
              · obtain ⟨o5', o7, o8, vals, rfl, s5, kl5, sF5, eF5, a5⟩ := y0
                refine ⟨_, _, _, _, vals, rfl, s5, eF5, ?_⟩
                rw [List.take_of_length_le (by rw [← aL.len]; exact Nat.le_refl _), ← ends_ways hc] at a5
                rw [he]
                exact a5
            · rintro _ H4 ⟨o4, o5, o7, o8, vals, rfl, s4, eF4, a4⟩
              exact ⟨_, rfl, q H4 F vals s4 hFH eF4 (a4.imp fun x z h => h.anti)⟩
        · obtain ⟨D', u', σi, ti, o4, o5, o6, o7, o8, rfl, s1, hE1, hB1, tu1, hBt1, he, hwt, htn1⟩ := y
          refine ⟨D', u', ti, _, _, _, _, _, rfl, s1, tu1, ?_⟩
          rw [he, List.drop_of_length_le (by omega), ends]
      · rintro _ H1 ⟨D', u', t', o4, o5, o6, o7, o8, rfl, s1, tu1, he⟩
        refine ⟨_, rfl, _, rfl, by show 2 ≤ sizeLine; decide, fun x hx => ⟨by show 1 ≤ sizeLine; decide, fun L hL => ?_⟩⟩
        have s2 := Sx.n0 (o := .tup [u', z]) hx
        have s3 := Sx.n0 (o := .lst [.ref x]) hL
        refine q _ L _ ((s1.trans s2).trans s3) ((s1.trans s2).free (by simp) hL) upd_same ?_
        rw [he]
        exact .cons ⟨x, u', z, rfl, s3 _ _ (by simp) upd_same, (tu1.new hx).new hL, hp.keep ((s1.trans s2).trans s3).kl⟩ .nil
end
abbrev sPSignParts : Stmt := topS 8
abbrev nPSignParts : List Str := ["program", "period", "found", "total", "part", "is_below", "inner", "is_above", "last"]
theorem scPSignParts : FnScope nPSignParts ["program", "period"] (defScope sPSignParts) := ⟨rfl, rfl, rfl, by decide +kernel, rfl, by decide +kernel, by decide +kernel⟩
/-! ### the signs of a program's parts -/
def SpV (N : List Addr) (H : Hp) (v : V) (x : Int × Pt) : Prop := ∃ a u, v = .ref a ∧ H a = some (.tup [.int x.1, u]) ∧ PtV N H u x.2
theorem SpV.keep {N : List Addr} {H H' : Hp} {v : V} {x : Int × Pt} (h : SpV N H v x) (k : Kl N H H') : SpV N H' v x := by
  obtain ⟨a, u, e, h1, h2⟩ := h
  exact ⟨a, u, e, k.t _ _ h1, h2.keep k⟩
theorem SpV.anti {N : List Addr} {H : Hp} {v : V} {x : Int × Pt} {F : Addr} (h : SpV (F :: N) H v x) : SpV N H v x := by
  obtain ⟨a, u, e, h1, h2⟩ := h
  exact ⟨a, u, e, h1, h2.anti⟩
def sBel (t : Ln) (y : Bool × Pt) : List (Int × Pt) := if y.1 = true then [(-1, y.2)] else (pBelow (lnMul (-1) t) y.2).map fun z => (if z.1 = true then 1 else 0, z.2)
theorem sEnd_eq (x : Ln × Pt) : sEnd x = (pBelow x.1 x.2).flatMap (sBel x.1) := rfl
theorem sBel_len (t : Ln) (y : Bool × Pt) : (sBel t y).length ≤ 2 := by
  unfold sBel
  split
  · simp
  · rw [List.length_map]; exact pBelow_len _ _
theorem rgV_p0 (M : Nat) : rgV 0 (M : Int) = (p0 M).rs.map V.int := by
  unfold rgV p0
  rw [show ((M : Int) - 0).toNat = M by omega, List.map_map]
  congr 1
  funext i
  show V.int (0 + (i : Int)) = V.int i
  rw [Int.zero_add]
/-- a program with a period -/
structure PrM (ns : List Str) (M : Nat) (b : Bk) : Prop where
  ok : b.ok ns 4
  dv : b.dv M
  wt : b.wt ≤ 25
  tn : b.tn true + b.tn false ≤ 8
  m0 : 0 < M
  m1 : M ≤ 60
theorem PrM.len {ns : List Str} {M : Nat} {b : Bk} (h : PrM ns M b) : (sparts b M).length ≤ 1024 :=
  Nat.le_trans (sparts_len b M) (Nat.mul_le_mul_right 4 (Nat.pow_le_pow_right (by decide : 0 < 2) h.tn))
theorem PrM.elen {ns : List Str} {M : Nat} {b : Bk} (h : PrM ns M b) : (ends b.lst nAt (0, 0) (p0 M)).length ≤ 256 := by
  have e := ends_len _ b.lst nAt (0, 0) (p0 M) (Nat.le_refl _)
  rw [tnS_lst] at e
  exact Nat.le_trans e (Nat.pow_le_pow_right (n := 2) (by decide) h.tn)
def spSignParts (ns : List Str) : Sp := fun vs H Q _ => ∃ (N : List Addr) (v : V) (b : Bk) (M : Nat), vs = [v, .int M] ∧ Own N H ∧ Tp H v (.tuple b.ds) ∧ PrM ns M b ∧ ∀ H' L ys, Sx [] H H' → H L = none → H' L = some (.lst ys) → All2 (SpV N H') ys (sparts b M) → Q (.ref L) H'
section
variable {w : World} {P : Program} {K : PySem.W.Frag} {mg : Str → Option Value} {base : Heap}
theorem ok_psignparts {f fE fB fT : Addr} {fd fdE fdB fdT : FuncData} {ns : List Str} (F_psign_parts : Fun K "sign_parts" "sign_parts" sPSignParts f fd) (F_pends_of : Fun K "ends_of" "ends_of" sPEndsOf fE fdE) (F_pparts_below : Fun K "parts_below" "parts_below" sPPartsBelow fB fdB) (F_ptimes_line : Fun K "times_line" "times_line" sPTimesLine fT fdT)
    (G_pends_of : ∀ M : Int, FnOk P w K mg base CX0 37 fE fdE ["block", "lines", "total", "part"] (spEnds ns M 26)) (G_pparts_below : FnOk P w K mg base CX0 2 fB fdB ["line", "part"] spBelow) (G_ptimes_line : FnOk P w K mg base CX0 1 fT fdT ["factor", "line"] spTimesL)
    (b_pends_of : Binds K fdE ["block", "lines", "total", "part"] []) (b_pparts_below : Binds K fdB ["line", "part"] []) (b_ptimes_line : Binds K fdT ["factor", "line"] []) (m_pends_of : mg "ends_of" = some (.ref fE)) (m_pparts_below : mg "parts_below" = some (.ref fB)) (m_ptimes_line : mg "times_line" = some (.ref fT))
    (z_list : mg "list" = none) (z_range : mg "range" = none) (z_int : mg "int" = none) : FnOk P w K mg base CX0 38 f fd ["program", "period"] (spSignParts ns) := by
  refine F_psign_parts.ok scPSignParts (fun vs H Q E h => ?_) (fun cdv A outer s H vs Q E hr h => ?_)
  · obtain ⟨_, _, _, _, rfl, _⟩ := h
    rfl
  · obtain ⟨N, v, b, M, rfl, hN, t, hb, q⟩ := h
    have G_pends_of := G_pends_of M
    refine ⟨_, (pss_cons (ps_set (i := 2) scPSignParts.nd rfl (by first | exact Or.inl rfl | exact Or.inr rfl) (pe_lst pa_nil))
      (C8.pss_cut (ps_for PassesOwn.never rfl (pi_list (pe_call G_pends_of (hr.mono (by omega)) (by rfl) m_pends_of F_pends_of.kp b_pends_of .nil pass0 (pa_cons (pv 0) (pa_cons (pe_disp (pps_cons pe_str (pe_tup (pa_cons pe_int (pa_cons pe_int pa_nil))) pps_nil) (by rfl) (by rfl) (fun z => by cases z) (by decide)) (pa_cons (pe_tup (pa_cons pe_int (pa_cons pe_int pa_nil))) (pa_cons (pe_tup (pa_cons (pe_listRg (by rfl) (by rfl) z_list (prg_1 (by rfl) z_range (pv 1))) (pa_cons pe_non (pa_cons pe_non pa_nil)))) pa_nil)))))) (pg_tup rfl (pgs_cons (pg_name (i := 3) scPSignParts.nd rfl (by first | exact Or.inl rfl | exact Or.inr rfl)) (pgs_cons (pg_name (i := 4) scPSignParts.nd rfl (by first | exact Or.inl rfl | exact Or.inr rfl)) pgs_nil))) (pss_one (ps_for PassesOwn.never rfl (pi_list (pe_call G_pparts_below (hr.mono (by omega)) (by rfl) m_pparts_below F_pparts_below.kp b_pparts_below .nil pass0 (pa_cons (pv 3) (pa_cons (pv 4) pa_nil)))) (pg_tup rfl (pgs_cons (pg_name (i := 5) scPSignParts.nd rfl (by first | exact Or.inl rfl | exact Or.inr rfl)) (pgs_cons (pg_name (i := 6) scPSignParts.nd rfl (by first | exact Or.inl rfl | exact Or.inr rfl)) pgs_nil))) (pss_one (ps_if (pt_truth (pv 5) (fun _ => rfl)) (pss_one (ps_expr (pe_bm PySem.F.plainAttrs_list PySem.F.slot_list_append PySem.F.type_list_append mt_append (pv 2) (pa_cons (pe_tup (pa_cons (pe_un un_neg pe_int) (pa_cons (pv 6) pa_nil))) pa_nil)))) (pss_one (ps_expr (pe_bm PySem.F.plainAttrs_list PySem.F.slot_list_extend PySem.F.type_list_extend mt_extend (pv 2) (pa_cons (pe_lc (own := [("is_above", 7), ("last", 8)]) (g := gTup K 2 (gCons (gName 7) (gCons (gName 8) gNil))) (tt := tYes) rfl scPSignParts.nd (pi_list (pe_call G_pparts_below (hr.mono (by omega)) (by rfl) m_pparts_below F_pparts_below.kp b_pparts_below .nil pass0 (pa_cons (pe_call G_ptimes_line (hr.mono (by omega)) (by rfl) m_ptimes_line F_ptimes_line.kp b_ptimes_line .nil pass0 (pa_cons (pe_un un_neg pe_int) (pa_cons (pv 3) pa_nil))) (pa_cons (pv 6) pa_nil)))) (blkOk_by (N := nPSignParts) (sc := defScope sPSignParts) (by decide +kernel)) (fun _ _ _ _ _ => (pg_tup rfl (pgs_cons (pg_name (i := 7) scPSignParts.nd rfl (by first | exact Or.inl rfl | exact Or.inr rfl)) (pgs_cons (pg_name (i := 8) scPSignParts.nd rfl (by first | exact Or.inl rfl | exact Or.inr rfl)) pgs_nil)))) (fun _ _ _ _ _ => pts_nil) (fun _ _ _ _ _ => (pe_tup (pa_cons (pe_callTy call_int1 (by rfl) z_int boot_int (pa_cons (pv 7) pa_nil)) (pa_cons (pv 8) pa_nil))))) pa_nil)))))))))
      (pss_one (ps_ret (pv 2))))), ?_⟩
    refine ⟨by show 0 ≤ sizeLine; decide, fun F hF => gnm ?_⟩
    have s0 := Sx.n0 (o := .lst []) hF
    have eF0 : (upd H F (.lst [])) F = some (.lst []) := upd_same
    have t0 := t.keep s0.tk0
    have hN0 := (hN.sx s0).cons eF0
    generalize upd H F (.lst []) = H0 at s0 eF0 t0 hN0 ⊢
    refine ⟨fun σ' H' => ∃ o3 o4 o5 o6 o7 o8 vals, σ' = [some v, some (.int M), some (.ref F), o3, o4, o5, o6, o7, o8] ∧ Sx [] H H' ∧ H' F = some (.lst vals) ∧ All2 (SpV (F :: N) H') vals (sparts b M), ?_, ?_⟩
    · refine ⟨_, rfl, fun Pd hP => ⟨by show 2 ≤ sizeLine; decide, fun t1 h1 => ?_⟩⟩
      have n1 : Pd ≠ t1 := fun z => by rw [← z, upd_same] at h1; cases h1
      refine ⟨by rw [upd_ne n1]; exact upd_same, [(.inr "n", .ref t1)], rfl, by show 1 ≤ 15; decide, ?_⟩
      have eK : mergeK [] [((.inr "n" : Key), V.ref t1)] = [(.inr "n", .ref t1)] := rfl
      rw [eK]
      have sP : Sx [] H0 (upd (upd (upd H0 Pd (.dK [])) t1 (.tup [.int 1, .int 0])) Pd (.dK [(.inr "n", .ref t1)])) := ((Sx.n0 hP).trans (Sx.n0 h1)).own hP
      have eP : (upd (upd (upd H0 Pd (.dK [])) t1 (.tup [.int 1, .int 0])) Pd (.dK [(.inr "n", .ref t1)])) Pd = some (.dK [(.inr "n", .ref t1)]) := upd_same
      have e1 : (upd (upd (upd H0 Pd (.dK [])) t1 (.tup [.int 1, .int 0])) Pd (.dK [(.inr "n", .ref t1)])) t1 = some (.tup [.int 1, .int 0]) := by rw [upd_ne (Ne.symm n1)]; exact upd_same
      generalize upd (upd (upd H0 Pd (.dK [])) t1 (.tup [.int 1, .int 0])) Pd (.dK [(.inr "n", .ref t1)]) = H1 at sP eP e1 ⊢
      refine ⟨by show 2 ≤ sizeLine; decide, fun t2 h2 => ?_⟩
      have s2 := Sx.n0 (o := .tup [.int 0, .int 0]) h2
      refine ⟨_, rfl, _, rfl, RgOk.of_le (by omega) (by have := hb.m1; omega) (by omega) (by omega), fun R hR => ⟨by show 3 ≤ sizeLine; decide, fun p1 hp1 => ?_⟩⟩
      have s3 := Sx.n0 (o := .lst (rgV 0 M)) hR
      have s4 := Sx.n0 (o := .tup [.ref R, .non, .non]) hp1
      have s14 := (s2.trans s3).trans s4
      have sx := sP.trans s14
      have eF4 := sx _ _ (by simp) eF0
      have RN : R ∉ F :: N := hN0.nin ((sP.trans s2).free (by simp) hR)
      have pv : PtV (F :: N) _ (.ref p1) (p0 M) := ⟨p1, R, rfl, upd_same, s4 _ _ (by simp) (by rw [← rgV_p0]; exact upd_same), RN⟩
      have enl : EnLk _ Pd nAt 0 := ⟨_, s14 _ _ (by simp) eP, Nat.le_refl _, fun z => by
        have e := valV_put [] (Sum.inr "n" : Key) (Sum.inr z) (V.ref t1)
        rw [show putK [] (Sum.inr "n" : Key) (V.ref t1) = [(.inr "n", .ref t1)] from rfl] at e
        rw [e]
        by_cases c : z = "n"
        · rw [if_pos (by rw [c])]
          refine ⟨fun v ev => ?_, fun ev => (nomatch ev)⟩
          cases ev
          unfold nAt
          rw [if_pos c]
          exact lnTp (s14 _ _ (by simp) e1)
        · rw [if_neg (fun e => c (Sum.inr.inj e))]
          refine ⟨fun v ev => (nomatch ev), fun _ => ?_⟩
          unfold nAt
          rw [if_neg c]⟩
      have bnd : ∀ y, LnB (lB 0) (nAt y) := fun y => by
        unfold nAt
        split
        · exact ⟨by decide, by decide⟩
        · exact ⟨by decide, by decide⟩
      have bwt : wtS b.lst = b.wt := wtS_lst b
      have btn : tnS b.lst = b.tn true + b.tn false := tnS_lst b
      have b1 := hb.wt
      have b2 := hb.tn
      have pok : PtOk (p0 M) := by
        have h := p0_rs M
        have m1 := hb.m1
        exact ⟨by have := h.2.2; omega, fun r hr => by have := h.2.1 r hr; omega⟩
      refine ⟨F :: N, v, Pd, .ref t2, .ref p1, b.lst, nAt, (0, 0), 0, p0 M, rfl, hN0.sx sx, ?_, WsOk.bk hb.ok hb.dv, by omega, by omega, by omega, enl, bnd, lnTp (s4 _ _ (by simp) (s3 _ _ (by simp) upd_same)), ⟨by decide, by decide⟩, pv, pok, fun H5 L ys s5 nL eL aL => ?_⟩
      · rw [← b.ds_lst]; exact t0.keep sx.tk0
      have eF5 := s5 _ _ (by simp) eF4
      have s05 : Sx [] H H5 := (s0.trans sx).trans s5
      have LF : L ≠ F := fun z => by rw [z, eF4] at nL; cases nL
      have hN5 := (hN0.sx sx).sx s5
      have elen := hb.elen
      have ebd := ends_bd (ns := ns) (M := M) (wtS b.lst) 0 b.lst nAt (0, 0) (p0 M) (Nat.le_refl _) (WsOk.bk hb.ok hb.dv) bnd ⟨by decide, by decide⟩
      clear enl pv e1 eP bnd
      refine ⟨L, rfl, ⟨ys, SqL.of eL⟩, for_list (xs := ys) (fun i σ' H' => ∃ o3 o4 o5 o6 o7 o8 vals, σ' = [some v, some (.int M), some (.ref F), o3, o4, o5, o6, o7, o8] ∧ Sx [] H H' ∧ Kl (F :: N) H5 H' ∧ Sx [F] H5 H' ∧ H' F = some (.lst vals) ∧ All2 (SpV (F :: N) H') vals (((ends b.lst nAt (0, 0) (p0 M)).take i).flatMap sEnd))
        ⟨_, _, _, _, _, _, [], rfl, s05, ⟨Tk.refl _, fun _ _ _ h => h⟩, Sx.refl _, eF5, .nil⟩ (fun i σ' H' _ y => by obtain ⟨_, _, _, _, _, _, _, _, _, _, y, _⟩ := y; exact SqL.of (y _ _ (by simp [LF]) eL)) (fun i y σ' H6 hi z => ?_) (fun σ' H6 z => ?_)⟩
      · obtain ⟨o3, o4, o5, o6, o7, o8, vals, rfl, s6, kl6, sF6, eF6, a6⟩ := z
        obtain ⟨x, hx, ai, u1, z1, rfl, hai, tu1, pz1⟩ := aL.get hi
        have hxm := List.mem_of_getElem? hx
        have il := (List.getElem?_eq_some_iff.mp hx).1
        have bx : LnB (lB 100) x.1 := (ebd x hxm).mono (lB_mono (by omega))
        have tu6 := tu1.keep kl6.t
        have pz6 := pz1.keep kl6
        have hN6 := (hN.sx s6).cons eF6
        refine ⟨ai, _, rfl, SqT.of (kl6.t _ _ hai), rfl, _, _, rfl, gnm ⟨_, _, rfl, gnm ⟨rfl, ?_⟩⟩⟩
        refine ⟨_, rfl, _, rfl, F :: N, u1, z1, x.1, x.2, rfl, hN6, tu6, bx, pz6, fun H7 L7 zs s7 nL7 eL7 aL7 => ?_⟩
        have eF7 := s7 _ _ (by simp) eF6
        have LF7 : L7 ≠ F := fun z => by rw [z, eF6] at nL7; cases nL7
        refine ⟨L7, rfl, ⟨zs, SqL.of eL7⟩, for_list (xs := zs) (fun j σ' H' => ∃ o5 o6 o7 o8 vals, σ' = [some v, some (.int M), some (.ref F), some u1, some z1, o5, o6, o7, o8] ∧ Sx [] H H' ∧ Kl (F :: N) H7 H' ∧ Sx [F] H7 H' ∧ H' F = some (.lst vals) ∧ All2 (SpV (F :: N) H') vals (((ends b.lst nAt (0, 0) (p0 M)).take i).flatMap sEnd ++ ((pBelow x.1 x.2).take j).flatMap (sBel x.1)))
          ⟨_, _, _, _, vals, rfl, s6.trans s7, ⟨Tk.refl _, fun _ _ _ h => h⟩, Sx.refl _, eF7, ?_⟩ (fun j σ' H' _ y => by obtain ⟨_, _, _, _, _, _, _, _, y, _⟩ := y; exact SqL.of (y _ _ (by simp [LF7]) eL7)) (fun j y σ' H8 hj z => ?_) (fun σ' H8 z => ?_)⟩
        · rw [List.take_zero, List.flatMap_nil, List.append_nil]
          exact a6.imp fun v y h => h.keep s7.kl
        · obtain ⟨o5, o6, o7, o8, vals, rfl, s8, kl8, sF8, eF8, a8⟩ := z
          obtain ⟨y2, hy2, bi, w1, rfl, hbi, pw1⟩ := aL7.get hj
          have jl : j < 2 := by
            have h1 := (List.getElem?_eq_some_iff.mp hy2).1
            have := pBelow_len x.1 x.2
            omega
          have pw8 := pw1.keep kl8
          have hN8 := (hN.sx s8).cons eF8
          have tu8 := (tu6.keep s7.tk0).keep kl8.t
          have vl := a8.len
          have vb : vals.length ≤ 1100 := by
            rw [vl, List.length_append]
            have h1 := len_flatMap (F := sEnd) (B := 4) (l := (ends b.lst nAt (0, 0) (p0 M)).take i) fun y _ => sEnd_len y
            have h2 := len_flatMap (F := sBel x.1) (B := 2) (l := (pBelow x.1 x.2).take j) fun y _ => sBel_len x.1 y
            rw [List.length_take] at h1 h2
            omega
          have tk2 : ((pBelow x.1 x.2).take (j + 1)).flatMap (sBel x.1) = ((pBelow x.1 x.2).take j).flatMap (sBel x.1) ++ sBel x.1 y2 := take_fm _ hy2
          refine ⟨bi, _, rfl, SqT.of (kl8.t _ _ hbi), rfl, _, _, rfl, gnm ⟨_, _, rfl, gnm ⟨rfl, ?_⟩⟩⟩
          refine ⟨_, rfl, y2.1, by simp [TruV], ?_⟩
          by_cases cb : y2.1 = true
          · refine iteP cb ⟨_, rfl, .inl ⟨rfl, _, SqL.of eF8⟩, 1, rfl, _, rfl, by show 2 ≤ sizeLine; decide, fun w' hw => ?_⟩
            have s9 := Sx.n0 (o := .tup [.int (-1), w1]) hw
            have eF9 := s9 _ _ (by simp) eF8
            have kk : Kl (F :: N) _ _ := Kl.own (zs := vals ++ [.ref w']) eF9 (List.mem_cons_self ..)
            refine ⟨F, vals, _, rfl, rfl, eF9, lt_line (by omega), _, _, _, _, _, rfl, (s8.trans s9).own hF, (kl8.trans s9.kl).trans kk, (sF8.trans (s9.mono (by simp))).trans ((Sx.refl (ex := [F]) _).put (by simp)), upd_same, ?_⟩
            rw [tk2, ← List.append_assoc]
            refine All2.app (a8.imp fun v y h => h.keep (s9.kl.trans kk)) ?_
            rw [sBel, if_pos cb]
            exact .cons ⟨w', w1, rfl, kk.t _ _ upd_same, (pw8.keep s9.kl).keep kk⟩ .nil
          · refine iteN cb ⟨_, rfl, .inl ⟨rfl, _, SqL.of eF8⟩, 1, rfl, _, rfl, -1, u1, x.1, rfl, tu8, by decide, by decide, fun H9 r9 s9 u9 => ?_⟩
            have eF9 := s9 _ _ (by simp) eF8
            refine ⟨_, rfl, F :: N, r9, w1, lnMul (-1) x.1, y2.2, rfl, hN8.sx s9, u9, bx.mul1 (by decide), pw8.keep s9.kl, fun Ha La us sa nLa eLa aLa => ?_⟩
            have eFa := sa _ _ (by simp) eF9
            have lus := aLa.len
            have lpb := pBelow_len (lnMul (-1) x.1) y2.2
            refine ⟨La, rfl, ⟨us, SqL.of eLa⟩, fun Z hZ => lc_list (xs := us) (fun l H' => Sx [] Ha H' ∧ ∃ vs2, H' Z = some (.lst vs2) ∧ vs2.length = l ∧ All2 (SpV (Z :: F :: N) H') vs2 ((sBel x.1 y2).take l)) ⟨Sx.n0 hZ, [], upd_same, rfl, .nil⟩ (fun l H' _ p => SqL.of (p.1 _ _ (by simp) eLa)) (fun l y H' hl z => ?_) (fun H' z => ?_)⟩
            · obtain ⟨sb, vs2, eZ, vl2, av⟩ := z
              obtain ⟨y3, hy3, ci, w2, rfl, hci, pw2⟩ := aLa.get hl
              have ll := (List.getElem?_eq_some_iff.mp hy3).1
              refine ⟨ci, _, rfl, SqT.of (sb _ _ (by simp) hci), rfl, _, _, rfl, gnm ⟨_, _, rfl, gnm ⟨rfl, rfl, ?_⟩⟩⟩
              refine ⟨_, rfl, .inr ⟨y3.1, rfl, _, rfl, by show 2 ≤ sizeLine; decide, fun w' hw => ?_⟩⟩
              have sc := Sx.n0 (o := .tup [.int (if y3.1 = true then 1 else 0), w2]) hw
              have eZc := sc _ _ (by simp) eZ
              have kz : Kl (Z :: F :: N) _ _ := Kl.own (zs := vs2 ++ [.ref w']) eZc (List.mem_cons_self ..)
              refine ⟨vs2, eZc, lt_line (by omega), (sb.trans sc).own hZ, _, upd_same, by rw [List.length_append, vl2]; rfl, ?_⟩
              rw [List.take_add_one, sBel, if_neg cb, List.getElem?_map, hy3]
              rw [sBel, if_neg cb] at av
              exact (av.imp fun v y h => h.keep (sc.kl.trans kz)).snoc ⟨w', w2, rfl, kz.t _ _ upd_same, ((pw2.more hZ).keep (sb.kl.trans sc.kl)).keep kz⟩
            · obtain ⟨sb, vs2, eZ, vl2, av⟩ := z
              rw [List.take_of_length_le (by rw [sBel, if_neg cb, List.length_map, ← lus]; exact Nat.le_refl _)] at av
              have eFb := sb _ _ (by simp) eFa
              have s89 := (s9.trans sa).trans sb
              have kk : Kl (F :: N) H' (upd H' F (.lst (vals ++ vs2))) := Kl.own eFb (List.mem_cons_self ..)
              refine ⟨F, Z, vals, vs2, rfl, rfl, eFb, eZ, le_line (by omega), _, _, _, _, _, rfl, (s8.trans s89).own hF, (kl8.trans s89.kl).trans kk, (sF8.trans (s89.mono (by simp))).trans ((Sx.refl (ex := [F]) _).put (by simp)), upd_same, ?_⟩
              rw [tk2, ← List.append_assoc]
              exact All2.app (a8.imp fun v y h => h.keep (s89.kl.trans kk)) (av.imp fun v y h => h.anti.keep kk)
        · obtain ⟨o5, o6, o7, o8, vals, rfl, s8, kl8, sF8, eF8, a8⟩ := z
          rw [List.take_of_length_le (l := pBelow x.1 x.2) (by rw [← aL7.len]; exact Nat.le_refl _), ← sEnd_eq] at a8
          refine ⟨_, _, _, _, _, _, vals, rfl, s8, (kl6.trans s7.kl).trans kl8, (sF6.trans (s7.mono (by simp))).trans sF8, eF8, ?_⟩
          rw [take_fm _ hx]
          exact a8
      · obtain ⟨o3, o4, o5, o6, o7, o8, vals, rfl, s6, kl6, sF6, eF6, a6⟩ := z
        rw [List.take_of_length_le (by rw [← aL.len]; exact Nat.le_refl _)] at a6
        exact ⟨_, _, _, _, _, _, vals, rfl, s6, eF6, a6⟩
    · rintro _ H1 ⟨o3, o4, o5, o6, o7, o8, vals, rfl, s1, e1, a1⟩
      exact ⟨_, rfl, q H1 F vals s1 hF e1 (a1.imp fun x z h => h.anti)⟩
end
/-! ### what a run does not wake stays asleep -/
def isRet : Frame → Bool
  | .ret .. => true
  | .gen .. => false
/-- a generator that no run can wake -/
def Poison (x : GenState) : Prop := ∃ w l c p fs cl, x = .suspended (fun _ => .unsupported w) l c p fs cl
def GoodSt : GenState → Prop
  | .suspended _ _ _ _ fs _ => ∀ F ∈ fs, isRet F = true
  | _ => True
def EndRet : End → Prop
  | .ret _ => True
  | .susp _ _ _ _ _ _ fs => ∀ F ∈ fs, isRet F = true
/-- R is X but where X cannot be woken; there both look alike -/
def RelG (R X : Array GenState) : Prop := R.size = X.size ∧ ∀ (i : Nat) (x : GenState), X[i]? = some x → (R[i]? = some x ∧ GoodSt x) ∨ (Poison x ∧ ∃ r : GenState, R[i]? = some r ∧ r.seen = x.seen ∧ r.bare = x.bare)
def KeptG (R X R' X' : Array GenState) : Prop := ∀ (i : Nat) (x : GenState), X[i]? = some x → (Poison x ∨ x = .running) → X'[i]? = some x ∧ R'[i]? = R[i]?
theorem KeptG.refl {R X : Array GenState} : KeptG R X R X := fun _ _ h _ => ⟨h, rfl⟩
theorem KeptG.trans {R X R1 X1 R2 X2 : Array GenState} (a : KeptG R X R1 X1) (b : KeptG R1 X1 R2 X2) : KeptG R X R2 X2 := fun i x h p => by
  obtain ⟨h1, h2⟩ := a i x h p
  obtain ⟨h3, h4⟩ := b i x h1 p
  exact ⟨h3, h4.trans h2⟩
theorem no_run {M : Model} {Γ : PySem.Ctx} {p : Pos} {t : Sem PySem.Fin} {fs : List Frame} {s s' : Shared} {e : End} (h : Runs M Γ p t fs s e s') : ∀ w, t ≠ .unsupported w := by
  induction h with
  | segRet _ _ ih _ => exact ih
  | segGen _ _ ih _ => exact ih
  | segSuspOut _ _ ih => exact ih
  | segSuspGen _ _ _ _ ih _ => exact ih
  | _ => intro w z; cases z
theorem RelG.get {R X : Array GenState} (r : RelG R X) {i : Nat} {x : GenState} (h : X[i]? = some x) (n : ¬ Poison x) : R[i]? = some x ∧ GoodSt x := by
  rcases r.2 i x h with z | z
  · exact z
  · exact absurd z.1 n
theorem RelG.push {R X : Array GenState} {st : GenState} (r : RelG R X) (g : GoodSt st) : RelG (R.push st) (X.push st) ∧ KeptG R X (R.push st) (X.push st) := by
  obtain ⟨hs, hr⟩ := r
  refine ⟨⟨by rw [Array.size_push, Array.size_push, hs], fun i x h => ?_⟩, fun i x h _ => ?_⟩
  · by_cases hi : i = X.size
    · subst hi
      rw [Array.getElem?_push_size] at h
      cases h
      exact .inl ⟨by rw [← hs]; exact Array.getElem?_push_size .., g⟩
    · have h2 : X[i]? = some x := by rw [Array.getElem?_push, if_neg hi] at h; exact h
      have e : ∀ st, (R.push st)[i]? = R[i]? := fun st => by rw [Array.getElem?_push, if_neg (by rw [hs]; exact hi)]
      rw [e]
      exact hr i x h2
  · have hi : i < X.size := (Array.getElem?_eq_some_iff.mp h).1
    exact ⟨by rw [Array.getElem?_push, if_neg (Nat.ne_of_lt hi)]; exact h, by rw [Array.getElem?_push, if_neg (by rw [hs]; exact Nat.ne_of_lt hi)]⟩
theorem RelG.set {R X : Array GenState} {g : Nat} {st : GenState} (r : RelG R X) (hg : GoodSt st) : RelG (R.setIfInBounds g st) (X.setIfInBounds g st) := by
  obtain ⟨hs, hr⟩ := r
  refine ⟨by rw [Array.size_setIfInBounds, Array.size_setIfInBounds, hs], fun i x h => ?_⟩
  by_cases hi : g = i
  · subst hi
    by_cases hb : g < X.size
    · rw [Array.getElem?_setIfInBounds_self_of_lt hb] at h
      cases h
      exact .inl ⟨Array.getElem?_setIfInBounds_self_of_lt (by rw [hs]; exact hb), hg⟩
    · have := (Array.getElem?_eq_some_iff.mp h).1
      rw [Array.size_setIfInBounds] at this
      exact absurd this hb
  · rw [Array.getElem?_setIfInBounds_ne hi] at h ⊢
    exact hr i x h
/-- what is written at g, which was awake to nothing -/
theorem KeptG.at {R X R1 X1 : Array GenState} {g : Nat} {st : GenState} (k : KeptG R X R1 X1) (n : ∀ x, X[g]? = some x → ¬ (Poison x ∨ x = .running)) : KeptG R X (R1.setIfInBounds g st) (X1.setIfInBounds g st) := fun i x h p => by
  have hi : g ≠ i := fun z => by subst z; exact n x h p
  rw [Array.getElem?_setIfInBounds_ne hi, Array.getElem?_setIfInBounds_ne hi]
  exact k i x h p
theorem split_ret : ∀ {fs : List Frame}, (∀ F ∈ fs, isRet F = true) → splitAtGen fs = none
  | [], _ => rfl
  | .ret .. :: r, h => by
    show (splitAtGen r).map _ = none
    rw [split_ret fun F hF => h F (List.mem_cons_of_mem _ hF)]
    rfl
  | .gen .. :: r, h => by have := h _ List.mem_cons_self; cases this
theorem not_poison_fresh {c : Code} : ¬ Poison (.fresh c) := fun ⟨_, _, _, _, _, _, h⟩ => by cases h
theorem not_poison_running : ¬ Poison .running := fun ⟨_, _, _, _, _, _, h⟩ => by cases h
theorem not_poison_finished : ¬ Poison .finished := fun ⟨_, _, _, _, _, _, h⟩ => by cases h
theorem good_of {e : End} (h : EndRet e) : GoodSt e.genState := by
  cases e with
  | ret r => trivial
  | susp => exact h
theorem wake_free {x y : GenState} (h : some x = some y) (n : ¬ Poison x) (m : x ≠ .running) : ¬ (Poison y ∨ y = .running) := by
  cases h
  exact fun z => z.elim n m
theorem not_poison_run {M : Model} {Γ : PySem.Ctx} {p p₂ : Pos} {k : Resume → Sem PySem.Fin} {r : Resume} {fs fs₂ : List Frame} {s s' : Shared} {e : End} {l : List Value} {c : Code} {cl : Bool} {y : GenState} (h : Runs M Γ p (k r) fs s e s') (hy : y = .suspended k l c p₂ fs₂ cl) : ¬ Poison y := fun ⟨w, _, _, _, _, _, z⟩ => by
  rw [hy] at z
  injection z with z1
  exact no_run h w (by rw [z1])
theorem np_at {M : Model} {Γ : PySem.Ctx} {p p₂ : Pos} {k : Resume → Sem PySem.Fin} {r : Resume} {fs fs₂ : List Frame} {s s' : Shared} {e : End} {l : List Value} {c : Code} {cl : Bool} {G : Array GenState} {g : Nat} (_ : G[g]? = some (.suspended k l c p₂ fs₂ cl)) (h : Runs M Γ p (k r) fs s e s') : ¬ Poison (.suspended k l c p₂ fs₂ cl) := not_poison_run h rfl
theorem swap {M : Model} {Γ : PySem.Ctx} {p : Pos} {t : Sem PySem.Fin} {fs : List Frame} {s s' : Shared} {e : End} (h : Runs M Γ p t fs s e s') :
    (∀ F ∈ fs, isRet F = true) → ∀ R, RelG R s.gens → ∃ R', RelG R' s'.gens ∧ KeptG R s.gens R' s'.gens ∧ Runs M Γ p t fs { s with gens := R } e { s' with gens := R' } ∧ EndRet e := by
  induction h with
  | done => intro _ R r; exact ⟨R, r, .refl, .done, trivial⟩
  | raise => intro _ R r; exact ⟨R, r, .refl, .raise, trivial⟩
  | again q _ ih => intro hf R r; obtain ⟨R', r', k, h', e'⟩ := ih hf R r; exact ⟨R', r', k, .again q h', e'⟩
  | rule _ ih => intro hf R r; obtain ⟨R', r', k, h', e'⟩ := ih hf R r; exact ⟨R', r', k, .rule h', e'⟩
  | «at» _ ih => intro hf R r; obtain ⟨R', r', k, h', e'⟩ := ih hf R r; exact ⟨R', r', k, .at h', e'⟩
  | load ho _ ih => intro hf R r; obtain ⟨R', r', k, h', e'⟩ := ih hf R r; exact ⟨R', r', k, .load ho h', e'⟩
  | update ho _ ih => intro hf R r; obtain ⟨R', r', k, h', e'⟩ := ih hf R r; exact ⟨R', r', k, .update ho h', e'⟩
  | loadIfAlive _ ih => intro hf R r; obtain ⟨R', r', k, h', e'⟩ := ih hf R r; exact ⟨R', r', k, .loadIfAlive h', e'⟩
  | point _ ih => intro hf R r; obtain ⟨R', r', k, h', e'⟩ := ih hf R r; exact ⟨R', r', k, .point h', e'⟩
  | alloc _ ih => intro hf R r; obtain ⟨R', r', k, h', e'⟩ := ih hf R r; exact ⟨R', r', k, .alloc h', e'⟩
  | fresh _ ih => intro hf R r; obtain ⟨R', r', k, h', e'⟩ := ih hf R r; exact ⟨R', r', k, .fresh h', e'⟩
  | ask _ ih => intro hf R r; obtain ⟨R', r', k, h', e'⟩ := ih hf R r; exact ⟨R', r', k, .ask h', e'⟩
  | choose hn _ ih => intro hf R r; obtain ⟨R', r', k, h', e'⟩ := ih hf R r; exact ⟨R', r', k, .choose hn h', e'⟩
  | os _ ih => intro hf R r; obtain ⟨R', r', k, h', e'⟩ := ih hf R r; exact ⟨R', r', k, .os h', e'⟩
  | handled _ ih => intro hf R r; obtain ⟨R', r', k, h', e'⟩ := ih hf R r; exact ⟨R', r', k, .handled h', e'⟩
  | genState hg _ ih =>
    intro hf R r
    obtain ⟨R', r', k, h', e'⟩ := ih hf R r
    rcases r.2 _ _ hg with z | ⟨_, st, z1, z2, _⟩
    · exact ⟨R', r', k, .genState z.1 h', e'⟩
    · refine ⟨R', r', k, .genState z1 ?_, e'⟩
      rw [z2]
      exact h'
  | stack _ ih => intro hf R r; obtain ⟨R', r', k, h', e'⟩ := ih hf R r; exact ⟨R', r', k, .stack h', e'⟩
  | thread _ ih => intro hf R r; obtain ⟨R', r', k, h', e'⟩ := ih hf R r; exact ⟨R', r', k, .thread h', e'⟩
  | newGen _ ih =>
    intro hf R r
    obtain ⟨r1, k1⟩ := r.push (st := .fresh _) trivial
    obtain ⟨R', r', k, h', e'⟩ := ih hf _ r1
    refine ⟨R', r', k1.trans k, .newGen ?_, e'⟩
    rw [r.1]
    exact h'
  | call _ _ ih1 ih2 =>
    intro hf R r
    obtain ⟨R1, r1, k1, h1, _⟩ := ih1 (fun _ z => by cases z) R r
    obtain ⟨R2, r2, k2, h2, e2⟩ := ih2 hf R1 r1
    exact ⟨R2, r2, k1.trans k2, .call h1 h2, e2⟩
  | callSusp _ ih =>
    intro hf R r
    obtain ⟨R1, r1, k1, h1, e1⟩ := ih (fun _ z => by cases z) R r
    refine ⟨R1, r1, k1, .callSusp h1, fun F hF => ?_⟩
    rcases List.mem_append.1 hF with z | z
    · exact e1 F z
    · rw [List.mem_singleton.mp z]; rfl
  | yield => intro _ R r; exact ⟨R, r, .refl, .yield, fun _ z => by cases z⟩
  | resumeFresh hg _ hq _ ih1 ih2 =>
    intro hf R r
    obtain ⟨z1, _⟩ := r.get hg not_poison_fresh
    have nf : ∀ x, _ = some x → ¬ (Poison x ∨ x = .running) := fun x hx => wake_free (hg.symm.trans hx) not_poison_fresh (fun z => by cases z)
    have k1 : KeptG R _ _ _ := (KeptG.refl (R := R)).at (st := .running) nf
    obtain ⟨R1, r2, k2, h1, e1⟩ := ih1 (fun _ z => by cases z) _ (r.set (st := .running) trivial)
    obtain ⟨R2, r3, k3, h2, e2⟩ := ih2 hf _ (r2.set (good_of e1))
    exact ⟨R2, r3, ((k1.trans k2).at nf).trans k3, .resumeFresh z1 h1 hq h2, e2⟩
  | resumeSuspended hg hr hq _ ih1 ih2 =>
    intro hf R r
    have np := np_at hg hr
    rcases r.2 _ _ hg with ⟨z1, z2⟩ | ⟨z1, _⟩
    · have nf : ∀ x, _ = some x → ¬ (Poison x ∨ x = .running) := fun x hx => wake_free (hg.symm.trans hx) np (fun z => by cases z)
      have k1 : KeptG R _ _ _ := (KeptG.refl (R := R)).at (st := .running) nf
      obtain ⟨R1, r2, k2, h1, e1⟩ := ih1 z2 _ (r.set (st := .running) trivial)
      obtain ⟨R2, r3, k3, h2, e2⟩ := ih2 hf _ (r2.set (good_of e1))
      exact ⟨R2, r3, ((k1.trans k2).at nf).trans k3, .resumeSuspended z1 h1 hq h2, e2⟩
    · exact absurd z1 np
  | resumeJustStarted hg hv _ ih => intro hf R r; obtain ⟨R', r', k, h', e'⟩ := ih hf R r; exact ⟨R', r', k, .resumeJustStarted (r.get hg not_poison_fresh).1 hv h', e'⟩
  | resumeThrowFresh hg _ ih =>
    intro hf R r
    have nf : ∀ x, _ = some x → ¬ (Poison x ∨ x = .running) := fun x hx => wake_free (hg.symm.trans hx) not_poison_fresh (fun z => by cases z)
    have k1 : KeptG R _ _ _ := (KeptG.refl (R := R)).at (st := .finished) nf
    obtain ⟨R', r', k, h', e'⟩ := ih hf _ (r.set (st := .finished) trivial)
    exact ⟨R', r', k1.trans k, .resumeThrowFresh (r.get hg not_poison_fresh).1 h', e'⟩
  | resumeRunning hg _ ih => intro hf R r; obtain ⟨R', r', k, h', e'⟩ := ih hf R r; exact ⟨R', r', k, .resumeRunning (r.get hg not_poison_running).1 h', e'⟩
  | resumeFinished hg _ ih => intro hf R r; obtain ⟨R', r', k, h', e'⟩ := ih hf R r; exact ⟨R', r', k, .resumeFinished (r.get hg not_poison_finished).1 h', e'⟩
  | segRet _ _ ih1 ih2 =>
    intro hf R r
    obtain ⟨R1, r1, k1, h1, _⟩ := ih1 (fun _ z => by cases z) R r
    obtain ⟨R2, r2, k2, h2, e2⟩ := ih2 (fun F hF => hf F (List.mem_cons_of_mem _ hF)) R1 r1
    exact ⟨R2, r2, k1.trans k2, .segRet h1 h2, e2⟩
  | segGen _ _ ih1 ih2 => intro hf R r; have := hf _ List.mem_cons_self; cases this
  | segSuspOut hs _ ih =>
    intro hf R r
    obtain ⟨R1, r1, k1, h1, e1⟩ := ih (fun _ z => by cases z) R r
    refine ⟨R1, r1, k1, .segSuspOut hs h1, fun F hF => ?_⟩
    rcases List.mem_append.1 hF with z | z
    · exact e1 F z
    · exact hf F z
  | segSuspGen hs _ _ _ ih1 ih2 => intro hf R r; rw [split_ret hf] at hs; cases hs
theorem swap_returns {M : Model} {Γ : PySem.Ctx} {p : Pos} {s s' : Shared} {r : Result} (h : Returns M Γ p s r s') {R : Array GenState} (rr : RelG R s.gens) :
    ∃ R', RelG R' s'.gens ∧ KeptG R s.gens R' s'.gens ∧ Returns M Γ p { s with gens := R } r { s' with gens := R' } := by
  obtain ⟨R', a, b, c, _⟩ := swap h (fun _ z => by cases z) R rr
  exact ⟨R', a, b, c⟩
theorem swap_wakes {M : Model} {Γ : PySem.Ctx} {p : Pos} {g : Nat} {r : Resume} {s s' : Shared} {res : GenResult} (h : Wakes M Γ p g r s res s') {R : Array GenState} (rr : RelG R s.gens) :
    ∃ R', RelG R' s'.gens ∧ KeptG R s.gens R' s'.gens ∧ Wakes M Γ p g r { s with gens := R } res { s' with gens := R' } := by
  unfold Wakes at h
  cases hg : s.gens[g]? with
  | none => rw [hg] at h; exact h.elim
  | some x =>
    rw [hg] at h
    cases x with
    | fresh c =>
      obtain ⟨z1, _⟩ := rr.get hg not_poison_fresh
      have nf : ∀ x, s.gens[g]? = some x → ¬ (Poison x ∨ x = .running) := fun x hx => wake_free (hg.symm.trans hx) not_poison_fresh (fun z => by cases z)
      have fin : ∀ {e₁ : End} {s₁ : Shared}, Runs M (Γ.wake c p) p (M.den c) [] (s.setGen g .running) e₁ s₁ → e₁.quiet = true → ∃ R', RelG R' (s₁.setGen g e₁.genState).gens ∧ KeptG R s.gens R' (s₁.setGen g e₁.genState).gens ∧
          ∃ e s₂, Runs M (Γ.wake c p) p (M.den c) [] (({ s with gens := R } : Shared).setGen g .running) e s₂ ∧ e.quiet = true ∧ e₁.result = e.result ∧ ({ s₁.setGen g e₁.genState with gens := R' } : Shared) = s₂.setGen g e.genState := fun {e₁ s₁} hr hq => by
        obtain ⟨R1, r2, k2, h1, e1⟩ := swap hr (fun _ z => by cases z) _ (rr.set (st := .running) trivial)
        exact ⟨_, r2.set (good_of e1), (((KeptG.refl (R := R)).at (st := .running) nf).trans k2).at nf, e₁, { s₁ with gens := R1 }, h1, hq, rfl, rfl⟩
      cases r with
      | send v =>
        cases v with
        | none =>
          obtain ⟨e₁, s₁, hr, hq, rfl, rfl⟩ := h
          obtain ⟨R', a, b, e, s₂, c1, c2, c3, c4⟩ := fin hr hq
          refine ⟨R', a, b, ?_⟩
          unfold Wakes
          rw [show ({ s with gens := R } : Shared).gens[g]? = some (.fresh c) from z1]
          exact ⟨e, s₂, c1, c2, c3, c4⟩
        | _ =>
          obtain ⟨rfl, rfl⟩ := h
          refine ⟨R, rr, .refl, ?_⟩
          unfold Wakes
          rw [show ({ s' with gens := R } : Shared).gens[g]? = some (.fresh c) from z1]
          exact ⟨rfl, rfl⟩
      | throw x =>
        obtain ⟨rfl, rfl⟩ := h
        refine ⟨_, rr.set (st := .finished) trivial, (KeptG.refl (R := R)).at (st := .finished) nf, ?_⟩
        unfold Wakes
        rw [show ({ s with gens := R } : Shared).gens[g]? = some (.fresh c) from z1]
        exact ⟨rfl, rfl⟩
    | suspended k₀ l₀ c₀ p₀ fs₀ c9 =>
      obtain ⟨e₁, s₁, hr, hq, rfl, rfl⟩ := h
      have np := np_at hg hr
      have nf : ∀ x, s.gens[g]? = some x → ¬ (Poison x ∨ x = .running) := fun x hx => wake_free (hg.symm.trans hx) np (fun z => by cases z)
      obtain ⟨z1, z2⟩ := rr.get hg np
      obtain ⟨R1, r2, k2, h1, e1⟩ := swap hr z2 _ (rr.set (st := .running) trivial)
      refine ⟨_, r2.set (good_of e1), (((KeptG.refl (R := R)).at (st := .running) nf).trans k2).at nf, ?_⟩
      unfold Wakes
      rw [show ({ s with gens := R } : Shared).gens[g]? = some (.suspended k₀ l₀ c₀ p₀ fs₀ c9) from z1]
      exact ⟨e₁, { s₁ with gens := R1 }, h1, hq, rfl, rfl⟩
    | running =>
      obtain ⟨rfl, rfl⟩ := h
      refine ⟨R, rr, .refl, ?_⟩
      unfold Wakes
      rw [show ({ s' with gens := R } : Shared).gens[g]? = some .running from (rr.get hg not_poison_running).1]
      exact ⟨rfl, rfl⟩
    | finished =>
      obtain ⟨rfl, rfl⟩ := h
      refine ⟨R, rr, .refl, ?_⟩
      unfold Wakes
      rw [show ({ s' with gens := R } : Shared).gens[g]? = some .finished from (rr.get hg not_poison_finished).1]
      exact ⟨rfl, rfl⟩
/-- the same end, told of the awake state -/
def PutG {β : Type} (R X : Array GenState) (Q : β → Pos → Shared → Prop) : β → Pos → Shared → Prop := fun a p s' => ∃ X', RelG s'.gens X' ∧ KeptG R X s'.gens X' ∧ Q a p { s' with gens := X' }
theorem PutG.of {β : Type} {R X : Array GenState} {Q : β → Pos → Shared → Prop} {a : β} {p : Pos} {s : Shared} {R' : Array GenState} (r : RelG R' s.gens) (k : KeptG R X R' s.gens) (h : Q a p s) : PutG R X Q a p { s with gens := R' } := ⟨s.gens, r, k, h⟩
theorem PutG.trans {β : Type} {R X R1 X1 : Array GenState} {Q : β → Pos → Shared → Prop} (k : KeptG R X R1 X1) {a : β} {p : Pos} {s : Shared} (h : PutG R1 X1 Q a p s) : PutG R X Q a p s := by
  obtain ⟨X', r, k', q⟩ := h
  exact ⟨X', r, k.trans k', q⟩
open Sem (wp) in
theorem wp_swap {α : Type} (M : Model) (Γ : PySem.Ctx) (t : Sem α) : ∀ (Q : α → Pos → Shared → Prop) (E : Value → Pos → Shared → Prop) (p : Pos) (s : Shared) (R : Array GenState), RelG R s.gens → wp M Γ t Q E p s →
    wp M Γ t (PutG R s.gens Q) (PutG R s.gens E) p { s with gens := R } := by
  induction t with
  | pure a => intro Q E p s R r h; exact .of r .refl h
  | raise e => intro Q E p s R r h; exact .of r .refl h
  | unsupported _ => intro Q E p s R r h; exact h
  | finish _ => intro Q E p s R r h; exact h
  | rule _ k ih => intro Q E p s R r h; exact ih () Q E p s R r h
  | «at» p' k ih => intro Q E p s R r h; exact ih () Q E p' s R r h
  | load a _ k ih => intro Q E p s R r h; obtain ⟨o, ho, h⟩ := h; exact ⟨o, ho, ih o Q E p s R r h⟩
  | update a _ f k ih => intro Q E p s R r h; exact ⟨h.1, ih () Q E p { s with heap := s.heap.update a f } R r h.2⟩
  | loadIfAlive a k ih => intro Q E p s R r h; exact ih _ Q E p s R r h
  | point _ k ih => intro Q E p s R r h; exact ih () Q E p s R r h
  | register _ _ => intro Q E p s R r h; exact h
  | alloc o k ih => intro Q E p s R r h; exact ih _ Q E p { s with heap := s.heap.push o } R r h
  | fresh k ih => intro Q E p s R r h; exact ih _ Q E p { s with toks := s.toks + 1 } R r h
  | ask k ih => intro Q E p s R r h; exact ih _ Q E p s R r h
  | choose src m k ih => intro Q E p s R r h; exact ⟨h.1, ih _ Q E p { s with drawn := s.drawn.bump src } R r h.2⟩
  | os q _ k ih => intro Q E p s R r h; exact ih _ Q E p { s with os := (Os.step s.os q).1 } R r h
  | call c hd _ _ k ih =>
    intro Q E p s R r h
    obtain ⟨x, s₁, hr, h⟩ := h
    obtain ⟨R1, r1, k1, h1⟩ := swap_returns hr r
    exact ⟨x, { s₁ with gens := R1 }, h1, Sem.wp_mono M Γ (k x) (fun a p' s' z => z.trans k1) (fun a p' s' z => z.trans k1) p _ (ih x Q E p s₁ R1 r1 h)⟩
  | handled own k ih => intro Q E p s R r h; exact ih _ Q E p s R r h
  | genState g k ih =>
    intro Q E p s R r h
    obtain ⟨st, hs, h⟩ := h
    rcases r.2 _ _ hs with z | ⟨_, st', z1, z2, _⟩
    · exact ⟨st, z.1, ih _ Q E p s R r h⟩
    · refine ⟨st', z1, ?_⟩
      rw [z2]
      exact ih _ Q E p s R r h
  | newGen c k ih =>
    intro Q E p s R r h
    obtain ⟨r1, k1⟩ := r.push (st := .fresh c) trivial
    have h2 := ih _ Q E p { s with gens := s.gens.push (.fresh c) } _ r1 h
    show wp M Γ (k R.size) _ _ p _
    rw [r.1]
    exact Sem.wp_mono M Γ _ (fun a p' s' z => z.trans k1) (fun a p' s' z => z.trans k1) p _ h2
  | resume g x _ k ih =>
    intro Q E p s R r h
    obtain ⟨res, s₁, hw, h⟩ := h
    obtain ⟨R1, r1, k1, h1⟩ := swap_wakes hw r
    exact ⟨res, { s₁ with gens := R1 }, h1, Sem.wp_mono M Γ (k res) (fun a p' s' z => z.trans k1) (fun a p' s' z => z.trans k1) p _ (ih res Q E p s₁ R1 r1 h)⟩
  | yield _ _ _ _ => intro Q E p s R r h; exact h
  | stack k ih => intro Q E p s R r h; exact ih _ Q E p s R r h
  | fork _ _ => intro Q E p s R r h; exact h
  | thread k ih => intro Q E p s R r h; exact ih _ Q E p s R r h
  | await _ _ _ _ _ => intro Q E p s R r h; exact h
def cleanF (F : Frame) : Frame := .ret (fun _ => .unsupported "asleep") none false [] F.where_.1 F.where_.2 []
def poison : GenState → GenState
  | .suspended _ l c p fs cl => .suspended (fun _ => .unsupported "asleep") l c p (fs.map cleanF) cl
  | x => x
theorem poison_seen (x : GenState) : x.seen = (poison x).seen := by
  cases x with
  | suspended k l c p fs cl =>
    show (_, some ((c, p) :: fs.map Frame.where_)) = (_, some ((c, p) :: (fs.map cleanF).map Frame.where_))
    rw [List.map_map]
    rfl
  | _ => rfl
theorem poison_bare (x : GenState) : x.bare = (poison x).bare := by cases x <;> rfl
theorem relG_poison (G : Array GenState) : RelG G (G.map poison) := by
  refine ⟨(Array.size_map ..).symm, fun i x h => ?_⟩
  rw [Array.getElem?_map] at h
  obtain ⟨y, hy, rfl⟩ := Option.map_eq_some_iff.mp h
  cases y with
  | suspended k l c p fs cl => exact .inr ⟨⟨_, _, _, _, _, _, rfl⟩, _, hy, poison_seen _, poison_bare _⟩
  | _ => exact .inl ⟨hy, trivial⟩
/-- who sleeps (or runs) still does -/
def Slp (G G' : Array GenState) : Prop := ∀ (i : Nat) (y : GenState), G[i]? = some y → (y.status = .suspended ∨ y.status = .running) → G'[i]? = some y
theorem Slp.refl (G : Array GenState) : Slp G G := fun _ _ h _ => h
theorem Slp.trans {G G1 G2 : Array GenState} (a : Slp G G1) (b : Slp G1 G2) : Slp G G2 := fun i y h n => b i y (a i y h n) n
theorem KeptG.slp {G G' X' : Array GenState} (k : KeptG G (G.map poison) G' X') : Slp G G' := fun i y h n => by
  have hx : (G.map poison)[i]? = some (poison y) := by rw [Array.getElem?_map, h]; rfl
  cases y with
  | suspended k' l c p fs cl => rw [(k i _ hx (.inl ⟨_, _, _, _, _, _, rfl⟩)).2]; exact h
  | running => rw [(k i _ hx (.inr rfl)).2]; exact h
  | fresh c => rcases n with n | n <;> cases n
  | finished => rcases n with n | n <;> cases n
theorem RelG.allBare {R X : Array GenState} (r : RelG R X) (b : AllBare X) : AllBare R := fun y hy => by
  rcases Array.mem_iff_getElem.mp hy with ⟨i, hi, e⟩
  have hX : i < X.size := by rw [← r.1]; exact hi
  have eX : X[i]? = some X[i] := Array.getElem?_eq_getElem hX
  have eR : R[i]? = some y := by rw [Array.getElem?_eq_getElem hi, e]
  have bX := b _ (Array.getElem_mem hX)
  rcases r.2 i _ eX with ⟨z, _⟩ | ⟨_, r', z, _, zb⟩
  · rw [eR] at z
    cases z
    exact bX
  · rw [eR] at z
    cases z
    rw [zb]
    exact bX
theorem allBare_poison {G : Array GenState} (b : AllBare G) : AllBare (G.map poison) := fun y hy => by
  obtain ⟨x, hx, rfl⟩ := Array.mem_map.mp hy
  rw [← poison_bare]
  exact b x hx
/-- what is shown while all that sleeps cannot be woken holds of the true run, and they sleep on -/
theorem wpAny_asleep {α : Type} {M : Model} {A : Around} {t : Sem α} {Q : α → Shared → Prop} {E : Value → Shared → Prop} {s : Shared} (h : wpAny M A t Q E { s with gens := s.gens.map poison }) :
    wpAny M A t (fun a s' => ∃ X', Q a { s' with gens := X' } ∧ RelG s'.gens X' ∧ Slp s.gens s'.gens) (fun e s' => ∃ X', E e { s' with gens := X' } ∧ RelG s'.gens X' ∧ Slp s.gens s'.gens) s := fun Γ p hΓ => by
  have h2 := wp_swap M Γ t _ _ p { s with gens := s.gens.map poison } s.gens (relG_poison s.gens) (h Γ p hΓ)
  exact Sem.wp_mono M Γ t (fun a p' s' z => by obtain ⟨X', r, k, q⟩ := z; exact ⟨X', q, r, k.slp⟩) (fun a p' s' z => by obtain ⟨X', r, k, q⟩ := z; exact ⟨X', q, r, k.slp⟩) p s h2
section
variable {X : Cx} {s : Shared} {pins : List (Addr × Obj)} {σ : L2.St} {H : Hp}
theorem inv_gens (I : Inv X pins σ H s) {G : Array GenState} (b : AllBare G) : Inv X pins σ H { s with gens := G } := ⟨I.ok, I.os, b, I.base, I.loc, I.cell, I.free, I.freeC, I.pin, I.hok, I.len⟩
theorem inv_gens' {G : Array GenState} (I : Inv X pins σ H { s with gens := G }) (b : AllBare s.gens) : Inv X pins σ H s := ⟨I.ok, I.os, b, I.base, I.loc, I.cell, I.free, I.freeC, I.pin, I.hok, I.len⟩
theorem sp_gens {D : Ends} {f : Flow} {G : Array GenState} (h : SP X pins D f { s with gens := G }) (r : RelG s.gens G) : SP X pins D f s := by
  cases f with
  | next => obtain ⟨σ', H', I, q⟩ := h; exact ⟨σ', H', inv_gens' I (r.allBare I.bare), q⟩
  | brk => obtain ⟨σ', H', I, q⟩ := h; exact ⟨σ', H', inv_gens' I (r.allBare I.bare), q⟩
  | cont => obtain ⟨σ', H', I, q⟩ := h; exact ⟨σ', H', inv_gens' I (r.allBare I.bare), q⟩
  | ret u => obtain ⟨v, σ', H', I, rv, q⟩ := h; exact ⟨v, σ', H', inv_gens' I (r.allBare I.bare), rv, q⟩
/-- a body leaves asleep what sleeps -/
theorem body_asleep {sts : List Stmt} {t : TS} {D : Ends} (hb : PSs X sts t) (hx : ∀ e s', ¬ X.xe e s') (I : Inv X pins σ H s) (ht : t D σ H) :
    wpAny (model X.prog X.w) X.A (execs sts X.env) (fun f s' => SP X pins D f s' ∧ Slp s.gens s'.gens) (fun _ _ => False) s := by
  refine wpAny_mono (wpAny_asleep (hb.run pins { s with gens := s.gens.map poison } σ H D (inv_gens I (allBare_poison I.bare)) ht)) (fun f s' ⟨X', q, r, k⟩ => ⟨sp_gens q r, k⟩) fun e s' ⟨X', q, _⟩ => hx e _ q
theorem target_asleep {tg : Expr} {g : TG} {v : V} {u : Value} {Q : L2.St → Hp → Prop} (hg : PG X tg g) (hx : ∀ e s', ¬ X.xe e s') (I : Inv X pins σ H s) (r : RelV v u) (h : g v σ H Q) :
    wpAny (model X.prog X.w) X.A (assign tg X.env u) (fun _ s' => (∃ σ' H', Inv X pins σ' H' s' ∧ Q σ' H') ∧ Slp s.gens s'.gens) (fun _ _ => False) s := by
  refine wpAny_mono (wpAny_asleep (hg.run pins { s with gens := s.gens.map poison } σ H v u Q (inv_gens I (allBare_poison I.bare)) r h)) (fun f s' ⟨X', ⟨σ', H', I', q⟩, r', k⟩ => ⟨⟨σ', H', inv_gens' I' (r'.allBare I'.bare), q⟩, k⟩) fun e s' ⟨X', q, _⟩ => hx e _ q
end
/-! ### a generator that is turned by a loop -/
/-- a heap's first n objects -/
def cut (h : Heap) (n : Nat) : Heap := { h with objs := h.objs.extract 0 n }
theorem cut_objs (xs : Array Obj) (n b : Nat) (hb : b < n) : (xs.extract 0 n)[b]? = xs[b]? := by
  rw [Array.getElem?_extract]
  by_cases h1 : b < xs.size
  · rw [if_pos (by omega), Nat.zero_add]
  · rw [if_neg (by omega)]; rw [Array.getElem?_eq_none (by omega)]
theorem cut_sz (xs : Array Obj) (n : Nat) : (xs.extract 0 n).size = min n xs.size := by simp
theorem cut_get {h : Heap} {n : Nat} {b : Addr} (hb : b < n) : (cut h n).get? b = h.get? b := by
  unfold Heap.get? cut
  show (match (h.objs.extract 0 n)[b]? with | some ⟨_, _, .freed, _⟩ => none | o => o) = _
  rw [cut_objs h.objs n b hb]
  rfl
theorem cut_some {h : Heap} {n : Nat} {b : Addr} {o : Obj} (e : (cut h n).get? b = some o) : b < n ∧ h.get? b = some o := by
  have l := Heap.lt_size e
  rw [show (cut h n).objs.size = min n h.objs.size from cut_sz _ _] at l
  have hb : b < n := Nat.lt_of_lt_of_le l (Nat.min_le_left _ _)
  rw [cut_get hb] at e
  exact ⟨hb, e⟩
theorem cut_size {h : Heap} {n : Nat} (l : n ≤ h.objs.size) : (cut h n).objs.size = n := by
  rw [show (cut h n).objs.size = min n h.objs.size from cut_sz _ _]
  exact Nat.min_eq_left l
theorem funs_cut {h base : Heap} {n : Nat} : ∀ {l : List Env}, h.FunFrames base l → (∀ b ∈ frs l, b < n) → (cut h n).FunFrames base l
  | [], _, _ => trivial
  | env :: r, ⟨hk, ⟨L, o, hf, hn, ho, hd⟩, hr⟩, hl => by
    have e : frs (env :: r) = L :: frs r := by unfold frs; rw [List.filterMap_cons, hf]
    exact ⟨hk, ⟨L, o, hf, hn, by rw [cut_get (hl L (by rw [e]; exact List.mem_cons_self))]; exact ho, hd⟩, funs_cut hr fun b hb => hl b (by rw [e]; exact List.mem_cons_of_mem _ hb)⟩
/-- the generator's context: woken at s, H; its frame at n -/
def ycx (P : Program) (w : World) (K : PySem.W.Frag) (mg : Str → Option Value) (base : Heap) (N : List Str) (qual : Str) (scope : Scope) (f : Addr) (cd : Value) (A : Around) (outer : List Env) (n : Nat) (pn : List (Addr × Obj)) (s : Shared) (H : Hp) : Cx where
  prog := P
  w := w
  K := K
  mg := mg
  base := base
  A := A.deeper (envOfC qual scope n f cd)
  N := N
  s_0 := { s with heap := cut s.heap n }
  H_0 := H
  env := envOfC qual scope n f cd
  outer := outer
  stack := envOfC qual scope n f cd :: outer
  ex := []
  calm := true
  fn := fun _ => true
  pn := pn
  xe := fun _ _ => False
/-- what the generator's locals hold, while it sleeps -/
def GLoc (N : List Str) (env : Env) (σ : L2.St) (lo : Obj) : Prop := ∀ h : Heap, h.get? env.locals = some lo → ∃ m, h.Ns env.locals m ∧ ∀ (i : Nat) (x : Str) (v : V), N[i]? = some x → σ[i]? = some (some v) → Vis env.scope x → ∃ u, RelV v u ∧ Look env h m x u
/-- no cells -/
structure NoCells (scope : Scope) : Prop where
  cl : ∀ n : Nat, cellsFrom n scope.names [] = []
  nm : ∀ y ∈ scope.names, y.2 ≠ .cell ∧ y.2 ≠ .free
section
variable {X : Cx} {pins : List (Addr × Obj)} {σ σg : L2.St} {H H' : Hp} {s s' : Shared} {N : List Str} {qual : Str} {scope : Scope} {f : Addr} {cd : Value} {n : Nat} {pn : List (Addr × Obj)} {lo : Obj} {B : Around}
abbrev gcx (X : Cx) (B : Around) (N : List Str) (qual : Str) (scope : Scope) (f : Addr) (cd : Value) (n : Nat) (pn : List (Addr × Obj)) (s : Shared) (H : Hp) : Cx := ycx X.prog X.w X.K X.mg X.base N qual scope f cd B X.stack n pn s H
/-- the consumer's state as the generator sees it when it is woken -/
theorem inv_wake (hk : scope.kind = .function) (nc : NoCells scope) (hd : B.handled = none) (hfr : B.frames = some X.stack) (hX : X.env.locals < n) (hXs : X.s_0.heap.objs.size ≤ n) (hsz : n ≤ s.heap.objs.size)
    (I : Inv X ((n, lo) :: (pn ++ pins)) σ H s) (hpn : ∀ p ∈ pn, p.1 ≠ n ∧ p.1 ∉ frs X.stack) (gl : GLoc N (envOfC qual scope n f cd) σg lo) (hl : σg.length = N.length) : Inv (gcx X B N qual scope f cd n pn s H) [] σg H s := by
  have ec : ∀ x : Str, (envOfC qual scope n f cd).cells.lookup x = none := fun x => by
    show (cellsFrom (n + 1) scope.names []).lookup x = none
    rw [nc.cl]
    rfl
  obtain ⟨pl, ph, pX, _, _⟩ := I.pin (n, lo) (List.mem_append_right _ List.mem_cons_self)
  have flt : ∀ b ∈ frs X.stack, b < n := fun b hb => by
    rcases List.mem_cons.1 (I.stkSub b hb) with e | hb
    · rw [e]; exact hX
    · rcases I.ok.funs.mem hb with ⟨_, o, ho, _⟩
      exact Nat.lt_of_lt_of_le (Heap.lt_size ho) hXs
  have blt : ∀ b o, X.base.get? b = some o → b < n := fun b o e => Nat.lt_of_lt_of_le (Heap.lt_size e) (Nat.le_trans I.ok.bsz hXs)
  refine ⟨⟨I.ok.mod, hk, rfl, rfl, ?_, fun x y c h => ?_, fun x hx => ?_, fun x c _ h => ?_, fun _ => hd, Around.frames_deeper hfr, .inr ⟨rfl, rfl⟩, fun b z => absurd (show b ∈ ([] : List Addr) from z) (by simp), fun b o e => ?_, ?_, fun b o _ z => absurd (show b ∈ ([] : List Addr) from z) (by simp),
    fun b z => absurd (show b ∈ ([] : List Addr) from z) (by simp), ?_, fun b hb => I.stkFree b hb⟩, rfl, I.bare, ?_, gl s.heap pl, fun x c h => ?_, ph, fun x c h => ?_, fun p hp => ?_, I.hok, hl⟩
  · show (cut s.heap n).objs.size ≤ n
    rw [cut_size hsz]
    exact Nat.le_refl _
  · rw [show (gcx X B N qual scope f cd n pn s H).env.cells.lookup x = none from ec x] at h; cases h
  · have hy : scope.names.lookup x = some .cell ∨ scope.names.lookup x = some .free := hx
    rcases hy with hy | hy
    · exact absurd rfl (nc.nm _ (PySem.mem_of_lookup hy)).1
    · exact absurd rfl (nc.nm _ (PySem.mem_of_lookup hy)).2
  · rw [show (gcx X B N qual scope f cd n pn s H).env.cells.lookup x = none from ec x] at h; cases h
  · obtain ⟨e1, e2⟩ := I.bs b o e
    exact ⟨by show (cut s.heap n).get? b = _; rw [cut_get (blt b o e)]; exact e1, e2⟩
  · show X.base.objs.size ≤ (cut s.heap n).objs.size
    rw [cut_size hsz]
    exact Nat.le_trans I.ok.bsz hXs
  · exact funs_cut I.stack flt
  · exact ⟨fun b o e _ _ _ => (cut_some e).2, fun b o e _ _ _ => ⟨o.slots, (cut_some e).2⟩, fun b o _ h _ => h, fun b o e _ => ⟨o, (cut_some e).2⟩, fun _ _ h => h, fun _ _ _ h => h, fun b ps h => ⟨#[], by have h' : H b = some (.tbl ps) := h; rw [h']; simp⟩⟩
  · rw [show (gcx X B N qual scope f cd n pn s H).env.cells.lookup x = none from ec x] at h; cases h
  · rw [show (gcx X B N qual scope f cd n pn s H).env.cells.lookup x = none from ec x] at h; cases h
  · have hp' : p ∈ pn := (List.mem_append.1 hp).elim (fun z => z) fun z => absurd z (by simp)
    obtain ⟨q1, q2, _, _, q5⟩ := I.pin p (List.mem_append_right _ (List.mem_cons_of_mem _ (List.mem_append_left _ hp')))
    exact ⟨q1, q2, (hpn p hp').1, (hpn p hp').2, q5⟩
/-- a namespace outlives its slots -/
theorem ns_slots {h h' : Heap} {a : Addr} {m : Str → Option Value} (hn : h.Ns a m) (hs : ∀ o, h.get? a = some o → ∃ sl, h'.get? a = some { o with slots := sl }) : h'.Ns a m := by
  rcases hn with ⟨o, es, ep, ho, hd, hk, hm⟩
  obtain ⟨sl, e⟩ := hs o ho
  exact ⟨_, es, ep, e, hd, hk, hm⟩
/-- the generator's state as the consumer sees it when it hands something out -/
theorem inv_back {s1 : Shared} {H1 : Hp} (hX : X.env.locals < n) (hXs : X.s_0.heap.objs.size ≤ n) (hXc : ∀ x c, X.env.cells.lookup x = some c → c < n) (hXp : ∀ p ∈ X.pn ++ pins, p.1 < n) (I : Inv X pins σ H1 s1)
    (J : Inv (gcx X B N qual scope f cd n pn s1 H1) [] σg H s) : Inv X pins σ H s := by
  have U := J.base
  have nx : ∀ b : Addr, b ∉ (gcx X B N qual scope f cd n pn s1 H1).ex := fun b z => absurd (show b ∈ ([] : List Addr) from z) (by simp)
  have any : ∀ b o, b < n → s1.heap.get? b = some o → H1 b = none → ∃ sl, s.heap.get? b = some { o with slots := sl } := fun b o hb e q =>
    U.any (by show (cut s1.heap n).get? b = some o; rw [cut_get hb]; exact e) q (nx b)
  obtain ⟨h2, g2, d2, t2, o2⟩ := s
  have ho : o2 = s1.os := J.os
  subst ho
  refine I.step (ch := (List.range s1.heap.objs.size).filter fun b => decide (n ≤ b)) (fun b hb => ?_) (fun b o h1 h2 h3 e q => ?_) (fun b o h1 h2 h3 e q => ?_) (fun b o h3 e q => ?_) (fun b o h3 e => ?_)
    (fun b xs e => U.tups b xs e) (fun b o u e => U.frzs b o u e) (fun b ps e => U.tbls b ps e) (fun m hm => ns_slots hm fun o e => any _ o hX e I.free) J.hok J.bare
  · have hb' : n ≤ b := by
      have := (List.mem_filter.mp hb).2
      exact of_decide_eq_true this
    exact ⟨.inr (Nat.le_trans hXs hb'), fun e => Nat.lt_irrefl _ (Nat.lt_of_lt_of_le (e ▸ hX) hb'), fun x c hc e => Nat.lt_irrefl _ (Nat.lt_of_lt_of_le (e ▸ hXc x c hc) hb'), fun p hp e => Nat.lt_irrefl _ (Nat.lt_of_lt_of_le (e ▸ hXp p hp) hb')⟩
  all_goals
    have lt : b < n := Nat.lt_of_not_le fun hb' => h3 (List.mem_filter.mpr ⟨List.mem_range.mpr (Heap.lt_size e), decide_eq_true hb'⟩)
    have ec : (cut s1.heap n).get? b = some o := by rw [cut_get lt]; exact e
  · exact U.keep b o ec q (fun hb => (List.mem_cons.1 (I.stkSub b hb)).elim h1 h2) (nx b)
  · exact U.any ec q (nx b)
  · exact U.free b o ec q (nx b)
  · exact U.there b o ec (nx b)
/-- the generator's own objects, for the consumer's pins -/
theorem pins_gen {s1 : Shared} {H1 : Hp} (nc : NoCells scope) (hX : X.env.locals < n) (hXs : X.s_0.heap.objs.size ≤ n) (hpn : ∀ p ∈ pn, n < p.1) (I : Inv X pins σ H s) (J : Inv (gcx X B N qual scope f cd n pn s1 H1) [] σg H s) :
    ∃ lo, Inv X ((n, lo) :: (pn ++ pins)) σ H s ∧ GLoc N (envOfC qual scope n f cd) σg lo := by
  have ec : ∀ x : Str, (envOfC qual scope n f cd).cells.lookup x = none := fun x => by
    show (cellsFrom (n + 1) scope.names []).lookup x = none
    rw [nc.cl]
    rfl
  obtain ⟨m, ⟨o, es, ep, ho, hd, hk, hm⟩, look⟩ := J.loc
  have old : ∀ b ∈ X.fs, b < n := fun b hb => by
    rcases I.ok.funs.mem hb with ⟨_, o, ho, _⟩
    exact Nat.lt_of_lt_of_le (Heap.lt_size ho) hXs
  have ho' : s.heap.get? n = some o := ho
  refine ⟨o, I.pins_of fun p hp => ?_, fun h e => ⟨m, ⟨o, es, ep, e, hd, hk, hm⟩, fun i x v h1 h2 h3 => ?_⟩⟩
  · rcases List.mem_cons.1 hp with rfl | hp
    · exact ⟨ho', J.free, fun e => Nat.lt_irrefl _ (e ▸ hX), fun hb => Nat.lt_irrefl _ (old _ hb), fun v q => by rw [hd] at q; cases q⟩
    · rcases List.mem_append.1 hp with hp | hp
      · obtain ⟨q1, q2, _, _, q5⟩ := J.pin p (List.mem_append_left _ hp)
        exact ⟨q1, q2, fun e => Nat.lt_asymm hX (e ▸ hpn p hp), fun hb => Nat.lt_asymm (old _ hb) (hpn p hp), q5⟩
      · exact I.pin p (List.mem_append_right _ hp)
  · obtain ⟨u, ru, lk⟩ := look i x v h1 h2 h3
    rcases lk with ⟨a, b⟩ | ⟨_, c, a, _⟩
    · exact ⟨u, ru, .inl ⟨a, b⟩⟩
    · rw [show (gcx X B N qual scope f cd n pn s1 H1).env.cells.lookup x = none from ec x] at a
      cases a
end
/-! ### its code -/
theorem execs_append_wrap {env : Env} {K : Flow → Sem PySem.Fin} {J : Value → Sem PySem.Fin} {gd : Bool → Bool} {lv : List Value → List Value} {rest : List Stmt} : ∀ pre : List Stmt,
    (execs (pre ++ rest) env).wrap K J gd lv = (execs pre env).wrap (fun f => match f with | .next => (execs rest env).wrap K J gd lv | f => K f) J gd lv
  | [] => rfl
  | st :: pre => by
    rw [List.cons_append]; rw [execs_cons_wrap, execs_cons_wrap]
    congr 1
    funext f
    cases f with
    | next => exact execs_append_wrap pre
    | brk => rfl
    | cont => rfl
    | ret v => rfl
/-- handed out: the consumer's turn -/
def YF (X : Cx) (pins : List (Addr × Obj)) (n : Nat) (pn : List (Addr × Obj)) (g : TG) (tb : TS) (D : Ends) : Protocol := fun _ _ v s kap =>
  ∃ (x : V) (lo : Obj) (σc : L2.St) (H : Hp) (Nx : L2.St → Hp → Prop), RelV x v ∧ Inv X ((n, lo) :: (pn ++ pins)) σc H s ∧ (g x σc H fun σ2 H2 => tb { D with nx := Nx, ct := Nx, bk := D.nx } σ2 H2) ∧
    ∀ s' σ' H', Inv X ((n, lo) :: (pn ++ pins)) σ' H' s' → Nx σ' H' → kap (.send .none) s' ∧ kap (.send (.bool true)) s'
/-- no more to come -/
def RF (X : Cx) (pins : List (Addr × Obj)) (pn : List (Addr × Obj)) (D : Ends) : GenEnd := fun n s₀ r s₁ => ((r = .ok (.ret .none) ∨ r = .ok .next) ∧ (fun (_ : Nat) (_ s : Shared) => ∃ σc H, Inv X (pn ++ pins) σc H s ∧ D.nx σc H) n s₀ s₁) ∨ ∃ e, r = .error e ∧ (fun (_ : Value) (_ : Shared) => False) e s₁
/-- the generator's place in the consumer's run -/
structure Gn (X : Cx) (pins : List (Addr × Obj)) (scope : Scope) (n : Nat) (pn : List (Addr × Obj)) (B : Around) : Prop where
  hk : scope.kind = .function
  co : (scope.isCoroutine = false)
  hi : ∀ (q : Str) (m : Nat) (f : Addr) (cd : Value), interactive (envOfC q scope m f cd) = false
  nc : NoCells scope
  hd : B.handled = none
  hfr : B.frames = some X.stack
  hX : X.env.locals < n
  hXs : X.s_0.heap.objs.size ≤ n
  hXc : ∀ x c, X.env.cells.lookup x = some c → c < n
  hXp : ∀ p ∈ X.pn ++ pins, p.1 < n
  hpn : ∀ p ∈ pn, n < p.1
/-- what a turn reads -/
def Turn (tt : TT) (tas tbs : TS) (te : TE) (g : TG) (tb : TS) (D : Ends) (Hd : Nat → L2.St → L2.St → Hp → Prop) : Prop := ∀ m σg σc H, Hd m σg σc H → tt σg H fun b H1 => if b = true then
  tas { nx := fun σ1 H2 => te σ1 H2 fun x H3 => ∃ Nx : L2.St → Hp → Prop, (g x σc H3 fun σ2 H4 => tb { D with nx := Nx, ct := Nx, bk := D.nx } σ2 H4) ∧ ∀ σ3 H5, Nx σ3 H5 → tbs { nx := fun σ2 H6 => ∃ m', m' < m ∧ Hd m' σ2 σ3 H6, rt := fun _ _ => False } σ1 H5, rt := fun _ _ => False } σg H1
  else D.nx σc H1
section
variable {X : Cx} {pins : List (Addr × Obj)} {N : List Str} {qual : Str} {scope : Scope} {f : Addr} {cd : Value} {n : Nat} {pn : List (Addr × Obj)} {B : Around}
/-- the generator runs, the consumer waits -/
def GJ (X : Cx) (pins : List (Addr × Obj)) (N : List Str) (qual : Str) (scope : Scope) (f : Addr) (cd : Value) (n : Nat) (pn : List (Addr × Obj)) (B : Around) (σg σc : L2.St) (H : Hp) (s : Shared) : Prop :=
  ∃ s1 H1, Inv X pins σc H1 s1 ∧ Inv (gcx X B N qual scope f cd n pn s1 H1) [] σg H s
theorem GJ.back {σg σc : L2.St} {H : Hp} {s : Shared} (W : Gn X pins scope n pn B) (h : GJ X pins N qual scope f cd n pn B σg σc H s) : ∃ lo, Inv X ((n, lo) :: (pn ++ pins)) σc H s ∧ GLoc N (envOfC qual scope n f cd) σg lo := by
  obtain ⟨s1, H1, I, J⟩ := h
  exact pins_gen W.nc W.hX W.hXs W.hpn (inv_back W.hX W.hXs W.hXc W.hXp I J) J
theorem GJ.wake {σg σc : L2.St} {H : Hp} {s : Shared} {lo : Obj} (W : Gn X pins scope n pn B) (I : Inv X ((n, lo) :: (pn ++ pins)) σc H s) (gl : GLoc N (envOfC qual scope n f cd) σg lo) (hl : σg.length = N.length) : GJ X pins N qual scope f cd n pn B σg σc H s := by
  have pl := (I.pin (n, lo) (List.mem_append_right _ List.mem_cons_self)).1
  have hsz : n ≤ s.heap.objs.size := Nat.le_of_lt (Heap.lt_size pl)
  refine ⟨s, H, I.pins_of fun p hp => I.pin p (List.mem_append_right _ (List.mem_cons_of_mem _ (List.mem_append_right _ hp))), inv_wake W.hk W.nc W.hd W.hfr W.hX W.hXs hsz I (fun p hp => ⟨fun e => Nat.lt_irrefl _ (e ▸ W.hpn p hp), fun hb => ?_⟩) gl hl⟩
  have lt : p.1 < n := by
    rcases List.mem_cons.1 (I.stkSub _ hb) with e | hb
    · rw [e]; exact W.hX
    · rcases I.ok.funs.mem hb with ⟨_, o, ho, _⟩
      exact Nat.lt_of_lt_of_le (Heap.lt_size ho) W.hXs
  exact Nat.lt_asymm lt (W.hpn p hp)
theorem GJ.len {σg σc : L2.St} {H : Hp} {s : Shared} (h : GJ X pins N qual scope f cd n pn B σg σc H s) : σg.length = N.length := by
  obtain ⟨s1, H1, I, J⟩ := h
  exact J.len
end
open GenW
section
variable {X : Cx} {pins : List (Addr × Obj)} {N : List Str} {qual : Str} {scope : Scope} {f : Addr} {cd : Value} {n : Nat} {pn : List (Addr × Obj)} {B : Around}
theorem seg_loop {test ye : Expr} {as bs body : List Stmt} {yp pos p : Pos} {tt : TT} {tas tbs : TS} {te : TE} {g : TG} {tb : TS} {D : Ends} {Hd : Nat → L2.St → L2.St → Hp → Prop} (W : Gn X pins scope n pn B)
    (pt : ∀ s H, PT (gcx X B N qual scope f cd n pn s H) test tt) (pas : ∀ s H, PSs (gcx X B N qual scope f cd n pn s H) as tas) (py : ∀ s H, PE (gcx X B N qual scope f cd n pn s H) ye te) (pbs : ∀ s H, PSs (gcx X B N qual scope f cd n pn s H) bs tbs)
    (turn : Turn tt tas tbs te g tb D Hd) {kk : Result → Sem PySem.Fin}
    (hkk : ∀ (k : Nat) (s₀ s : Shared), (∃ σc H, Inv X (pn ++ pins) σc H s ∧ D.nx σc H) → Seg (model X.prog X.w) B (RF X pins pn D) (YF X pins n pn g tb D) k s₀ (.func body (envOfC qual scope n f cd)) (kk (.ok .next)) [] s) :
    ∀ (m k : Nat), m < k → ∀ (σg σc : L2.St) (H : Hp) (s s₀ : Shared), Hd m σg σc H → GJ X pins N qual scope f cd n pn B σg σc H s →
      Seg (model X.prog X.w) B (RF X pins pn D) (YF X pins n pn g tb D) k s₀ (.whileLoop test (as ++ .Expr (.Yield (some ye) yp) pos :: bs) [] (envOfC qual scope n f cd)) ((model X.prog X.w).den (.whileLoop test (as ++ .Expr (.Yield (some ye) yp) pos :: bs) [] (envOfC qual scope n f cd)))
        [.ret kk none false [] (.func body (envOfC qual scope n f cd)) p []] s := by
  have over : B.over (.whileLoop test (as ++ .Expr (.Yield (some ye) yp) pos :: bs) [] (envOfC qual scope n f cd)) [.ret kk none false [] (.func body (envOfC qual scope n f cd)) p []] = B.deeper (envOfC qual scope n f cd) := (over_loop rfl rfl).trans over_func
  intro m
  induction m using _root_.Nat.strongRecOn with
  | ind m ih =>
    intro k hk σg σc H s s₀ hd J
    obtain ⟨s1, H1, I, J1⟩ := J
    refine seg_whileLoop ?_
    rw [over]
    refine wpAny_mono ((pt s1 H1).run [] s σg H _ J1 (turn m σg σc H hd)) (fun b s' hb => ?_) (fun x s' hx => False.elim hx)
    obtain ⟨H2, J2, q⟩ := hb
    cases b with
    | false =>
      rw [if_neg Bool.false_ne_true] at q ⊢
      refine seg_execs_nil ?_
      obtain ⟨lo, I2, _⟩ := GJ.back W ⟨s1, H1, I, J2⟩
      exact seg_leaf (.ok .next) (hkk k s₀ s' ⟨σc, H2, I2.pins_of fun p hp => I2.pin p (List.mem_append_right _ (List.mem_cons_of_mem _ hp)), q⟩)
    | true =>
      rw [if_pos rfl] at q ⊢
      rw [execs_append_wrap]
      refine seg_wrap ?_
      rw [over]
      refine wpAny_mono ((pas s1 H1).run [] s' σg H2 _ J2 q) (fun fl s2 hs => ?_) (fun x s' hx => False.elim hx)
      cases fl with
      | next =>
        obtain ⟨σ1, H3, J3, q3⟩ := hs
        refine seg_execs_cons ?_
        obtain ⟨k', rfl⟩ : ∃ k', k = k' + 1 := ⟨k - 1, by omega⟩
        refine seg_Expr_Yield rfl rfl rfl ?_ W.co (W.hi _ _ _ _)
        rw [over]
        refine wpAny_mono ((py s1 H1).run [] s2 σ1 H3 _ J3 q3) (fun v s3 hv => ?_) (fun x s' hx => False.elim hx)
        obtain ⟨x, H4, J4, rv, Nx, qc, hN⟩ := hv
        intro kap hkap
        obtain ⟨lo, I4, gl⟩ := GJ.back W ⟨s1, H1, I, J4⟩
        refine ⟨x, lo, σc, H4, Nx, rv, I4, qc, fun s5 σ5 H5 I5 n5 => ?_⟩
        refine (fun z => ⟨hkap .none s5 z, hkap (.bool true) s5 z⟩) ?_
        obtain ⟨s6, H6, I6, J6⟩ := GJ.wake W I5 gl J4.len
        refine seg_wrap ?_
        rw [over]
        refine wpAny_mono ((pbs s6 H6).run [] s5 σ1 H5 _ J6 (hN σ5 H5 n5)) (fun fl s7 hs => ?_) (fun x s' hx => False.elim hx)
        cases fl with
        | next =>
          obtain ⟨σ7, H7, J7, m', hm', hd'⟩ := hs
          exact seg_again rfl (ih m' hm' k' (by omega) σ7 σ5 H7 s7 _ hd' ⟨s6, H6, I6, J7⟩)
        | brk => obtain ⟨_, _, _, z⟩ := hs; exact False.elim z
        | cont => obtain ⟨_, _, _, z⟩ := hs; exact False.elim z
        | ret u => obtain ⟨_, _, _, _, _, z⟩ := hs; exact False.elim z
      | brk => obtain ⟨_, _, _, z⟩ := hs; exact False.elim z
      | cont => obtain ⟨_, _, _, z⟩ := hs; exact False.elim z
      | ret u => obtain ⟨_, _, _, _, _, z⟩ := hs; exact False.elim z
theorem seg_gen {test ye : Expr} {pre as bs : List Stmt} {yp pos wpos : Pos} {tt : TT} {tpre tas tbs : TS} {te : TE} {g : TG} {tb : TS} {D : Ends} {Hd : Nat → L2.St → L2.St → Hp → Prop} (W : Gn X pins scope n pn B)
    (ppre : ∀ s H, PSs (gcx X B N qual scope f cd n pn s H) pre tpre) (pt : ∀ s H, PT (gcx X B N qual scope f cd n pn s H) test tt) (pas : ∀ s H, PSs (gcx X B N qual scope f cd n pn s H) as tas) (py : ∀ s H, PE (gcx X B N qual scope f cd n pn s H) ye te) (pbs : ∀ s H, PSs (gcx X B N qual scope f cd n pn s H) bs tbs)
    (turn : Turn tt tas tbs te g tb D Hd) {M : Nat} {σ0 σc : L2.St} {H : Hp} {s s₀ : Shared} (J : GJ X pins N qual scope f cd n pn B σ0 σc H s) (hp : tpre { nx := fun σg H' => ∃ m, m ≤ M ∧ Hd m σg σc H', rt := fun _ _ => False } σ0 H) :
    Seg (model X.prog X.w) B (RF X pins pn D) (YF X pins n pn g tb D) (M + 1) s₀ (.func (pre ++ [.While test (as ++ .Expr (.Yield (some ye) yp) pos :: bs) [] wpos]) (envOfC qual scope n f cd))
      ((model X.prog X.w).den (.func (pre ++ [.While test (as ++ .Expr (.Yield (some ye) yp) pos :: bs) [] wpos]) (envOfC qual scope n f cd))) [] s := by
  refine seg_func ?_
  rw [execs_append_wrap]
  refine seg_wrap ?_
  rw [over_func]
  obtain ⟨s1, H1, I, J1⟩ := J
  refine wpAny_mono ((ppre s1 H1).run [] s σ0 H _ J1 hp) (fun fl s2 hs => ?_) (fun x s' hx => False.elim hx)
  cases fl with
  | next =>
    obtain ⟨σ1, H2, J2, m, hm, hd⟩ := hs
    refine seg_execs_cons ?_
    refine seg_While fun p => ?_
    exact seg_loop W pt pas py pbs turn (fun k s₀ s h => seg_end (.ok (.ret .none)) (.inl ⟨.inl rfl, h⟩)) m (M + 1) (by omega) σ1 σc H2 s2 s₀ hd ⟨s1, H1, I, J2⟩
  | brk => obtain ⟨_, _, _, z⟩ := hs; exact False.elim z
  | cont => obtain ⟨_, _, _, z⟩ := hs; exact False.elim z
  | ret u => obtain ⟨_, _, _, _, _, z⟩ := hs; exact False.elim z
end
theorem letOwned_gen {P : Program} {w : World} {A : Around} {E : Value → Shared → Prop} {s : Shared} {tg : Expr} {a : Addr} {g : Nat} {v : Value} {Q : Unit → Shared → Prop} (hg : s.heap.IsGen a g) (hQ : Q () s) : wpAny (model P w) A (letOwnedTupleGo tg (.ref a) v) Q E s := by
  obtain ⟨o, nm, qn, ho, hc, hd, _⟩ := hg
  unfold letOwnedTupleGo
  split
  all_goals first
    | exact wpAny_pure hQ
    | (cases v with
       | ref T =>
         refine (wpAny_bind (wpAny_load ho ?_))
         rw [hc, hd]
         dsimp only
         rw [if_neg (by simp)]
         exact wpAny_pure hQ
       | _ => exact wpAny_pure hQ)
open GenW
section
variable {X : Cx} {pins : List (Addr × Obj)} {n : Nat}
theorem gen_loop {tg : Expr} {body : List Stmt} {g : TG} {tb : TS} {D : Ends} {a : Addr} {gi : Nat} {go : Obj} (hXh : X.A.handled = none) (hroom : X.A.depth < recursionLimit) (hx : ∀ e s', ¬ X.xe e s') (hgo : ∀ h : Heap, h.get? a = some go → h.IsGen a gi)
    (hg : PG X tg g) (hb : PSs X body tb) {k : Nat} {s : Shared} {σc : L2.St} {H : Hp} {gs : GenState} (hgs : s.gens[gi]? = some gs) (I : Inv X ([(a, go)] ++ pins) σc H s)
    (goes : gs.Goes (model X.prog X.w) X.A.in1 (RF X pins [(a, go)] D) (YF X pins n [(a, go)] g tb D) k (.send .none) (s.setGen gi .running)) :
    codeAny (model X.prog X.w) X.A (.forLoop tg (.ref a) body [] X.env) (fun r s' => match r with | .ok f => SP X pins D f s' | .error e => False) s := by
  refine codeAny_forLoop_any (fun k s => ∃ gs σc H, s.gens[gi]? = some gs ∧ Inv X ([(a, go)] ++ pins) σc H s ∧ gs.Goes (model X.prog X.w) X.A.in1 (RF X pins [(a, go)] D) (YF X pins n [(a, go)] g tb D) k (.send .none) (s.setGen gi .running)) ?_ k ⟨gs, σc, H, hgs, I, goes⟩
  clear goes I hgs
  rintro k s ⟨gs, σc, H, hgs, I, goes⟩
  have lt : gi < s.gens.size := by
    by_cases z : gi < s.gens.size
    · exact z
    · rw [Array.getElem?_eq_none (by omega)] at hgs; cases hgs
  have pa := (I.pin (a, go) (List.mem_append_right _ List.mem_cons_self)).1
  have sub : ∀ {pins' : List (Addr × Obj)} {σ : L2.St} {H : Hp} {s : Shared}, Inv X pins' σ H s → (∀ p ∈ pins, p ∈ pins') → Inv X pins σ H s := fun I h => I.pins_of fun p hp => I.pin p (List.mem_append_right _ (h p hp))
  refine wpAny_gsz (n := gi + 1) lt (wpAny_mono (next_genG (n := k) (Q := fun r s2 => match r with
      | none => SP X pins D .next s2
      | some v => ∃ s₁ gs', s2 = s₁.setGen gi gs' ∧ gs'.bare = true ∧ YF X pins n [(a, go)] g tb D (k - 1) (s.setGen gi .running) v s₁ (fun r' s'' => match k with
        | 0 => False
        | m + 1 => gs'.Goes (model X.prog X.w) X.A.in1 (RF X pins [(a, go)] D) (YF X pins n [(a, go)] g tb D) m r' s''))
    (E := fun _ _ => False) hXh I.nolimit hroom (hgo _ pa) hgs goes (fun v s₁ gs' hb' hY => ⟨s₁, gs', rfl, hb', hY⟩) (fun s₁ hF h' hk => ?_) (fun e s₁ he => False.elim he)) (fun r s2 hr hsz => ?_) (fun e s' h => False.elim h))
  · obtain ⟨σ', H', I', q⟩ := hF
    refine ⟨σ', H', ?_, q⟩
    have I2 := sub I' (fun p hp => List.mem_cons_of_mem _ hp)
    have I3 := inv_gens I2 (allBare_setGen (g := gi) (x := .finished) I2.bare rfl)
    exact I3.kept hk
  · cases r with
    | none => exact (wpAny_execs_nil hr)
    | some v =>
      obtain ⟨s₁, gs', rfl, hb', x, lo, σ1, H1, Nx, rv, I1, qc, hk⟩ := hr
      have hin : gi < s₁.gens.size := by
        have : (s₁.setGen gi gs').gens.size = s₁.gens.size := setGen_size _ _ _
        omega
      have I2 : Inv X ((n, lo) :: ([(a, go)] ++ pins)) σ1 H1 (s₁.setGen gi gs') := inv_gens I1 (allBare_setGen I1.bare hb')
      have pa2 := (I2.pin (a, go) (List.mem_append_right _ (by simp))).1
      have at2 : (s₁.setGen gi gs').gens[gi]? = some gs' := setGen_at hin
      refine letOwned_gen (hgo _ pa2) ?_
      refine wpAny_mono (target_asleep hg hx I2 rv qc) (fun _ s3 h3 => ?_) (fun e s' h => False.elim h)
      obtain ⟨⟨σ3, H3, I3, q3⟩, k3⟩ := h3
      refine wpAny_mono (body_asleep hb hx I3 q3) (fun fl s4 h4 => ?_) (fun e s' h => False.elim h)
      obtain ⟨h4, k4⟩ := h4
      have again : ∀ {σ4 : L2.St} {H4 : Hp}, Inv X ((n, lo) :: ([(a, go)] ++ pins)) σ4 H4 s4 → Nx σ4 H4 → ∃ m, m < k ∧ ∃ gs σc H, s4.gens[gi]? = some gs ∧ Inv X ([(a, go)] ++ pins) σc H s4 ∧ gs.Goes (model X.prog X.w) X.A.in1 (RF X pins [(a, go)] D) (YF X pins n [(a, go)] g tb D) m (.send .none) (s4.setGen gi .running) := by
        intro σ4 H4 I4 n4
        obtain ⟨g1, g2⟩ := hk (s4.setGen gi .running) σ4 H4 (inv_gens I4 (allBare_setGen I4.bare rfl)) n4
        cases k with
        | zero => exact False.elim g1
        | succ m =>
          refine ⟨m, Nat.lt_succ_self m, gs', σ4, H4, ?_, I4.pins_of fun p hp => I4.pin p (List.mem_append_right _ (List.mem_cons_of_mem _ hp)), g1⟩
          cases gs' with
          | suspended k' l c p fs cl => exact k4 _ _ (k3 _ _ at2 (.inl rfl)) (.inl rfl)
          | fresh c => cases g2.1
          | running => exact False.elim g1
          | finished => exact False.elim g1
      cases fl with
      | next => obtain ⟨σ4, H4, I4, n4⟩ := h4; exact again I4 n4
      | cont => obtain ⟨σ4, H4, I4, n4⟩ := h4; exact again I4 n4
      | brk => obtain ⟨σ4, H4, I4, q4⟩ := h4; exact ⟨σ4, H4, sub I4 (fun p hp => List.mem_cons_of_mem _ (List.mem_cons_of_mem _ hp)), q4⟩
      | ret u => obtain ⟨w, σ4, H4, I4, r4, q4⟩ := h4; exact ⟨w, σ4, H4, sub I4 (fun p hp => List.mem_cons_of_mem _ (List.mem_cons_of_mem _ hp)), r4, q4⟩
end
section
variable {X : Cx} {pins : List (Addr × Obj)}
/-- a call of a generator's def makes a generator that has not begun -/
theorem gen_made {x qual : Str} {st : Stmt} {f : Addr} {fd : FuncData} {N ps : List Str} {k : Nat} {σ : L2.St} {H : Hp} {s : Shared} {us : List Value} {vs : List V} (F : Fun X.K x qual st f fd) (S : GScope N ps (defScope st)) (nc : NoCells (defScope st)) (hr : Room (k + 1) X.A) (I : Inv X pins σ H s)
    (hb : BindsTo s fd ⟨us, []⟩ (ps.zip us)) (r : Vals vs us) (hl : vs.length = ps.length) :
    codeAny (model X.prog X.w) X.A (.call (.ref f) ⟨us, []⟩) (fun rs s' => match rs with
      | .ok (.ret u) => ∃ (a : Addr) (gi : Nat) (go lo : Obj) (cd : Value), u = .ref a ∧ (∀ h : Heap, h.get? a = some go → h.IsGen a gi) ∧ s.heap.objs.size < a ∧ s'.gens[gi]? = some (.fresh (.func (defBody st) (envOfC qual (defScope st) s.heap.objs.size f cd))) ∧
          Inv X ((s.heap.objs.size, lo) :: ([(a, go)] ++ pins)) σ H s' ∧ GLoc N (envOfC qual (defScope st) s.heap.objs.size f cd) (start N vs) lo
      | _ => False) s := by
  obtain ⟨o1, o2, k0, dc0, pm0, an0, cdv, ct0, sl0, rfl, lk, hcd⟩ := F.ex
  have KX : X.K.In s.heap := I.kIn
  have lim : s.heap.NoLimit := I.nolimit
  have hkind : ∀ y ∈ ps.zip us, (defScope st).names.lookup y.1 = some .local ∨ ((defScope st).names.lookup y.1 = some .cell ∧ ((cellsFrom (s.heap.objs.size + 1) (defScope st).names []).lookup y.1).isSome = true) := by
    rintro ⟨m, v⟩ hy
    exact (S.par m (List.of_mem_zip hy).1).imp id fun q => ⟨q, PySem.W.cellsFrom_some _ _ _ (.inl q)⟩
  refine codeAny_call_generator hr.depth (KX _ _ lk) rfl S.co S.gen rfl (PySem.W.codeRec_of KX hcd) (hb _ _ _ _ (wpAny_newFunctionEnv_cells S.kind hkind fun env he s1 x => ?_))
  subst he
  refine ⟨lim.keeps x.toInCall.keep, ?_⟩
  obtain ⟨hh1, tk1, es1, hk1⟩ := x.done
  have same_os : s1.os = s.os := by rw [es1]
  have same_gens : s1.gens = s.gens := by rw [es1]
  have grown : s.heap.objs.size < s1.heap.objs.size := x.toInCall.ns.lt
  have kept1 : ∀ b o, s.heap.get? b = some o → s1.heap.get? b = some o := x.toInCall.keep
  have I1 := inv_startG (E := E0) S hr.hd I.env0 hl r x
  obtain ⟨m, ⟨lo, es, ep, ho, hd, hsk, hm⟩, look⟩ := I1.loc
  have ho' : s1.heap.get? s.heap.objs.size = some lo := ho
  have born : ∀ (go : Obj) (n1 n2 : Value) (tk2 : Nat), go.cls = .type "generator" → go.data = .fields #[.int s1.gens.size 0, n1, n2] → go.slots = #[] → (∀ h : Heap, (h.push go).get? h.objs.size = some go) →
      ∃ (a : Addr) (gi : Nat) (go' lo : Obj) (cd : Value), Value.ref s1.heap.objs.size = .ref a ∧ (∀ h : Heap, h.get? a = some go' → h.IsGen a gi) ∧ s.heap.objs.size < a ∧ (s1.gens.push (.fresh (.func (defBody st) (envOfC qual (defScope st) s.heap.objs.size f cdv))))[gi]? = some (.fresh (.func (defBody st) (envOfC qual (defScope st) s.heap.objs.size f cd))) ∧
        Inv X ((s.heap.objs.size, lo) :: ([(a, go')] ++ pins)) σ H { s1 with gens := s1.gens.push (.fresh (.func (defBody st) (envOfC qual (defScope st) s.heap.objs.size f cdv))), toks := tk2, heap := s1.heap.push go } ∧ GLoc N (envOfC qual (defScope st) s.heap.objs.size f cd) (start N vs) lo := by
    intro go n1 n2 tk2 hgc hgd hgs hgp
    have kp2 : ∀ b o, s.heap.get? b = some o → (s1.heap.push go).get? b = some o := fun b o e => Heap.get?_push_of_some _ (kept1 b o e)
    have I2 : Inv X pins σ H { s1 with gens := s1.gens.push (.fresh (.func (defBody st) (envOfC qual (defScope st) s.heap.objs.size f cdv))), toks := tk2, heap := s1.heap.push go } :=
      I.call' (ch := []) same_os (Un.kept kp2) (I.hok.kept kp2) (AllBare.push (by rw [same_gens]; exact I.bare) rfl) fun b z => by simp at z
    refine ⟨s1.heap.objs.size, s1.gens.size, go, lo, cdv, rfl, fun h e => ⟨go, n1, n2, e, hgc, hgd, hgs⟩, grown, Array.getElem?_push_size .., I2.pins_of fun p hp => ?_, fun h e => ⟨m, ⟨lo, es, ep, e, hd, hsk, hm⟩, fun i y v a1 a2 a3 => ?_⟩⟩
    · rcases List.mem_cons.1 hp with rfl | hp
      · exact ⟨Heap.get?_push_of_some _ ho', I1.free, fun e => Nat.lt_irrefl _ (e ▸ I.lt), I.nofs (Nat.le_refl _), fun v q => by rw [hd] at q; cases q⟩
      · rcases List.mem_append.1 hp with hp | hp
        · rw [(List.mem_singleton.mp hp)]
          exact ⟨hgp _, I1.hok.fresh (Nat.le_refl _), fun e => (by
          have e' : s1.heap.objs.size = X.env.locals := e
          have l := I.lt
          rw [← e'] at l
          exact Nat.lt_asymm grown l), I.nofs (Nat.le_of_lt grown), fun v q => by rw [hgd] at q; cases q⟩
        · exact I2.pin p (List.mem_append_right _ hp)
    · obtain ⟨u, ru, lk⟩ := look i y v a1 a2 a3
      refine ⟨u, ru, lk.imp (fun z => z) fun ⟨z1, c, z2, z3⟩ => ?_⟩
      have z4 : (cellsFrom (s.heap.objs.size + 1) (defScope st).names []).lookup y = some c := z2
      rw [nc.cl] at z4
      cases z4
  exact born _ _ _ _ rfl rfl rfl (fun _ => Heap.get?_push_size _ rfl)
end
/-- how a loop over a generator's def reads: Hd tells both sides' states where the generator looks whether to go on -/
def tForG (N ps : List Str) (t : TA) (tpre : TS) (tt : TT) (tas : TS) (te : TE) (tbs : TS) (g : TG) (tb : TS) : TS := fun D σ H => t σ H fun vs H1 => vs.length = ps.length ∧ ∃ (M : Nat) (Hd : Nat → L2.St → L2.St → Hp → Prop),
  tpre { nx := fun σg H' => ∃ m, m ≤ M ∧ Hd m σg σ H', rt := fun _ _ => False } (start N vs) H1 ∧ Turn tt tas tbs te g tb D Hd
/-- the rules of the generator's rows, wherever it is woken -/
structure GenRows (X : Cx) (N : List Str) (qual : Str) (scope : Scope) (f : Addr) (pre as bs : List Stmt) (test ye : Expr) (tpre : TS) (tt : TT) (tas : TS) (te : TE) (tbs : TS) (n : Nat) (cd : Value) (pn : List (Addr × Obj)) (s : Shared) (H : Hp) : Prop where
  pre : PSs (gcx X X.A.in1 N qual scope f cd n pn s H) pre tpre
  test : PT (gcx X X.A.in1 N qual scope f cd n pn s H) test tt
  as : PSs (gcx X X.A.in1 N qual scope f cd n pn s H) as tas
  ye : PE (gcx X X.A.in1 N qual scope f cd n pn s H) ye te
  bs : PSs (gcx X X.A.in1 N qual scope f cd n pn s H) bs tbs
section
variable {X : Cx}
theorem ps_forGen {x y qual : Str} {st : Stmt} {f : Addr} {fd : FuncData} {N ps : List Str} {k : Nat} {pre as bs body : List Stmt} {test ye e tg : Expr} {es : List Expr} {p cpos pos yp ypos wpos : Pos} {tpre tas tbs tb : TS} {tt : TT} {te : TE} {g : TG} {t : TA}
    (F : Fun X.K x qual st f fd) (S : GScope N ps (defScope st)) (nc : NoCells (defScope st)) (shape : defBody st = pre ++ [.While test (as ++ .Expr (.Yield (some ye) yp) ypos :: bs) [] wpos])
    (rules : ∀ n cd pn s H, Room k (X.A.in1.deeper (envOfC qual (defScope st) n f cd)) → GenRows X N qual (defScope st) f pre as bs test ye tpre tt tas te tbs n cd pn s H)
    (hr : Room (k + 2) X.A) (hx : ∀ e s', ¬ X.xe e s') (hg : Gl X y) (hm : X.mg y = some (.ref f)) (hk : PySem.W.keepIn X.K (.ref f) = true) (hb : Binds X.K fd ps []) (ha : PA X (e :: es) t) (hgt : PG X tg g) (hbody : PSs X body tb)
    (hi : ∀ (q : Str) (m : Nat) (f : Addr) (cd : Value), interactive (envOfC q (defScope st) m f cd) = false := by intro _ _ _ _; rfl) (hdb : (y == ("__debug__" : Str)) = false := by decide) (he : starEach (e :: es) X.env = (false, eval e X.env) :: starEach es X.env := by rfl)
    (hpl : (backTo cpos (starEach es X.env)).any (·.1) = false := by rfl) (hs : ∀ z, foldedSetIterable (.Call (.Name y p) (e :: es) [] cpos) X.env z = pure z := by intro _; rfl) :
    PS X (.For tg (.Call (.Name y p) (e :: es) [] cpos) body [] pos) (tForG N ps t tpre tt tas te tbs g tb) := by
  refine (⟨fun pins s σ H D I h => ?_⟩)
  refine wpAny_For (wpAny_Call_Name_kw (ld_glob I hg hm ?_ hdb)) hs
  refine PySem.W.callWith_K (h₀ := X.base) I.ok.mod.kin hk (thn (ha.run cpos pins s σ H _ I h) fun us s1 ⟨vs, H1, I1, r, hl, M, Hd, hpre, turn⟩ => ⟨I1.kIn, ?_⟩) he hpl
  have ll : us.length = ps.length := r.length.symm.trans hl
  have hb1 : BindsTo s1 fd ⟨us, []⟩ (ps.zip us) := by
    have z := hb s1 us I1.kIn (by rw [List.append_nil]; exact ll)
    rw [List.append_nil] at z
    exact z
  refine wpAny_call (codeAny_mono (gen_made (k := k + 1) F S nc hr I1 hb1 r hl) fun rs s' hq => ?_)
  match rs, hq with
  | .ok (.ret u), ⟨a, gi, go, lo, cd, eu, hgo, lta, hgs, I2, gl⟩ =>
    subst eu
    have pa := (I2.pin (a, go) (List.mem_append_right _ (by simp))).1
    refine wpAny_pyIter_gen (hgo _ pa) ?_
    have W : Gn X pins (defScope st) s1.heap.objs.size [(a, go)] X.A.in1 := ⟨S.kind, S.co, hi, nc, hr.hd, I1.ok.frames, I1.lt, I1.sz, fun z c e => (by obtain ⟨v, o, ho, _⟩ := I1.cell z c e; exact Heap.lt_size ho), fun p hp => Heap.lt_size (I1.pin p hp).1, fun p hp => by rw [List.mem_singleton.mp hp]; exact lta⟩
    have R := rules s1.heap.objs.size cd [(a, go)]
    have rm : Room k (X.A.in1.deeper (envOfC qual (defScope st) s1.heap.objs.size f cd)) := (hr.in1).deeper _
    have I3 : Inv X ((s1.heap.objs.size, lo) :: ([(a, go)] ++ pins)) σ H1 (s'.setGen gi .running) := inv_gens I2 (allBare_setGen I2.bare rfl)
    have hl2 : (start N vs).length = N.length := by
      have z := congrArg List.length S.pre
      rw [List.length_take] at z
      unfold L2.start
      rw [List.length_append]; rw [List.length_map, List.length_replicate]
      omega
    refine codeAny_mono (gen_loop (D := D) (k := M + 1) (n := s1.heap.objs.size) hr.hd (by have := hr.dp; omega) hx hgo hgt hbody hgs (I2.pins_of fun p hp => I2.pin p (List.mem_append_right _ (List.mem_cons_of_mem _ hp))) ⟨rfl, ?_⟩) (fun rs s3 h3 => ?_)
    · rw [shape]
      exact seg_gen W (fun s H => (R s H rm).pre) (fun s H => (R s H rm).test) (fun s H => (R s H rm).as) (fun s H => (R s H rm).ye) (fun s H => (R s H rm).bs) turn (GJ.wake W I3 gl hl2) hpre
    · cases rs with
      | ok fl => exact h3
      | error e => exact False.elim h3
end
/-! ### the walk over statements, step by step: what its generator's rows read, whoever asks for the next one -/
def gW (s : Stmt) : Stmt := (defBody s).getLastD (.Pass ⟨0, 0, 0, 0⟩)
def gWT (s : Stmt) : Expr := match gW s with
  | .While t _ _ _ => t
  | _ => .Name "" ⟨0, 0, 0, 0⟩
def gWB (s : Stmt) : List Stmt := match gW s with
  | .While _ b _ _ => b
  | _ => []
def gYe (s : Stmt) (n : Nat) : Expr := match (gWB s).getD n (.Pass ⟨0, 0, 0, 0⟩) with
  | .Expr (.Yield (some e) _) _ => e
  | _ => .Name "" ⟨0, 0, 0, 0⟩
theorem ncEach : NoCells (defScope sPEachStatement) := ⟨fun _ => rfl, by decide +kernel⟩
def rePre (K : PySem.W.Frag) : TS := tSeq (tAsg (tLc (iTup K (tRevT K (tVar 0))) (gName 4) tYes (tTup (tCons (tC (.int 0)) (tCons (tVar 4) tNil))) [4]) (gName 1)) (tAsg (tC (.int 0)) (gName 2))
def reTest (K : PySem.W.Frag) : TT := fun σ H Q => tVar 1 σ H fun x H' => ∃ k, TruV K x H' k ∧ Q k H'
def reAs (K : PySem.W.Frag) : TS := tAsg (tBM0 K "list" rPop (tVar 1)) (gTup K 2 (gCons (gName 3) (gCons (gName 4) gNil)))
def reYe : TE := tTup (tCons (tVar 2) (tCons (tVar 3) (tCons (tVar 4) tNil)))
def reBs (K : PySem.W.Frag) : TS := tSeq (tAug 2 (tC (.int 1)) (ipI fun i j => i + j)) (tFor (iTup K (tRevT K (tCall spBlocks [] E0 (tCons (tVar 4) tNil)))) (gName 5) (tFor (iTup K (tRevT K (tVar 5))) (gName 6) (tDrop (tBM K "list" rAppend (tVar 1) (tCons (tTup (tCons (tOp (rI0 fun i j => .int (i + j)) (tVar 3) (tC (.int 1))) (tCons (tVar 6) tNil))) tNil)))))
theorem rowsEach {P : Program} {w : World} {K : PySem.W.Frag} {mg : Str → Option Value} {base : Heap} {f fE fB : Addr} {fdB : FuncData} {N0 : List Str} {q0 : Str} {sc0 : Scope} (F_pblocks_of : Fun K "blocks_of" "blocks_of" sPBlocksOf fB fdB) (G_pblocks_of : FnOk P w K mg base CX0 1 fB fdB ["statement"] spBlocks) (b_pblocks_of : Binds K fdB ["statement"] []) (m_pblocks_of : mg "blocks_of" = some (.ref fB)) (cdv : Value) (A : Around) (outer : List Env) (s0 : Shared) (H0 : Hp) (E : XK) (n : Addr) (cd : Value) (pn : List (Addr × Obj)) (s : Shared) (H : Hp)
    (hr : Room 1 ((cxOf CX0 P w K mg base N0 q0 sc0 f cdv A outer s0 H0 E).nox.A.in1.deeper (envOfC "each_statement" (defScope sPEachStatement) n fE cd))) :
    GenRows (cxOf CX0 P w K mg base N0 q0 sc0 f cdv A outer s0 H0 E).nox nPEachStatement "each_statement" (defScope sPEachStatement) fE ((defBody sPEachStatement).take 2) ((gWB sPEachStatement).take 1) ((gWB sPEachStatement).drop 2) (gWT sPEachStatement) (gYe sPEachStatement 1) (rePre K) (reTest K) (reAs K) reYe (reBs K) n cd pn s H := ⟨(pss_cons (ps_setLc (i := 1) (own := [("statement", 4)]) (g := gName 4) (tt := tYes) rfl scPEachStatement.nd rfl rfl (sw_true rfl rfl rfl (by decide +kernel)) (pi_tup (pe_revT (pv 0))) (blkOk_by (N := nPEachStatement) (sc := defScope sPEachStatement) (by decide +kernel)) (fun _ _ _ _ _ => (pg_name (i := 4) scPEachStatement.nd rfl (by first | exact Or.inl rfl | exact Or.inr rfl))) (fun _ _ _ _ _ => pts_nil) (fun _ _ _ _ _ => (pe_tup (pa_cons pe_int (pa_cons (pv 4) pa_nil)))))
      (pss_one (ps_set (i := 2) scPEachStatement.nd rfl (by first | exact Or.inl rfl | exact Or.inr rfl) pe_int))), (pt_truth (pv 1) (fun _ => rfl)), (pss_one (ps_asg (pe_bm0 PySem.F.plainAttrs_list PySem.F.slot_list_pop PySem.F.type_list_pop mt_pop (pv 1)) (pg_tup rfl (pgs_cons (pg_name (i := 3) scPEachStatement.nd rfl (by first | exact Or.inl rfl | exact Or.inr rfl)) (pgs_cons (pg_name (i := 4) scPEachStatement.nd rfl (by first | exact Or.inl rfl | exact Or.inr rfl)) pgs_nil))))), (pe_tup (pa_cons (pv 2) (pa_cons (pv 3) (pa_cons (pv 4) pa_nil)))), (pss_cons (ps_aug (i := 2) scPEachStatement.nd rfl (.inl rfl) pe_int ip_add)
      (pss_one (ps_for PassesOwn.never rfl (pi_tup (pe_revT (pe_call G_pblocks_of (hr.mono (by omega)) (by rfl) m_pblocks_of F_pblocks_of.kp b_pblocks_of .nil pass0 (pa_cons (pv 4) pa_nil)))) (pg_name (i := 5) scPEachStatement.nd rfl (by first | exact Or.inl rfl | exact Or.inr rfl)) (pss_one (ps_for PassesOwn.never rfl (pi_tup (pe_revT (pv 5))) (pg_name (i := 6) scPEachStatement.nd rfl (by first | exact Or.inl rfl | exact Or.inr rfl)) (pss_one (ps_expr (pe_bm PySem.F.plainAttrs_list PySem.F.slot_list_append PySem.F.type_list_append mt_append (pv 1) (pa_cons (pe_tup (pa_cons (pe_op op_add (pv 3) pe_int) (pa_cons (pv 6) pa_nil))) pa_nil)))))))))⟩
section
variable {K : PySem.W.Frag} {a D : Addr} {k : Nat} {H : Hp} {R : VK} {Nx : L2.St → Hp → Prop} {o3 o4 o5 o6 : Option V} {d : Int} {st : St} {ws : List (Int × St)} {x : V}
theorem each_first {b : Bk} (t : Tp H (.ref a) (.tuple b.ds)) (hz : b.sz < 16777216) (q : ∀ D H' o3 o4 o5 o6, H D = none → Sx [] H H' → Stk H' D (b.stk 0) → Nx [some (.ref a), some (.ref D), some (.int (0 : Nat)), o3, o4, o5, o6] H') :
    rePre K { nx := Nx, rt := R } (start nPEachStatement [.ref a]) H := by
  obtain ⟨a', xs, ea, ha, hx⟩ := t.tuple
  cases ea
  rw [b.ds_lst] at hx
  obtain ⟨hl, hg⟩ := hx.lst
  refine ⟨_, rfl, a, xs, rfl, SqT.of ha, fun p hp => ⟨p, rfl, ⟨_, SqT.of upd_same⟩, fun D hD => lc_tup (xs := xs.reverse)
    (fun i H1 => Sx [] H H1 ∧ H1 p = some (.tup xs.reverse) ∧ Stk H1 D ((b.lst.drop (b.lst.length - i)).map fun s => (0, s)))
    ⟨(Sx.n0 hp).trans (Sx.n0 hD), by rw [upd_ne (ne_of_none upd_same hD)]; exact upd_same, [], upd_same, by rw [Nat.sub_zero, List.drop_length]; exact .nil⟩ (fun i H1 _ z => SqT.of z.2.1) (fun i x H1 hi z => ?_) (fun H1 z => ?_)⟩⟩
  · obtain ⟨s1, hp1, hv⟩ := z
    obtain ⟨hi1, hi2⟩ := rev_get hi
    rw [hl] at hi1 hi2
    obtain ⟨st, hst, tst⟩ := hg _ x hi2
    refine ⟨rfl, ?_⟩
    refine ⟨_, rfl, by show 2 ≤ sizeLine; decide, fun u hu => ?_⟩
    have hDn : H D = none := by
      cases e : H D with
      | none => rfl
      | some o => have := Sx.n0 (o := .tup xs.reverse) hp D o (by simp) e; rw [hD] at this; cases this
    have bl := bk_le b
    obtain ⟨acc, e1, e2, e3⟩ := (hv.keep (Sx.n0 hu)).push (x := .ref u) (y := (0, st)) (tpPair upd_same ((tst.keep s1.tk0).new hu))
    have npD : p ≠ D := ne_of_none upd_same hD
    refine ⟨acc, e1, lt_line (by rw [e2, List.length_map, List.length_drop]; omega), (s1.new hu).own hDn, ?_, ?_⟩
    · rw [upd_ne npD]; exact Sx.n0 hu _ _ (by simp) hp1
    · rw [drop_back hi1 hst]; exact e3
  · obtain ⟨s1, _, hv⟩ := z
    have hDn : H D = none := by
      cases e : H D with
      | none => rfl
      | some o => have := Sx.n0 (o := .tup xs.reverse) hp D o (by simp) e; rw [hD] at this; cases this
    rw [List.length_reverse, hl, Nat.sub_self, List.drop_zero] at hv
    exact q D H1 _ _ _ _ hDn s1 hv
theorem each_end {Q : Bool → Hp → Prop} (hs : Stk H D []) (q : Q false H) : reTest K [some (.ref a), some (.ref D), some (.int k), o3, o4, o5, o6] H Q := ⟨_, rfl, false, .inl ⟨_, SqL.of hs.nil_, rfl⟩, q⟩
theorem each_more {Q : Bool → Hp → Prop} (hs : Stk H D ((d, st) :: ws)) (q : Q true H) : reTest K [some (.ref a), some (.ref D), some (.int k), o3, o4, o5, o6] H Q := by
  obtain ⟨acc, c, x, e1, e2, e3, e4, e5, e6⟩ := hs.pop
  refine ⟨_, rfl, true, .inl ⟨_, SqL.of e1, ?_⟩, q⟩
  cases acc with
  | nil => simp at e6
  | cons _ _ => rfl
theorem each_take (hs : Stk H D ((d, st) :: ws)) (q : ∀ x H2, Sx [D] H H2 → Stk H2 D ws → Tp H2 x st.d → Nx [some (.ref a), some (.ref D), some (.int k), some (.int d), some x, o5, o6] H2) :
    reAs K { nx := Nx, rt := R } [some (.ref a), some (.ref D), some (.int k), o3, o4, o5, o6] H := by
  obtain ⟨acc, c, x, e1, e2, e3, e4, e5, e6⟩ := hs.pop
  refine ⟨_, rfl, .inl ⟨rfl, _, SqL.of e1⟩, D, _, _, rfl, rfl, e1, e2, ?_⟩
  have k1 : Tk H (upd H D (.lst acc.dropLast)) := Tk.lst e1
  exact ⟨c, _, rfl, SqT.of (k1 _ _ e3), rfl, _, _, rfl, gnm ⟨_, _, rfl, gnm ⟨rfl, q x _ ((Sx.refl H).put (List.mem_singleton.mpr rfl)) e5 (e4.keep k1)⟩⟩⟩
theorem each_give {Q : V → Hp → Prop} (q : ∀ u, H u = none → Q (.ref u) (upd H u (.tup [.int k, .int d, x]))) : reYe [some (.ref a), some (.ref D), some (.int k), some (.int d), some x, o5, o6] H Q :=
  ⟨_, rfl, _, rfl, _, rfl, by show 3 ≤ sizeLine; decide, fun u hu => q u hu⟩
theorem each_back (hs : Stk H D ws) (t : Tp H x st.d) (hz : st.sz + stkSz ws < 16777216) (q : ∀ H6 o5 o6, Sx [D] H H6 → Stk H6 D (kidsOf st.blks (d + 1) ++ ws) → Nx [some (.ref a), some (.ref D), some (.int (k + 1 : Nat)), some (.int d), some x, o5, o6] H6) :
    reBs K { nx := Nx, rt := R } [some (.ref a), some (.ref D), some (.int k), some (.int d), some x, o5, o6] H := by
  have wle := stk_le ws
  have e0 : ((k : Int) + 1) = ((k + 1 : Nat) : Int) := by omega
  refine Exists.intro _ ⟨rfl, _, _, rfl, rfl, ?_⟩
  dsimp only
  rw [e0]
  refine ⟨_, rfl, x, st, rfl, t, fun H4 v4 s6 t4 => ?_⟩
  obtain ⟨a4, xs4, rfl, ha4, hx4⟩ := t4.tuple
  rw [st.parts_blks] at hx4
  obtain ⟨hl4, hg4⟩ := hx4.lst
  refine ⟨a4, xs4, rfl, SqT.of ha4, fun p4 hp4 => ⟨p4, rfl, ⟨_, SqT.of upd_same⟩, for_tup (xs := xs4.reverse)
    (fun i σ H5 => ∃ o5 o6, σ = [some (.ref a), some (.ref D), some (.int (k + 1 : Nat)), some (.int d), some x, o5, o6] ∧ Sx [D] H H5 ∧ H5 p4 = some (.tup xs4.reverse) ∧ Tk H4 H5 ∧ Stk H5 D (kidsOf (st.blks.drop (st.blks.length - i)) (d + 1) ++ ws))
    ⟨_, _, rfl, (s6.new hp4).nil, upd_same, (Sx.n0 hp4).tk0, by rw [Nat.sub_zero, List.drop_length]; exact (hs.keep s6).keep (Sx.n0 hp4)⟩ (fun i σ H5 _ z => by obtain ⟨_, _, _, _, z, _⟩ := z; exact SqT.of z) (fun i y σ H5 hi z => ?_) (fun σ H5 z => ?_)⟩⟩
  · obtain ⟨o5, o6, rfl, s6, hp5, k5, hs5⟩ := z
    obtain ⟨hi1, hi2⟩ := rev_get hi
    rw [hl4] at hi1 hi2
    obtain ⟨bk, hbk, tbk⟩ := hg4 _ y hi2
    have hmem : bk ∈ st.blks := List.mem_of_getElem? hbk
    refine gnm ?_
    obtain ⟨a6, xs6, rfl, ha6, hx6⟩ := (tbk.keep k5).tuple
    rw [bk.ds_lst] at hx6
    obtain ⟨hl6, hg6⟩ := hx6.lst
    rw [drop_back hi1 hbk]
    have bl := bk_le bk
    have kl : (kidsOf (st.blks.drop (st.blks.length - i)) (d + 1)).length + bk.sz ≤ st.sz := by
      have h1 := stk_le (kidsOf (st.blks.drop (st.blks.length - i)) (d + 1))
      have h2 : ∀ (l : List Bk) (n : Nat), ((l.drop n).map Bk.sz).sum ≤ (l.map Bk.sz).sum := fun l n => by
        have e := congrArg (fun l => (l.map Bk.sz).sum) (List.take_append_drop n l)
        simp only [List.map_append, List.sum_append] at e
        omega
      have h3 := h2 st.blks (st.blks.length - (i + 1))
      rw [drop_back hi1 hbk, List.map_cons, List.sum_cons] at h3
      rw [kidsSz] at h1
      rw [st.sz_blks]
      omega
    refine ⟨_, rfl, a6, xs6, rfl, SqT.of ha6, fun p6 hp6 => ⟨p6, rfl, ⟨_, SqT.of upd_same⟩, for_tup (xs := xs6.reverse)
      (fun j σ H6 => ∃ o6, σ = [some (.ref a), some (.ref D), some (.int (k + 1 : Nat)), some (.int d), some x, some (.ref a6), o6] ∧ Sx [D] H H6 ∧ H6 p4 = some (.tup xs4.reverse) ∧ H6 p6 = some (.tup xs6.reverse) ∧ Tk H5 H6 ∧ Stk H6 D ((bk.lst.drop (bk.lst.length - j)).map (fun s => (d + 1, s)) ++ (kidsOf (st.blks.drop (st.blks.length - i)) (d + 1) ++ ws)))
      ⟨_, rfl, s6.new hp6, Sx.n0 hp6 _ _ (by simp) hp5, upd_same, (Sx.n0 hp6).tk0, by rw [Nat.sub_zero, List.drop_length]; exact hs5.keep (Sx.n0 hp6)⟩ (fun j σ H6 _ z => by obtain ⟨_, _, _, _, z, _⟩ := z; exact SqT.of z) (fun j y2 σ H6 hj z => ?_) (fun σ H6 z => ?_)⟩⟩
    · obtain ⟨o6, rfl, s7, hp6a, hp6b, k6, hs6⟩ := z
      obtain ⟨hj1, hj2⟩ := rev_get hj
      rw [hl6] at hj1 hj2
      obtain ⟨st2, hst2, tst2⟩ := hg6 _ y2 hj2
      refine gnm ?_
      obtain ⟨L6, hL6, _⟩ := id hs6
      refine ⟨_, rfl, .inl ⟨rfl, _, SqL.of hL6⟩, _, rfl, d, 1, rfl, rfl, _, rfl, by show 2 ≤ sizeLine; decide, fun u2 hu2 => ?_⟩
      obtain ⟨acc2, g1, g2, g3⟩ := (hs6.keep (Sx.n0 hu2)).push (x := .ref u2) (y := (d + 1, st2)) (tpPair upd_same ((tst2.keep k6).new hu2))
      refine ⟨D, _, _, rfl, rfl, g1, lt_line (by rw [g2, List.length_append, List.length_map, List.length_drop, List.length_append]; omega), ?_⟩
      refine ⟨_, rfl, (s7.new hu2).put (List.mem_singleton.mpr rfl), ?_, ?_, (k6.trans (Sx.n0 hu2).tk0).trans (Tk.lst g1), ?_⟩
      · exact ((Sx.n0 hu2).tk0.trans (Tk.lst g1)) _ _ hp6a
      · exact ((Sx.n0 hu2).tk0.trans (Tk.lst g1)) _ _ hp6b
      · rw [drop_back hj1 hst2]; exact g3
    · obtain ⟨o6, rfl, s7, hp6a, hp6b, k6, hs6⟩ := z
      rw [List.length_reverse, hl6, Nat.sub_self, List.drop_zero] at hs6
      refine ⟨_, _, rfl, s7, hp6a, k5.trans k6, ?_⟩
      show Stk H6 D ((bk.stk (d + 1) ++ kidsOf (st.blks.drop (st.blks.length - i)) (d + 1)) ++ ws)
      rw [List.append_assoc]
      exact hs6
  · obtain ⟨o5, o6, rfl, s6, hp5, k5, hs5⟩ := z
    rw [List.length_reverse, hl4, Nat.sub_self, List.drop_zero] at hs5
    exact q H5 _ _ s6 hs5
end
abbrev sPColumnOf : Stmt := topS 25
abbrev nPColumnOf : List Str := ["program", "period", "place", "depth", "statement", "column", "sign", "rests", "low", "high", "rest"]
theorem scPColumnOf : FnScope nPColumnOf ["program"] (defScope sPColumnOf) := ⟨rfl, rfl, rfl, by decide +kernel, rfl, by decide +kernel, by decide +kernel⟩
/-! ### the period of a program -/
def Ts.rb : Ts → Nat
  | .rest _ b _ => b.toNat
  | .less _ _ => 1
  | .not t => t.rb
def St.rb : St → Nat
  | .ite t _ _ => t.rb
  | _ => 1
def perR (l : List Rw) : Nat := l.foldl (fun m r => Nat.lcm m r.2.2.rb) 1
theorem Ts.rb60 {ns : List Str} : ∀ (t : Ts) (k : Nat), t.ok ns k → t.rb ∣ 60 ∧ 0 < t.rb
  | .rest x b r, k, h => by
    have h1 := h.2.1
    have h2 := h.2.2.1
    have : b = 2 ∨ b = 3 ∨ b = 4 ∨ b = 5 ∨ b = 6 := by omega
    have e : (Ts.rest x b r).rb = b.toNat := rfl
    rw [e]
    rcases this with h | h | h | h | h <;> rw [h] <;> decide
  | .less _ _, _, _ => ⟨Nat.one_dvd _, Nat.one_pos⟩
  | .not t, k, h => Ts.rb60 t _ h.2
theorem Ts.dv_rb {M : Nat} {ns : List Str} : ∀ (t : Ts) (k : Nat), t.ok ns k → t.rb ∣ M → t.dv M
  | .rest x b r, k, h, hd => by
    have : ((b.toNat : Nat) : Int) = b := by have := h.2.1; omega
    show b ∣ (M : Int)
    rw [← this]
    exact Int.ofNat_dvd.mpr hd
  | .less _ _, _, _, _ => trivial
  | .not t, k, h, hd => Ts.dv_rb t _ h.2 hd
theorem St.rb60 {ns : List Str} {s : St} {d : Nat} (h : s.ok ns d) : s.rb ∣ 60 ∧ 0 < s.rb := by
  cases s with
  | ite t y n => exact Ts.rb60 t 2 h.1
  | _ => exact ⟨Nat.one_dvd _, Nat.one_pos⟩
mutual
theorem St.dv_rws {M : Nat} {ns : List Str} : ∀ (s : St) (n : Nat) (d p : Int), s.ok ns n → (∀ r ∈ s.rws d p, r.2.2.rb ∣ M) → s.dv M
  | .set _ _, _, _, _, _, _ => trivial
  | .pay _, _, _, _, _, _ => trivial
  | .stop, _, _, _, _, _ => trivial
  | .ite t y z, n, d, p, h, hr => ⟨Ts.dv_rb t 2 h.1 (hr _ (List.mem_cons_self ..)), Bk.dv_rws y n _ _ h.2.1 fun r hm => hr r (List.mem_cons_of_mem _ (List.mem_append_left _ hm)), Bk.dv_rws z n _ _ h.2.2 fun r hm => hr r (List.mem_cons_of_mem _ (List.mem_append_right _ hm))⟩
  | .rep k y, n, d, p, h, hr => Bk.dv_rws y n _ _ h.2.2 fun r hm => hr r (List.mem_cons_of_mem _ hm)
theorem Bk.dv_rws {M : Nat} {ns : List Str} : ∀ (b : Bk) (n : Nat) (d p : Int), b.ok ns n → (∀ r ∈ b.rws d p, r.2.2.rb ∣ M) → b.dv M
  | .nil, _, _, _, _, _ => trivial
  | .cons s b, n, d, p, h, hr => ⟨St.dv_rws s _ d p h.2.1 fun r hm => hr r (List.mem_append_left _ hm), Bk.dv_rws b n d _ h.2.2 fun r hm => hr r (List.mem_append_right _ hm)⟩
end
theorem perR_snoc (l : List Rw) (r : Rw) : perR (l ++ [r]) = Nat.lcm (perR l) r.2.2.rb := by
  unfold perR
  rw [List.foldl_append]
  rfl
theorem perR_ok {ns : List Str} (l : List Rw) (h : ∀ r ∈ l, ∃ d, r.2.2.ok ns d) : perR l ∣ 60 ∧ 0 < perR l ∧ ∀ r ∈ l, r.2.2.rb ∣ perR l := by
  have z : ∀ (l : List Rw) (m : Nat), (∀ r ∈ l, ∃ d, r.2.2.ok ns d) → m ∣ 60 → 0 < m → (l.foldl (fun m r => Nat.lcm m r.2.2.rb) m) ∣ 60 ∧ 0 < (l.foldl (fun m r => Nat.lcm m r.2.2.rb) m) ∧ m ∣ (l.foldl (fun m r => Nat.lcm m r.2.2.rb) m) ∧ ∀ r ∈ l, r.2.2.rb ∣ (l.foldl (fun m r => Nat.lcm m r.2.2.rb) m) := by
    intro l
    induction l with
    | nil => intro m _ h1 h2; exact ⟨h1, h2, Nat.dvd_refl _, fun r hr => by cases hr⟩
    | cons x l ih =>
      intro m hl h1 h2
      obtain ⟨d, hx⟩ := hl x (List.mem_cons_self ..)
      obtain ⟨r1, r2⟩ := St.rb60 hx
      obtain ⟨i1, i2, i3, i4⟩ := ih (Nat.lcm m x.2.2.rb) (fun r hr => hl r (List.mem_cons_of_mem _ hr)) (Nat.lcm_dvd h1 r1) (Nat.lcm_pos h2 r2)
      refine ⟨i1, i2, Nat.dvd_trans (Nat.dvd_lcm_left _ _) i3, fun r hr => ?_⟩
      rcases List.mem_cons.1 hr with rfl | hr
      · exact Nat.dvd_trans (Nat.dvd_lcm_right _ _) i3
      · exact i4 r hr
  obtain ⟨h1, h2, _, h4⟩ := z l 1 h (by decide) (by decide)
  exact ⟨h1, h2, h4⟩
def Bk.per (b : Bk) : Nat := perR (b.rws 0 0)
mutual
theorem St.rws_okd {ns : List Str} : ∀ (s : St) (n : Nat) (d p : Int), s.ok ns n → ∀ r ∈ s.rws d p, ∃ m, r.2.2.ok ns m
  | .set _ _, n, _, _, h, r, hr => by rw [List.mem_singleton.mp hr]; exact ⟨n, h⟩
  | .pay _, n, _, _, h, r, hr => by rw [List.mem_singleton.mp hr]; exact ⟨n, h⟩
  | .stop, n, _, _, h, r, hr => by rw [List.mem_singleton.mp hr]; exact ⟨n, h⟩
  | .ite t y z, n, d, p, h, r, hr => by
    rcases List.mem_cons.1 hr with rfl | hr
    · exact ⟨n, h⟩
    · rcases List.mem_append.1 hr with hr | hr
      · exact Bk.rws_okd y n _ _ h.2.1 r hr
      · exact Bk.rws_okd z n _ _ h.2.2 r hr
  | .rep k y, n, d, p, h, r, hr => by
    rcases List.mem_cons.1 hr with rfl | hr
    · exact ⟨n, h⟩
    · exact Bk.rws_okd y n _ _ h.2.2 r hr
theorem Bk.rws_okd {ns : List Str} : ∀ (b : Bk) (n : Nat) (d p : Int), b.ok ns n → ∀ r ∈ b.rws d p, ∃ m, r.2.2.ok ns m
  | .nil, _, _, _, _, r, hr => by cases hr
  | .cons s b, n, d, p, h, r, hr => by
    rcases List.mem_append.1 hr with hr | hr
    · exact St.rws_okd s _ d p h.2.1 r hr
    · exact Bk.rws_okd b n d _ h.2.2 r hr
end
theorem Bk.per_ok {ns : List Str} {b : Bk} {n : Nat} (h : b.ok ns n) : b.per ∣ 60 ∧ 0 < b.per ∧ b.dv b.per := by
  obtain ⟨h1, h2, h3⟩ := perR_ok (b.rws 0 0) fun r hr => Bk.rws_okd b n 0 0 h r hr
  exact ⟨h1, h2, Bk.dv_rws b n 0 0 h h3⟩
/-- a program of small weight, with few tests -/
structure Pr (ns : List Str) (b : Bk) : Prop where
  ok : b.ok ns 4
  wt : b.wt ≤ 25
  tn : b.tn true + b.tn false ≤ 8
theorem Pr.m {ns : List Str} {b : Bk} (h : Pr ns b) : PrM ns b.per b := by
  obtain ⟨h1, h2, h3⟩ := Bk.per_ok h.ok
  exact ⟨h.ok, h3, h.wt, h.tn, h2, Nat.le_of_dvd (by decide) h1⟩
theorem Pr.sz {ns : List Str} {b : Bk} (h : Pr ns b) : b.sz ≤ 25 := Nat.le_trans (Bk.sz_wt h.ok) h.wt
def cItem (M : Nat) (r : Int) (x : Int × Pt) : List Pc := if r ∈ x.2.rs ∧ hasOne r M x.2.lo x.2.hi = true then [⟨x.2.lo, x.2.hi, [x.1]⟩] else []
theorem col_eq (b : Bk) (M : Nat) (r : Int) : col b M r = (sparts b M).flatMap (cItem M r) := rfl
theorem Ts.bare_is : ∀ t : Ts, (∃ x b r, t.bare = .rest x b r ∧ t.rb = b.toNat) ∨ ∃ x y, t.bare = .less x y ∧ t.rb = 1
  | .rest x b r => .inl ⟨x, b, r, rfl, rfl⟩
  | .less x y => .inr ⟨x, y, rfl, rfl⟩
  | .not t => Ts.bare_is t
theorem Ts.bare_ok {ns : List Str} : ∀ (t : Ts) (k : Nat), t.ok ns k → ∃ j, t.bare.ok ns j
  | .rest x b r, k, h => ⟨k, h⟩
  | .less x y, k, h => ⟨k, h⟩
  | .not t, k, h => Ts.bare_ok t _ h.2
/-- lists of pieces, one for each rest -/
def Cell (H : Hp) (a : Addr) (l : List Pc) : Prop := ∃ vals, H a = some (.lst vals) ∧ TpAll H vals (l.map pcD)
def ColV (H : Hp) (as : List Addr) (c : Nat → List Pc) : Prop := ∀ j a, as[j]? = some a → Cell H a (c j)
def cPart (M : Nat) (x : Int × Pt) (k : Nat) (r : Int) : List Pc := if r ∈ x.2.rs.take k ∧ hasOne r M x.2.lo x.2.hi = true then [⟨x.2.lo, x.2.hi, [x.1]⟩] else []
theorem cPart_all {M : Nat} {x : Int × Pt} {r : Int} {k : Nat} (h : x.2.rs.length ≤ k) : cPart M x k r = cItem M r x := by unfold cPart cItem; rw [List.take_of_length_le h]
theorem cPart_zero {M : Nat} {x : Int × Pt} {r : Int} : cPart M x 0 r = [] := by unfold cPart; rw [List.take_zero, if_neg (fun z => by cases z.1)]
theorem cPart_ne {M : Nat} {x : Int × Pt} {r r' : Int} {k : Nat} (h : x.2.rs[k]? = some r') (ne : r ≠ r') : cPart M x (k + 1) r = cPart M x k r := by
  unfold cPart
  rw [List.take_add_one, h]
  have : (r ∈ x.2.rs.take k ++ (some r').toList) ↔ r ∈ x.2.rs.take k := by
    rw [List.mem_append]
    exact ⟨fun z => z.elim id fun z => absurd (by simpa using z) ne, .inl⟩
  by_cases c : r ∈ x.2.rs.take k ∧ hasOne r M x.2.lo x.2.hi = true
  · rw [if_pos c, if_pos ⟨this.mpr c.1, c.2⟩]
  · rw [if_neg c, if_neg (fun z => c ⟨this.mp z.1, z.2⟩)]
theorem cPart_at {M : Nat} {x : Int × Pt} {r : Int} {k : Nat} (nd : x.2.rs.Nodup) (h : x.2.rs[k]? = some r) (hh : hasOne r M x.2.lo x.2.hi = true) : cPart M x k r = [] ∧ cPart M x (k + 1) r = [⟨x.2.lo, x.2.hi, [x.1]⟩] := by
  unfold cPart
  have nin : r ∉ x.2.rs.take k := fun hm => by
    obtain ⟨j, hj, e⟩ := List.mem_iff_getElem.mp hm
    rw [List.length_take] at hj
    rw [List.getElem_take] at e
    have h2 := (List.getElem?_eq_some_iff.mp h)
    obtain ⟨hk, e2⟩ := h2
    have := (List.getElem_inj (h₀ := by omega) (h₁ := hk) nd).mp (e.trans e2.symm)
    omega
  refine ⟨if_neg fun z => nin z.1, ?_⟩
  rw [List.take_add_one, h]
  exact if_pos ⟨List.mem_append_right _ (by simp), hh⟩
theorem cPart_no {M : Nat} {x : Int × Pt} {r : Int} {k : Nat} (hh : ¬ hasOne r M x.2.lo x.2.hi = true) : cPart M x k r = [] := if_neg fun z => hh z.2
def spCol (ns : List Str) : Sp := fun vs H Q _ => ∃ (v : V) (b : Bk), vs = [v] ∧ Tp H v (.tuple b.ds) ∧ Pr ns b ∧ ∀ H' Z as, Sx [] H H' → H Z = none → H' Z = some (.lst (as.map V.ref)) → as.length = b.per → (∀ a ∈ as, H a = none) → ColV H' as (fun j => col b b.per (j : Nat)) → Q (.ref Z) H'
section
variable {w : World} {P : Program} {K : PySem.W.Frag} {mg : Str → Option Value} {base : Heap}
theorem ok_pcol {f fE fB fT fL fR fH fS : Addr} {fd fdE fdB fdT fdL fdR fdH fdS : FuncData} {ns : List Str} (F_pcolumn_of : Fun K "column_of" "column_of" sPColumnOf f fd) (F_peach_statement : Fun K "each_statement" "each_statement" sPEachStatement fE fdE) (F_pblocks_of : Fun K "blocks_of" "blocks_of" sPBlocksOf fB fdB) (F_ptests_with : Fun K "tests_with" "tests_with" sPTestsWith fT fdT)
    (F_pleast_common : Fun K "least_common" "least_common" sPLeastCommon fL fdL) (F_pbare_test : Fun K "bare_test" "bare_test" sPBareTest fR fdR) (F_phas_one : Fun K "has_one" "has_one" sPHasOne fH fdH) (F_psign_parts : Fun K "sign_parts" "sign_parts" sPSignParts fS fdS)
    (G_pblocks_of : FnOk P w K mg base CX0 1 fB fdB ["statement"] spBlocks) (G_ptests_with : FnOk P w K mg base CX0 2 fT fdT ["statement", "word"] spTestsWith) (G_pleast_common : FnOk P w K mg base CX0 2 fL fdL ["one", "other"] spLcm) (G_pbare_test : FnOk P w K mg base CX0 1 fR fdR ["test"] spBare) (G_phas_one : FnOk P w K mg base CX0 1 fH fdH ["rest", "by", "low", "high"] spHas)
    (G_psign_parts : FnOk P w K mg base CX0 38 fS fdS ["program", "period"] (spSignParts ns))
    (b_peach_statement : Binds K fdE ["program"] []) (b_pblocks_of : Binds K fdB ["statement"] []) (b_ptests_with : Binds K fdT ["statement", "word"] []) (b_pleast_common : Binds K fdL ["one", "other"] []) (b_pbare_test : Binds K fdR ["test"] []) (b_phas_one : Binds K fdH ["rest", "by", "low", "high"] []) (b_psign_parts : Binds K fdS ["program", "period"] [])
    (m_peach_statement : mg "each_statement" = some (.ref fE)) (m_pblocks_of : mg "blocks_of" = some (.ref fB)) (m_ptests_with : mg "tests_with" = some (.ref fT)) (m_pleast_common : mg "least_common" = some (.ref fL)) (m_pbare_test : mg "bare_test" = some (.ref fR)) (m_phas_one : mg "has_one" = some (.ref fH)) (m_psign_parts : mg "sign_parts" = some (.ref fS)) (z_range : mg "range" = none) :
    FnOk P w K mg base CX0 39 f fd ["program"] (spCol ns) := by
  refine F_pcolumn_of.ok scPColumnOf (fun vs H Q E h => ?_) (fun cdv A outer s H vs Q E hr h => ?_)
  · obtain ⟨_, _, rfl, _⟩ := h
    rfl
  · obtain ⟨v, b, rfl, t, hb, q⟩ := h
    have hz : b.sz < 16777216 := by have := hb.sz; omega
    refine ⟨_, (pss_cons (ps_set (i := 1) scPColumnOf.nd rfl (by first | exact Or.inl rfl | exact Or.inr rfl) pe_int)
      (C8.pss_cut (ps_forGen (k := 1) (pre := (defBody sPEachStatement).take 2) (test := gWT sPEachStatement) (as := (gWB sPEachStatement).take 1) (ye := gYe sPEachStatement 1) (bs := (gWB sPEachStatement).drop 2) F_peach_statement scPEachStatement ncEach (by rfl) (fun n cd pn s H hr => rowsEach F_pblocks_of G_pblocks_of b_pblocks_of m_pblocks_of cdv A outer _ _ E n cd pn s H hr) (hr.mono (by omega)) (fun _ _ z => z) (by rfl) m_peach_statement F_peach_statement.kp b_peach_statement (pa_cons (pv 0) pa_nil) (pg_tup rfl (pgs_cons (pg_name (i := 2) scPColumnOf.nd rfl (by first | exact Or.inl rfl | exact Or.inr rfl)) (pgs_cons (pg_name (i := 3) scPColumnOf.nd rfl (by first | exact Or.inl rfl | exact Or.inr rfl)) (pgs_cons (pg_name (i := 4) scPColumnOf.nd rfl (by first | exact Or.inl rfl | exact Or.inr rfl)) pgs_nil)))) (pss_one (ps_if (pt_val (pe_call G_ptests_with (hr.mono (by omega)) (by rfl) m_ptests_with F_ptests_with.kp b_ptests_with .nil pass0 (pa_cons (pv 4) (pa_cons pe_str pa_nil)))) (pss_one (ps_set (i := 1) scPColumnOf.nd rfl (by first | exact Or.inl rfl | exact Or.inr rfl) (pe_call G_pleast_common (hr.mono (by omega)) (by rfl) m_pleast_common F_pleast_common.kp b_pleast_common .nil pass0 (pa_cons (pv 1) (pa_cons (pe_ix ix_tup (pe_call G_pbare_test (hr.mono (by omega)) (by rfl) m_pbare_test F_pbare_test.kp b_pbare_test .nil pass0 (pa_cons (pe_ix ix_tup (pv 4) pe_int (fun _ _ => rfl)) pa_nil)) pe_int (fun _ _ => rfl)) pa_nil))))) pss_nil)))
      (pss_cons (ps_setLc (i := 5) (own := [("rest", 10)]) (g := gName 10) (tt := tYes) rfl scPColumnOf.nd rfl rfl (sw_true rfl rfl rfl (by decide +kernel)) (pi_range1 (by rfl) z_range (pa_cons (pv 1) pa_nil)) (blkOk_by (N := nPColumnOf) (sc := defScope sPColumnOf) (by decide +kernel)) (fun _ _ _ _ _ => (pg_name (i := 10) scPColumnOf.nd rfl (by first | exact Or.inl rfl | exact Or.inr rfl))) (fun _ _ _ _ _ => pts_nil) (fun _ _ _ _ _ => (pe_lst pa_nil)))
      (C8.pss_cut (ps_for PassesOwn.never rfl (pi_list (pe_call G_psign_parts (hr.mono (by omega)) (by rfl) m_psign_parts F_psign_parts.kp b_psign_parts .nil pass0 (pa_cons (pv 0) (pa_cons (pv 1) pa_nil)))) (pg_tup rfl (pgs_cons (pg_name (i := 6) scPColumnOf.nd rfl (by first | exact Or.inl rfl | exact Or.inr rfl)) (pgs_cons (pg_tup rfl (pgs_cons (pg_name (i := 7) scPColumnOf.nd rfl (by first | exact Or.inl rfl | exact Or.inr rfl)) (pgs_cons (pg_name (i := 8) scPColumnOf.nd rfl (by first | exact Or.inl rfl | exact Or.inr rfl)) (pgs_cons (pg_name (i := 9) scPColumnOf.nd rfl (by first | exact Or.inl rfl | exact Or.inr rfl)) pgs_nil)))) pgs_nil))) (pss_one (ps_for PassesOwn.never rfl (pi_list (pv 7)) (pg_name (i := 10) scPColumnOf.nd rfl (by first | exact Or.inl rfl | exact Or.inr rfl)) (pss_one (ps_if (pt_val (pe_call G_phas_one (hr.mono (by omega)) (by rfl) m_phas_one F_phas_one.kp b_phas_one .nil pass0 (pa_cons (pv 10) (pa_cons (pv 1) (pa_cons (pv 8) (pa_cons (pv 9) pa_nil)))))) (pss_one (ps_expr (pe_bm PySem.F.plainAttrs_list PySem.F.slot_list_append PySem.F.type_list_append mt_append (pe_ix ix_list (pv 5) (pv 10) (fun _ _ => rfl)) (pa_cons (pe_tup (pa_cons (pv 8) (pa_cons (pv 9) (pa_cons (pe_tup (pa_cons (pv 6) pa_nil)) pa_nil)))) pa_nil)))) pss_nil)))))
      (pss_one (ps_ret (pv 5))))))), ?_⟩
    obtain ⟨a, xs, ea, ha, hx⟩ := t.tuple
    subst ea
    have t0 : Tp H (.ref a) (.tuple b.ds) := t
    refine ⟨fun σ' H' => ∃ o2 o3 o4, σ' = [some (.ref a), some (.int b.per), o2, o3, o4, none, none, none, none, none, none] ∧ Sx [] H H', ?_, ?_⟩
    · refine ⟨_, rfl, rfl, b.sz, fun m σg σc H' => ∃ (D : Addr) (ws : List (Int × St)) (k : Nat) (o3 o4 o5 o6 c1 c2 c3 : Option V), σg = [some (.ref a), some (.ref D), some (.int k), o3, o4, o5, o6] ∧ σc = [some (.ref a), some (.int (perR ((b.rws 0 0).take k) : Nat)), c1, c2, c3, none, none, none, none, none, none] ∧ H D = none ∧ Sx [] H H' ∧ Stk H' D ws ∧ k + stkSz ws = b.sz ∧
          stkRws ws k = (b.rws 0 0).drop k ∧ m = stkSz ws, ?_, ?_⟩
      · refine each_first t0 hz fun D H' o3 o4 o5 o6 hD s1 hs => ?_
        exact ⟨b.sz, Nat.le_refl _, D, b.stk 0, 0, _, _, _, _, _, _, _, rfl, rfl, hD, s1, hs, by rw [stkSz_bk]; omega, stk_bk b 0 0, (stkSz_bk b 0).symm⟩
      · rintro m σg σc H' ⟨D, ws, k, o3, o4, o5, o6, c1, c2, c3, rfl, rfl, hDn, s2, hs, hk, hrw, rfl⟩
        cases ws with
        | nil =>
          have hk : k + 0 = b.sz := hk
          have eper : perR ((b.rws 0 0).take k) = b.per := by rw [Bk.per, List.take_of_length_le (by rw [Bk.rws_len]; omega)]
          exact each_end hs (iteF ⟨c1, c2, c3, by rw [eper], s2⟩)
        | cons y ws =>
          obtain ⟨d, st⟩ := y
          have hk : k + (st.sz + stkSz ws) = b.sz := hk
          have stp := st.sz_pos
          have rowE : stkRws ((d, st) :: ws) k = ((k : Int), d, st) :: (stkRws (kidsOf st.blks (d + 1)) (k + 1) ++ stkRws ws (k + st.sz)) := by
            show st.rws d k ++ stkRws ws _ = _
            rw [st.rws_kids, List.cons_append]
          rw [rowE] at hrw
          have hget : (b.rws 0 0)[k]? = some ((k : Int), d, st) := by
            have z := congrArg (·[0]?) hrw
            rw [List.getElem?_drop] at z
            exact z.symm
          refine each_more hs (iteT (each_take hs fun x H2 sD hs2 tx => each_give fun u hu => ?_))
          have s3 : Sx [] H H2 := s2.step sD fun x hx => by rw [List.mem_singleton.mp hx]; exact .inr hDn
          have eu : (upd H2 u (.tup [.int k, .int d, x])) u = some (.tup [.int k, .int d, x]) := upd_same
          have s4 : Sx [] H (upd H2 u (.tup [.int k, .int d, x])) := s3.new hu
          have e7 := hs2.keep (Sx.n0 (o := .tup [.int k, .int d, x]) hu)
          have e8 : Tp (upd H2 u (.tup [.int k, .int d, x])) x st.d := tx.new hu
          generalize upd H2 u (.tup [.int k, .int d, x]) = H3 at s4 e7 e8 eu ⊢
          obtain ⟨md, mo⟩ := Bk.rws_okd b 4 0 0 hb.ok _ (List.mem_of_getElem? hget)
          have tkE : perR ((b.rws 0 0).take (k + 1)) = Nat.lcm (perR ((b.rws 0 0).take k)) st.rb := by
            rw [List.take_add_one, hget]
            exact perR_snoc _ _
          refine ⟨fun σ3 H5 => σ3 = [some (.ref a), some (.int (perR ((b.rws 0 0).take (k + 1)) : Nat)), some (.int k), some (.int d), some x, none, none, none, none, none, none] ∧ Sx [] H H5 ∧ Stk H5 D ws ∧ Tp H5 x st.d, ?_, ?_⟩
          · refine ⟨u, _, rfl, SqT.of eu, rfl, _, _, rfl, gnm ⟨_, _, rfl, gnm ⟨_, _, rfl, gnm ⟨rfl, ?_⟩⟩⟩⟩
            refine ⟨_, rfl, x, st, "rest", rfl, e8, _, rfl, ?_⟩
            have pk := perR_ok ((b.rws 0 0).take k) fun r hr => Bk.rws_okd b 4 0 0 hb.ok r (List.mem_of_mem_take hr)
            have pk60 := Nat.le_of_dvd (by decide) pk.1
            have skip : st.rb = 1 → perR ((b.rws 0 0).take (k + 1)) = perR ((b.rws 0 0).take k) := fun e => by rw [tkE, e, Nat.lcm_one_right]
            cases st with
            | ite ts y z =>
              obtain ⟨ax, q1, q2, q3, q4, rfl, hA, u1, u2, u3, u4⟩ := tp4 e8
              rcases Ts.bare_is ts with ⟨x', b', r', eb, erb⟩ | ⟨x', y', eb, erb⟩
              · refine iteP (by show decide (V.str ts.bare.hd = V.str "rest") = true; rw [eb]; exact decide_eq_true rfl) ?_
                obtain ⟨jj, bo⟩ := Ts.bare_ok ts 2 mo.1
                rw [eb] at bo
                have b2 : 2 ≤ b' ∧ b' ≤ 6 := ⟨bo.2.1, bo.2.2.1⟩
                have eb' : b' = ((b'.toNat : Nat) : Int) := by omega
                refine ⟨_, rfl, _, rfl, ax, _, _, q2, rfl, rfl, SqT.of hA, rfl, q2, ts, rfl, u2, fun v' tv' => ?_⟩
                rw [eb] at tv'
                obtain ⟨av, w1, w2, w3, w4, rfl, hAv, z1, z2, z3, z4⟩ := tp4 tv'
                obtain rfl := tpI z3
                refine ⟨av, _, _, _, rfl, rfl, SqT.of hAv, rfl, perR ((b.rws 0 0).take k), b'.toNat, by rw [← eb']; rfl, pk.2.1, by omega, by omega, by omega, fun H6 s6 => gnm ?_⟩
                refine ⟨?_, s4.trans s6, e7.keep s6, e8.keep s6.tk0⟩
                rw [tkE]
                show _ = [some (V.ref a), some (V.int ((Nat.lcm _ ts.rb : Nat) : Int)), _, _, _, _, _, _, _, _, _]
                rw [erb]
                rfl
              · refine iteN (by show ¬ decide (V.str ts.bare.hd = V.str "rest") = true; rw [eb]; exact sne (show (("less" : Str) == "rest") = false by decide +kernel)) ⟨?_, s4, e7, e8⟩
                rw [skip erb]
                rfl
            | _ =>
              refine iteN (by simp [St.tw]) ⟨?_, s4, e7, e8⟩
              rw [skip rfl]
              rfl
          · rintro _ H5 ⟨rfl, s5, hs5, t5⟩
            refine each_back hs5 t5 (by omega) fun H6 o5 o6 s6 hs6 => ?_
            have szE : stkSz (kidsOf st.blks (d + 1) ++ ws) + 1 = st.sz + stkSz ws := by
              rw [stkSz_append, kidsSz, st.sz_blks]
              omega
            refine ⟨_, ?_, D, kidsOf st.blks (d + 1) ++ ws, k + 1, _, _, _, _, _, _, _, rfl, rfl, hDn, s5.step s6 fun x hx => by rw [List.mem_singleton.mp hx]; exact .inr hDn, hs6, by omega, ?_, rfl⟩
            · have e10 : ((d, st) : Int × St).2.sz = st.sz := rfl
              rw [stkSz_cons, e10]
              omega
            · have e9 : ((k + 1 : Nat) : Int) = (k : Int) + 1 := by omega
              have z := congrArg (List.drop 1) hrw
              rw [List.drop_drop, List.drop_one, List.tail_cons] at z
              rw [← z, stk_append, e9, kidsSz]
              congr 2
              rw [st.sz_blks]
              omega
    · rintro _ H1 ⟨o2, o3, o4, rfl, s1⟩
      have hm := hb.m
      have m60 := hm.m1
      have m0 := hm.m0
      refine ⟨_, rfl, b.per, rfl, by omega, by omega, fun Z hZ => lc_range (lo := 0) (n := b.per) (fun i H' => Sx [] H1 H' ∧ ∃ as : List Addr, H' Z = some (.lst (as.map V.ref)) ∧ as.length = i ∧ as.Nodup ∧ (∀ a ∈ as, H1 a = none ∧ H' a = some (.lst []) ∧ a ≠ Z)) ?_ (fun i H' hi p => ?_) (fun H2 p => ?_)⟩
      · exact ⟨Sx.n0 hZ, [], upd_same, rfl, List.nodup_nil, fun a ha => by cases ha⟩
      · obtain ⟨sA, as, eZ, al, nd, ha'⟩ := p
        refine ⟨rfl, by show 0 ≤ sizeLine; decide, fun l hl => ?_⟩
        have s2 := Sx.n0 (o := .lst []) hl
        have eZ2 := s2 _ _ (by simp) eZ
        have lZ : l ≠ Z := fun z => by rw [z, eZ] at hl; cases hl
        have lH1 : H1 l = none := sA.free (by simp) hl
        refine ⟨as.map V.ref, eZ2, lt_line (by rw [List.length_map]; omega), (sA.trans s2).own hZ, as ++ [l], by rw [upd_same, List.map_append]; rfl, by rw [List.length_append, al]; rfl, ?_, fun a hm => ?_⟩
        · refine List.nodup_append.mpr ⟨nd, by simp, fun x hx y hy => ?_⟩
          rw [List.mem_singleton.mp hy]
          intro e
          have := (ha' x hx).2.1
          rw [e, hl] at this
          cases this
        · rcases List.mem_append.1 hm with hm | hm
          · obtain ⟨h1, h2, h3⟩ := ha' a hm
            exact ⟨h1, by rw [upd_ne h3]; exact s2 _ _ (by simp) h2, h3⟩
          · rw [(List.mem_singleton.mp hm)]
            exact ⟨lH1, by rw [upd_ne lZ]; exact upd_same, lZ⟩
      · obtain ⟨sA, as, eZ, al, nd, ha'⟩ := p
        have hZ1 : H Z = none := s1.free (by simp) hZ
        have haH : ∀ a ∈ as, H a = none := fun a hm => s1.free (by simp) (ha' a hm).1
        have s2 : Sx [] H H2 := s1.trans sA
        have own2 : Own (Z :: as) H2 := fun x hx => by
          rcases List.mem_cons.1 hx with rfl | hx
          · rw [eZ]; simp
          · rw [(ha' x hx).2.1]; simp
        have aZ : ∀ a ∈ as, a ≠ Z := fun a hm => (ha' a hm).2.2
        have c2 : ColV H2 as fun _ => [] := fun j a hj => ⟨[], (ha' a (List.mem_of_getElem? hj)).2.1, .nil⟩
        clear ha'
        refine gnm ?_
        refine ⟨fun σ' H' => ∃ o2 o3 o4 o6 o7 o8 o9 o10, σ' = [some (.ref a), some (.int b.per), o2, o3, o4, some (.ref Z), o6, o7, o8, o9, o10] ∧ Sx [] H H' ∧ H' Z = some (.lst (as.map V.ref)) ∧ ColV H' as (fun j => col b b.per (j : Nat)), ?_, ?_⟩
        · refine ⟨_, rfl, _, rfl, Z :: as, .ref a, b, b.per, rfl, own2, t0.keep s2.tk0, hm, fun H3 L ys s3 nL eL aL => ?_⟩
          have eZ3 := s3 _ _ (by simp) eZ
          have LN : L ∉ Z :: as := own2.nin nL
          have c3 : ColV H3 as fun _ => [] := fun j x hj => by
            obtain ⟨vals, h1, h2⟩ := c2 j x hj
            exact ⟨vals, s3 _ _ (by simp) h1, h2.keep s3.tk0⟩
          have slen := hm.len
          refine ⟨L, rfl, ⟨ys, SqL.of eL⟩, for_list (xs := ys) (fun i σ' H' => ∃ o2 o3 o4 o6 o7 o8 o9 o10, σ' = [some (.ref a), some (.int b.per), o2, o3, o4, some (.ref Z), o6, o7, o8, o9, o10] ∧ Sx [] H H' ∧ Kl (Z :: as) H3 H' ∧ H' Z = some (.lst (as.map V.ref)) ∧ ColV H' as (fun j => ((sparts b b.per).take i).flatMap (cItem b.per (j : Nat))))
            ⟨_, _, _, _, _, _, _, _, rfl, s2.trans s3, ⟨Tk.refl _, fun _ _ _ h => h⟩, eZ3, c3⟩ (fun i σ' H' _ y => by obtain ⟨_, _, _, _, _, _, _, _, _, _, y, _⟩ := y; exact SqL.of (y.l _ _ LN eL)) (fun i y σ' H4 hi z => ?_) (fun σ' H4 z => ?_)⟩
          · obtain ⟨o2', o3', o4', o6, o7, o8, o9, o10, rfl, s4, kl4, eZ4, c4⟩ := z
            obtain ⟨x, hx, ai, u1, rfl, hai, bi, R, rfl, hbi, hR, nR⟩ := aL.get hi
            have hxm := List.mem_of_getElem? hx
            have xrs := sparts_rs hxm
            have il := (List.getElem?_eq_some_iff.mp hx).1
            have hR4 := kl4.l _ _ nR hR
            refine ⟨ai, _, rfl, SqT.of (kl4.t _ _ hai), rfl, _, _, rfl, gnm ⟨_, _, rfl, ⟨bi, _, rfl, SqT.of (kl4.t _ _ hbi), rfl, _, _, rfl, gnm ⟨_, _, rfl, gnm ⟨_, _, rfl, gnm ⟨rfl, rfl, ?_⟩⟩⟩⟩⟩⟩
            refine ⟨_, rfl, R, rfl, ⟨_, SqL.of hR4⟩, for_list (xs := x.2.rs.map V.int) (fun k σ' H' => ∃ o10, σ' = [some (.ref a), some (.int b.per), o2', o3', o4', some (.ref Z), some (.int x.1), some (.ref R), some (oV x.2.lo), some (oV x.2.hi), o10] ∧ Sx [] H H' ∧ Kl (Z :: as) H3 H' ∧ H' Z = some (.lst (as.map V.ref)) ∧ ColV H' as (fun j => ((sparts b b.per).take i).flatMap (cItem b.per (j : Nat)) ++ cPart b.per x k (j : Nat)))
              ⟨_, rfl, s4, kl4, eZ4, fun j a hj => by
                show Cell H4 a (((sparts b b.per).take i).flatMap (cItem b.per (j : Nat)) ++ cPart b.per x 0 (j : Nat))
                rw [cPart_zero, List.append_nil]
                exact c4 j a hj⟩ (fun k σ' H' _ y => by obtain ⟨_, _, _, y, _⟩ := y; exact SqL.of (y.l _ _ nR hR)) (fun k y σ' H5 hk z => ?_) (fun σ' H5 z => ?_)⟩
            · obtain ⟨o10', rfl, s5, kl5, eZ5, c5⟩ := z
              rw [List.getElem?_map] at hk
              obtain ⟨r, hr, rfl⟩ := Option.map_eq_some_iff.mp hk
              obtain ⟨r0, r1⟩ := xrs.2.1 r (List.mem_of_getElem? hr)
              obtain ⟨jr, rfl⟩ : ∃ jr : Nat, r = jr := ⟨r.toNat, by omega⟩
              have jl : jr < as.length := by rw [al]; omega
              refine gnm ?_
              refine ⟨_, rfl, _, rfl, _, rfl, _, rfl, (jr : Int), (b.per : Int), x.2.lo, x.2.hi, rfl, by omega, _, rfl, ?_⟩
              cases hh : hasOne jr b.per x.2.lo x.2.hi with
              | false =>
                refine iteF ⟨_, rfl, s5, kl5, eZ5, fun j a' hj => ?_⟩
                have this : Cell H5 a' (((sparts b b.per).take i).flatMap (cItem b.per (j : Nat)) ++ cPart b.per x k (j : Nat)) := c5 j a' hj
                show Cell H5 a' (((sparts b b.per).take i).flatMap (cItem b.per (j : Nat)) ++ cPart b.per x (k + 1) (j : Nat))
                by_cases c : j = jr
                · subst c
                  rw [cPart_no (by rw [hh]; simp)] at this ⊢
                  exact this
                · rw [cPart_ne hr (fun z => c (by omega))]
                  exact this
              | true =>
                refine iteT ?_
                have har : as[jr]? = some as[jr] := List.getElem?_eq_getElem jl
                obtain ⟨vals, e5, t5⟩ := (show Cell H5 as[jr] (((sparts b b.per).take i).flatMap (cItem b.per (jr : Nat)) ++ cPart b.per x k (jr : Nat)) from c5 jr as[jr] har)
                have ca := cPart_at xrs.1 hr hh
                rw [ca.1, List.append_nil] at t5
                have vl := t5.len
                have fl := len_flatMap (F := cItem b.per (jr : Nat)) (B := 1) (l := (sparts b b.per).take i) fun y _ => by unfold cItem; split <;> simp
                rw [List.length_take] at fl
                rw [List.length_map] at vl
                have ane : as[jr] ≠ Z := aZ _ (List.getElem_mem jl)
                refine ⟨_, rfl, _, rfl, Z, as.map V.ref, _, .ref as[jr], rfl, rfl, SqL.of eZ5, atI_nat (by rw [List.getElem?_map, har]; rfl), .inl ⟨rfl, _, SqL.of e5⟩, _, rfl, _, rfl, _, rfl, by show 1 ≤ sizeLine; decide, fun u hu => ⟨by show 3 ≤ sizeLine; decide, fun w' hw => ?_⟩⟩
                have s6 := Sx.n0 (o := .tup [.int x.1]) hu
                have s7 := Sx.n0 (o := .tup [oV x.2.lo, oV x.2.hi, .ref u]) hw
                have s67 := s6.trans s7
                have e7 := s67 _ _ (by simp) e5
                have kk : Kl (Z :: as) _ _ := Kl.own (zs := vals ++ [.ref w']) e7 (List.mem_cons_of_mem _ (List.getElem_mem jl))
                refine ⟨as[jr], vals, _, rfl, rfl, e7, lt_line (by omega), _, rfl, (s5.trans s67).own (haH _ (List.getElem_mem jl)), (kl5.trans s67.kl).trans kk, by rw [upd_ne (Ne.symm ane)]; exact s67 _ _ (by simp) eZ5, fun j a' hj => ?_⟩
                show Cell _ a' (((sparts b b.per).take i).flatMap (cItem b.per (j : Nat)) ++ cPart b.per x (k + 1) (j : Nat))
                by_cases c : j = jr
                · subst c
                  have ea : a' = as[j] := by rw [har] at hj; exact (Option.some.inj hj).symm
                  subst ea
                  rw [ca.2]
                  refine ⟨_, upd_same, ?_⟩
                  rw [List.map_append]
                  refine ((t5.keep s67.tk0).keep kk.t).append (.cons ?_ .nil)
                  exact .tup (kk.t _ _ upd_same) (.cons (oV_tp _) (.cons (oV_tp _) (.cons (.tup (kk.t _ _ (s7 _ _ (by simp) upd_same)) (.cons (.int _) .nil)) .nil)))
                · obtain ⟨vals', e5', t5'⟩ := c5 j a' hj
                  rw [cPart_ne hr (fun z => c (by omega))]
                  have aa : a' ≠ as[jr] := fun z => by
                    obtain ⟨jl2, e2⟩ := List.getElem?_eq_some_iff.mp hj
                    rw [← e2] at z
                    exact c ((List.getElem_inj (h₀ := jl2) (h₁ := jl) nd).mp z)
                  exact ⟨vals', by rw [upd_ne aa]; exact s67 _ _ (by simp) e5', (t5'.keep s67.tk0).keep kk.t⟩
            · obtain ⟨o10', rfl, s5, kl5, eZ5, c5⟩ := z
              refine ⟨_, _, _, _, _, _, _, _, rfl, s5, kl5, eZ5, fun j a' hj => ?_⟩
              have this : Cell H5 a' (((sparts b b.per).take i).flatMap (cItem b.per (j : Nat)) ++ cPart b.per x (x.2.rs.map V.int).length (j : Nat)) := c5 j a' hj
              show Cell H5 a' (((sparts b b.per).take (i + 1)).flatMap (cItem b.per (j : Nat)))
              rw [List.length_map, cPart_all (Nat.le_refl _)] at this
              rw [take_fm _ hx]
              exact this
          · obtain ⟨o2', o3', o4', o6, o7, o8, o9, o10, rfl, s4, kl4, eZ4, c4⟩ := z
            refine ⟨_, _, _, _, _, _, _, _, rfl, s4, eZ4, fun j a' hj => ?_⟩
            have this : Cell H4 a' (((sparts b b.per).take ys.length).flatMap (cItem b.per (j : Nat))) := c4 j a' hj
            rw [List.take_of_length_le (by rw [← aL.len]; exact Nat.le_refl _), ← col_eq] at this
            exact this
        · rintro _ H3 ⟨o2', o3', o4', o6, o7, o8, o9, o10, rfl, s3, eZ3, c3⟩
          exact ⟨_, rfl, q H3 Z as s3 hZ1 eZ3 al haH c3⟩
end
abbrev sPCrossed : Stmt := topS 26
abbrev nPCrossed : List Str := ["pieces", "others", "rest", "by", "found", "low", "high", "signs", "least", "most", "more", "bottom", "top"]
theorem scPCrossed : FnScope nPCrossed ["pieces", "others", "rest", "by"] (defScope sPCrossed) := ⟨rfl, rfl, rfl, by decide +kernel, rfl, by decide +kernel, by decide +kernel⟩
abbrev sPJoined : Stmt := topS 27
abbrev nPJoined : List Str := ["pieces", "found", "low", "high", "signs"]
theorem scPJoined : FnScope nPJoined ["pieces"] (defScope sPJoined) := ⟨rfl, rfl, rfl, by decide +kernel, rfl, by decide +kernel, by decide +kernel⟩
/-! ### pieces crossed, and joined -/
def sgD (s : List Int) : PyData := .tuple (s.map .int)
theorem tpPc {H : Hp} {v : V} {p : Pc} (h : Tp H v (pcD p)) : ∃ a z, v = .ref a ∧ H a = some (.tup [oV p.lo, oV p.hi, z]) ∧ Tp H z (sgD p.s) := by
  obtain ⟨a, x, y, z, e, ha, t1, t2, t3⟩ := tp3 h
  rw [tpO t1, tpO t2] at ha
  exact ⟨a, z, e, ha, t3⟩
theorem pcTp {H : Hp} {a : Addr} {lo hi : Option Int} {z : V} {s : List Int} (h : H a = some (.tup [oV lo, oV hi, z])) (t : Tp H z (sgD s)) : Tp H (.ref a) (pcD ⟨lo, hi, s⟩) := .tup h (.cons (oV_tp lo) (.cons (oV_tp hi) (.cons t .nil)))
theorem eqvA_ints : ∀ l m : List Int, PyData.eqvAll (l.map .int) (m.map .int) = decide (l = m)
  | [], [] => rfl
  | [], _ :: _ => (by simp [PyData.eqvAll])
  | _ :: _, [] => (by simp [PyData.eqvAll])
  | i :: l, j :: m => by
    simp only [List.map_cons, PyData.eqvAll, PyData.eqv, eqvA_ints l m]
    by_cases h1 : i = j
    · subst h1; simp
    · simp [h1]
theorem eqv_sg (l m : List Int) : PyData.eqv (sgD l) (sgD m) = decide (l = m) := by
  show PyData.eqv (.tuple _) (.tuple _) = _
  simp only [PyData.eqv]
  exact eqvA_ints l m
theorem sgD_sh (l : List Int) : SeqAt.shaped (sgD l) = true := by
  have z : ∀ l : List Int, ShA 1 (l.map PyData.int) := by
    intro l
    induction l with
    | nil => exact .nil
    | cons i l ih => exact .cons (.int i) ih
  exact (Sh.tup (z l)).shaped (by decide)
def cel (r by_ : Int) (p q : Pc) : List Pc := if hasOne r by_ (tlo p.lo q.lo) (thi p.hi q.hi) = true then [⟨tlo p.lo q.lo, thi p.hi q.hi, p.s ++ q.s⟩] else []
theorem crossed_eq (r by_ : Int) (P Q : List Pc) : crossed r by_ P Q = P.flatMap fun p => Q.flatMap (cel r by_ p) := rfl
theorem cel_len (r by_ : Int) (p q : Pc) : (cel r by_ p q).length ≤ 1 := by unfold cel; split <;> simp
def spCross : Sp := fun vs H Q _ => ∃ (A B : Addr) (P R : List Pc) (r by_ : Int), vs = [.ref A, .ref B, .int r, .int by_] ∧ Cell H A P ∧ Cell H B R ∧ 0 < by_ ∧ P.length * R.length ≤ 16000000 ∧ (∀ p ∈ P, ∀ q ∈ R, p.s.length + q.s.length ≤ 1000) ∧ ∀ H' Z, Sx [] H H' → H Z = none → Cell H' Z (crossed r by_ P R) → Q (.ref Z) H'
def spJoin : Sp := fun vs H Q _ => ∃ (A : Addr) (P : List Pc), vs = [.ref A] ∧ Cell H A P ∧ P.length ≤ 16000000 ∧ ∀ H' Z, Sx [] H H' → H Z = none → Cell H' Z (joined P) → Q (.ref Z) H'
theorem Cell.sx {H H' : Hp} {a : Addr} {l : List Pc} (h : Cell H a l) (s : Sx [] H H') : Cell H' a l := by
  obtain ⟨vals, h1, h2⟩ := h
  exact ⟨vals, s _ _ (by simp) h1, h2.keep s.tk0⟩
theorem TpAll.split1 {H : Hp} : ∀ {ds : List PyData} {d : PyData} {vs : List V}, TpAll H vs (ds ++ [d]) → ∃ ws x, vs = ws ++ [x] ∧ TpAll H ws ds ∧ Tp H x d
  | [], _, _, .cons a .nil => ⟨[], _, rfl, .nil, a⟩
  | _ :: _, _, _, .cons a b => by
    obtain ⟨ws, x, e, h1, h2⟩ := TpAll.split1 b
    exact ⟨_ :: ws, x, by rw [e]; rfl, .cons a h1, h2⟩
theorem mem_get {α : Type} {l : List α} {i : Nat} {x : α} (h : l[i]? = some x) : x ∈ l := List.mem_of_getElem? h
section
variable {w : World} {P : Program} {K : PySem.W.Frag} {mg : Str → Option Value} {base : Heap}
theorem ok_pcross {f fL fH fO : Addr} {fd fdL fdH fdO : FuncData} (F_pcrossed : Fun K "crossed" "crossed" sPCrossed f fd) (F_ptighter_low : Fun K "tighter_low" "tighter_low" sPTighterLow fL fdL) (F_ptighter_high : Fun K "tighter_high" "tighter_high" sPTighterHigh fH fdH) (F_phas_one : Fun K "has_one" "has_one" sPHasOne fO fdO)
    (G_ptighter_low : FnOk P w K mg base CX0 1 fL fdL ["low", "other"] spTlo) (G_ptighter_high : FnOk P w K mg base CX0 1 fH fdH ["high", "other"] spThi) (G_phas_one : FnOk P w K mg base CX0 1 fO fdO ["rest", "by", "low", "high"] spHas)
    (b_ptighter_low : Binds K fdL ["low", "other"] []) (b_ptighter_high : Binds K fdH ["high", "other"] []) (b_phas_one : Binds K fdO ["rest", "by", "low", "high"] []) (m_ptighter_low : mg "tighter_low" = some (.ref fL)) (m_ptighter_high : mg "tighter_high" = some (.ref fH)) (m_phas_one : mg "has_one" = some (.ref fO)) :
    FnOk P w K mg base CX0 2 f fd ["pieces", "others", "rest", "by"] spCross := by
  refine F_pcrossed.ok scPCrossed (fun vs H Q E h => ?_) (fun cdv A outer s H vs Q E hr h => ?_)
  · obtain ⟨_, _, _, _, _, _, rfl, _⟩ := h
    rfl
  · obtain ⟨a, b, Ps, Rs, r, by_, rfl, ⟨va, ea, ta⟩, ⟨vb, eb, tb⟩, hb, hz, hs, q⟩ := h
    refine ⟨_, (pss_cons (ps_set (i := 4) scPCrossed.nd rfl (by first | exact Or.inl rfl | exact Or.inr rfl) (pe_lst pa_nil))
      (C8.pss_cut (ps_for PassesOwn.never rfl (pi_list (pv 0)) (pg_tup rfl (pgs_cons (pg_name (i := 5) scPCrossed.nd rfl (by first | exact Or.inl rfl | exact Or.inr rfl)) (pgs_cons (pg_name (i := 6) scPCrossed.nd rfl (by first | exact Or.inl rfl | exact Or.inr rfl)) (pgs_cons (pg_name (i := 7) scPCrossed.nd rfl (by first | exact Or.inl rfl | exact Or.inr rfl)) pgs_nil)))) (pss_one (ps_for PassesOwn.never rfl (pi_list (pv 1)) (pg_tup rfl (pgs_cons (pg_name (i := 8) scPCrossed.nd rfl (by first | exact Or.inl rfl | exact Or.inr rfl)) (pgs_cons (pg_name (i := 9) scPCrossed.nd rfl (by first | exact Or.inl rfl | exact Or.inr rfl)) (pgs_cons (pg_name (i := 10) scPCrossed.nd rfl (by first | exact Or.inl rfl | exact Or.inr rfl)) pgs_nil)))) (pss_cons (ps_par (i := 11) (j := 12) (by rfl) scPCrossed.nd rfl rfl (by decide) rfl rfl (pa_cons (pe_call G_ptighter_low (hr.mono (by omega)) (by rfl) m_ptighter_low F_ptighter_low.kp b_ptighter_low .nil pass0 (pa_cons (pv 5) (pa_cons (pv 8) pa_nil))) (pa_cons (pe_call G_ptighter_high (hr.mono (by omega)) (by rfl) m_ptighter_high F_ptighter_high.kp b_ptighter_high .nil pass0 (pa_cons (pv 6) (pa_cons (pv 9) pa_nil))) pa_nil)) (by rfl))
      (pss_one (ps_if (pt_val (pe_call G_phas_one (hr.mono (by omega)) (by rfl) m_phas_one F_phas_one.kp b_phas_one .nil pass0 (pa_cons (pv 2) (pa_cons (pv 3) (pa_cons (pv 11) (pa_cons (pv 12) pa_nil)))))) (pss_one (ps_expr (pe_bm PySem.F.plainAttrs_list PySem.F.slot_list_append PySem.F.type_list_append mt_append (pv 4) (pa_cons (pe_tup (pa_cons (pv 11) (pa_cons (pv 12) (pa_cons (pe_op op_catA (pv 7) (pv 10)) pa_nil)))) pa_nil)))) pss_nil))))))
      (pss_one (ps_ret (pv 4))))), ?_⟩
    refine ⟨by show 0 ≤ sizeLine; decide, fun F hF => gnm ?_⟩
    have s0 := Sx.n0 (o := .lst []) hF
    have la := ta.len
    have lb := tb.len
    rw [List.length_map] at la lb
    refine ⟨fun σ' H' => ∃ o5 o6 o7 o8 o9 o10 o11 o12, σ' = [some (.ref a), some (.ref b), some (.int r), some (.int by_), some (.ref F), o5, o6, o7, o8, o9, o10, o11, o12] ∧ Sx [] H H' ∧ Cell H' F (crossed r by_ Ps Rs), ?_, ?_⟩
    · refine ⟨_, rfl, a, rfl, ⟨_, SqL.of (s0 _ _ (by simp) ea)⟩, for_list (xs := va) (fun i σ' H' => ∃ o5 o6 o7 o8 o9 o10 o11 o12, σ' = [some (.ref a), some (.ref b), some (.int r), some (.int by_), some (.ref F), o5, o6, o7, o8, o9, o10, o11, o12] ∧ Sx [] H H' ∧ Cell H' F ((Ps.take i).flatMap fun p => Rs.flatMap (cel r by_ p)))
        ⟨_, _, _, _, _, _, _, _, rfl, s0, [], upd_same, .nil⟩ (fun i σ' H' _ y => by obtain ⟨_, _, _, _, _, _, _, _, _, y, _⟩ := y; exact SqL.of (y _ _ (by simp) ea)) (fun i y σ' H1 hi z => ?_) (fun σ' H1 z => ?_)⟩
      · obtain ⟨o5, o6, o7, o8, o9, o10, o11, o12, rfl, s1, c1⟩ := z
        obtain ⟨d, hd, td⟩ := ta.get hi
        rw [List.getElem?_map] at hd
        obtain ⟨p, hp, rfl⟩ := Option.map_eq_some_iff.mp hd
        have il := (List.getElem?_eq_some_iff.mp hp).1
        obtain ⟨ap, zp, rfl, hap, tzp⟩ := tpPc (td.keep s1.tk0)
        refine ⟨ap, _, rfl, SqT.of hap, rfl, _, _, rfl, gnm ⟨_, _, rfl, gnm ⟨_, _, rfl, gnm ⟨rfl, ?_⟩⟩⟩⟩
        refine ⟨_, rfl, b, rfl, ⟨_, SqL.of (s1 _ _ (by simp) eb)⟩, for_list (xs := vb) (fun j σ' H' => ∃ o8 o9 o10 o11 o12, σ' = [some (.ref a), some (.ref b), some (.int r), some (.int by_), some (.ref F), some (oV p.lo), some (oV p.hi), some zp, o8, o9, o10, o11, o12] ∧ Sx [] H H' ∧ Tk H1 H' ∧ Cell H' F (((Ps.take i).flatMap fun p => Rs.flatMap (cel r by_ p)) ++ (Rs.take j).flatMap (cel r by_ p)))
          ⟨_, _, _, _, _, rfl, s1, Tk.refl _, by rw [List.take_zero, List.flatMap_nil, List.append_nil]; exact c1⟩ (fun j σ' H' _ y => by obtain ⟨_, _, _, _, _, _, y, _⟩ := y; exact SqL.of (y _ _ (by simp) eb)) (fun j y σ' H2 hj z => ?_) (fun σ' H2 z => ?_)⟩
        · obtain ⟨o8', o9', o10', o11', o12', rfl, s2, k2, c2⟩ := z
          obtain ⟨d, hd, td⟩ := tb.get hj
          rw [List.getElem?_map] at hd
          obtain ⟨p', hp', rfl⟩ := Option.map_eq_some_iff.mp hd
          have jl := (List.getElem?_eq_some_iff.mp hp').1
          obtain ⟨aq, zq, rfl, haq, tzq⟩ := tpPc (td.keep s2.tk0)
          have tzp2 := tzp.keep k2
          refine ⟨aq, _, rfl, SqT.of haq, rfl, _, _, rfl, gnm ⟨_, _, rfl, gnm ⟨_, _, rfl, gnm ⟨rfl, ?_⟩⟩⟩⟩
          refine ⟨_, rfl, _, rfl, p.lo, p'.lo, rfl, _, rfl, _, rfl, p.hi, p'.hi, rfl, _, _, rfl, ?_⟩
          refine ⟨_, rfl, _, rfl, _, rfl, _, rfl, r, by_, tlo p.lo p'.lo, thi p.hi p'.hi, rfl, hb, _, rfl, ?_⟩
          have tk : (Rs.take (j + 1)).flatMap (cel r by_ p) = (Rs.take j).flatMap (cel r by_ p) ++ cel r by_ p p' := take_fm _ hp'
          cases hh : hasOne r by_ (tlo p.lo p'.lo) (thi p.hi p'.hi) with
          | false =>
            refine iteF ⟨_, _, _, _, _, rfl, s2, k2, ?_⟩
            rw [tk, cel, if_neg (by rw [hh]; simp), List.append_nil]
            exact c2
          | true =>
            refine iteT ?_
            obtain ⟨vals, eF, tF⟩ := c2
            have vl := tF.len
            have fl1 := len_flatMap (F := fun p => Rs.flatMap (cel r by_ p)) (B := Rs.length) (l := Ps.take i) fun y _ => by
              have := len_flatMap (F := cel r by_ y) (B := 1) (l := Rs) fun z _ => cel_len r by_ y z
              omega
            have fl2 := len_flatMap (F := cel r by_ p) (B := 1) (l := Rs.take j) fun y _ => cel_len r by_ p y
            rw [List.length_take] at fl1 fl2
            have im : min i Ps.length * Rs.length + Rs.length ≤ Ps.length * Rs.length := by
              rw [Nat.min_eq_left (by omega), ← Nat.succ_mul]
              exact (Nat.mul_le_mul_right _ (by omega))
            have vb' : vals.length < 16777216 := by
              rw [vl, List.length_map, List.length_append]
              omega
            refine ⟨_, rfl, .inl ⟨rfl, _, SqL.of eF⟩, _, rfl, _, rfl, _, rfl, _, rfl, cat_tp tzp2 tzq (by rw [List.length_map, List.length_map]; have := hs p (mem_get hp) p' (mem_get hp'); omega) fun H3 z3 s3 _ t3 => ?_⟩
            refine ⟨by show 3 ≤ sizeLine; decide, fun w' hw => ?_⟩
            have s4 := Sx.n0 (o := .tup [oV (tlo p.lo p'.lo), oV (thi p.hi p'.hi), z3]) hw
            have eF4 := s4 _ _ (by simp) (s3 _ _ (by simp) eF)
            have k4 : Tk _ (upd _ F (.lst (vals ++ [.ref w']))) := Tk.lst eF4
            refine ⟨F, vals, _, rfl, rfl, eF4, lt_line vb', _, _, _, _, _, rfl, ((s2.trans s3).trans s4).own hF, ((k2.trans s3.tk0).trans s4.tk0).trans k4, _, upd_same, ?_⟩
            rw [tk, ← List.append_assoc, List.map_append]
            refine TpAll.append (((tF.keep s3.tk0).keep s4.tk0).keep k4) ?_
            rw [cel, if_pos hh]
            refine .cons (pcTp (k4 _ _ upd_same) ?_) .nil
            show Tp _ z3 (.tuple ((p.s ++ p'.s).map .int))
            rw [List.map_append]
            exact (t3.keep s4.tk0).keep k4
        · obtain ⟨o8', o9', o10', o11', o12', rfl, s2, k2, c2⟩ := z
          refine ⟨_, _, _, _, _, _, _, _, rfl, s2, ?_⟩
          rw [take_fm (fun p => Rs.flatMap (cel r by_ p)) hp]
          rw [List.take_of_length_le (l := Rs) (by omega)] at c2
          exact c2
      · obtain ⟨o5, o6, o7, o8, o9, o10, o11, o12, rfl, s1, c1⟩ := z
        refine ⟨_, _, _, _, _, _, _, _, rfl, s1, ?_⟩
        rw [List.take_of_length_le (by omega), ← crossed_eq] at c1
        exact c1
    · rintro _ H1 ⟨o5, o6, o7, o8, o9, o10, o11, o12, rfl, s1, c1⟩
      exact ⟨_, rfl, q H1 F s1 hF c1⟩
theorem ok_pjoin {f : Addr} {fd : FuncData} {k : Nat} (F_pjoined : Fun K "joined" "joined" sPJoined f fd) : FnOk P w K mg base CX0 (k + 1) f fd ["pieces"] spJoin := by
  refine F_pjoined.ok scPJoined (fun vs H Q E h => ?_) (fun cdv A outer s H vs Q E hr h => ?_)
  · obtain ⟨_, _, rfl, _⟩ := h
    rfl
  · obtain ⟨a, Ps, rfl, ⟨va, ea, ta⟩, hz, q⟩ := h
    refine ⟨_, (pss_cons (ps_set (i := 1) scPJoined.nd rfl (by first | exact Or.inl rfl | exact Or.inr rfl) (pe_lst pa_nil))
      (C8.pss_cut (ps_for PassesOwn.never rfl (pi_list (pv 0)) (pg_tup rfl (pgs_cons (pg_name (i := 2) scPJoined.nd rfl (by first | exact Or.inl rfl | exact Or.inr rfl)) (pgs_cons (pg_name (i := 3) scPJoined.nd rfl (by first | exact Or.inl rfl | exact Or.inr rfl)) (pgs_cons (pg_name (i := 4) scPJoined.nd rfl (by first | exact Or.inl rfl | exact Or.inr rfl)) pgs_nil)))) (C8.pss_cut (ps_if (PW.pt (pw_and (pt_truth (pv 1) (fun _ => rfl)) (pw_and1 (pt_cmpR (op_eqD hr.units) (pe_ix ix_tup (pe_ix ix_list (pv 1) (pe_un un_neg pe_int) (fun _ _ => rfl)) pe_int (fun _ _ => rfl)) (pv 4) (nomark _))))) (pss_one (ps_set (i := 2) scPJoined.nd rfl (by first | exact Or.inl rfl | exact Or.inr rfl) (pe_ix ix_tup (pe_bm0 PySem.F.plainAttrs_list PySem.F.slot_list_pop PySem.F.type_list_pop mt_pop (pv 1)) pe_int (fun _ _ => rfl)))) pss_nil)
      (pss_one (ps_expr (pe_bm PySem.F.plainAttrs_list PySem.F.slot_list_append PySem.F.type_list_append mt_append (pv 1) (pa_cons (pe_tup (pa_cons (pv 2) (pa_cons (pv 3) (pa_cons (pv 4) pa_nil)))) pa_nil))))))
      (pss_one (ps_ret (pv 1))))), ?_⟩
    refine ⟨by show 0 ≤ sizeLine; decide, fun F hF => gnm ?_⟩
    have s0 := Sx.n0 (o := .lst []) hF
    have la := ta.len
    rw [List.length_map] at la
    refine ⟨fun σ' H' => ∃ o2 o3 o4, σ' = [some (.ref a), some (.ref F), o2, o3, o4] ∧ Sx [] H H' ∧ Cell H' F (joined Ps), ?_, ?_⟩
    · refine ⟨_, rfl, a, rfl, ⟨_, SqL.of (s0 _ _ (by simp) ea)⟩, for_list (xs := va) (fun i σ' H' => ∃ o2 o3 o4, σ' = [some (.ref a), some (.ref F), o2, o3, o4] ∧ Sx [] H H' ∧ Cell H' F (joined (Ps.take i)))
        ⟨_, _, _, rfl, s0, [], upd_same, .nil⟩ (fun i σ' H' _ y => by obtain ⟨_, _, _, _, y, _⟩ := y; exact SqL.of (y _ _ (by simp) ea)) (fun i y σ' H1 hi z => ?_) (fun σ' H1 z => ?_)⟩
      · obtain ⟨o2, o3, o4, rfl, s1, vals, eF, tF⟩ := z
        obtain ⟨d, hd, td⟩ := ta.get hi
        rw [List.getElem?_map] at hd
        obtain ⟨p, hp, rfl⟩ := Option.map_eq_some_iff.mp hd
        have il := (List.getElem?_eq_some_iff.mp hp).1
        obtain ⟨ap, zp, rfl, hap, tzp⟩ := tpPc (td.keep s1.tk0)
        refine ⟨ap, _, rfl, SqT.of hap, rfl, _, _, rfl, gnm ⟨_, _, rfl, gnm ⟨_, _, rfl, gnm ⟨rfl, ?_⟩⟩⟩⟩
        have vl := tF.len
        rw [List.length_map] at vl
        have jl := joined_len (Ps.take i)
        rw [List.length_take] at jl
        have jE : joined (Ps.take (i + 1)) = jstep (joined (Ps.take i)) p := by
          rw [List.take_add_one, hp]
          unfold joined
          rw [List.foldl_append]
          rfl
        -- the low end, and what is kept
        refine ⟨fun σ' H' => ∃ (lo : Option Int) (vals : List V) (acc : List Pc), σ' = [some (.ref a), some (.ref F), some (oV lo), some (oV p.hi), some zp] ∧ Sx [] H H' ∧ Tk H1 H' ∧ H' F = some (.lst vals) ∧ TpAll H' vals (acc.map pcD) ∧ vals.length ≤ i ∧ jstep (joined (Ps.take i)) p = acc ++ [⟨lo, p.hi, p.s⟩], ?_, ?_⟩
        · rcases List.eq_nil_or_concat (joined (Ps.take i)) with e0 | ⟨acc, g, e0⟩
          · rw [e0] at tF
            cases tF
            refine ⟨_, rfl, false, .inl ⟨[], SqL.of eF, rfl⟩, iteF (iteF ⟨p.lo, [], [], rfl, s1, Tk.refl _, eF, .nil, Nat.zero_le _, ?_⟩)⟩
            rw [e0]
            rfl
          · rw [List.concat_eq_append] at e0
            rw [e0, List.map_append] at tF
            obtain ⟨vs1, x, ev, t1, tx⟩ := tF.split1
            subst ev
            obtain ⟨ax, zx, rfl, hax, tzx⟩ := tpPc tx
            have jst : jstep (joined (Ps.take i)) p = if g.s = p.s then acc ++ [⟨g.lo, p.hi, p.s⟩] else (acc ++ [g]) ++ [p] := by
              rw [e0]
              unfold jstep
              rw [List.getLast?_concat]
              show (if g.s = p.s then (acc ++ [g]).dropLast ++ _ else _) = _
              rw [List.dropLast_concat]
            have vlen : (vs1 ++ [V.ref ax]).length = vs1.length + 1 := by rw [List.length_append]; rfl
            refine ⟨_, rfl, true, .inl ⟨_, SqL.of eF, by simp⟩, iteT ?_⟩
            refine ⟨_, rfl, 1, rfl, F, _, _, .ref ax, rfl, rfl, SqL.of eF, atI_last vs1 (.ref ax), ax, _, _, zx, rfl, rfl, SqT.of hax, rfl, _, rfl, sgD g.s, sgD p.s, tzx.dp, tzp.dp, sgD_sh _, sgD_sh _, _, rfl, ?_⟩
            rw [eqv_sg]
            by_cases ce : g.s = p.s
            · refine iteP (decide_eq_true ce) ?_
              have k1 : Tk H1 (upd H1 F (.lst (vs1 ++ [V.ref ax]).dropLast)) := Tk.lst eF
              refine ⟨_, rfl, .inl ⟨rfl, _, SqL.of eF⟩, F, _, .ref ax, rfl, rfl, eF, by rw [vlen]; simp, ax, _, _, oV g.lo, rfl, rfl, SqT.of (k1 _ _ hax), rfl, gnm ?_⟩
              refine ⟨g.lo, (vs1 ++ [V.ref ax]).dropLast, acc, rfl, s1.own hF, k1, upd_same, ?_, ?_, ?_⟩
              · have t2 := t1.keep k1
                rw [List.dropLast_concat] at t2 ⊢
                exact t2
              · rw [List.dropLast_concat]
                have : (joined (Ps.take i)).length = vs1.length + 1 := by rw [← vl, vlen]
                omega
              · rw [jst, if_pos ce]
            · refine iteN (fun e => ce (of_decide_eq_true e)) ⟨p.lo, vs1 ++ [.ref ax], acc ++ [g], rfl, s1, Tk.refl _, eF, ?_, ?_, ?_⟩
              · rw [List.map_append]; exact t1.append (.cons tx .nil)
              · rw [vl]; omega
              · rw [jst, if_neg ce]
        · rintro _ H2 ⟨lo, vals2, acc, rfl, s2, k2, eF2, tF2, vl2, hj⟩
          refine ⟨_, rfl, .inl ⟨rfl, _, SqL.of eF2⟩, _, rfl, _, rfl, _, rfl, by show 3 ≤ sizeLine; decide, fun w' hw => ?_⟩
          have s4 := Sx.n0 (o := .tup [oV lo, oV p.hi, zp]) hw
          have eF4 := s4 _ _ (by simp) eF2
          have k4 : Tk _ (upd _ F (.lst (vals2 ++ [.ref w']))) := Tk.lst eF4
          refine ⟨F, vals2, _, rfl, rfl, eF4, lt_line (by omega), _, _, _, rfl, (s2.trans s4).own hF, _, upd_same, ?_⟩
          rw [jE, hj, List.map_append]
          exact ((tF2.keep s4.tk0).keep k4).append (.cons (pcTp (k4 _ _ upd_same) (((tzp.keep k2).keep s4.tk0).keep k4)) .nil)
      · obtain ⟨o2, o3, o4, rfl, s1, c1⟩ := z
        rw [List.take_of_length_le (by omega)] at c1
        exact ⟨_, _, _, rfl, s1, c1⟩
    · rintro _ H1 ⟨o2, o3, o4, rfl, s1, c1⟩
      exact ⟨_, rfl, q H1 F s1 hF c1⟩
end
abbrev sPTableOf : Stmt := topS 24
abbrev nPTableOf : List Str := ["family", "columns", "period", "column", "table", "rest", "pieces", "program"]
theorem scPTableOf : FnScope nPTableOf ["family"] (defScope sPTableOf) := ⟨rfl, rfl, rfl, by decide +kernel, rfl, by decide +kernel, by decide +kernel⟩
/-! ### the table of a family -/
/-- a program's column: lists of pieces, at no address of N -/
def CoV (N : List Addr) (H : Hp) (v : V) (b : Bk) : Prop := ∃ z as, v = .ref z ∧ H z = some (.lst (as.map V.ref)) ∧ as.length = b.per ∧ z ∉ N ∧ (∀ a ∈ as, a ∉ N) ∧ ColV H as (fun j => col b b.per (j : Nat))
theorem Cell.kl {N : List Addr} {H H' : Hp} {a : Addr} {l : List Pc} (h : Cell H a l) (k : Kl N H H') (n : a ∉ N) : Cell H' a l := by
  obtain ⟨vals, h1, h2⟩ := h
  exact ⟨vals, k.l _ _ n h1, h2.keep k.t⟩
theorem CoV.keep {N : List Addr} {H H' : Hp} {v : V} {b : Bk} (h : CoV N H v b) (k : Kl N H H') : CoV N H' v b := by
  obtain ⟨z, as, e, h1, h2, h3, h4, h5⟩ := h
  exact ⟨z, as, e, k.l _ _ h3 h1, h2, h3, h4, fun j a hj => (h5 j a hj).kl k (h4 a (List.mem_of_getElem? hj))⟩
theorem CoV.anti {N : List Addr} {H : Hp} {v : V} {b : Bk} {F : Addr} (h : CoV (F :: N) H v b) : CoV N H v b := by
  obtain ⟨z, as, e, h1, h2, h3, h4, h5⟩ := h
  exact ⟨z, as, e, h1, h2, fun m => h3 (List.mem_cons_of_mem _ m), fun a ha m => h4 a ha (List.mem_cons_of_mem _ m), h5⟩
theorem CoV.more {N : List Addr} {H : Hp} {v : V} {b : Bk} {F : Addr} (h : CoV N H v b) (n : H F = none) : CoV (F :: N) H v b := by
  obtain ⟨z, as, e, h1, h2, h3, h4, h5⟩ := h
  refine ⟨z, as, e, h1, h2, fun m => (List.mem_cons.1 m).elim (fun e => by rw [e, n] at h1; cases h1) h3, fun a ha m => (List.mem_cons.1 m).elim (fun e => ?_) (h4 a ha), h5⟩
  rcases List.mem_iff_getElem?.mp ha with ⟨j, hj⟩
  obtain ⟨vals, e1, _⟩ := h5 j a hj
  rw [e, n] at e1
  cases e1
def perF (bs : List Bk) : Nat := bs.foldl (fun m b => Nat.lcm m b.per) 1
def fl (bs : List Bk) : List (Nat × Bk) := bs.map fun b => (b.per, b)
theorem perF_snoc (bs : List Bk) (b : Bk) : perF (bs ++ [b]) = Nat.lcm (perF bs) b.per := by unfold perF; rw [List.foldl_append]; rfl
theorem perF_ok {ns : List Str} (bs : List Bk) (h : ∀ b ∈ bs, Pr ns b) : perF bs ∣ 60 ∧ 0 < perF bs ∧ ∀ b ∈ bs, b.per ∣ perF bs := by
  have z : ∀ (bs : List Bk) (m : Nat), (∀ b ∈ bs, Pr ns b) → m ∣ 60 → 0 < m → (bs.foldl (fun m b => Nat.lcm m b.per) m) ∣ 60 ∧ 0 < (bs.foldl (fun m b => Nat.lcm m b.per) m) ∧ m ∣ (bs.foldl (fun m b => Nat.lcm m b.per) m) ∧ ∀ b ∈ bs, b.per ∣ (bs.foldl (fun m b => Nat.lcm m b.per) m) := by
    intro bs
    induction bs with
    | nil => intro m _ h1 h2; exact ⟨h1, h2, Nat.dvd_refl _, fun b hb => by cases hb⟩
    | cons x l ih =>
      intro m hl h1 h2
      obtain ⟨r1, r2, _⟩ := Bk.per_ok (hl x (List.mem_cons_self ..)).ok
      obtain ⟨i1, i2, i3, i4⟩ := ih (Nat.lcm m x.per) (fun r hr => hl r (List.mem_cons_of_mem _ hr)) (Nat.lcm_dvd h1 r1) (Nat.lcm_pos h2 r2)
      refine ⟨i1, i2, Nat.dvd_trans (Nat.dvd_lcm_left _ _) i3, fun r hr => ?_⟩
      rcases List.mem_cons.1 hr with rfl | hr
      · exact Nat.dvd_trans (Nat.dvd_lcm_right _ _) i3
      · exact i4 r hr
  obtain ⟨h1, h2, _, h4⟩ := z bs 1 h (by decide) (by decide)
  exact ⟨h1, h2, h4⟩
theorem fl_ok {ns : List Str} {bs : List Bk} (h : ∀ b ∈ bs, Pr ns b) : ∀ x ∈ fl bs, Per ns x ∧ x.1 ∣ perF bs := fun x hx => by
  rcases List.mem_map.mp hx with ⟨b, hb, rfl⟩
  obtain ⟨r1, r2, r3⟩ := Bk.per_ok (h b hb).ok
  exact ⟨⟨r2, r1, ⟨4, (h b hb).ok⟩, r3⟩, (perF_ok bs h).2.2 b hb⟩
theorem crossAll_snoc (r per : Nat) (x : Nat × Bk) : ∀ (l : List (Nat × Bk)) (P : List Pc), crossAll r per (l ++ [x]) P = crossed r per (crossAll r per l P) (col x.2 x.1 ((r % x.1 : Nat) : Int))
  | [], P => rfl
  | y :: l, P => crossAll_snoc r per x l _
theorem col_len {ns : List Str} {b : Bk} (h : Pr ns b) (r : Int) : (col b b.per r).length ≤ 1024 := by
  have h1 := len_flatMap (F := cItem b.per r) (B := 1) (l := sparts b b.per) fun y _ => by unfold cItem; split <;> simp
  have := h.m.len
  rw [← col_eq] at h1
  omega
theorem crossed_s {r by_ : Int} {P Q : List Pc} {m n : Nat} (hP : ∀ p ∈ P, p.s.length = m) (hQ : ∀ q ∈ Q, q.s.length = n) : ∀ x ∈ crossed r by_ P Q, x.s.length = m + n := fun x hx => by
  obtain ⟨p, hp, hx⟩ := List.mem_flatMap.mp hx
  obtain ⟨q, hq, hx⟩ := List.mem_flatMap.mp hx
  obtain ⟨_, rfl⟩ := mem_ifl hx
  show (p.s ++ q.s).length = _
  rw [List.length_append, hP p hp, hQ q hq]
theorem col_s {b : Bk} {M : Nat} {r : Int} : ∀ p ∈ col b M r, p.s.length = 1 := fun p hp => by
  obtain ⟨x, _, hp⟩ := List.mem_flatMap.mp hp
  obtain ⟨_, rfl⟩ := mem_ifl hp
  rfl
theorem crossAll_s {r per : Nat} : ∀ (l : List (Nat × Bk)) (P : List Pc) (m : Nat), (∀ p ∈ P, p.s.length = m) → ∀ p ∈ crossAll r per l P, p.s.length = m + l.length
  | [], P, m, h, p, hp => h p hp
  | x :: l, P, m, h, p, hp => by
    have := crossAll_s l _ (m + 1) (crossed_s h col_s) p hp
    rw [List.length_cons]; omega
theorem one_tl {per r : Nat} (hr : r < per) : Tl r per (fun _ => []) [⟨none, none, []⟩] := by
  refine ⟨⟨fun n _ => ⟨_, List.mem_singleton.mpr rfl, fun x e => (nomatch e), fun x e => (nomatch e)⟩, List.pairwise_singleton _ _, fun p hp n _ _ => by rw [List.mem_singleton.mp hp]⟩, fun p hp => ⟨r, Int.emod_eq_of_lt (by omega) (by omega), ?_⟩⟩
  rw [List.mem_singleton.mp hp]
  exact ⟨fun x e => (nomatch e), fun x e => (nomatch e)⟩
theorem crossAll_len {ns : List Str} {bs : List Bk} (h : ∀ b ∈ bs, Pr ns b) {r : Nat} (hr : r < perF bs) {l : List Bk} (hl : ∀ b ∈ l, b ∈ bs) : (crossAll r (perF bs) (fl l) [⟨none, none, []⟩]).length ≤ 1 + 1024 * l.length := by
  have hp := (perF_ok bs h).2.1
  have z := (crossAll_tl (ns := ns) hp hr (fl l) _ _ (fun x hx => by
    rcases List.mem_map.mp hx with ⟨b, hb, rfl⟩
    exact fl_ok h _ (List.mem_map.mpr ⟨b, hl b hb, rfl⟩)) (one_tl hr)).2
  have y : ∀ l : List Bk, (∀ b ∈ l, Pr ns b) → ((fl l).map fun x => (col x.2 x.1 ((r % x.1 : Nat) : Int)).length).sum ≤ 1024 * l.length := by
    intro l
    induction l with
    | nil => intro _; exact Nat.zero_le _
    | cons b l ih =>
      intro hb
      have h1 := col_len (hb b (List.mem_cons_self ..)) ((r % b.per : Nat) : Int)
      have h2 := ih fun x hx => hb x (List.mem_cons_of_mem _ hx)
      show (col b b.per ((r % b.per : Nat) : Int)).length + ((fl l).map _).sum ≤ _
      rw [List.length_cons]
      omega
  have := y l fun b hb => h b (hl b hb)
  have e1 : ([⟨none, none, []⟩] : List Pc).length = 1 := rfl
  omega
def spTab (ns : List Str) : Sp := fun vs H Q _ => ∃ (v : V) (bs : List Bk), vs = [v] ∧ Tp H v (.tuple (bs.map bkD)) ∧ (∀ b ∈ bs, Pr ns b) ∧ bs.length ≤ 8 ∧
  ∀ H' F ts, Sx [] H H' → H F = none → H' F = some (.lst (ts.map V.ref)) → ts.length = perF bs → ColV H' ts (fun j => tabR (fl bs) (perF bs) j) → Q (.ref F) H'
section
variable {w : World} {P : Program} {K : PySem.W.Frag} {mg : Str → Option Value} {base : Heap}
theorem ok_ptab {f fC fL fX fJ : Addr} {fd fdC fdL fdX fdJ : FuncData} {ns : List Str} (F_ptable_of : Fun K "table_of" "table_of" sPTableOf f fd) (F_pcolumn_of : Fun K "column_of" "column_of" sPColumnOf fC fdC) (F_pleast_common : Fun K "least_common" "least_common" sPLeastCommon fL fdL) (F_pcrossed : Fun K "crossed" "crossed" sPCrossed fX fdX) (F_pjoined : Fun K "joined" "joined" sPJoined fJ fdJ)
    (G_pcolumn_of : FnOk P w K mg base CX0 39 fC fdC ["program"] (spCol ns)) (G_pleast_common : FnOk P w K mg base CX0 2 fL fdL ["one", "other"] spLcm) (G_pcrossed : FnOk P w K mg base CX0 2 fX fdX ["pieces", "others", "rest", "by"] spCross) (G_pjoined : FnOk P w K mg base CX0 1 fJ fdJ ["pieces"] spJoin)
    (b_pcolumn_of : Binds K fdC ["program"] []) (b_pleast_common : Binds K fdL ["one", "other"] []) (b_pcrossed : Binds K fdX ["pieces", "others", "rest", "by"] []) (b_pjoined : Binds K fdJ ["pieces"] []) (m_pcolumn_of : mg "column_of" = some (.ref fC)) (m_pleast_common : mg "least_common" = some (.ref fL)) (m_pcrossed : mg "crossed" = some (.ref fX)) (m_pjoined : mg "joined" = some (.ref fJ))
    (z_len : mg "len" = none) (z_range : mg "range" = none) : FnOk P w K mg base CX0 40 f fd ["family"] (spTab ns) := by
  refine F_ptable_of.ok scPTableOf (fun vs H Q E h => ?_) (fun cdv A outer s H vs Q E hr h => ?_)
  · obtain ⟨_, _, rfl, _⟩ := h
    rfl
  · obtain ⟨v, bs, rfl, t, hb, h8, q⟩ := h
    obtain ⟨a, xs, rfl, ha, hx⟩ := t.tuple
    have xl := hx.len
    rw [List.length_map] at xl
    obtain ⟨p60, p0, pd⟩ := perF_ok bs hb
    have pp := Nat.le_of_dvd (by decide) p60
    refine ⟨_, (pss_cons (ps_setLc (i := 1) (own := [("program", 7)]) (g := gName 7) (tt := tYes) rfl scPTableOf.nd rfl rfl (sw_true rfl rfl rfl (by decide +kernel)) (pi_tup (pv 0)) (blkOk_by (N := nPTableOf) (sc := defScope sPTableOf) (by decide +kernel)) (fun _ _ _ _ _ => (pg_name (i := 7) scPTableOf.nd rfl (by first | exact Or.inl rfl | exact Or.inr rfl))) (fun _ _ _ _ _ => pts_nil) (fun _ _ _ _ _ => (pe_call G_pcolumn_of (hr.mono (by omega)) (by rfl) m_pcolumn_of F_pcolumn_of.kp b_pcolumn_of .nil pass0 (pa_cons (pv 7) pa_nil))))
      (pss_cons (ps_set (i := 2) scPTableOf.nd rfl (by first | exact Or.inl rfl | exact Or.inr rfl) pe_int)
      (C8.pss_cut (ps_for PassesOwn.never rfl (pi_list (pv 1)) (pg_name (i := 3) scPTableOf.nd rfl (by first | exact Or.inl rfl | exact Or.inr rfl)) (pss_one (ps_set (i := 2) scPTableOf.nd rfl (by first | exact Or.inl rfl | exact Or.inr rfl) (pe_call G_pleast_common (hr.mono (by omega)) (by rfl) m_pleast_common F_pleast_common.kp b_pleast_common .nil pass0 (pa_cons (pv 2) (pa_cons (pe_callB call_len_seq (by rfl) z_len boot_len (pa_cons (pv 3) pa_nil)) pa_nil))))))
      (pss_cons (ps_set (i := 4) scPTableOf.nd rfl (by first | exact Or.inl rfl | exact Or.inr rfl) (pe_lst pa_nil))
      (C8.pss_cut (ps_for PassesOwn.never rfl (pi_range1 (by rfl) z_range (pa_cons (pv 2) pa_nil)) (pg_name (i := 5) scPTableOf.nd rfl (by first | exact Or.inl rfl | exact Or.inr rfl)) (pss_cons (ps_set (i := 6) scPTableOf.nd rfl (by first | exact Or.inl rfl | exact Or.inr rfl) (pe_lst (pa_cons (pe_tup (pa_cons pe_non (pa_cons pe_non (pa_cons (pe_tup pa_nil) pa_nil)))) pa_nil)))
      (C8.pss_cut (ps_for PassesOwn.never rfl (pi_list (pv 1)) (pg_name (i := 3) scPTableOf.nd rfl (by first | exact Or.inl rfl | exact Or.inr rfl)) (pss_one (ps_set (i := 6) scPTableOf.nd rfl (by first | exact Or.inl rfl | exact Or.inr rfl) (pe_call G_pcrossed (hr.mono (by omega)) (by rfl) m_pcrossed F_pcrossed.kp b_pcrossed .nil pass0 (pa_cons (pv 6) (pa_cons (pe_ix ix_list (pv 3) (pe_op op_mod (pv 5) (pe_callB call_len_seq (by rfl) z_len boot_len (pa_cons (pv 3) pa_nil))) (fun _ _ => rfl)) (pa_cons (pv 5) (pa_cons (pv 2) pa_nil))))))))
      (pss_one (ps_expr (pe_bm PySem.F.plainAttrs_list PySem.F.slot_list_append PySem.F.type_list_append mt_append (pv 4) (pa_cons (pe_call G_pjoined (hr.mono (by omega)) (by rfl) m_pjoined F_pjoined.kp b_pjoined .nil pass0 (pa_cons (pv 6) pa_nil)) pa_nil)))))))
      (pss_one (ps_ret (pv 4)))))))), ?_⟩
    refine ⟨_, rfl, a, rfl, ⟨_, SqT.of ha⟩, fun Z hZ => lc_tup (xs := xs) (fun i H' => Sx [] H H' ∧ ∃ vals, H' Z = some (.lst vals) ∧ vals.length = i ∧ All2 (CoV [Z] H') vals (bs.take i)) ⟨Sx.n0 hZ, [], upd_same, rfl, .nil⟩ (fun i H' _ p => SqT.of (p.1 _ _ (by simp) ha)) (fun i x H' hi p => ?_) (fun H1 p => ?_)⟩
    · obtain ⟨sA, vals, eZ, vl, av⟩ := p
      obtain ⟨d, hd, td⟩ := hx.get hi
      rw [List.getElem?_map] at hd
      obtain ⟨b, hbi, rfl⟩ := Option.map_eq_some_iff.mp hd
      have il := (List.getElem?_eq_some_iff.mp hbi).1
      refine ⟨rfl, _, rfl, x, b, rfl, td.keep sA.tk0, hb b (mem_get hbi), fun H2 Z2 as s2 nZ eZ2 al fr cv => ?_⟩
      have eZ' := s2 _ _ (by simp) eZ
      have n1 : Z2 ≠ Z := fun e => by rw [e, eZ] at nZ; cases nZ
      have n2 : ∀ a ∈ as, a ≠ Z := fun a hm e => by have := fr a hm; rw [e, eZ] at this; cases this
      have kz : Kl [Z] H2 (upd H2 Z (.lst (vals ++ [.ref Z2]))) := Kl.own eZ' (by simp)
      refine ⟨vals, eZ', lt_line (by omega), (sA.trans s2).own hZ, _, upd_same, by rw [List.length_append, vl]; rfl, ?_⟩
      rw [List.take_add_one, hbi]
      have cz : CoV [Z] H2 (.ref Z2) b := ⟨Z2, as, rfl, eZ2, al, by simp [n1], fun a hm => by simp [n2 a hm], cv⟩
      exact (av.imp fun y z h => h.keep (s2.kl.trans kz)).snoc (cz.keep kz)
    · obtain ⟨sA, vals, eZ, vl, av⟩ := p
      rw [List.take_of_length_le (by omega)] at av
      have av : All2 (CoV [] H1) vals bs := av.imp fun y z h => h.anti
      have vlb : vals.length = bs.length := av.len
      refine gnm (gnm ⟨fun σ' H' => ∃ o3, σ' = [some (.ref a), some (.ref Z), some (.int (perF bs : Nat)), o3, none, none, none, none] ∧ Sx [] H1 H', ?_, ?_⟩)
      · refine ⟨_, rfl, Z, rfl, ⟨_, SqL.of eZ⟩, for_list (xs := vals) (fun i σ' H' => ∃ o3, σ' = [some (.ref a), some (.ref Z), some (.int (perF (bs.take i) : Nat)), o3, none, none, none, none] ∧ Sx [] H1 H')
          ⟨_, rfl, Sx.refl _⟩ (fun i σ' H' _ y => by obtain ⟨_, _, y⟩ := y; exact SqL.of (y _ _ (by simp) eZ)) (fun i y σ' H2 hi z => ?_) (fun σ' H2 z => ?_)⟩
        · obtain ⟨o3, rfl, s2⟩ := z
          obtain ⟨b, hbi, z, as, rfl, ez, al, _, _, _⟩ := av.get hi
          have bp := Bk.per_ok (hb b (mem_get hbi)).ok
          have bp60 := Nat.le_of_dvd (by decide) bp.1
          obtain ⟨t1, t2, _⟩ := perF_ok (bs.take i) fun b hm => hb b (List.mem_of_mem_take hm)
          have t60 := Nat.le_of_dvd (by decide) t1
          refine gnm ?_
          refine ⟨_, rfl, _, rfl, z, as.map V.ref, rfl, .inl (SqL.of (s2 _ _ (by simp) ez)), perF (bs.take i), b.per, by rw [List.length_map, al]; rfl, t2, bp.2.1, by omega, by omega, fun H3 s3 => gnm ⟨some (.ref z), ?_, s2.trans s3⟩⟩
          rw [List.take_add_one, hbi]
          show _ = [_, _, some (V.int ((perF (bs.take i ++ [b]) : Nat) : Int)), _, _, _, _, _]
          rw [perF_snoc]
          rfl
        · obtain ⟨o3, rfl, s2⟩ := z
          refine ⟨o3, ?_, s2⟩
          rw [vlb, List.take_length]
      · rintro _ H2 ⟨o3, rfl, s2⟩
        have s12 : Sx [] H H2 := sA.trans s2
        have av2 : All2 (CoV [] H2) vals bs := av.imp fun y z h => h.keep s2.kl
        have eZ2 := s2 _ _ (by simp) eZ
        refine ⟨by show 0 ≤ sizeLine; decide, fun F hF => gnm ?_⟩
        have sF0 := Sx.n0 (o := .lst []) hF
        have hFH : H F = none := s12.free (by simp) hF
        have s03 : Sx [] H (upd H2 F (.lst [])) := s12.trans sF0
        have av3 : All2 (CoV [F] (upd H2 F (.lst []))) vals bs := av2.imp fun y z h => (h.more hF).keep sF0.kl
        have eZ3 := sF0 _ _ (by simp) eZ2
        have eF3 : (upd H2 F (.lst [])) F = some (.lst []) := upd_same
        have ZF : Z ∉ [F] := by
          intro m
          rw [List.mem_singleton.mp m, hF] at eZ2
          cases eZ2
        generalize upd H2 F (.lst []) = H3 at s03 av3 eZ3 eF3 ⊢
        refine ⟨fun σ' H' => ∃ o3 o5 o6 ts, σ' = [some (.ref a), some (.ref Z), some (.int (perF bs : Nat)), o3, some (.ref F), o5, o6, none] ∧ Sx [] H H' ∧ H' F = some (.lst (ts.map V.ref)) ∧ ts.length = perF bs ∧ ColV H' ts (fun j => tabR (fl bs) (perF bs) j), ?_, ?_⟩
        · refine ⟨_, rfl, perF bs, rfl, by omega, by omega, for_range (lo := 0) (n := perF bs) (fun r σ' H' => ∃ o3 o5 o6 ts, σ' = [some (.ref a), some (.ref Z), some (.int (perF bs : Nat)), o3, some (.ref F), o5, o6, none] ∧ Sx [] H H' ∧ Kl [F] H3 H' ∧ H' F = some (.lst (ts.map V.ref)) ∧ ts.length = r ∧ (∀ t ∈ ts, t ≠ F) ∧ ColV H' ts (fun j => tabR (fl bs) (perF bs) j))
            ⟨_, _, _, [], rfl, s03, ⟨Tk.refl _, fun _ _ _ h => h⟩, eF3, rfl, (fun t ht => by cases ht), fun j t hj => by simp at hj⟩ (fun r σ' H4 hr4 z => ?_) (fun σ' H4 z => ?_)⟩
          · obtain ⟨o3', o5, o6, ts, rfl, s4, kl4, eF4, tl, tF, cv⟩ := z
            refine gnm ?_
            refine ⟨by show 0 ≤ sizeLine; decide, fun e0 he0 => ⟨by show 3 ≤ sizeLine; decide, fun p0' hp0 => ⟨by show 1 ≤ sizeLine; decide, fun L hL => gnm ?_⟩⟩⟩
            have sa := Sx.n0 (o := .tup []) he0
            have sb := Sx.n0 (o := .tup [.non, .non, .ref e0]) hp0
            have sc := Sx.n0 (o := .lst [.ref p0']) hL
            have sabc := (sa.trans sb).trans sc
            have cL : Cell (upd (upd (upd H4 e0 (.tup [])) p0' (.tup [.non, .non, .ref e0])) L (.lst [.ref p0'])) L [⟨none, none, []⟩] := ⟨_, upd_same, .cons (pcTp (lo := none) (hi := none) (s := []) (sc _ _ (by simp) upd_same) (.tup (sc _ _ (by simp) (sb _ _ (by simp) upd_same)) .nil)) .nil⟩
            have s5 := s4.trans sabc
            have kl5 : Kl [F] H3 (upd (upd (upd H4 e0 (.tup [])) p0' (.tup [.non, .non, .ref e0])) L (.lst [.ref p0'])) := kl4.trans sabc.kl
            have eF5 := sabc _ _ (by simp) eF4
            have cv5 : ColV (upd (upd (upd H4 e0 (.tup [])) p0' (.tup [.non, .non, .ref e0])) L (.lst [.ref p0'])) ts (fun j => tabR (fl bs) (perF bs) j) := fun j t hj => (cv j t hj).sx sabc
            have fresh4 : ∀ t ∈ ts, ∃ o, H4 t = some o := fun t ht => by
              obtain ⟨j, hj⟩ := List.mem_iff_getElem?.mp ht
              obtain ⟨vs, e, _⟩ := cv j t hj
              exact ⟨_, e⟩
            generalize upd (upd (upd H4 e0 (.tup [])) p0' (.tup [.non, .non, .ref e0])) L (.lst [.ref p0']) = H5 at cL s5 kl5 eF5 cv5 ⊢
            refine ⟨fun σ' H' => ∃ o3 G, σ' = [some (.ref a), some (.ref Z), some (.int (perF bs : Nat)), o3, some (.ref F), some (.int (r : Nat)), some (.ref G), none] ∧ Sx [] H5 H' ∧ Cell H' G (crossAll r (perF bs) (fl bs) [⟨none, none, []⟩]), ?_, ?_⟩
            · refine ⟨_, rfl, Z, rfl, ⟨_, SqL.of (kl5.l _ _ ZF eZ3)⟩, for_list (xs := vals) (fun i σ' H' => ∃ o3 G, σ' = [some (.ref a), some (.ref Z), some (.int (perF bs : Nat)), o3, some (.ref F), some (.int (r : Nat)), some (.ref G), none] ∧ Sx [] H5 H' ∧ Cell H' G (crossAll r (perF bs) (fl (bs.take i)) [⟨none, none, []⟩]))
                ⟨_, L, by rw [Int.zero_add]; rfl, Sx.refl _, cL⟩ (fun i σ' H' _ y => by obtain ⟨_, _, _, y, _⟩ := y; exact SqL.of (y _ _ (by simp) (kl5.l _ _ ZF eZ3))) (fun i y σ' H6 hi z => ?_) (fun σ' H6 z => ?_)⟩
              · obtain ⟨o3'', G, rfl, s6, cG⟩ := z
                obtain ⟨b, hbi, cz⟩ := av3.get hi
                obtain ⟨z, as, rfl, ez, al, _, _, cc⟩ := (cz.keep kl5).keep s6.kl
                have il := (List.getElem?_eq_some_iff.mp hbi).1
                have bp := Bk.per_ok (hb b (mem_get hbi)).ok
                have jl : r % b.per < as.length := by rw [al]; exact Nat.mod_lt _ bp.2.1
                have har : as[r % b.per]? = some as[r % b.per] := List.getElem?_eq_getElem jl
                have cr := cc _ _ har
                have cl1 := crossAll_len hb (r := r) hr4 (l := bs.take i) fun b hm => List.mem_of_mem_take hm
                have cl2 := col_len (hb b (mem_get hbi)) ((r % b.per : Nat) : Int)
                rw [List.length_take] at cl1
                have em : ((r : Nat) : Int) % ((as.map V.ref).length : Int) = ((r % b.per : Nat) : Int) := by rw [List.length_map, al, Int.natCast_emod]
                refine gnm ?_
                refine ⟨_, rfl, _, rfl, _, rfl, _, rfl, z, as.map V.ref, rfl, .inl (SqL.of ez), _, _, rfl, rfl, (by rw [List.length_map, al]; have := bp.2.1; omega), z, as.map V.ref, _, .ref as[r % b.per], rfl, rfl, SqL.of ez, ?_, _, rfl, _, rfl, ?_⟩
                · show atI (as.map V.ref) (((r : Nat) : Int) % ((as.map V.ref).length : Int)) = _
                  rw [em]
                  exact atI_nat (by rw [List.getElem?_map, har]; rfl)
                · refine ⟨G, as[r % b.per], _, _, (r : Nat), (perF bs : Nat), rfl, cG, cr, by omega, ?_, ?_, fun H7 W s7 nW cW => gnm ⟨_, W, rfl, s6.trans s7, ?_⟩⟩
                  · refine Nat.le_trans (Nat.mul_le_mul (Nat.le_trans cl1 (show 1 + 1024 * min i bs.length ≤ 8193 by omega)) cl2) (by decide)
                  · intro p hp q hq
                    have h1 := crossAll_s (fl (bs.take i)) [⟨none, none, []⟩] 0 (fun p hp => by rw [List.mem_singleton.mp hp]; rfl) p hp
                    have h2 := col_s q hq
                    rw [h2, h1, fl, List.length_map, List.length_take]
                    omega
                  · rw [List.take_add_one, hbi]
                    show Cell H7 W (crossAll r (perF bs) (fl (bs.take i ++ [b])) _)
                    rw [fl, List.map_append]
                    show Cell H7 W (crossAll r (perF bs) (fl (bs.take i) ++ [(b.per, b)]) _)
                    rw [crossAll_snoc]
                    exact cW
              · obtain ⟨o3'', G, rfl, s6, cG⟩ := z
                rw [vlb, List.take_length] at cG
                exact ⟨_, G, rfl, s6, cG⟩
            · rintro _ H6 ⟨o3'', G, rfl, s6, cG⟩
              have eF6 := s6 _ _ (by simp) eF5
              have cl1 := crossAll_len hb (r := r) hr4 (l := bs) fun b hm => hm
              refine ⟨_, rfl, .inl ⟨rfl, _, SqL.of eF6⟩, _, rfl, G, _, rfl, cG, by omega, fun H7 W s7 nW cW => ?_⟩
              have eF7 := s7 _ _ (by simp) eF6
              have WF : W ≠ F := fun e => by rw [e, eF6] at nW; cases nW
              have kF : Kl [F] H7 (upd H7 F (.lst (ts.map V.ref ++ [.ref W]))) := Kl.own eF7 (by simp)
              have cv7 : ColV (upd H7 F (.lst (ts.map V.ref ++ [.ref W]))) ts (fun j => tabR (fl bs) (perF bs) j) := fun j t hj => (((cv5 j t hj).sx s6).sx s7).kl kF (by simp [tF t (List.mem_of_getElem? hj)])
              refine ⟨F, ts.map V.ref, _, rfl, rfl, eF7, lt_line (by rw [List.length_map]; omega), _, _, _, ts ++ [W], rfl, ((s5.trans s6).trans s7).own hFH, ((kl5.trans s6.kl).trans s7.kl).trans kF, by rw [upd_same, List.map_append]; rfl, by rw [List.length_append, tl]; rfl, fun t ht => ?_, fun j t hj => ?_⟩
              · rcases List.mem_append.1 ht with ht | ht
                · exact tF t ht
                · rw [List.mem_singleton.mp ht]; exact WF
              · by_cases c : j < ts.length
                · rw [List.getElem?_append_left c] at hj
                  exact cv7 j t hj
                · rw [List.getElem?_append_right (by omega)] at hj
                  have jr : j = r := by
                    have := (List.getElem?_eq_some_iff.mp hj).1
                    simp at this
                    omega
                  subst jr
                  rw [tl, Nat.sub_self] at hj
                  cases hj
                  exact cW.kl kF (by simp [WF])
          · obtain ⟨o3', o5, o6, ts, rfl, s4, kl4, eF4, tl, tF, cv⟩ := z
            exact ⟨_, _, _, ts, rfl, s4, eF4, tl, cv⟩
        · rintro _ H4 ⟨o3', o5, o6, ts, rfl, s4, eF4, tl, cv⟩
          exact ⟨_, rfl, q H4 F ts s4 hFH eF4 tl cv⟩
end
abbrev sPSignsOf : Stmt := topS 19
abbrev nPSignsOf : List Str := ["family", "table", "rest", "pieces", "piece"]
theorem scPSignsOf : FnScope nPSignsOf ["family"] (defScope sPSignsOf) := ⟨rfl, rfl, rfl, by decide +kernel, rfl, by decide +kernel, by decide +kernel⟩
/-! ### the rows of a table -/
theorem pi_listK {X : Cx} {K : PySem.W.Frag} {l tg : Expr} {tl : TE} (h : X.K = K) (hl : PE X l tl) : PI X tg l (iList K tl) := h ▸ pi_list hl
abbrev rLenK (K : PySem.W.Frag) : List V → Hp → VK → Prop := fun xs H Q => ∃ p ys, xs = [.ref p] ∧ (SqL K H p ys ∨ SqT K H p ys) ∧ Q (.int ys.length) H
theorem call_lenK {X : Cx} {K : PySem.W.Frag} (h : X.K = K) : CallR X (.builtin "len") (rLenK K) := h ▸ call_len_seq
theorem pa_starK {X : Cx} {K : PySem.W.Frag} {e : Expr} {es : List Expr} {p : Pos} {te : TE} {t : TA} (h : X.K = K) (he : PE X e te) (hr : PA X es t) (hs : starEach (.Starred e p :: es) X.env = (true, eval e X.env) :: starEach es X.env := by rfl) : PA X (.Starred e p :: es) (StX.tStar K te t) := h ▸ StX.pa_star he hr hs
/-- over what is walked, each turn's aim told -/
theorem walkW {J : It} {n : Nat} {G : Hp → Prop} {Y : Nat → Hp → V → Hp → Prop} (w : Walk J n G Y) {Qd : Hp → Prop} {B : (Hp → Prop) → V → Hp → Prop} {H0 : Hp} (Pv : Nat → Hp → Prop) (h0 : Pv 0 H0) (hG : ∀ i H, i ≤ n → Pv i H → G H)
    (hs : ∀ i x H H', i < n → Pv i H → Y i H x H' → B (Pv (i + 1)) x H') (hd : ∀ H, Pv n H → Qd H) :
    ∃ W : Nat → Nat → Hp → Prop, (∃ m, W 0 m H0) ∧ ∀ i m H, W i m H → (J.stop i H ∧ Qd H) ∨ (J.go i H ∧ ∃ Nx : Hp → Prop, (∀ H', Nx H' → ∃ m', m' < m ∧ W (i + 1) m' H') ∧ ∀ x H', J.yld i H x H' → B Nx x H') := by
  refine (⟨fun i m H => m = n - i ∧ i ≤ n ∧ Pv i H, ⟨n, by simp, Nat.zero_le _, h0⟩, ?_⟩)
  rintro i m H ⟨rfl, hi, p⟩
  have q := hG i H hi p
  by_cases hlt : i < n
  · exact .inr ⟨w.goes i H hlt q, Pv (i + 1), fun H' p' => ⟨n - (i + 1), by omega, rfl, hlt, p'⟩, fun x H' y => hs i x H H' hlt p (w.yields i H x H' hlt q y)⟩
  · have e : i = n := by omega
    subst e
    exact (.inl ⟨w.stops H q, hd H p⟩)
theorem gYes {σ : L2.St} {H : Hp} {Q : Bool → Hp → Prop} (h : Q true H) : tYes σ H Q := h
def rowD (per : Nat) (x : Nat × Pc) : PyData := .tuple [.int (x.1 : Nat), .int (per : Nat), oD x.2.lo, oD x.2.hi, sgD x.2.s]
theorem tabR_len {ns : List Str} {bs : List Bk} (h : ∀ b ∈ bs, Pr ns b) (h8 : bs.length ≤ 8) {r : Nat} (hr : r < perF bs) : (tabR (fl bs) (perF bs) r).length ≤ 8193 := by
  have h1 := joined_len (crossAll r (perF bs) (fl bs) [⟨none, none, []⟩])
  have h2 := crossAll_len h hr (l := bs) fun b hb => hb
  unfold tabR
  omega
def spSigns (ns : List Str) : Sp := fun vs H Q _ => ∃ (v : V) (bs : List Bk), vs = [v] ∧ Tp H v (.tuple (bs.map bkD)) ∧ (∀ b ∈ bs, Pr ns b) ∧ bs.length ≤ 8 ∧ ∀ H' r, Sx [] H H' → Tp H' r (.tuple ((rowsT (fl bs) (perF bs)).map (rowD (perF bs)))) → Q r H'
section
variable {w : World} {P : Program} {K : PySem.W.Frag} {mg : Str → Option Value} {base : Heap}
theorem ok_psigns {f fT : Addr} {fd fdT : FuncData} {ns : List Str} (F_psigns_of : Fun K "signs_of" "signs_of" sPSignsOf f fd) (F_ptable_of : Fun K "table_of" "table_of" sPTableOf fT fdT) (G_ptable_of : FnOk P w K mg base CX0 40 fT fdT ["family"] (spTab ns)) (b_ptable_of : Binds K fdT ["family"] []) (m_ptable_of : mg "table_of" = some (.ref fT))
    (z_tuple : mg "tuple" = none) (z_enumerate : mg "enumerate" = none) (z_len : mg "len" = none) : FnOk P w K mg base CX0 41 f fd ["family"] (spSigns ns) := by
  refine F_psigns_of.ok scPSignsOf (fun vs H Q E h => ?_) (fun cdv A outer s H vs Q E hr h => ?_)
  · obtain ⟨_, _, rfl, _⟩ := h
    rfl
  · obtain ⟨v, bs, rfl, t, hb, h8, q⟩ := h
    obtain ⟨p60, p0, _⟩ := perF_ok bs hb
    have pp := Nat.le_of_dvd (by decide) p60
    refine ⟨_, (pss_cons (ps_set (i := 1) scPSignsOf.nd rfl (by first | exact Or.inl rfl | exact Or.inr rfl) (pe_call G_ptable_of (hr.mono (by omega)) (by rfl) m_ptable_of F_ptable_of.kp b_ptable_of .nil pass0 (pa_cons (pv 0) pa_nil)))
      (pss_one (ps_ret (pe_callTy call_tuple_of (by rfl) z_tuple boot_tuple (pa_cons (pe_lc2 (own := [("rest", 2), ("pieces", 3), ("piece", 4)]) (vs1 := [4]) (g := gTup K 2 (gCons (gName 2) (gCons (gName 3) gNil))) (g1 := gName 4) (tt := tYes) (tt1 := tYes) rfl scPSignsOf.nd (pi_enum (by rfl) z_enumerate (pa_cons (pv 1) pa_nil)) (blkOk_by (N := nPSignsOf) (sc := defScope sPSignsOf) (by decide +kernel)) (by decide) (fun _ _ _ _ _ => (pg_tup rfl (pgs_cons (pg_name (i := 2) scPSignsOf.nd rfl (by first | exact Or.inl rfl | exact Or.inr rfl)) (pgs_cons (pg_name (i := 3) scPSignsOf.nd rfl (by first | exact Or.inl rfl | exact Or.inr rfl)) pgs_nil)))) (fun _ _ _ _ _ => pts_nil) (fun _ _ _ _ _ => pi_listK (K := K) rfl (pv 3)) (fun _ _ _ _ _ => (pg_name (i := 4) scPSignsOf.nd rfl (by first | exact Or.inl rfl | exact Or.inr rfl))) (fun _ _ _ _ _ => pts_nil) (fun _ _ _ _ _ => (pe_tup (pa_cons (pv 2) (pa_cons (pe_callB (call_lenK (K := K) rfl) (by rfl) z_len boot_len (pa_cons (pv 1) pa_nil)) (pa_starK (K := K) rfl (pv 4) pa_nil)))))) pa_nil))))), ?_⟩
    refine ⟨_, rfl, v, bs, rfl, t, hb, h8, fun H1 F ts s1 nF eF tl cv => gnm ?_⟩
    refine ⟨_, rfl, F, ts.map V.ref, rfl, SqL.of eF, fun Z hZ => walkW (walk_enum (xs := ts.map V.ref)) (fun i H' => Sx [] H1 H' ∧ ∃ vals, H' Z = some (.lst vals) ∧ TpAll H' vals (((List.range i).flatMap fun r => (tabR (fl bs) (perF bs) r).map fun p => (r, p)).map (rowD (perF bs)))) ⟨Sx.n0 hZ, [], upd_same, .nil⟩ (fun i H' _ p => SqL.of (p.1 _ _ (by simp) eF)) (fun i x H2 H3 hi p y => ?_) (fun H2 p => ?_)⟩
    · obtain ⟨s2, vals, eZ, hv⟩ := p
      obtain ⟨T, x1, x2, rfl, nT, rfl, y1, y2⟩ := y
      obtain rfl : V.int (i : Nat) = x1 := Option.some.inj y1
      have y2 : (ts.map V.ref)[i]? = some x2 := y2
      rw [List.getElem?_map] at y2
      obtain ⟨a, ha, rfl⟩ := Option.map_eq_some_iff.mp y2
      have hip : i < perF bs := by simpa [tl] using hi
      have sT := Sx.n0 (o := .tup [V.int (i : Nat), .ref a]) nT
      have sTZ : upd H2 T (.tup [V.int (i : Nat), .ref a]) Z = some (.lst vals) := by rw [upd_ne (fun e => by rw [e, nT] at eZ; cases eZ)]; exact eZ
      obtain ⟨cs, hcs, hct⟩ := cv i a ha
      have pl := hct.len
      rw [List.length_map] at pl
      have hcs2 := (s2.trans sT) _ _ (by simp) hcs
      refine ⟨T, [V.int (i : Nat), .ref a], rfl, SqT.of upd_same, rfl, _, _, rfl, gnm ⟨_, _, rfl, gnm ⟨rfl, rfl, ?_⟩⟩⟩
      refine gYes ?_
      rw [if_pos rfl]
      refine ⟨_, rfl, a, rfl, ⟨_, SqL.of hcs2⟩, walkW (walk_list (xs := cs)) (fun j H' => Sx [] H1 H' ∧ ∃ vals, H' Z = some (.lst vals) ∧ TpAll H' vals ((((List.range i).flatMap fun r => (tabR (fl bs) (perF bs) r).map fun p => (r, p)) ++ ((tabR (fl bs) (perF bs) i).take j).map fun p => (i, p)).map (rowD (perF bs)))) ⟨s2.trans sT, vals, sTZ, by rw [List.take_zero, List.map_nil, List.append_nil]; exact hv.keep sT.tk0⟩ (fun j H' _ p => SqL.of (p.1 _ _ (by simp) hcs)) (fun j x H3 H4 hj p y => ?_) (fun H3 p => ?_)⟩
      · obtain ⟨s3, vals3, eZ3, hv3⟩ := p
        obtain ⟨rfl, hx⟩ := y
        obtain ⟨pd, hpd, tp⟩ := hct.get hx
        rw [List.getElem?_map] at hpd
        obtain ⟨pc, hpc, rfl⟩ := Option.map_eq_some_iff.mp hpd
        obtain ⟨ap, z, rfl, hap, tz⟩ := tpPc (tp.keep s3.tk0)
        refine ⟨rfl, ?_⟩
        refine gYes ?_
        rw [if_pos rfl]
        have eF3 := (s1.trans s3)
        refine ⟨_, rfl, ⟨_, rfl, ⟨F, ts.map V.ref, rfl, .inl (SqL.of (s3 _ _ (by simp) eF)), ?_⟩⟩⟩
        refine ⟨_, rfl, ap, [oV pc.lo, oV pc.hi, z], rfl, .inl (SqT.of hap), ?_⟩
        refine (⟨show 5 ≤ sizeLine by decide, fun R hR => ?_⟩ : _ ∧ _)
        have sR := Sx.n0 (o := .tup [V.int (i : Nat), .int (ts.map V.ref).length, oV pc.lo, oV pc.hi, z]) hR
        have nR : R ≠ Z := fun e => by rw [e, eZ3] at hR; cases hR
        have tR : Tp (upd H4 R (.tup [V.int (i : Nat), .int (ts.map V.ref).length, oV pc.lo, oV pc.hi, z])) (.ref R) (rowD (perF bs) (i, pc)) := by
          refine .tup upd_same (.cons (.int _) (.cons ?_ (.cons (oV_tp _) (.cons (oV_tp _) (.cons (tz.keep sR.tk0) .nil)))))
          rw [List.length_map, tl]
          exact .int _
        have vl := hv3.len
        refine ⟨vals3, by rw [upd_ne nR.symm]; exact eZ3, ?_, (s3.trans sR).own (by exact hZ), _, upd_same, ?_⟩
        · rw [vl, List.length_map, List.length_append, List.length_map]
          have l1 := len_flatMap (l := List.range i) (F := fun r => (tabR (fl bs) (perF bs) r).map fun p => (r, p)) (B := 8193) fun r hr => by
            rw [List.length_map]
            exact tabR_len hb h8 (by have := List.mem_range.mp hr; omega)
          have l2 := tabR_len hb h8 hip
          rw [List.length_range] at l1
          have l3 : ((tabR (fl bs) (perF bs) i).take j).length ≤ (tabR (fl bs) (perF bs) i).length := by rw [List.length_take]; omega
          have l4 : i * 8193 ≤ 60 * 8193 := Nat.mul_le_mul_right _ (by omega)
          show _ < 16777216
          omega
        · have tkZ : Tk (upd H4 R (.tup [V.int (i : Nat), .int (ts.map V.ref).length, oV pc.lo, oV pc.hi, z])) (upd (upd H4 R (.tup [V.int (i : Nat), .int (ts.map V.ref).length, oV pc.lo, oV pc.hi, z])) Z (.lst (vals3 ++ [.ref R]))) := Tk.lst (by rw [upd_ne nR.symm]; exact eZ3)
          have e : (tabR (fl bs) (perF bs) i).take (j + 1) = (tabR (fl bs) (perF bs) i).take j ++ [pc] := by rw [List.take_add_one, hpc]; rfl
          rw [e]; simp only [List.map_append, ← List.append_assoc]; rw [← List.map_append]
          exact ((hv3.keep sR.tk0).append (.cons tR .nil)).keep tkZ
      · obtain ⟨s3, vals3, eZ3, hv3⟩ := p
        refine ⟨s3, vals3, eZ3, ?_⟩
        rw [pl, List.take_length] at hv3
        rw [List.range_succ, List.flatMap_append, List.flatMap_singleton]
        exact hv3
    · obtain ⟨s2, vals, eZ, hv⟩ := p
      refine ⟨_, _, rfl, .inl ⟨SqL.of eZ, fun R hR => ?_⟩⟩
      have s3 := s2.trans (Sx.n0 (o := .tup vals) hR)
      exact q _ _ (s1.trans s3) (.tup upd_same (by have h := hv.keep (Sx.n0 (o := .tup vals) hR).tk0; rw [List.length_map, tl] at h; exact h))
end
/-! ### min of ints by a key that is a def of the program -/
/-- a walk over what stands at l, whatever the signs of its values -/
theorem walks_vals {prog : Program} {w : World} {A : Around} {I : Addr} {fp wr : List Addr} {xs : List V} {It : Nat → Heap → Prop} {Sq : Heap → List Value → Prop}
    (W : ∀ vs : List Value, vs.length = xs.length → WalksS prog w A I fp wr (fun a b => b = a) xs.length (fun i v => vs[i]? = some v) (fun i s => It i s.heap ∧ Sq s.heap vs)) (hd : ∃ vs : List Value, vs.length = xs.length) :
    WalksS prog w A I fp wr (fun a b => b = a) xs.length (fun i v => ∃ x, xs[i]? = some x ∧ RelV x v) (fun i s => It i s.heap ∧ ∃ vs, Sq s.heap vs ∧ Vals xs vs) := by
  obtain ⟨v0, h0⟩ := hd
  refine ⟨(W v0 h0).sub, (W v0 h0).grefl, (W v0 h0).gtrans, ?_, ?_, ?_, ?_⟩
  · rintro i s h' tk ⟨hi, vs, hs, r⟩ ht hk
    have q := (W vs r.length.symm).frame i s h' tk ⟨hi, hs⟩ ht hk
    exact ⟨q.1, vs, q.2, r⟩
  · rintro i s Q E hi ⟨h1, vs, hs, r⟩ hQ
    refine (W vs r.length.symm).item i s Q E hi ⟨h1, hs⟩ fun v s' hv st m => hQ v s' ?_ ⟨st.1, vs, st.2, r⟩ m
    obtain ⟨u, hu, ru⟩ := r.get (List.getElem?_eq_getElem hi)
    rw [hv] at hu
    cases hu
    exact ⟨_, List.getElem?_eq_getElem hi, ru⟩
  · rintro s Q E ⟨h1, vs, hs, r⟩ hQ
    exact (W vs r.length.symm).done s Q E ⟨h1, hs⟩ hQ
  · rintro i s Q E ⟨h1, vs, hs, r⟩ hQ
    exact (W vs r.length.symm).self i s Q E ⟨h1, hs⟩ hQ
section
variable {X : Cx} {pins : List (Addr × Obj)} {σ : L2.St} {H : Hp}
/-- a def that answers every int with the int g of it -/
structure KeyFn (X : Cx) (q : Addr) (g : Int → Int) : Prop where
  run : ∃ (k : Nat) (fd : FuncData) (ps : List Str) (sp : Sp), Room (k + 2) X.A ∧ FnOk X.prog X.w X.K X.mg X.base CX0 k q fd ps sp ∧ Binds X.K fd ps [] ∧ ∀ i H Q E, Q (.int (g i)) H → sp [.int i] H Q E
theorem KeyFn.call {q : Addr} {g : Int → Int} (F : KeyFn X q g) {s : Shared} (I : L2.Inv X pins σ H s) (i : Int) (t : Tok) {Q : Value → Shared → Prop} {E : Value → Shared → Prop}
    (h : ∀ (u : Tok) (s' : Shared), L2.Inv X pins σ H s' → (∀ b o, H b = none → b ≠ X.env.locals → b ∉ X.fs → s.heap.get? b = some o → s'.heap.get? b = some o) → Q (.int (g i) u) s') :
    wpAny (model X.prog X.w) X.A.in1 (call (.ref q) [.int i t]) Q E s := by
  obtain ⟨k, fd, ps, sp, hr, F, hb, hsp⟩ := F.run
  have e0 : Env0 X.prog X.w X.K X.mg X.base X.A.in1 X.stack s H := by
    have e := I.env0
    exact ⟨e.frames, e.mod, e.bs, e.bsz, e.funs, e.frf, e.hok, e.bare⟩
  have hsp0 := hsp i H (fun v H' => v = .int (g i) ∧ H' = H) (fun _ _ _ => False) ⟨rfl, rfl⟩
  have hl := F.len _ _ _ _ hsp0
  have r2 : Vals [V.int i] [Value.int i t] := .cons ⟨t, rfl⟩ .nil
  refine wpAny_call (codeAny_mono (F.run X.A.in1 X.stack s H ⟨[.int i t], []⟩ [.int i t] [.int i] (fun v H' => v = .int (g i) ∧ H' = H) (fun _ _ _ => False) ((hr.in1).mono (by omega)) e0 (by
    have := hb s [.int i t] I.kIn (by simpa using hl)
    simpa using this) r2 hsp0) fun r s' hq => ?_)
  cases r with
  | error e => exact (False.elim hq)
  | ok fl =>
    cases fl with
    | next => exact False.elim hq
    | brk => exact False.elim hq
    | cont => exact False.elim hq
    | ret u =>
      obtain ⟨v1, H1, I1, rv, rfl, rfl⟩ := I.after hq
      obtain ⟨_, _, _, _, un, _, _, _⟩ := hq
      obtain ⟨z, rfl⟩ := rv
      exact h z s' I1 fun b o hb h1 h2 e => un.keep b o e hb (fun z => (List.mem_cons.1 (I.stkSub b z)).elim h1 h2) (by simp)
/-- what min wants of the key -/
theorem keyRun {q : Addr} {g : Int → Int} {ns : List Int} {S : Addr} {Ix : Addr} {It : Nat → Heap → Prop} {Sq : Heap → List Value → Prop} (F : KeyFn X q g) (fS : FpOk X pins H S) (fI : FpOk X pins H Ix)
    (hIt : ∀ i h h', (∀ o, h.get? Ix = some o → h'.get? Ix = some o) → It i h → It i h') (hSq : ∀ s, L2.Inv X pins σ H s → ∃ vs, Sq s.heap vs ∧ Vals (ns.map V.int) vs) (hI : ∀ i h, It i h → ∃ o, h.get? Ix = some o) :
    KeyRun X.prog X.w X.A.in1 (.ref q) .Lt S [Ix] (fun a b => b = a) ns.length (fun i v => ∃ x, (ns.map V.int)[i]? = some x ∧ RelV x v) (fun i s => It i s.heap ∧ ∃ vs, Sq s.heap vs ∧ Vals (ns.map V.int) vs) (fun s => L2.Inv X pins σ H s)
      (fun i k _ => ∃ t, k = .int (g (ns.getD i 0)) t) (fun i j => decide (g (ns.getD i 0) < g (ns.getD j 0))) where
  keep := fun s s' I m => by
    rw [Moved.eq_with m]
    refine I.turnedL (ch := S :: [Ix]) (fun b o hb e => m.heap b o hb e) fun b hb => ?_
    rcases List.mem_cons.1 hb with rfl | hb
    · exact fS
    · rw [List.mem_singleton.mp hb]; exact fI
  keepV := fun i k s s' h _ => h
  turn := fun i v s o Q E hi hP I st hS hQ => by
    obtain ⟨x, hx, rv⟩ := hP
    rw [List.getElem?_map, List.getElem?_eq_getElem hi] at hx
    obtain rfl := Option.some.inj hx
    obtain ⟨t, rfl⟩ := rv
    have hd : ns.getD i 0 = ns[i] := by simp [hi]
    refine F.call I ns[i] t fun u s' I' hk => hQ _ s' I' ⟨hIt _ _ _ (fun o e => hk _ o fI.1 fI.2.1 fI.2.2.1 e) st.1, hSq s' I'⟩ (hk _ _ fS.1 fS.2.1 fS.2.2.1 hS) ⟨u, by rw [hd]⟩ fun j k' h => h
  cmp := fun i j ki kj s Q E _ h1 h2 hQ => CmpOf.ints_lt (P := fun i v => ∃ t, v = .int (g (ns.getD i 0)) t) (fun i => g (ns.getD i 0)) (fun i v h => h) i j ki kj s Q E h1 h2 hQ
/-- the first of the least by key -/
theorem best_key {g : Int → Int} {ns : List Int} (h : 0 < ns.length) {v : Value} (hv : ∃ x, (ns.map V.int)[argBest (fun i j => decide (g (ns.getD i 0) < g (ns.getD j 0))) (ns.length - 1)]? = some x ∧ RelV x v) : ∃ m, m ∈ ns ∧ (∀ y ∈ ns, g m ≤ g y) ∧ RelV (.int m) v := by
  obtain ⟨h1, h2⟩ := argBest_lt (fun i => g (ns.getD i 0)) (ns.length - 1)
  generalize argBest (fun i j => decide (g (ns.getD i 0) < g (ns.getD j 0))) (ns.length - 1) = z at h1 h2 hv
  obtain ⟨x, hx, r⟩ := hv
  have hlt : z < ns.length := by omega
  rw [List.getElem?_map, List.getElem?_eq_getElem hlt] at hx
  obtain rfl := Option.some.inj hx
  refine ⟨_, List.getElem_mem hlt, fun y hy => ?_, r⟩
  obtain ⟨j, hj, rfl⟩ := List.mem_iff_getElem.mp hy
  have h3 := h2 j (by omega)
  have e1 : ns.getD z 0 = ns[z] := by simp [hlt]
  have e2 : ns.getD j 0 = ns[j] := by simp [hj]
  rw [e1, e2] at h3
  exact h3
end
section
variable {X : Cx}
/-- min(xs, key=f), xs a list or a tuple of ints -/
def rMinKey (K : PySem.W.Frag) (q : Addr) (g : Int → Int) : List V → List V → Hp → VK → Prop := fun vs zs H Q => ∃ (a : Addr) (ns : List Int), vs = [V.ref a] ∧ zs = [V.ref q] ∧ (SqL K H a (ns.map V.int) ∨ SqT K H a (ns.map V.int)) ∧ 0 < ns.length ∧ ∀ m, m ∈ ns → (∀ y ∈ ns, g m ≤ g y) → Q (.int m) H
/-- .. with default=d -/
def rMinKeyD (K : PySem.W.Frag) (q : Addr) (g : Int → Int) : List V → List V → Hp → VK → Prop := fun vs zs H Q => ∃ (a : Addr) (ns : List Int) (d : V), vs = [V.ref a] ∧ zs = [V.ref q, d] ∧ (SqL K H a (ns.map V.int) ∨ SqT K H a (ns.map V.int)) ∧ (ns = [] → Q d H) ∧ ∀ m, m ∈ ns → (∀ y ∈ ns, g m ≤ g y) → Q (.int m) H
/-- iter(x) of a list or a tuple, as min asks it: what the walk is, over the promise -/
theorem iter_key {q : Addr} {g : Int → Int} {pins : List (Addr × Obj)} {s : Shared} {σ : L2.St} {H : Hp} {a : Addr} {ns : List Int} {R : Value → Shared → Prop} {E : Value → Shared → Prop} (hc : X.calm = true) (F : KeyFn X q g) (I : L2.Inv X pins σ H s) (hs : SqL X.K H a (ns.map V.int) ∨ SqT X.K H a (ns.map V.int))
    (h : ∀ (s2 : Shared) (Ix : Addr) (St : Nat → Shared → Prop), L2.Inv X pins σ H s2 → WalksS X.prog X.w X.A.in1 Ix [Ix, a] [Ix] (fun a b => b = a) ns.length (fun i v => ∃ x, (ns.map V.int)[i]? = some x ∧ RelV x v) St → St 0 s2 → (∀ b ∈ [Ix, a], b < s2.heap.objs.size) →
      KeyRun X.prog X.w X.A.in1 (.ref q) .Lt s2.heap.objs.size [Ix] (fun a b => b = a) ns.length (fun i v => ∃ x, (ns.map V.int)[i]? = some x ∧ RelV x v) St (fun s => L2.Inv X pins σ H s) (fun i k _ => ∃ t, k = .int (g (ns.getD i 0)) t) (fun i j => decide (g (ns.getD i 0) < g (ns.getD j 0))) → R (.ref Ix) s2) :
    wpAny (model X.prog X.w) X.A.in1 (pyIter (.ref a)) R E s := by
  have hh : X.A.in1.handled = none := I.ok.hd hc
  have nl : (ns.map V.int).length = ns.length := List.length_map ..
  have fI : FpOk X pins H s.heap.objs.size := I.fpOk (Nat.le_refl _) (I.hok.fresh (Nat.le_refl _))
  rcases hs with hs | hs
  · obtain ⟨its, rv, hl, hz⟩ := I.list hs
    have hlt : a < s.heap.objs.size := by obtain ⟨_, e, _⟩ := hl.isList; exact Heap.lt_size e
    refine PySem.W.iter_listW hh hl.isList fun s2 e W st hfp hw hk => ?_
    subst e
    have sz : s.heap.objs.size ≤ (s.heap.push { cls := .type "list_iterator", data := .fields #[.ref a, .int 0 0] }).objs.size := by rw [Heap.size_push]; omega
    have W' := walks_vals (prog := X.prog) (w := X.w) (A := X.A.in1) (I := s.heap.objs.size) (fp := [s.heap.objs.size, a]) (wr := [s.heap.objs.size]) (xs := ns.map V.int) (It := fun i h => h.IsListIter s.heap.objs.size a i) (Sq := fun h vs => h.IsList a vs.toArray)
      (fun vs hv => by
        have := (Walks.list (prog := X.prog) (w := X.w) (A := X.A.in1) hh s.heap.objs.size a (Nat.ne_of_lt hlt) vs.toArray).toS
        simpa [hv] using this) ⟨its, rv.length.symm⟩
    rw [nl] at W'
    refine h _ _ _ (I.kept (t' := s.toks) hk) W' ⟨st.1, its, st.2, rv⟩ hfp (keyRun (It := fun i h => h.IsListIter s.heap.objs.size a i) (Sq := fun h vs => h.IsList a vs.toArray) F (I.fpOk sz (I.hok.fresh sz)) fI (fun i h h' hk st => st.at fun o e => hk o e) (fun s I => ?_) (fun i h st => by obtain ⟨o, e, _⟩ := st; exact ⟨o, e⟩))
    rcases I.list hs with ⟨its, rv, hl, _⟩
    exact ⟨its, hl.isList, rv⟩
  · obtain ⟨its, rv, hl, hz⟩ := I.tuple hs
    have hlt : a < s.heap.objs.size := by obtain ⟨_, e, _⟩ := hl; exact Heap.lt_size e
    refine PySem.W.iter_tupleW hh (show s.heap.IsTuple a its.toArray from hl) fun s2 e W st hfp hw hk => ?_
    subst e
    have sz : s.heap.objs.size ≤ (s.heap.push { cls := .type "tuple_iterator", data := .fields #[.ref a, .int 0 0] }).objs.size := by rw [Heap.size_push]; omega
    have W' := walks_vals (prog := X.prog) (w := X.w) (A := X.A.in1) (I := s.heap.objs.size) (fp := [s.heap.objs.size, a]) (wr := [s.heap.objs.size]) (xs := ns.map V.int) (It := fun i h => h.IsTupleIter s.heap.objs.size a i) (Sq := fun h vs => h.IsTuple a vs.toArray)
      (fun vs hv => by
        have := (Walks.tuple (prog := X.prog) (w := X.w) (A := X.A.in1) hh s.heap.objs.size a (Nat.ne_of_lt hlt) vs.toArray).toS
        simpa [hv] using this) ⟨its, rv.length.symm⟩
    rw [nl] at W'
    refine h _ _ _ (I.kept (t' := s.toks) hk) W' ⟨st.1, its, st.2, rv⟩ hfp (keyRun (It := fun i h => h.IsTupleIter s.heap.objs.size a i) (Sq := fun h vs => h.IsTuple a vs.toArray) F (I.fpOk sz (I.hok.fresh sz)) fI (fun i h h' hk st => st.at fun o e => hk o e) (fun s I => ?_) (fun i h st => by obtain ⟨o, e, _⟩ := st; exact ⟨o, e⟩))
    obtain ⟨its, rv, hl, _⟩ := I.tuple hs
    exact ⟨its, hl, rv⟩
theorem cr_minKey {q : Addr} {g : Int → Int} (hc : X.calm = true) (F : KeyFn X q g) : CallRK X (.builtin "min") [Str.ofString "key"] (rMinKey X.K q g) := by
  intro pins; intro s σ H vs zs us ws Q I r rz h
  obtain ⟨a, ns, rfl, rfl, hs, hn, qq⟩ := h
  rw [Vals.ref1 r, Vals.ref1 rz]
  refine call_min_walkK (iter_key hc F I hs fun s2 Ix St I2 W st hfp K => ⟨_, _, _, _, _, _, _, _, _, _, rfl, W, st, hfp, hn, K, I2, fun v s' hP J => ?_⟩)
  obtain ⟨m, hm, hb, rm⟩ := best_key hn hP
  exact ⟨_, H, J, rm, qq m hm hb⟩
theorem cr_minKeyD {q : Addr} {g : Int → Int} (hc : X.calm = true) (F : KeyFn X q g) : CallRK X (.builtin "min") [Str.ofString "key", Str.ofString "default"] (rMinKeyD X.K q g) := by
  intro pins; intro s σ H vs zs us ws Q I r rz h
  obtain ⟨a, ns, d, rfl, rfl, hs, h0, qq⟩ := h
  rw [Vals.ref1 r]
  rcases vals2 rz with ⟨w1, w2, rfl, e1, e2⟩
  obtain rfl : w1 = Value.ref q := e1
  refine call_min_walkKD (iter_key hc F I hs fun s2 Ix St I2 W st hfp K => ⟨_, _, _, _, _, _, _, _, _, _, rfl, W, st, hfp, K, I2, fun hn s' J => ?_, fun hn v s' hP J => ?_⟩)
  · exact ⟨d, H, J, e2, h0 (List.eq_nil_of_length_eq_zero hn)⟩
  · obtain ⟨m, hm, hb, rm⟩ := best_key hn hP
    exact ⟨_, H, J, rm, qq m hm hb⟩
end
abbrev sPFirstOf : Stmt := topS 22
abbrev nPFirstOf : List Str := ["rest", "by", "low", "high", "start", "number", "end", "other"]
theorem scPFirstOf : FnScope nPFirstOf ["rest", "by", "low", "high"] (defScope sPFirstOf) := ⟨rfl, rfl, rfl, by decide +kernel, rfl, by decide +kernel, by decide +kernel⟩
/-! ### the first number of a row -/
theorem keyfn_of {X : Cx} {q : Addr} {g : Int → Int} {k : Nat} {fd : FuncData} {ps : List Str} {sp : Sp} (F : FnOk X.prog X.w X.K X.mg X.base CX0 k q fd ps sp) (hr : Room (k + 2) X.A) (hb : Binds X.K fd ps []) (hsp : ∀ i H Q E, Q (.int (g i)) H → sp [.int i] H Q E) : KeyFn X q g := ⟨k, fd, ps, sp, hr, F, hb, hsp⟩
theorem gNext {D : Ends} {σ : L2.St} {H : Hp} (h : D.nx σ H) : tNext D σ H := h
theorem gIfB {c : Bool} {t : TT} {a b u : TS} {D : Ends} {σ : L2.St} {H : Hp} (ht : ∀ Q : Bool → Hp → Prop, Q c H → t σ H Q) (ha : c = true → a { D with nx := u D } σ H) (hb : c = false → b { D with nx := u D } σ H) : tSeq (tIfS t a b) u D σ H := by
  refine ht _ ?_
  cases c with
  | true => exact iteT (ha rfl)
  | false => exact iteF (hb rfl)
theorem min_first {a b m : Int} (hm : m ∈ [a, b]) (h : ∀ y ∈ [a, b], ordN m ≤ ordN y) : m = if ordN b < ordN a then b else a := by
  have h1 := h a (by simp)
  have h2 := h b (by simp)
  rcases (by simpa using hm : m = a ∨ m = b) with rfl | rfl
  · by_cases c : ordN b < ordN m
    · exact absurd h2 (by omega)
    · rw [if_neg c]
  · by_cases c : ordN m < ordN a
    · rw [if_pos c]
    · rw [if_neg c]
      exact ordN_inj (by omega)
def spFirst : Sp := fun vs H Q _ => ∃ (r by_ : Int) (lo hi : Option Int), vs = [.int r, .int by_, oV lo, oV hi] ∧ 0 < by_ ∧ ∀ H', Sx [] H H' → Q (.int (firstOf r by_ lo hi)) H'
section
variable {w : World} {P : Program} {K : PySem.W.Frag} {mg : Str → Option Value} {base : Heap}
theorem ok_pfirst {f fL fT fO : Addr} {fd fdL fdT fdO : FuncData} (F_pfirst_of : Fun K "first_of" "first_of" sPFirstOf f fd) (F_ptighter_low : Fun K "tighter_low" "tighter_low" sPTighterLow fL fdL) (F_ptighter_high : Fun K "tighter_high" "tighter_high" sPTighterHigh fT fdT)
    (G_ptighter_low : FnOk P w K mg base CX0 1 fL fdL ["low", "other"] spTlo) (G_ptighter_high : FnOk P w K mg base CX0 1 fT fdT ["high", "other"] spThi) (G_porder_of : FnOk P w K mg base CX0 1 fO fdO ["number"] spOrd)
    (b_ptighter_low : Binds K fdL ["low", "other"] []) (b_ptighter_high : Binds K fdT ["high", "other"] []) (b_porder_of : Binds K fdO ["number"] [])
    (m_ptighter_low : mg "tighter_low" = some (.ref fL)) (m_ptighter_high : mg "tighter_high" = some (.ref fT)) (m_porder_of : mg "order_of" = some (.ref fO)) (z_min : mg "min" = none) : FnOk P w K mg base CX0 4 f fd ["rest", "by", "low", "high"] spFirst := by
  refine F_pfirst_of.ok scPFirstOf (fun vs H Q E h => ?_) (fun cdv A outer s H vs Q E hr h => ?_)
  · obtain ⟨_, _, _, _, rfl, _⟩ := h
    rfl
  · obtain ⟨r, by_, lo, hi, rfl, hb, q⟩ := h
    refine ⟨_, (pss_cons (ps_set (i := 4) scPFirstOf.nd rfl (by first | exact Or.inl rfl | exact Or.inr rfl) (pe_call G_ptighter_low (hr.mono (by omega)) (by rfl) m_ptighter_low F_ptighter_low.kp b_ptighter_low .nil pass0 (pa_cons (pv 2) (pa_cons pe_int pa_nil))))
      (pss_cons (ps_set (i := 5) scPFirstOf.nd rfl (by first | exact Or.inl rfl | exact Or.inr rfl) (pe_op op_add (pv 4) (pe_op op_mod (pe_op op_sub (pv 0) (pv 4)) (pv 1))))
      (pss_cons (ps_set (i := 6) scPFirstOf.nd rfl (by first | exact Or.inl rfl | exact Or.inr rfl) (pe_call G_ptighter_high (hr.mono (by omega)) (by rfl) m_ptighter_high F_ptighter_high.kp b_ptighter_high .nil pass0 (pa_cons (pv 3) (pa_cons (pe_un un_neg pe_int) pa_nil))))
      (pss_cons (ps_set (i := 7) scPFirstOf.nd rfl (by first | exact Or.inl rfl | exact Or.inr rfl) (pe_op op_sub (pv 6) (pe_op op_mod (pe_op op_sub (pv 6) (pv 0)) (pv 1))))
      (pss_cons (ps_if (PW.pt (pw_and (pt_cmpR op_notN (pv 3) pe_non (nomark _)) (pw_and1 (pt_cmpR op_lt (pv 3) (pv 5) (nomark _))))) (pss_one (ps_ret (pv 7))) pss_nil)
      (pss_cons (ps_if (PW.pt (pw_and (pt_cmpR op_notN (pv 2) pe_non (nomark _)) (pw_and1 (pt_cmpR op_lt (pv 7) (pv 2) (nomark _))))) (pss_one (ps_ret (pv 5))) pss_nil)
      (pss_one (ps_ret (pe_callBK (cr_minKey (g := ordN) (by rfl) (keyfn_of G_porder_of (hr.mono (by omega)) b_porder_of (fun i H Q E h => ⟨i, rfl, h⟩))) (by rfl) z_min boot_min (pa_cons (pe_tup (pa_cons (pv 5) (pa_cons (pv 7) pa_nil))) pa_nil) (pk_cons (pe_glob (by rfl) m_porder_of (v := .ref fO) rfl) pk_nil)))))))))), ?_⟩
    obtain ⟨s1, es, _⟩ := tlo0 lo
    obtain ⟨t1, et, _⟩ := thi0 hi
    have up : upOf r by_ lo = s1 + (r - s1) % by_ := by unfold upOf; rw [es]; rfl
    have dn : dnOf r by_ hi = t1 - (t1 - r) % by_ := by unfold dnOf; rw [et]; rfl
    have yes : decide ((V.non : V) = V.non) = true := decide_eq_true rfl
    have no : ∀ {i : Int}, decide ((V.int i : V) = V.non) = false := decide_eq_false (fun e => nomatch e)
    refine ⟨_, rfl, lo, some 0, rfl, gnm ?_⟩
    rw [es]
    refine ⟨_, rfl, _, rfl, _, rfl, _, _, rfl, rfl, _, rfl, _, _, rfl, rfl, hb, _, _, rfl, rfl, gnm ?_⟩
    refine ⟨_, rfl, _, rfl, hi, some (-1), rfl, gnm ?_⟩
    rw [et]
    refine ⟨_, rfl, _, rfl, _, rfl, _, _, rfl, rfl, _, rfl, _, _, rfl, rfl, hb, _, _, rfl, rfl, gnm ?_⟩
    dsimp only
    rw [← up, ← dn]
    have fo : firstOf r by_ lo hi = if hiLt hi (upOf r by_ lo) = true then dnOf r by_ hi else if loGt lo (dnOf r by_ hi) = true then upOf r by_ lo else if ordN (dnOf r by_ hi) < ordN (upOf r by_ lo) then dnOf r by_ hi else upOf r by_ lo := rfl
    generalize upOf r by_ lo = U at fo
    generalize dnOf r by_ hi = D at fo
    refine gIfB (c := hiLt hi U) (fun Q h => ?_) (fun c => ?_) (fun c => gNext ?_)
    · cases hi with
      | none => exact ⟨_, rfl, rfl, false, by rw [show oV none = V.non from rfl, yes]; rfl, iteF h⟩
      | some u => exact ⟨_, rfl, rfl, true, by rw [show oV (some u) = V.int u from rfl, no]; rfl, iteT ⟨_, rfl, _, rfl, _, _, rfl, rfl, _, rfl, h⟩⟩
    · rw [if_pos c] at fo
      exact ⟨_, rfl, fo ▸ q _ (Sx.refl _)⟩
    · rw [if_neg (by rw [c]; decide)] at fo
      dsimp only
      refine gIfB (c := loGt lo D) (fun Q h => ?_) (fun c => ?_) (fun c => gNext ?_)
      · cases lo with
        | none => exact ⟨_, rfl, rfl, false, by rw [show oV none = V.non from rfl, yes]; rfl, iteF h⟩
        | some u => exact ⟨_, rfl, rfl, true, by rw [show oV (some u) = V.int u from rfl, no]; rfl, iteT ⟨_, rfl, _, rfl, _, _, rfl, rfl, _, rfl, h⟩⟩
      · rw [if_pos c] at fo
        exact ⟨_, rfl, fo ▸ q _ (Sx.refl _)⟩
      · rw [if_neg (by rw [c]; decide)] at fo
        refine ⟨_, rfl, _, rfl, by show 2 ≤ sizeLine; decide, fun p hp => ⟨p, [U, D], rfl, rfl, .inr (SqT.of upd_same), by show 0 < 2; decide, fun m hm hb => ?_⟩⟩
        rw [min_first hm hb, ← fo]
        exact q _ (Sx.n0 hp)
end
/-! ### sorted(d.items()), d's keys tuples of ints, its values ints -/
abbrev entI (x : Kd) : List L2.Key × V := (x.1.map Sum.inl, V.int x.2)
def kdD (x : Kd) : PyData := .tuple [.tuple (x.1.map .int), .int x.2]
theorem kdD_alike (a b : Kd) : PySem.W.alike (kdD a) (kdD b) = true := by
  unfold kdD
  simp only [PySem.W.alike, PySem.W.alikeAll, PySem.W.alike_ints, Bool.true_and]
theorem kdD_depth (a : Kd) : (kdD a).depth ≤ 2 := by
  unfold kdD
  simp only [PyData.depth, PyData.depthAll, PySem.W.depth_ints]
  decide
theorem reads_ints {h : Heap} : ∀ {s : List Int} {its : List Value}, Vals (s.map V.int) its → ReadsAll h its (s.map .int) []
  | [], _, .nil => .nil
  | i :: s, _, .cons r t => by
    obtain ⟨u, rfl⟩ := r
    exact .cons (.int i u) (reads_ints t)
theorem each_zip {α β γ : Type} {f : α → γ} {R : γ → α × β → Prop} : ∀ (as : List α) (bs : List β), as.length = bs.length → (∀ z ∈ as.zip bs, R (f z.1) z) → PySem.W.EachIs R (as.map f) (as.zip bs)
  | [], [], _, _ => .nil
  | [], _ :: _, h, _ => (by simp at h)
  | _ :: _, [], h, _ => (by simp at h)
  | a :: as, b :: bs, h, q => .cons (q (a, b) (List.mem_cons_self ..)) (each_zip as bs (by simpa using h) fun z hz => q z (List.mem_cons_of_mem _ hz))
theorem each_ref {α : Type} {f : α → Value} : ∀ {vs : List Value} {zs : List α}, PySem.W.EachIs (fun v z => v = f z) vs zs → vs = zs.map f
  | [], [], .nil => rfl
  | _ :: _, _ :: _, .cons h t => by rw [h, each_ref t]; rfl
def rSortKd : List V → Hp → VK → Prop := fun vs H Q => ∃ (p a : Addr) (L : List Kd), vs = [.ref p] ∧ H p = some (DX.itemsO p a) ∧ H a = some (.dT (L.map entI)) ∧
  ∀ (H' : Hp) (l : Addr) (ps : List (Addr × Kd)), (∀ b o, H b = some o → H' b = some o) → H l = none → ps.map (·.2) = L.mergeSort (PySem.W.dataLe false kdD) → H' l = some (.lst (ps.map fun z => V.ref z.1)) →
    (∀ z ∈ ps, ∃ q, H' z.1 = some (.tup [.ref q, .int z.2.2]) ∧ H' q = some (.tup (z.2.1.map V.int))) → Q (.ref l) H'
theorem inl_kV (s : List Int) : (s.map Sum.inl : List L2.Key).map kV = s.map V.int := by rw [List.map_map]; rfl
section
variable {X : Cx}
theorem cr_sortedKd (hc : X.calm = true) (hu : X.A.units + 8 < cLine) : CallR X (.builtin "sorted") rSortKd := by
  intro pins s σ H xs us Q I r h0; have h := h0
  obtain ⟨p, a, L, rfl, hp, ha, q⟩ := h
  obtain rfl := Vals.ref1 r
  have view : s.heap.IsItemsView p a := (show ObjOk X.prog X.w H s.heap p (DX.itemsO p a) from I.hok p _ hp).1
  obtain ⟨z, hd, zs', rel, o, es, ep, ho, hx, hdat, hes, his, hn⟩ := dt_of I.hok ha
  have lL : L.length = zs'.length := by have := Paired.length rel; rwa [List.length_map] at this
  have lE : es.size = zs'.length := size_of_entries hes
  rw [List.length_map] at z
  refine DT.sortedI (es := es) (ep := ep) (I.ok.hd hc) view ⟨o, ho, hx, hdat⟩ (by omega) fun h' tk as hk hlt hl hG => ?_
  have lA : as.length = L.length := by omega
  have apart : as.Nodup := hG.rise.imp fun e => Nat.ne_of_lt e
  have pr : ∀ (j : Nat) (b : Addr), as[j]? = some b → ∃ (x : Kd) (kq : Addr) (t : Tok), L[j]? = some x ∧ H kq = some (.tup (x.1.map V.int)) ∧ h'.get? b = some { cls := .type "tuple", data := .seq #[Value.ref kq, Value.int x.2 t] } := by
    intro j b hj
    obtain ⟨en, hen, hg⟩ := hG.pairs j b hj
    rw [entry_at hes j] at hen
    obtain ⟨x', hx', een⟩ := Option.map_eq_some_iff.mp hen
    obtain ⟨e0, he0, r1, r2, r3⟩ := DX.pget rel hx'
    rw [List.getElem?_map] at he0
    obtain ⟨x, hxj, rfl⟩ := Option.map_eq_some_iff.mp he0
    have r2 : H x'.2.1 = some (.tup ((x.1.map Sum.inl : List L2.Key).map kV)) := r2
    rw [inl_kV] at r2
    have r3 : RelV (V.int x.2) x'.2.2 := r3
    obtain ⟨t, et⟩ := r3
    refine ⟨x, x'.2.1, t, hxj, r2, ?_⟩
    rw [hg, ← een, ← et]
    rfl
  -- the list that is sorted, and what stands behind it
  have hob : ((h'.push { cls := .type "list", data := .seq (as.map Value.ref).toArray }).get? h'.objs.size = some (seqObj "list" (as.map Value.ref).toArray 0)) := Heap.get?_push_size _ rfl
  have old : ∀ b o, h'.get? b = some o → (h'.push { cls := .type "list", data := .seq (as.map Value.ref).toArray }).get? b = some o := fun b o e => Heap.get?_push_of_some _ e
  have low : ∀ b o, h'.get? b = some o → b ≠ h'.objs.size := fun b o e => Nat.ne_of_lt (Heap.lt_size e)
  generalize h'.push { cls := .type "list", data := .seq (as.map Value.ref).toArray } = hp2 at hob old ⊢
  have idx : ∀ z ∈ as.zip L, ∃ j : Nat, as[j]? = some z.1 ∧ L[j]? = some z.2 := fun z hz => by
    obtain ⟨j, hj⟩ := List.mem_iff_getElem?.mp hz
    exact (⟨j, List.getElem?_zip_eq_some.mp hj⟩)
  refine PySem.W.list_sort_data (A := X.A.in1) (R := fun v z => v = Value.ref z.1) (enc := fun z : Addr × Kd => kdD z.2) (bs := as.zip L) hob (each_zip as L lA fun z _ => rfl) (each_zip as L lA fun z hz => ?_) (PySem.W.AllAlike.of fun b b' => kdD_alike _ _) (PySem.W.Sortable.tuples fun b => ⟨_, _, rfl⟩)
    (by rw [List.length_zip]; omega) (fun b _ => by have := kdD_depth b.2; show X.A.units + 1 + 1 + (kdD b.2).depth < cLine; omega) fun out ho hR => ?_
  · obtain ⟨j, hj, hx⟩ := idx z hz
    obtain ⟨x, kq, t, hxj, hkq, hg⟩ := pr j z.1 hj
    obtain rfl : x = z.2 := Option.some.inj (hxj.symm.trans hx)
    obtain ⟨_, its, rv, ot, hot, hct, nt, hdt⟩ := (show ObjOk X.prog X.w H s.heap kq (.tup (z.2.1.map V.int)) from I.hok kq _ hkq)
    exact ⟨[], .tuple (old _ _ hg) rfl rfl (.cons (as := []) (bs := []) (.tuple (old _ _ (hk _ _ hot)) hct hdt (by simpa using reads_ints rv)) (.cons (as := []) (bs := []) (.int _ t) .nil)), by simp⟩
  · show EP X pins σ Q (.ref h'.objs.size) { s with heap := sortedHeap hp2 h'.objs.size (as.map Value.ref) (List.toArray out), toks := tk }
    have eo := each_ref hR
    generalize hms : (as.zip L).mergeSort (PySem.W.dataLe false fun z : Addr × Kd => kdD z.2) = ms at eo
    have pm : ms.Perm (as.zip L) := by rw [← hms]; exact List.mergeSort_perm _ _
    have snd : ms.map (·.2) = L.mergeSort (PySem.W.dataLe false kdD) := by
      have e : (as.zip L).map (·.2) = L := List.map_snd_zip (by omega)
      rw [← hms]
      refine (List.map_mergeSort (r := PySem.W.dataLe false fun z : Addr × Kd => kdD z.2) (s := PySem.W.dataLe false kdD) (f := fun z : Addr × Kd => z.2) (fun _ _ _ _ => rfl)).trans ?_
      rw [e]
    have keepL : ∀ b o, b ≠ h'.objs.size → hp2.get? b = some o → (sortedHeap hp2 h'.objs.size (as.map Value.ref) (List.toArray out)).get? b = some o := fun b o hb e => (PyProof.Rows.sortedHeap_old hb (Heap.lt_size e)).trans e
    have keepS : ∀ b o, s.heap.get? b = some o → (sortedHeap hp2 h'.objs.size (as.map Value.ref) (List.toArray out)).get? b = some o := fun b o e => keepL b o (low _ _ (hk b o e)) (old b o (hk b o e))
    obtain ⟨eF, heF⟩ := PyProof.Rows.sortedHeap_at (vs := as.map Value.ref) (out := List.toArray out) hob
    have fresh : H h'.objs.size = none := I.hok.fresh (Nat.le_of_lt hlt)
    have rv : Vals (ms.map fun z => V.ref z.1) out := by
      rw [eo]
      exact vals_maps (fun z : Addr × Kd => V.ref z.1) (fun z => Value.ref z.1) ms fun _ _ => rfl
    have lM : (ms.map fun z => V.ref z.1).length ≤ sizeLine := by
      rw [List.length_map, pm.length_eq, List.length_zip]
      omega
    have I1 := I.kept (t' := tk) keepS
    have I2 : L2.Inv X pins σ (upd H h'.objs.size (.lst (ms.map fun z => V.ref z.1))) { s with heap := sortedHeap hp2 h'.objs.size (as.map Value.ref) (List.toArray out), toks := tk } :=
      I1.take (h' := sortedHeap hp2 h'.objs.size (as.map Value.ref) (List.toArray out)) (t' := tk) (fun b ob _ e => e) (I.fpOk (Nat.le_of_lt hlt) fresh) ⟨lM, out, eF, rv, heF⟩
    obtain ⟨H2, I3, g, qt⟩ := DX.takeT (P := fun b vs => ∃ (j : Nat) (x : Kd) (kq : Addr), as[j]? = some b ∧ L[j]? = some x ∧ vs = [.ref kq, .int x.2] ∧ H kq = some (.tup (x.1.map V.int))) I as _ I2 apart fun b hb => by
      rcases List.mem_iff_getElem?.mp hb with ⟨j, hj⟩
      obtain ⟨x, kq, t, hxj, hkq, hg⟩ := pr j b hj
      have up : s.heap.objs.size ≤ b := Nat.le_of_lt (hG.above b hb)
      refine ⟨up, ?_, [.ref kq, .int x.2], ⟨j, x, kq, hj, hxj, rfl, hkq⟩, fun H3 => ⟨by show 2 ≤ sizeLine; decide, [Value.ref kq, Value.int x.2 t], .cons rfl (.cons ⟨t, rfl⟩ .nil), ⟨_, keepL _ _ (low _ _ hg) (old _ _ hg), rfl, 0, rfl⟩⟩⟩
      rw [upd_ne (low _ _ hg)]
      exact I.hok.fresh up
    have more : ∀ b o, H b = some o → H2 b = some o := fun b o e => g b o (by rw [upd_ne (ne_of_none e fresh)]; exact e)
    refine ⟨.ref h'.objs.size, H2, I3, rfl, q H2 h'.objs.size ms more fresh snd (g _ _ upd_same) fun z hz => ?_⟩
    obtain ⟨i, i1, i2⟩ := idx z (pm.mem_iff.mp hz)
    obtain ⟨vs, ⟨j, x, kq, j1, j2, ev, hkq⟩, hH⟩ := qt z.1 (List.mem_of_getElem? i1)
    obtain rfl : i = j := (List.getElem?_inj (List.getElem?_eq_some_iff.mp i1).1 apart).mp (i1.trans j1.symm)
    obtain rfl : x = z.2 := Option.some.inj (j2.symm.trans i2)
    rw [ev] at hH
    exact ⟨kq, hH, more _ _ hkq⟩
end
/-! ### how far the bounds of a table's rows reach -/
def Bo (B : Nat) (o : Option Int) : Prop := ∀ a, o = some a → a.natAbs ≤ B
theorem Bo.none (B : Nat) : Bo B none := fun _ e => nomatch e
theorem Bo.tlo {B : Nat} : ∀ {a b : Option Int}, Bo B a → Bo B b → Bo B (tlo a b)
  | .none, _, _, h => h
  | some _, .none, h, _ => h
  | some a, some b, h, k => fun x e => by
    cases e
    split
    · exact k _ rfl
    · exact h _ rfl
theorem Bo.thi {B : Nat} : ∀ {a b : Option Int}, Bo B a → Bo B b → Bo B (thi a b)
  | .none, _, _, h => h
  | some _, .none, h, _ => h
  | some a, some b, h, k => fun x e => by
    cases e
    split
    · exact k _ rfl
    · exact h _ rfl
def PtB (B : Nat) (p : Pt) : Prop := Bo B p.lo ∧ Bo B p.hi
theorem pLast_bd {B : Nat} {l : Ln} (h : LnB B l) : (pLast l).natAbs ≤ B + 1 := by
  have h2 := h.2
  unfold pLast
  split
  · have := Int.natAbs_ediv_le_natAbs (-l.2 - 1) l.1
    omega
  · have := Int.natAbs_ediv_le_natAbs l.2 (-l.1)
    omega
theorem pBelow_bd {B C : Nat} {l : Ln} {p : Pt} (h : LnB B l) (hp : PtB C p) (hC : B + 2 ≤ C) : ∀ x ∈ pBelow l p, PtB C x.2 := fun x hx => by
  have hl := pLast_bd h
  unfold pBelow at hx
  split at hx
  · rw [List.mem_singleton.mp hx]; exact hp
  · rcases List.mem_append.1 hx with hx | hx
    · obtain ⟨_, rfl⟩ := mem_ifl hx
      exact ⟨hp.1, hp.2.thi fun a e => by cases e; omega⟩
    · obtain ⟨_, rfl⟩ := mem_ifl hx
      exact ⟨hp.1.tlo fun a e => by cases e; omega, hp.2⟩
theorem pBy_bd {ns : List Str} {k C : Nat} {σ : Str → Ln} (hs : ∀ y, LnB (lB k) (σ y)) (hC : lB (k + 2) + 2 ≤ C) : ∀ (t : Ts) (j : Nat) (p : Pt), t.ok ns j → PtB C p → ∀ x ∈ pBy σ t p, PtB C x.2
  | .rest e b r, _, p, _, h, x, hx => by
    rw [mem_pRest (show x ∈ pRest (e.ln σ) b r p from hx)]
    exact h
  | .less a b, j, p, ho, h, x, hx => by
    have pl := lB_pos k
    have hl : LnB (9 ^ 4 * lB k) ((Ex.minus a b).ln σ) := Ex.ln_bd (by omega) hs (.minus a b) 4 ⟨by decide, ho.1, ho.2⟩
    refine pBelow_bd (hl.mono (C := lB (k + 2)) ?_) h hC x hx
    rw [lB_succ, lB_succ, show (9 : Nat) ^ 4 = 6561 by decide]
    omega
  | .not t, j, p, ho, h, x, hx => by
    rcases List.mem_map.mp hx with ⟨y, hy, rfl⟩
    exact pBy_bd hs hC t _ p ho.2 h y hy
theorem ends_pt {ns : List Str} {M : Int} {C : Nat} : ∀ (m k : Nat) (ws : List St) (σ : Str → Ln) (t : Ln) (p : Pt), wtS ws ≤ m → WsOk ns M ws → (∀ y, LnB (lB k) (σ y)) → lB (k + m + 2) + 2 ≤ C → PtB C p → ∀ x ∈ ends ws σ t p, PtB C x.2 := by
  intro m
  induction m with
  | zero =>
    intro k ws σ t p h _ hs hC hp x hx
    cases ws with
    | nil => rw [ends] at hx; rw [List.mem_singleton.mp hx]; exact hp
    | cons s r => have := wt_tl s r; omega
  | succ m ih =>
    intro k ws σ t p h ho hs hC hp x hx
    have hC1 : lB (k + 1 + m + 2) + 2 ≤ C := by rw [show k + 1 + m + 2 = k + (m + 1) + 2 by omega]; exact hC
    match ws, ho, hx with
    | [], ho, hx => rw [ends] at hx; rw [List.mem_singleton.mp hx]; exact hp
    | .stop :: r, ho, hx => rw [ends] at hx; rw [List.mem_singleton.mp hx]; exact hp
    | .set z e :: r, ho, hx =>
      rw [ends] at hx
      obtain ⟨⟨d, h1, h2⟩, _⟩ := ho _ (List.mem_cons_self ..)
      exact ih (k + 1) _ _ _ _ (by have := wt_tl (.set z e) r; omega) ho.tl (lB_set (d := d) hs h2) hC1 hp x hx
    | .pay e :: r, ho, hx => rw [ends] at hx; exact ih (k + 1) _ _ _ _ (by have := wt_tl (.pay e) r; omega) ho.tl (lB_all hs) hC1 hp x hx
    | .rep j y :: r, ho, hx => rw [ends] at hx; exact ih (k + 1) _ _ _ _ (by have := wt_rep j y r; omega) ho.rep (lB_all hs) hC1 hp x hx
    | .ite c y n :: r, ho, hx =>
      rw [ends] at hx
      obtain ⟨w, hw, hx⟩ := List.mem_flatMap.mp hx
      obtain ⟨⟨d, h1, _⟩, _⟩ := ho _ (List.mem_cons_self ..)
      exact ih (k + 1) _ _ _ _ (by have := wt_ite (b := w.1) c y n r; omega) (ho.ite _) (lB_all hs) hC1 (pBy_bd hs (Nat.le_trans (Nat.add_le_add_right (lB_mono (by omega)) 2) hC) c 2 p h1 hp w hw) x hx
def CB : Nat := lB 27 + 2
theorem nAt_bd (k : Nat) : ∀ y, LnB (lB k) (nAt y) := fun y => by
  have := lB_pos k
  unfold nAt
  split
  · exact ⟨by show 1 ≤ _; omega, by show 0 ≤ _; omega⟩
  · exact ⟨by show 0 ≤ _; omega, by show 0 ≤ _; omega⟩
theorem sparts_pt {ns : List Str} {d M : Nat} {b : Bk} (ho : b.ok ns d) (hd : b.dv M) (hw : b.wt ≤ 25) : ∀ y ∈ sparts b M, PtB CB y.2 := fun y hy => by
  obtain ⟨x, hx, hy⟩ := List.mem_flatMap.mp hy
  have hw' : wtS b.lst ≤ 25 := by rw [wtS_lst]; exact hw
  have p1 : PtB CB x.2 := ends_pt 25 0 b.lst nAt (0, 0) (p0 M) hw' (WsOk.bk ho hd) (nAt_bd 0) (Nat.add_le_add_right (lB_mono (by omega)) 2) ⟨Bo.none _, Bo.none _⟩ x hx
  have l1 : LnB (lB 27) x.1 := (ends_bd 25 0 b.lst nAt (0, 0) (p0 M) hw' (WsOk.bk ho hd) (nAt_bd 0) ⟨by show 0 ≤ _; omega, by show 0 ≤ _; omega⟩ x hx).mono (lB_mono (by omega))
  obtain ⟨z, hz, hy⟩ := List.mem_flatMap.mp hy
  have pz := pBelow_bd l1 p1 (Nat.le_refl _) z hz
  split at hy
  · rw [List.mem_singleton.mp hy]; exact pz
  · obtain ⟨u, hu, rfl⟩ := List.mem_map.mp hy
    exact pBelow_bd (l1.mul1 (f := -1) (by decide)) pz (Nat.le_refl _) u hu
def PcB (p : Pc) : Prop := Bo CB p.lo ∧ Bo CB p.hi
theorem col_bd {ns : List Str} {d M : Nat} {b : Bk} (ho : b.ok ns d) (hd : b.dv M) (hw : b.wt ≤ 25) (r : Int) : ∀ p ∈ col b M r, PcB p := fun p hp => by
  obtain ⟨x, hx, hp⟩ := List.mem_flatMap.mp hp
  obtain ⟨_, rfl⟩ := mem_ifl hp
  exact sparts_pt ho hd hw x hx
theorem crossed_bd {r by_ : Int} {P Q : List Pc} (hP : ∀ p ∈ P, PcB p) (hQ : ∀ q ∈ Q, PcB q) : ∀ x ∈ crossed r by_ P Q, PcB x := fun x hx => by
  obtain ⟨p, hp, hx⟩ := List.mem_flatMap.mp hx
  obtain ⟨q, hq, hx⟩ := List.mem_flatMap.mp hx
  obtain ⟨_, rfl⟩ := mem_ifl hx
  exact ⟨(hP p hp).1.tlo (hQ q hq).1, (hP p hp).2.thi (hQ q hq).2⟩
theorem crossAll_bd {r per : Nat} : ∀ (l : List (Nat × Bk)) (P : List Pc), (∀ x ∈ l, ∀ p ∈ col x.2 x.1 ((r % x.1 : Nat) : Int), PcB p) → (∀ p ∈ P, PcB p) → ∀ p ∈ crossAll r per l P, PcB p
  | [], P, _, h => h
  | x :: l, P, hl, h => crossAll_bd l _ (fun y hy => hl y (List.mem_cons_of_mem _ hy)) (crossed_bd h (hl x (List.mem_cons_self ..)))
theorem jstep_bd {acc : List Pc} {p : Pc} (h : ∀ x ∈ acc, PcB x) (hp : PcB p) : ∀ x ∈ jstep acc p, PcB x := by
  have snoc : ∀ x ∈ acc ++ [p], PcB x := fun x hx => (List.mem_append.1 hx).elim (h x) fun hx => by rw [List.mem_singleton.mp hx]; exact hp
  unfold jstep
  cases e : acc.getLast? with
  | none => exact snoc
  | some q =>
    have hq := h q (List.mem_of_getLast? e)
    show ∀ x ∈ (if q.s = p.s then acc.dropLast ++ [⟨q.lo, p.hi, p.s⟩] else acc ++ [p]), PcB x
    split
    · intro x hx
      rcases List.mem_append.1 hx with hx | hx
      · exact h x ((List.dropLast_sublist acc).subset hx)
      · rw [List.mem_singleton.mp hx]; exact ⟨hq.1, hp.2⟩
    · exact snoc
theorem joined_bd {P : List Pc} (h : ∀ x ∈ P, PcB x) : ∀ x ∈ joined P, PcB x := by
  have z : ∀ (P acc : List Pc), (∀ x ∈ P, PcB x) → (∀ x ∈ acc, PcB x) → ∀ x ∈ P.foldl jstep acc, PcB x := by
    intro P
    induction P with
    | nil => exact fun acc _ h => h
    | cons p P ih => exact fun acc h1 h2 => ih _ (fun x hx => h1 x (List.mem_cons_of_mem _ hx)) (jstep_bd h2 (h1 p (List.mem_cons_self ..)))
  exact z P [] h fun x hx => nomatch hx
theorem rowsT_bd {l : List (Nat × Bk)} {per : Nat} (h : ∀ x ∈ l, (∃ ns d, x.2.ok ns d) ∧ x.2.dv x.1 ∧ x.2.wt ≤ 25) : ∀ x ∈ rowsT l per, PcB x.2 := fun x hx => by
  obtain ⟨r, _, hx⟩ := List.mem_flatMap.mp hx
  obtain ⟨p, hp, rfl⟩ := List.mem_map.mp hx
  refine joined_bd (crossAll_bd l _ (fun y hy => ?_) fun p hp => ?_) p hp
  · obtain ⟨⟨ns, d, ho⟩, hd, hw⟩ := h y hy
    exact col_bd ho hd hw _
  · rw [List.mem_singleton.mp hp]; exact ⟨Bo.none _, Bo.none _⟩
theorem firstOf_bd {r by_ : Int} {lo hi : Option Int} (hb : 0 < by_) (h1 : Bo CB lo) (h2 : Bo CB hi) : (firstOf r by_ lo hi).natAbs ≤ CB + by_.natAbs + 1 := by
  have u : (upOf r by_ lo).natAbs ≤ CB + by_.natAbs + 1 := by
    have t : Bo CB (tlo lo (some 0)) := h1.tlo fun a e => by cases e; exact Nat.zero_le _
    obtain ⟨s, es, s0, _⟩ := tlo0 lo
    have ts := t s es
    have e : upOf r by_ lo = s + (r - s) % by_ := by unfold upOf; rw [es]; rfl
    have m1 := Int.emod_nonneg (r - s) (show by_ ≠ 0 by omega)
    have m2 := Int.emod_lt_of_pos (r - s) hb
    rw [e]; omega
  have d : (dnOf r by_ hi).natAbs ≤ CB + by_.natAbs + 1 := by
    have t : Bo CB (thi hi (some (-1))) := h2.thi fun a e => by
      cases e
      have := lB_pos 27
      show 1 ≤ CB
      unfold CB
      omega
    obtain ⟨s, es, s0, _⟩ := thi0 hi
    have ts := t s es
    have e : dnOf r by_ hi = s - (s - r) % by_ := by unfold dnOf; rw [es]; rfl
    have m1 := Int.emod_nonneg (s - r) (show by_ ≠ 0 by omega)
    have m2 := Int.emod_lt_of_pos (s - r) hb
    rw [e]; omega
  unfold firstOf
  split
  · exact d
  · split
    · exact u
    · split
      · exact d
      · exact u
abbrev sPKindsOf : Stmt := topS 20
abbrev nPKindsOf : List Str := ["family", "found", "rest", "by", "low", "high", "signs", "number"]
theorem scPKindsOf : FnScope nPKindsOf ["family"] (defScope sPKindsOf) := ⟨rfl, rfl, rfl, by decide +kernel, rfl, by decide +kernel, by decide +kernel⟩
/-! ### the kinds of a family -/
theorem inl_inj {a b : List Int} : (a.map Sum.inl : List L2.Key) = b.map Sum.inl ↔ a = b := List.map_inj_right fun _ _ e => Sum.inl.inj e
theorem valV_entI (s : List Int) : ∀ L : List Kd, valV (L.map entI) (s.map Sum.inl) = (L.lookup s).map V.int
  | [] => rfl
  | (t, m) :: L => by
    rw [List.map_cons, List.lookup_cons]
    by_cases c : s = t
    · subst c
      rw [beq_self_eq_true]
      exact valV_pos (p := entI (s, m)) rfl
    · rw [show (s == t) = false from beq_false_of_ne c, valV_neg (p := entI (t, m)) (fun e => c (inl_inj.mp e).symm)]
      exact valV_entI s L
theorem putK_entI (s : List Int) (m : Int) (L : List Kd) : putK (L.map entI) (s.map Sum.inl) (V.int m) = (kput L s m).map entI := by
  unfold putK kput
  rw [valV_any, valV_entI, Option.isSome_map]
  by_cases c : (L.lookup s).isSome = true
  · rw [if_pos c, if_pos c, List.map_map, List.map_map]
    refine (List.map_congr_left fun x _ => ?_)
    show (if (x.1.map Sum.inl : List L2.Key) = s.map Sum.inl then _ else _) = entI (if x.1 = s then (s, m) else x)
    by_cases e : x.1 = s
    · rw [if_pos (inl_inj.mpr e), if_pos e]
      show ((x.1.map Sum.inl : List L2.Key), V.int m) = (s.map Sum.inl, V.int m)
      rw [e]
    · rw [if_neg (fun z => e (inl_inj.mp z)), if_neg e]
  · rw [if_neg c, if_neg c, List.map_append]
    rfl
theorem kput_len (L : List Kd) (s : List Int) (m : Int) : (kput L s m).length ≤ L.length + 1 := by
  unfold kput
  split
  · rw [List.length_map]; omega
  · simp
theorem kstep_len (per : Nat) (L : List Kd) (x : Nat × Pc) : (kstep per L x).length ≤ L.length + 1 := by
  unfold kstep
  split
  · simp
  · split
    · exact kput_len _ _ _
    · omega
theorem kok_nil (per : Nat) : KOk per [] [] := ⟨fun y h => (nomatch h), fun x h => (nomatch h), List.nodup_nil⟩
theorem tpRow {H : Hp} {v : V} {per : Nat} {x : Nat × Pc} (h : Tp H v (rowD per x)) : ∃ a z, v = .ref a ∧ H a = some (.tup [.int (x.1 : Nat), .int (per : Nat), oV x.2.lo, oV x.2.hi, z]) ∧ Tp H z (sgD x.2.s) := by
  cases h with
  | tup ha hx =>
    cases hx with
    | cons h1 hx =>
      cases hx with
      | cons h2 hx =>
        cases hx with
        | cons h3 hx =>
          cases hx with
          | cons h4 hx =>
            cases hx with
            | cons h5 hx =>
              cases hx
              rw [tpI h1, tpI h2, tpO h3, tpO h4] at ha
              exact ⟨_, _, rfl, ha, h5⟩
theorem tpInts' {H : Hp} : ∀ {vs : List V} {s : List Int}, TpAll H vs (s.map .int) → vs = s.map V.int
  | [], [], _ => rfl
  | _ :: _, _ :: _, .cons h t => by rw [tpI h, tpInts' t]; rfl
theorem tpSg {H : Hp} {v : V} {s : List Int} (h : Tp H v (sgD s)) : ∃ b, v = .ref b ∧ H b = some (.tup (s.map V.int)) := by
  obtain ⟨b, xs, e, hb, hx⟩ := Tp.tuple h
  rw [tpInts' hx] at hb
  exact ⟨b, e, hb⟩
theorem rowsT_len {ns : List Str} {bs : List Bk} (h : ∀ b ∈ bs, Pr ns b) (h8 : bs.length ≤ 8) : (rowsT (fl bs) (perF bs)).length ≤ 491580 := by
  have pp := Nat.le_of_dvd (by decide) (perF_ok bs h).1
  have l1 := len_flatMap (l := List.range (perF bs)) (F := fun r => (tabR (fl bs) (perF bs) r).map fun p => (r, p)) (B := 8193) fun r hr => by
    rw [List.length_map]
    exact tabR_len h h8 (List.mem_range.mp hr)
  rw [List.length_range] at l1
  have l2 : perF bs * 8193 ≤ 60 * 8193 := Nat.mul_le_mul_right _ pp
  unfold rowsT
  omega
theorem fl_snd (bs : List Bk) : (fl bs).map (·.2) = bs := by unfold fl; rw [List.map_map]; exact List.map_id _
theorem tk_dT {H : Hp} {p : Addr} {ks : List (List L2.Key × V)} {o : HO} (h : H p = some (.dT ks)) : Tk H (upd H p o) := fun b xs e => by
  rw [upd_ne (fun z => by rw [z, h] at e; cases e)]
  exact e
theorem tpPairs {H : Hp} : ∀ ps : List (Addr × Kd), (∀ z ∈ ps, ∃ q, H z.1 = some (.tup [.ref q, .int z.2.2]) ∧ H q = some (.tup (z.2.1.map V.int))) → TpAll H (ps.map fun z => V.ref z.1) ((ps.map (·.2)).map kdD)
  | [], _ => .nil
  | z :: ps, h => by
    obtain ⟨q, h1, h2⟩ := h z (List.mem_cons_self ..)
    exact .cons (.tup h1 (.cons (.tup h2 (TpAll.ints z.2.1)) (.cons (.int z.2.2) .nil))) (tpPairs ps fun y hy => h y (List.mem_cons_of_mem _ hy))
def spKinds (ns : List Str) : Sp := fun vs H Q _ => ∃ (v : V) (bs : List Bk), vs = [v] ∧ Tp H v (.tuple (bs.map bkD)) ∧ (∀ b ∈ bs, Pr ns b) ∧ bs.length ≤ 8 ∧
  ∀ H' r L, Sx [] H H' → Kinds bs L → L.length ≤ 491580 → (∀ y ∈ L, y.2.natAbs < 2 ^ 400) → Tp H' r (.tuple ((L.mergeSort (PySem.W.dataLe false kdD)).map kdD)) → Q r H'
section
variable {w : World} {P : Program} {K : PySem.W.Frag} {mg : Str → Option Value} {base : Heap}
theorem ok_pkinds {f fS fF fO : Addr} {fd fdS fdF fdO : FuncData} {ns : List Str} (F_pkinds_of : Fun K "kinds_of" "kinds_of" sPKindsOf f fd) (F_psigns_of : Fun K "signs_of" "signs_of" sPSignsOf fS fdS) (F_pfirst_of : Fun K "first_of" "first_of" sPFirstOf fF fdF) (F_porder_of : Fun K "order_of" "order_of" sPOrderOf fO fdO)
    (G_psigns_of : FnOk P w K mg base CX0 41 fS fdS ["family"] (spSigns ns)) (G_pfirst_of : FnOk P w K mg base CX0 4 fF fdF ["rest", "by", "low", "high"] spFirst) (G_porder_of : FnOk P w K mg base CX0 1 fO fdO ["number"] spOrd)
    (b_psigns_of : Binds K fdS ["family"] []) (b_pfirst_of : Binds K fdF ["rest", "by", "low", "high"] []) (b_porder_of : Binds K fdO ["number"] [])
    (m_psigns_of : mg "signs_of" = some (.ref fS)) (m_pfirst_of : mg "first_of" = some (.ref fF)) (m_porder_of : mg "order_of" = some (.ref fO)) (z_tuple : mg "tuple" = none) (z_sorted : mg "sorted" = none) : FnOk P w K mg base CX0 42 f fd ["family"] (spKinds ns) := by
  refine F_pkinds_of.ok scPKindsOf (fun vs H Q E h => ?_) (fun cdv A outer s H vs Q E hr h => ?_)
  · obtain ⟨_, _, rfl, _⟩ := h
    rfl
  · obtain ⟨v, bs, rfl, t, hb, h8, q⟩ := h
    obtain ⟨p60, p0, _⟩ := perF_ok bs hb
    refine ⟨_, (pss_cons (ps_set (i := 1) scPKindsOf.nd rfl (by first | exact Or.inl rfl | exact Or.inr rfl) pe_dnewT)
      (C8.pss_cut (ps_for PassesOwn.never rfl (pi_tup (pe_call G_psigns_of (hr.mono (by omega)) (by rfl) m_psigns_of F_psigns_of.kp b_psigns_of .nil pass0 (pa_cons (pv 0) pa_nil))) (pg_tup rfl (pgs_cons (pg_name (i := 2) scPKindsOf.nd rfl (by first | exact Or.inl rfl | exact Or.inr rfl)) (pgs_cons (pg_name (i := 3) scPKindsOf.nd rfl (by first | exact Or.inl rfl | exact Or.inr rfl)) (pgs_cons (pg_name (i := 4) scPKindsOf.nd rfl (by first | exact Or.inl rfl | exact Or.inr rfl)) (pgs_cons (pg_name (i := 5) scPKindsOf.nd rfl (by first | exact Or.inl rfl | exact Or.inr rfl)) (pgs_cons (pg_name (i := 6) scPKindsOf.nd rfl (by first | exact Or.inl rfl | exact Or.inr rfl)) pgs_nil)))))) (pss_cons (ps_set (i := 7) scPKindsOf.nd rfl (by first | exact Or.inl rfl | exact Or.inr rfl) (pe_call G_pfirst_of (hr.mono (by omega)) (by rfl) m_pfirst_of F_pfirst_of.kp b_pfirst_of .nil pass0 (pa_cons (pv 2) (pa_cons (pv 3) (pa_cons (pv 4) (pa_cons (pv 5) pa_nil))))))
      (pss_one (ps_if (PW.pt (pw_or (pt_cmp (pc_dnotin (hu_of hr) (pv 6) (pv 1)) (by with_unfolding_all rfl)) (pw_or1 (pt_cmpR op_lt (pe_call G_porder_of (hr.mono (by omega)) (by rfl) m_porder_of F_porder_of.kp b_porder_of .nil pass0 (pa_cons (pv 7) pa_nil)) (pe_call G_porder_of (hr.mono (by omega)) (by rfl) m_porder_of F_porder_of.kp b_porder_of .nil pass0 (pa_cons (pe_dget (hu_of hr) (pv 1) (pv 6) (fun _ _ => rfl)) pa_nil)) (nomark _))))) (pss_one (ps_dput (hu_of hr) (pv 1) (pv 6) (pv 7) rfl)) pss_nil))))
      (pss_one (ps_ret (pe_callTy call_tuple_of (by rfl) z_tuple boot_tuple (pa_cons (pe_callB (cr_sortedKd (by rfl) (Nat.lt_of_le_of_lt (Nat.add_le_add_left (by decide : 8 ≤ 64) _) hr.units)) (by rfl) z_sorted boot_sorted (pa_cons (pe_bm0 PySem.F.plainAttrs_dict PySem.F.slot_dict_items (by rfl) DX.mt_itemsT (pv 1)) pa_nil)) pa_nil)))))), ?_⟩
    intro D hD
    refine ⟨fun σ' H' => ∃ o2 o3 o4 o5 o6 o7 L, σ' = [some v, some (.ref D), o2, o3, o4, o5, o6, o7] ∧ Sx [] H H' ∧ H' D = some (.dT (L.map entI)) ∧ KOk (perF bs) (rowsT (fl bs) (perF bs)) L ∧ L.length ≤ 491580, ?_, ?_⟩
    · refine ⟨_, rfl, v, bs, rfl, t.keep (Sx.n0 hD).tk0, hb, h8, fun H1 R s1 tR => ?_⟩
      obtain ⟨a, xs, rfl, ha, hx⟩ := tR.tuple
      have xl := hx.len
      rw [List.length_map] at xl
      have s0 : Sx [] H H1 := (Sx.n0 hD).trans s1
      refine ⟨a, rfl, ⟨_, SqT.of ha⟩, for_tup (xs := xs) (fun i σ' H' => ∃ o2 o3 o4 o5 o6 o7 L, σ' = [some v, some (.ref D), o2, o3, o4, o5, o6, o7] ∧ Sx [] H H' ∧ Tk H1 H' ∧ H' D = some (.dT (L.map entI)) ∧ KOk (perF bs) ((rowsT (fl bs) (perF bs)).take i) L ∧ L.length ≤ i)
        ⟨_, _, _, _, _, _, [], rfl, s0, Tk.refl _, s1 _ _ (by simp) upd_same, kok_nil _, Nat.le_refl _⟩ (fun i σ' H' _ p => by obtain ⟨_, _, _, _, _, _, _, _, _, tk, _⟩ := p; exact SqT.of (tk _ _ ha)) (fun i x σ' H2 hi p => ?_) (fun σ' H2 p => ?_)⟩
      · obtain ⟨o2, o3, o4, o5, o6, o7, L, rfl, s2, tk2, eD, kok, ll⟩ := p
        obtain ⟨rd, hrd, tr⟩ := hx.get hi
        rw [List.getElem?_map] at hrd
        obtain ⟨row, hrow, rfl⟩ := Option.map_eq_some_iff.mp hrd
        obtain ⟨ar, z, rfl, har, tz⟩ := tpRow (tr.keep tk2)
        obtain ⟨b, rfl, hbk⟩ := tpSg tz
        refine ⟨ar, _, rfl, SqT.of har, rfl, _, _, rfl, gnm ⟨_, _, rfl, gnm ⟨_, _, rfl, gnm ⟨_, _, rfl, gnm ⟨_, _, rfl, gnm ⟨rfl, ?_⟩⟩⟩⟩⟩⟩
        have hi2 : i < 491580 := by have := (List.getElem?_eq_some_iff.mp hrow).1; have := rowsT_len hb h8; omega
        have kk := kstep_ok kok row
        have et : (rowsT (fl bs) (perF bs)).take (i + 1) = (rowsT (fl bs) (perF bs)).take i ++ [row] := by rw [List.take_add_one, hrow]; rfl
        rw [← et] at kk
        have kl := kstep_len (perF bs) L row
        refine ⟨_, rfl, _, rfl, _, rfl, _, rfl, (row.1 : Nat), (perF bs : Nat), row.2.lo, row.2.hi, rfl, by omega, fun H3 s3 => gnm ?_⟩
        have eD3 := s3 _ _ (by simp) eD
        have hb3 : H3 b = some (.tup ((row.2.s.map Sum.inl : List L2.Key).map kV)) := by rw [inl_kV]; exact s3 _ _ (by simp) hbk
        have dg : DGet H3 D (.ref b) ((L.lookup row.2.s).map V.int) := by rw [← valV_entI]; exact DGet.t eD3 hb3
        have ll3 : (L.map entI).length < sizeLine := by rw [List.length_map]; show _ < 16777216; omega
        have dp := DPut.t (v := V.int (firstOf row.1 (perF bs) row.2.lo row.2.hi)) eD3 hb3 ll3
        rw [putK_entI] at dp
        have f1 := (s2.trans s3).own (p := D) (o := .dT ((kput L row.2.s (firstOf row.1 (perF bs) row.2.lo row.2.hi)).map entI)) hD
        have f2 := (tk2.trans s3.tk0).trans (tk_dT (o := .dT ((kput L row.2.s (firstOf row.1 (perF bs) row.2.lo row.2.hi)).map entI)) eD3)
        cases e : L.lookup row.2.s with
        | none =>
          rw [e] at dg
          refine ⟨_, rfl, _, rfl, D, _, rfl, dg, _, rfl, iteT (iteT ?_)⟩
          have ek : kstep (perF bs) L row = kput L row.2.s (firstOf row.1 (perF bs) row.2.lo row.2.hi) := by unfold kstep kput; rw [e]; rfl
          rw [ek] at kk kl
          exact ⟨_, rfl, _, rfl, _, rfl, D, _, rfl, dp, _, _, _, _, _, _, _, rfl, f1, f2, upd_same, kk, by omega⟩
        | some m =>
          rw [e] at dg
          refine ⟨_, rfl, _, rfl, D, _, rfl, dg, _, rfl, iteF ⟨_, rfl, _, rfl, _, rfl, _, rfl, D, _, rfl, dg, _, rfl, _, _, rfl, rfl, _, rfl, ?_⟩⟩
          have ks : kstep (perF bs) L row = if ordN (firstOf row.1 (perF bs) row.2.lo row.2.hi) < ordN m then kput L row.2.s (firstOf row.1 (perF bs) row.2.lo row.2.hi) else L := by unfold kstep; rw [e]
          by_cases c : ordN (firstOf row.1 (perF bs) row.2.lo row.2.hi) < ordN m
          · rw [ks, if_pos c] at kk kl
            exact iteP (decide_eq_true c) ⟨_, rfl, _, rfl, _, rfl, D, _, rfl, dp, _, _, _, _, _, _, _, rfl, f1, f2, upd_same, kk, by omega⟩
          · refine iteN (fun z => c (of_decide_eq_true z)) ?_
            rw [ks, if_neg c] at kk kl
            exact ⟨_, _, _, _, _, _, L, rfl, s2.trans s3, tk2.trans s3.tk0, eD3, kk, by omega⟩
      · obtain ⟨o2, o3, o4, o5, o6, o7, L, rfl, s2, tk2, eD, kok, ll⟩ := p
        have l3 := rowsT_len hb h8
        rw [xl, List.take_length] at kok
        exact ⟨_, _, _, _, _, _, L, rfl, s2, eD, kok, by omega⟩
    · rintro _ H2 ⟨o2, o3, o4, o5, o6, o7, L, rfl, s2, eD, kok, ll⟩
      have kn : Kinds bs L := by
        have := kinds_of p0 (fl_ok hb) kok
        rwa [fl_snd] at this
      refine ⟨_, rfl, .inr (.inr (.inl ⟨rfl, .inr ⟨_, eD⟩⟩)), D, _, rfl, rfl, eD, fun p hp => ?_⟩
      refine ⟨p, D, L, rfl, upd_same, by rw [upd_ne (ne_of_none eD hp)]; exact eD, fun H3 l ps keep fresh srt el pairs => ?_⟩
      refine ⟨_, _, rfl, .inl ⟨SqL.of el, fun R hR => ?_⟩⟩
      have s3 : Sx [] H H3 := (s2.trans (Sx.n0 hp)).trans fun x o _ e => keep x o e
      have sR := Sx.n0 (o := .tup (ps.map fun z => V.ref z.1)) hR
      refine q _ _ L (s3.trans sR) kn ll (fun y hy => ?_) (.tup upd_same ?_)
      · obtain ⟨x, hx, _, e⟩ := kok.from_ y hy
        have bd := rowsT_bd (l := fl bs) (per := perF bs) (fun x hx => by
          obtain ⟨b, hbm, rfl⟩ := List.mem_map.mp hx
          obtain ⟨r1, r2, r3⟩ := Bk.per_ok (hb b hbm).ok
          exact ⟨⟨ns, 4, (hb b hbm).ok⟩, r3, (hb b hbm).wt⟩) x hx
        have fb := firstOf_bd (r := (x.1 : Nat)) (by_ := (perF bs : Nat)) (by omega) bd.1 bd.2
        rw [e]
        have pp := Nat.le_of_dvd (by decide) p60
        have cb : CB + 62 < 2 ^ 400 := by decide +kernel
        omega
      · rw [← srt]
        exact (tpPairs ps pairs).keep sR.tk0
end
/-! ### a kind as data -/
theorem tpKd {H : Hp} {v : V} {x : Kd} (h : Tp H v (kdD x)) : ∃ a b, v = .ref a ∧ H a = some (.tup [.ref b, .int x.2]) ∧ H b = some (.tup (x.1.map V.int)) := by
  cases h with
  | tup ha hx =>
    cases hx with
    | cons h1 hx =>
      cases hx with
      | cons h2 hx =>
        cases hx
        rw [tpI h2] at ha
        obtain ⟨b, rfl, hb⟩ := tpSg h1
        exact ⟨_, b, rfl, ha, hb⟩
abbrev sRank : Stmt := topS 34
abbrev nRank : List Str := ["_law_number"]
theorem scRank : FnScope nRank ["_law_number"] (defScope sRank) := ⟨rfl, rfl, rfl, by decide +kernel, rfl, by decide +kernel, by decide +kernel⟩
abbrev sFirstOf : Stmt := topS 36
abbrev nFirstOf : List Str := ["_law_numbers", "_law_found", "_law_number"]
theorem scFirstOf : FnScope nFirstOf ["_law_numbers"] (defScope sFirstOf) := ⟨rfl, rfl, rfl, by decide +kernel, rfl, by decide +kernel, by decide +kernel⟩
abbrev sNear : Stmt := topS 49
abbrev nNear : List Str := ["_law_deck_here", "_law_rows", "_law_found", "_law_row_here", "_law_bound", "_law_great", "_law_k", "_law_number"]
theorem scNear : FnScope nNear ["_law_deck_here", "_law_rows"] (defScope sNear) := ⟨rfl, rfl, rfl, by decide +kernel, rfl, by decide +kernel, by decide +kernel⟩
/-! ### the law's helpers -/
def spFirstL : Sp := fun vs H Q _ => ∃ (a : Addr) (ns : List Int), vs = [.ref a] ∧ H a = some (.lst (ns.map V.int)) ∧ ns.length ≤ 2000 ∧ ∀ H' o, Sx [] H H' → (o = none → ns = []) → (∀ m, o = some m → m ∈ ns ∧ ∀ y ∈ ns, ordN m ≤ ordN y) → Q (oV o) H'
def BestL (ns : List Int) (o : Option Int) : Prop := (o = none → ns = []) ∧ ∀ m, o = some m → m ∈ ns ∧ ∀ y ∈ ns, ordN m ≤ ordN y
section
variable {w : World} {P : Program} {K : PySem.W.Frag} {mg : Str → Option Value} {base : Heap}
theorem ok_rank {f : Addr} {fd : FuncData} {k : Nat} (F : Fun K "_law_rank" "_law_rank" sRank f fd) : FnOk P w K mg base CX0 (k + 1) f fd ["_law_number"] spOrd := by
  refine F.ok scRank (fun vs H Q E h => ?_) (fun cdv A outer s H vs Q E hr h => ?_)
  · obtain ⟨_, rfl, _⟩ := h
    rfl
  · obtain ⟨n, rfl, q⟩ := h
    refine ⟨_, (pss_one (ps_ret (pe_ifExp (pt_cmpR op_gt (pv 0) pe_int (nomark _)) (pe_op op_sub (pe_op op_mul pe_int (pv 0)) pe_int) (pe_op op_sub pe_int (pe_op op_mul pe_int (pv 0)))))), ?_⟩
    refine (⟨_, rfl, _, _, rfl, rfl, _, rfl, ?_⟩)
    unfold ordN at q
    by_cases c : n > 0
    · rw [if_pos c] at q
      exact iteP (decide_eq_true c) ⟨_, rfl, _, _, rfl, rfl, .inl ⟨by decide, by decide⟩, _, _, rfl, rfl, q⟩
    · rw [if_neg c] at q
      refine iteN (fun e => c (of_decide_eq_true e)) ⟨_, rfl, _, _, rfl, rfl, .inl ⟨by decide, by decide⟩, _, _, rfl, rfl, ?_⟩
      show Q (.int (0 - 2 * n)) H
      rw [show (0 : Int) - 2 * n = -2 * n by omega]
      exact q
theorem ok_lfirst {f fR : Addr} {fd fdR : FuncData} (F : Fun K "_law_first_of" "_law_first_of" sFirstOf f fd) (F_rank : Fun K "_law_rank" "_law_rank" sRank fR fdR) (G_rank : FnOk P w K mg base CX0 1 fR fdR ["_law_number"] spOrd) (b_rank : Binds K fdR ["_law_number"] []) (m_rank : mg "_law_rank" = some (.ref fR)) :
    FnOk P w K mg base CX0 2 f fd ["_law_numbers"] spFirstL := by
  refine F.ok scFirstOf (fun vs H Q E h => ?_) (fun cdv A outer s H vs Q E hr h => ?_)
  · obtain ⟨_, _, rfl, _⟩ := h
    rfl
  · obtain ⟨a, ns, rfl, ha, hl, q⟩ := h
    refine ⟨_, (pss_cons (ps_set (i := 1) scFirstOf.nd rfl (by first | exact Or.inl rfl | exact Or.inr rfl) pe_non)
      (C8.pss_cut (ps_for PassesOwn.never rfl (pi_list (pv 0)) (pg_name (i := 2) scFirstOf.nd rfl (by first | exact Or.inl rfl | exact Or.inr rfl)) (pss_one (ps_if (PW.pt (pw_or (pt_cmpR op_isN (pv 1) pe_non (nomark _)) (pw_or1 (pt_cmpR op_lt (pe_call G_rank (hr.mono (by omega)) (by rfl) m_rank F_rank.kp b_rank .nil pass0 (pa_cons (pv 2) pa_nil)) (pe_call G_rank (hr.mono (by omega)) (by rfl) m_rank F_rank.kp b_rank .nil pass0 (pa_cons (pv 1) pa_nil)) (nomark _))))) (pss_one (ps_set (i := 1) scFirstOf.nd rfl (by first | exact Or.inl rfl | exact Or.inr rfl) (pv 2))) pss_nil)))
      (pss_one (ps_ret (pv 1))))), ?_⟩
    refine ⟨fun σ' H' => ∃ o z, σ' = [some (.ref a), some (oV o), z] ∧ H' = H ∧ BestL ns o, ?_, ?_⟩
    · refine ⟨_, rfl, a, rfl, ⟨_, SqL.of ha⟩, for_list (xs := ns.map V.int) (fun i σ' H' => ∃ o z, σ' = [some (.ref a), some (oV o), z] ∧ H' = H ∧ BestL (ns.take i) o) ⟨none, none, rfl, rfl, fun _ => List.take_zero, fun _ e => nomatch e⟩ (fun i σ' H' _ p => by obtain ⟨_, _, _, rfl, _⟩ := p; exact SqL.of ha) (fun i x σ' H' hi p => ?_) (fun σ' H' p => ?_)⟩
      · obtain ⟨o, z, rfl, rfl, hb⟩ := p
        rw [List.getElem?_map] at hi
        obtain ⟨n, hn, rfl⟩ := Option.map_eq_some_iff.mp hi
        have et : ns.take (i + 1) = ns.take i ++ [n] := by rw [List.take_add_one, hn]; rfl
        have new : (∀ y ∈ ns.take i, ordN n ≤ ordN y) → BestL (ns.take (i + 1)) (some n) := fun h => by
          rw [et]
          refine ⟨fun e => (nomatch e), fun m e => ?_⟩
          cases e
          refine ⟨by simp, fun y hy => ?_⟩
          rcases List.mem_append.1 hy with hy | hy
          · exact h y hy
          · rw [List.mem_singleton.mp hy]; exact Int.le_refl _
        cases o with
        | none =>
          refine ⟨_, rfl, rfl, true, by rw [show oV none = V.non from rfl, decide_eq_true rfl], iteT (iteT ⟨_, rfl, some n, _, rfl, rfl, new ?_⟩)⟩
          rw [hb.1 rfl]
          exact fun y hy => nomatch hy
        | some m =>
          obtain ⟨h1, h2⟩ := hb.2 m rfl
          refine ⟨_, rfl, rfl, false, by rw [show oV (some m) = V.int m from rfl, decide_eq_false (fun e => nomatch e)], iteF ⟨_, rfl, n, rfl, _, rfl, m, rfl, _, _, rfl, rfl, _, rfl, ?_⟩⟩
          by_cases c : ordN n < ordN m
          · exact iteP (decide_eq_true c) ⟨_, rfl, some n, _, rfl, rfl, new fun y hy => by have := h2 y hy; omega⟩
          · refine iteN (fun e => c (of_decide_eq_true e)) ⟨some m, _, rfl, rfl, fun e => (nomatch e), fun k e => ?_⟩
            cases e
            rw [et]
            refine ⟨List.mem_append_left _ h1, fun y hy => ?_⟩
            rcases List.mem_append.1 hy with hy | hy
            · exact h2 y hy
            · rw [List.mem_singleton.mp hy]; omega
      · obtain ⟨o, z, rfl, rfl, hb⟩ := p
        rw [List.length_map, List.take_length] at hb
        exact ⟨o, z, rfl, rfl, hb⟩
    · rintro _ _ ⟨o, z, rfl, rfl, hb⟩
      exact ⟨_, rfl, q _ o (Sx.refl _) hb.1 hb.2⟩
end
/-! ### numbers to look at -/
theorem cut_hd (xs : List V) : (cutV xs none (some 12)).length ≤ 12 := by
  have e : HT.sIx xs.length xs.length (some (12 : Int)) ≤ 12 := by
    have := HT.sIx_nat xs.length xs.length 12
    rw [show (some (12 : Int)) = some ((12 : Nat) : Int) from rfl, this]
    omega
  unfold cutV
  rw [List.length_take]
  omega
theorem cut_tl (xs : List V) : (cutV xs (some (-12)) none).length ≤ 12 := by
  have e : xs.length ≤ HT.sIx xs.length 0 (some (-12 : Int)) + 12 := by
    show xs.length ≤ (if (-12 : Int) < 0 then ((-12 : Int) + (xs.length : Int)).toNat else min (-12 : Int).toNat xs.length) + 12
    rw [if_pos (by decide)]
    omega
  unfold cutV
  rw [List.length_take]; rw [List.length_drop]
  show min (xs.length - _) _ ≤ 12
  omega
theorem cut_mem {xs : List V} {lo hi : Option Int} {x : V} (h : x ∈ cutV xs lo hi) : x ∈ xs := List.mem_of_mem_drop (List.mem_of_mem_take h)
def spNear : Sp := fun vs H Q _ => ∃ (a c : Addr) (cs : List Int) (k : Int) (L : Addr) (rvs : List V) (rows : List (Nat × Pc)) (per : Nat), vs = [.ref a, .ref L] ∧ Dk H a c cs k ∧ k + 1 ≤ KB ∧ L ≠ a ∧ L ≠ c ∧ H L = some (.lst rvs) ∧ TpAll H rvs (rows.map (rowD per)) ∧
  ∀ H' cs' Z (ns : List Int), Sx [a, c] H H' → Dk H' a c cs' (k + 1) → H Z = none → H' Z = some (.lst (ns.map V.int)) → ns.length ≤ 1000 → Q (.ref Z) H'
theorem tpRowM {H : Hp} {rvs : List V} {rows : List (Nat × Pc)} {per : Nat} {x : V} (h : TpAll H rvs (rows.map (rowD per))) (hx : x ∈ rvs) : ∃ r : Nat × Pc, Tp H x (rowD per r) := by
  obtain ⟨d, hd, t⟩ := h.mem hx
  obtain ⟨r, _, rfl⟩ := List.mem_map.mp hd
  exact ⟨r, t⟩
theorem rg_ints (a b : Int) : ∃ ns : List Int, rgV a b = ns.map V.int ∧ ns.length = (b - a).toNat := ⟨(List.range (b - a).toNat).map fun i => a + (i : Nat), by unfold rgV; rw [List.map_map]; rfl, by rw [List.length_map, List.length_range]⟩
theorem gNoP {σ : L2.St} {H : Hp} {Q : Option Int → Hp → Prop} (h : Q none H) : tNoPart σ H Q := h
/-- a new list of ints from a range, each as the rule says -/
theorem lcr {lo : Int} {n : Nat} {g : TG} {te : TE} {vs : List Nat} {σ : L2.St} {H1 : Hp} {D : Addr} {Qd : Hp → Prop} (hD : H1 D = none) (hn : n ≤ 1000)
    (hs : ∀ (i : Nat) (H : Hp) (Kk : VK), i < n → (∀ m : Int, Kk (.int m) H) → g (.int (lo + i)) (wipe σ vs) H fun σ2 H2 => wipe σ2 vs = wipe σ vs ∧ te σ2 H2 Kk)
    (hg : ∀ v σ H (A B : L2.St → Hp → Prop), (∀ σ' H', A σ' H' → B σ' H') → g v σ H A → g v σ H B)
    (hd : ∀ (H' : Hp) (ns : List Int), Sx [] H1 H' → H' D = some (.lst (ns.map V.int)) → ns.length = n → Qd H') :
    ∃ (W : Nat → Nat → Hp → Prop), (∃ m, W 0 m (upd H1 D (.lst []))) ∧ ∀ i m H, W i m H →
      ((Itr lo n).stop i H ∧ Qd H) ∨ ((Itr lo n).go i H ∧ ∃ Nx : Hp → Prop, (∀ H', Nx H' → ∃ m', m' < m ∧ W (i + 1) m' H') ∧ ∀ x H', (Itr lo n).yld i H x H' → g x (wipe σ vs) H' fun σ2 H2 => wipe σ2 vs = wipe σ vs ∧ tYes σ2 H2 fun b H3 =>
        if (b = true) then te σ2 H3 fun y H4 => ∃ acc, H4 D = some (.lst acc) ∧ acc.length < sizeLine ∧ Nx (upd H4 D (.lst (acc ++ [y]))) else Nx H3) := by
  refine lc_range (fun i H' => Sx [] H1 H' ∧ ∃ ns : List Int, H' D = some (.lst (ns.map V.int)) ∧ ns.length = i) ⟨Sx.n0 hD, [], upd_same, rfl⟩ (fun i H hi p => ?_) (fun H p => ?_)
  · obtain ⟨s, ns, e, ln⟩ := p
    refine hg _ _ _ _ _ (fun σ' H' h => ⟨h.1, gYes (iteT h.2)⟩) (hs i H (fun y H4 => ∃ acc, H4 D = some (.lst acc) ∧ acc.length < sizeLine ∧ Sx [] H1 (upd H4 D (.lst (acc ++ [y]))) ∧ ∃ ns : List Int, (upd H4 D (.lst (acc ++ [y]))) D = some (.lst (ns.map V.int)) ∧ ns.length = i + 1) hi fun m => ?_)
    exact ⟨_, e, by rw [List.length_map]; show _ < 16777216; omega, s.own hD, ns ++ [m], by rw [upd_same, List.map_append]; rfl, by rw [List.length_append, ln]; rfl⟩
  · obtain ⟨s, ns, e, ln⟩ := p
    exact hd H ns s e ln
section
variable {w : World} {P : Program} {K : PySem.W.Frag} {mg : Str → Option Value} {base : Heap}
theorem ok_near {f fD : Addr} {fd fdD : FuncData} (F : Fun K "_law_near" "_law_near" sNear f fd) (F_draw : Fun K "_law_draw" "_law_draw" sDraw fD fdD) (G_draw : FnOk P w K mg base CX0 1 fD fdD ["_law_deck_here", "_law_many"] spDraw) (b_draw : Binds K fdD ["_law_deck_here", "_law_many"] [])
    (m_draw : mg "_law_draw" = some (.ref fD)) (z_range : mg "range" = none) (z_list : mg "list" = none) (z_abs : mg "abs" = none) : FnOk P w K mg base CX0 2 f fd ["_law_deck_here", "_law_rows"] spNear := by
  refine F.ok scNear (fun vs H Q E h => ?_) (fun cdv A outer s H vs Q E hr h => ?_)
  · obtain ⟨_, _, _, _, _, _, _, _, rfl, _⟩ := h
    rfl
  · obtain ⟨a, c, cs, k, L, rvs, rows, per, rfl, D, hk, La, Lc, hL, hT, q⟩ := h
    refine ⟨_, (pss_cons (ps_set (i := 2) scNear.nd rfl (by first | exact Or.inl rfl | exact Or.inr rfl) (pe_listRg (by rfl) (by rfl) z_list (prg_2 (by rfl) z_range (pe_un un_neg pe_int) pe_int)))
      (C8.pss_cut (ps_for PassesOwn.never rfl (pi_list (pe_op op_cat (pe_slice sl_list (pv 1) po_none (po_some pe_int)) (pe_slice sl_list (pv 1) (po_some (pe_un un_neg pe_int)) po_none))) (pg_name (i := 3) scNear.nd rfl (by first | exact Or.inl rfl | exact Or.inr rfl)) (pss_one (ps_for PassesOwn.never rfl (pi_list (pe_lst (pa_cons (pe_ix ix_tup (pv 3) pe_int (fun _ _ => rfl)) (pa_cons (pe_ix ix_tup (pv 3) pe_int (fun _ _ => rfl)) pa_nil)))) (pg_name (i := 4) scNear.nd rfl (by first | exact Or.inl rfl | exact Or.inr rfl)) (pss_one (ps_if (pt_cmpR op_notN (pv 4) pe_non (nomark _)) (pss_one (ps_expr (pe_bm PySem.F.plainAttrs_list PySem.F.slot_list_extend PySem.F.type_list_extend mt_extend (pv 2) (pa_cons (pe_op op_cat (pe_lc (own := [("_law_k", 6)]) (g := gName 6) (tt := tYes) rfl scNear.nd (pi_range2 (by rfl) z_range (pa_cons (pe_un un_neg pe_int) (pa_cons pe_int pa_nil))) (blkOk_by (N := nNear) (sc := defScope sNear) (by decide +kernel)) (fun _ _ _ _ _ => (pg_name (i := 6) scNear.nd rfl (by first | exact Or.inl rfl | exact Or.inr rfl))) (fun _ _ _ _ _ => pts_nil) (fun _ _ _ _ _ => (pe_op op_add (pv 4) (pv 6)))) (pe_lst (pa_cons (pe_op op_add (pv 4) (pe_ix ix_tup (pv 3) pe_int (fun _ _ => rfl))) (pa_cons (pe_op op_sub (pv 4) (pe_ix ix_tup (pv 3) pe_int (fun _ _ => rfl))) pa_nil)))) pa_nil)))) pss_nil)))))
      (pss_cons (ps_set (i := 5) scNear.nd rfl (by first | exact Or.inl rfl | exact Or.inr rfl) (pe_op op_add (pe_op op_pow pe_int pe_int) (pe_call G_draw (hr.mono (by omega)) (by rfl) m_draw F_draw.kp b_draw .nil pass0 (pa_cons (pv 0) (pa_cons pe_int pa_nil)))))
      (pss_cons (ps_expr (pe_bm PySem.F.plainAttrs_list PySem.F.slot_list_extend PySem.F.type_list_extend mt_extend (pv 2) (pa_cons (pe_op op_cat (pe_lc (own := [("_law_k", 6)]) (g := gName 6) (tt := tYes) rfl scNear.nd (pi_range1 (by rfl) z_range (pa_cons pe_int pa_nil)) (blkOk_by (N := nNear) (sc := defScope sNear) (by decide +kernel)) (fun _ _ _ _ _ => (pg_name (i := 6) scNear.nd rfl (by first | exact Or.inl rfl | exact Or.inr rfl))) (fun _ _ _ _ _ => pts_nil) (fun _ _ _ _ _ => (pe_op op_add (pv 5) (pv 6)))) (pe_lc (own := [("_law_k", 6)]) (g := gName 6) (tt := tYes) rfl scNear.nd (pi_range1 (by rfl) z_range (pa_cons pe_int pa_nil)) (blkOk_by (N := nNear) (sc := defScope sNear) (by decide +kernel)) (fun _ _ _ _ _ => (pg_name (i := 6) scNear.nd rfl (by first | exact Or.inl rfl | exact Or.inr rfl))) (fun _ _ _ _ _ => pts_nil) (fun _ _ _ _ _ => (pe_op op_sub (pv 6) (pv 5))))) pa_nil)))
      (pss_one (ps_ret (pe_lc (own := [("_law_number", 7)]) (g := gName 7) (tt := _) rfl scNear.nd (pi_list (pv 2)) (blkOk_by (N := nNear) (sc := defScope sNear) (by decide +kernel)) (fun _ _ _ _ _ => (pg_name (i := 7) scNear.nd rfl (by first | exact Or.inl rfl | exact Or.inr rfl))) (fun _ _ _ _ _ => pts_one (pt_cmpR op_lt (pe_callB call_abs (by rfl) z_abs boot_abs (pa_cons (pv 7) pa_nil)) (pe_op op_pow pe_int pe_int) (nomark _))) (fun _ _ _ _ _ => (pv 7))))))))), ?_⟩
    refine ⟨64, rfl, -64, 65, rfl, rfl, ⟨by decide, by decide, by decide, by decide, by decide⟩, fun F hF => gnm ?_⟩
    obtain ⟨n0, e0, l0⟩ : ∃ ns : List Int, rgV (-64) 65 = ns.map V.int ∧ ns.length = 129 := rg_ints _ _
    rw [e0]
    have hF' := hF
    have s0 : Sx [] H (upd H F (.lst (n0.map V.int))) := Sx.n0 hF
    obtain ⟨Fa, Fc⟩ := D.nw hF
    have FL : F ≠ L := fun e => by rw [e, hL] at hF; cases hF
    have D0 := D.new (o := .lst (n0.map V.int)) hF
    have hT0 := hT.keep s0.tk0
    have hL0 : upd H F (.lst (n0.map V.int)) L = some (.lst rvs) := s0 _ _ (by simp) hL
    have eF0 : upd H F (.lst (n0.map V.int)) F = some (.lst (n0.map V.int)) := upd_same
    generalize upd H F (.lst (n0.map V.int)) = H1 at s0 D0 hT0 hL0 eF0 ⊢
    refine ⟨fun σ' H' => ∃ (o3 o4 o6 o7 : Option V) (ns : List Int), σ' = [some (.ref a), some (.ref L), some (.ref F), o3, o4, none, o6, o7] ∧ Sx [] H H' ∧ H' F = some (.lst (ns.map V.int)) ∧ ns.length ≤ 129 + 24 * 18, ?_, ?_⟩
    · refine ⟨_, rfl, gNoP ⟨12, rfl, L, rvs, rfl, SqL.of hL0, fun A1 h1 => ?_⟩⟩
      have s1 := Sx.n0 (o := .lst (cutV rvs none (some 12))) h1
      have eA1 : upd H1 A1 (.lst (cutV rvs none (some 12))) A1 = some (.lst (cutV rvs none (some 12))) := upd_same
      have hL1 := s1 _ _ (by simp) hL0
      generalize upd H1 A1 (.lst (cutV rvs none (some 12))) = H2 at s1 eA1 hL1 ⊢
      refine ⟨_, rfl, ⟨12, rfl, -12, rfl, gNoP ⟨L, rvs, rfl, SqL.of hL1, fun A2 h2 => ?_⟩⟩⟩
      have s2 := Sx.n0 (o := .lst (cutV rvs (some (-12)) none)) h2
      have eA2 : upd H2 A2 (.lst (cutV rvs (some (-12)) none)) A2 = some (.lst (cutV rvs (some (-12)) none)) := upd_same
      have eA1' := s2 _ _ (by simp) eA1
      generalize upd H2 A2 (.lst (cutV rvs (some (-12)) none)) = H3 at s2 eA2 eA1' ⊢
      have c1 := cut_hd rvs
      have c2 := cut_tl rvs
      refine ⟨A1, A2, _, _, rfl, rfl, eA1', eA2, by show _ ≤ 16777216; omega, fun C hC => ?_⟩
      have hm : ∀ x ∈ cutV rvs none (some 12) ++ cutV rvs (some (-12)) none, x ∈ rvs := fun x hx => (List.mem_append.1 hx).elim cut_mem cut_mem
      have lc : (cutV rvs none (some 12) ++ cutV rvs (some (-12)) none).length ≤ 24 := by rw [List.length_append]; omega
      generalize cutV rvs none (some 12) ++ cutV rvs (some (-12)) none = cvs at hm lc hC ⊢
      have s3 := (s1.trans s2).trans (Sx.n0 (o := .lst cvs) hC)
      have eC : upd H3 C (.lst cvs) C = some (.lst cvs) := upd_same
      have FC : F ≠ C := fun e => by have := (s1.trans s2) _ _ (by simp) eF0; rw [e, hC] at this; cases this
      generalize upd H3 C (.lst cvs) = H4 at s3 eC ⊢
      refine ⟨C, rfl, ⟨_, SqL.of eC⟩, for_list (xs := cvs) (fun i σ' H' => ∃ (o3 o4 o6 o7 : Option V) (ns : List Int), σ' = [some (.ref a), some (.ref L), some (.ref F), o3, o4, none, o6, o7] ∧ Sx [] H H' ∧ Kl [F] H4 H' ∧ H' F = some (.lst (ns.map V.int)) ∧ ns.length ≤ 129 + i * 18) ?_ (fun i σ' H' _ p => ?_) (fun i x σ' H' hi p => ?_) (fun σ' H' p => ?_)⟩
      · exact ⟨_, _, _, _, n0, rfl, s0.trans s3, (Sx.refl H4).kl, s3 _ _ (by simp) eF0, by omega⟩
      · obtain ⟨_, _, _, _, _, _, _, kl, _⟩ := p
        exact SqL.of (kl.l _ _ (by simp [FC.symm]) eC)
      · obtain ⟨o3, o4, o6, o7, ns, rfl, s5, kl, eF, ln⟩ := p
        have hi2 : i < 24 := by have := (List.getElem?_eq_some_iff.mp hi).1; omega
        obtain ⟨row, tr⟩ := tpRowM hT0 (hm x (List.mem_of_getElem? hi))
        obtain ⟨ar, z, rfl, har, _⟩ := tpRow ((tr.keep s3.tk0).keep kl.t)
        refine ⟨_, rfl, ar, _, 2, _, rfl, rfl, SqT.of har, rfl, _, rfl, ar, _, 3, _, rfl, rfl, SqT.of har, rfl, by show 2 ≤ sizeLine; decide, fun E hE => ?_⟩
        have sE := Sx.n0 (o := .lst [oV row.2.lo, oV row.2.hi]) hE
        have eE : upd H' E (.lst [oV row.2.lo, oV row.2.hi]) E = some (.lst [oV row.2.lo, oV row.2.hi]) := upd_same
        have FE : F ≠ E := fun e => by rw [e, hE] at eF; cases eF
        have eF' := sE _ _ (by simp) eF
        have har' := sE _ _ (by simp) har
        have klE := kl.trans sE.kl
        have s6 := s5.trans sE
        generalize upd H' E (.lst [oV row.2.lo, oV row.2.hi]) = H5 at eE eF' har' klE s6 ⊢
        refine ⟨E, rfl, ⟨_, SqL.of eE⟩, for_list (xs := [oV row.2.lo, oV row.2.hi]) (fun j σ' H' => ∃ (o4 o6 o7 : Option V) (ns : List Int), σ' = [some (.ref a), some (.ref L), some (.ref F), some (.ref ar), o4, none, o6, o7] ∧ Sx [] H H' ∧ Kl [F] H5 H' ∧ H' F = some (.lst (ns.map V.int)) ∧ ns.length ≤ 129 + i * 18 + j * 9) ?_ (fun j σ' H' _ p => ?_) (fun j x σ' H6 hj p => ?_) (fun σ' H6 p => ?_)⟩
        · exact ⟨_, _, _, ns, rfl, s6, (Sx.refl H5).kl, eF', by omega⟩
        · obtain ⟨_, _, _, _, _, _, kl, _⟩ := p
          exact SqL.of (kl.l _ _ (by simp [FE.symm]) eE)
        · obtain ⟨o4, o6, o7, ns, rfl, s7, kl6, eF6, ln6⟩ := p
          have hj2 : j < 2 := (List.getElem?_eq_some_iff.mp hj).1
          obtain ⟨o, rfl⟩ : ∃ o : Option Int, x = oV o := by
            match j, hj with
            | 0, hj => exact ⟨_, (Option.some.inj hj).symm⟩
            | 1, hj => exact ⟨_, (Option.some.inj hj).symm⟩
          cases o with
          | none => exact ⟨_, rfl, rfl, false, by rw [show oV none = V.non from rfl, decide_eq_true rfl]; rfl, iteF ⟨_, _, _, ns, rfl, s7, kl6, eF6, by omega⟩⟩
          | some m =>
            refine ⟨_, rfl, rfl, true, by rw [show oV (some m) = V.int m from rfl, decide_eq_false (fun e => nomatch e)]; rfl, iteT ?_⟩
            have har6 := kl6.t _ _ har'
            refine ⟨_, rfl, .inl ⟨rfl, _, SqL.of eF6⟩, 3, rfl, -3, 4, rfl, ⟨by decide, by decide, by decide, by decide⟩, fun Z hZ => lcr hZ (by decide) (fun i H Kk hi hK => ⟨rfl, _, rfl, _, rfl, _, _, rfl, rfl, hK _⟩) (fun v σ H A B h => h _ _) fun H7 ms s8 e8 l8 => ?_⟩
            have har7 := s8 _ _ (by simp) har6
            have eF7 := s8 _ _ (by simp) eF6
            have l8 : ms.length = 7 := l8
            refine ⟨_, rfl, _, rfl, ar, _, 1, _, rfl, rfl, SqT.of har7, rfl, _, _, rfl, rfl, _, rfl, _, rfl, ar, _, 1, _, rfl, rfl, SqT.of har7, rfl, _, _, rfl, rfl, by show 2 ≤ sizeLine; decide, fun Y hY => ?_⟩
            refine ⟨Z, Y, _, _, rfl, rfl, by rw [upd_ne (ne_of_none e8 hY)]; exact e8, upd_same, by show _ ≤ 16777216; rw [List.length_map]; show ms.length + 2 ≤ _; omega, fun W hW => ?_⟩
            have sY := Sx.n0 (o := .lst [.int (m + (per : Nat)), .int (m - (per : Nat))]) hY
            have sW := sY.new (o := .lst (ms.map V.int ++ [.int (m + (per : Nat)), .int (m - (per : Nat))])) hW
            have eF8 := sW _ _ (by simp) eF7
            refine ⟨F, W, _, _, rfl, rfl, eF8, upd_same, by show _ ≤ 16777216; rw [List.length_append, List.length_map, List.length_map]; show _ + (_ + 2) ≤ _; omega, ?_⟩
            have s9 := s8.trans sW
            refine ⟨_, _, _, ns ++ (ms ++ [m + (per : Nat), m - (per : Nat)]), rfl, (s7.trans s9).own hF', (kl6.trans s9.kl).trans (Kl.own eF8 (by simp)), by rw [upd_same, List.map_append, List.map_append]; rfl, ?_⟩
            rw [List.length_append, List.length_append, l8]
            show _ + (7 + 2) ≤ _
            omega
        · obtain ⟨o4, o6, o7, ns, rfl, s7, kl6, eF6, ln6⟩ := p
          exact ⟨_, _, _, _, ns, rfl, s7, klE.trans kl6, eF6, by have : [oV row.2.lo, oV row.2.hi].length = 2 := rfl; omega⟩
      · obtain ⟨o3, o4, o6, o7, ns, rfl, s5, kl, eF, ln⟩ := p
        exact ⟨_, _, _, _, ns, rfl, s5, eF, by omega⟩
    · rintro _ H2 ⟨o3, o4, o6, o7, ns, rfl, s2, eF, ln⟩
      have D2 := D.same s2
      have p40 : CPow 10 40 := ⟨by decide, by decide, by decide⟩
      have p59 : CPow 10 59 := ⟨by decide, by decide, by decide⟩
      refine ⟨10, 40, rfl, rfl, p40, _, rfl, a, c, cs, k, 60, rfl, D2, by decide, by decide, by omega, fun H3 cs3 y s3 D3 y0 y1 => ⟨_, _, rfl, rfl, gnm ?_⟩⟩
      have eF3 := s3 _ _ (by simp [Fa, Fc]) eF
      refine ⟨_, rfl, .inl ⟨rfl, _, SqL.of eF3⟩, 60, rfl, by decide, by decide, fun Z1 h1 => lcr h1 (by decide) (fun i H Kk hi hK => ⟨rfl, _, rfl, _, rfl, _, _, rfl, rfl, hK _⟩) (fun v σ H A B h => h _ _) fun H4 m1 s4 e4 l4 => ?_⟩
      refine ⟨60, rfl, by decide, by decide, fun Z2 h2 => lcr h2 (by decide) (fun i H Kk hi hK => ⟨rfl, _, rfl, _, rfl, _, _, rfl, rfl, hK _⟩) (fun v σ H A B h => h _ _) fun H5 m2 s5 e5 l5 => ?_⟩
      have l4 : m1.length = 60 := l4
      have l5 : m2.length = 60 := l5
      refine ⟨Z1, Z2, _, _, rfl, rfl, s5 _ _ (by simp) e4, e5, by show _ ≤ 16777216; rw [List.length_map, List.length_map]; omega, fun W hW => ?_⟩
      have s35 := (s4.trans s5).trans (Sx.n0 (o := .lst (m1.map V.int ++ m2.map V.int)) hW)
      have eF5 := s35 _ _ (by simp) eF3
      refine ⟨F, W, _, _, rfl, rfl, eF5, upd_same, by show _ ≤ 16777216; rw [List.length_append, List.length_map, List.length_map, List.length_map]; omega, ?_⟩
      have D5 := D3.same s35
      have s05 : Sx [a, c] H (upd H5 W (.lst (m1.map V.int ++ m2.map V.int))) := (s2.nil.trans s3).trans s35.nil
      generalize upd H5 W (.lst (m1.map V.int ++ m2.map V.int)) = H6 at s35 eF5 D5 s05 ⊢
      have el : ns.map V.int ++ (m1.map V.int ++ m2.map V.int) = (ns ++ (m1 ++ m2)).map V.int := by rw [List.map_append, List.map_append]
      rw [el]
      have ll : (ns ++ (m1 ++ m2)).length ≤ 700 := by rw [List.length_append, List.length_append]; omega
      generalize ns ++ (m1 ++ m2) = all at ll ⊢
      have s06 : Sx [a, c] H (upd H6 F (.lst (all.map V.int))) := s05.own hF'
      have D6 : Dk (upd H6 F (.lst (all.map V.int))) a c cs3 (k + 1) := D5.sx (ex := [F]) ((Sx.refl H6).put (by simp)) (by simp [Fa.symm]) (by simp [Fc.symm])
      have eF6 : upd H6 F (.lst (all.map V.int)) F = some (.lst (all.map V.int)) := upd_same
      generalize upd H6 F (.lst (all.map V.int)) = H7 at s06 D6 eF6 ⊢
      refine ⟨_, rfl, F, rfl, ⟨_, SqL.of eF6⟩, fun Z hZ => lc_list (xs := all.map V.int) (fun i H' => Sx [] H7 H' ∧ ∃ ks : List Int, H' Z = some (.lst (ks.map V.int)) ∧ ks.length ≤ i) ⟨Sx.n0 hZ, [], upd_same, Nat.le_refl _⟩ (fun i H' _ p => SqL.of (p.1 _ _ (by simp) eF6)) (fun i x H' hi p => ?_) (fun H' p => ?_)⟩
      · obtain ⟨s7, ks, eZ, lk⟩ := p
        have hi2 := (List.getElem?_eq_some_iff.mp hi).1
        rw [List.length_map] at hi2
        rw [List.getElem?_map] at hi
        obtain ⟨n, hn, rfl⟩ := Option.map_eq_some_iff.mp hi
        refine ⟨rfl, _, rfl, n, rfl, 10, 59, rfl, rfl, p59, _, _, rfl, rfl, _, rfl, ite2 (fun _ => ?_) (fun _ => ⟨s7, ks, eZ, by omega⟩)⟩
        exact ⟨_, rfl, _, eZ, by rw [List.length_map]; show _ < 16777216; omega, s7.own hZ, ks ++ [n], by rw [upd_same, List.map_append]; rfl, by rw [List.length_append]; show _ + 1 ≤ _; omega⟩
      · obtain ⟨s7, ks, eZ, lk⟩ := p
        rw [List.length_map] at lk
        exact q H' cs3 Z ks (s06.trans s7.nil) (D6.same s7) (s06.free (by obtain ⟨h1, h2⟩ := D6.nw hZ; simp [h1, h2]) hZ) eZ (by omega)
end
/-! ### the law's signs of a family -/
def spSig9A : Sp := fun vs H Q E => ∃ ns, spSig9 ns vs H Q E
def spSignsA : Sp := fun vs H Q E => ∃ ns, spSigns ns vs H Q E
def spKindsA : Sp := fun vs H Q E => ∃ ns, spKinds ns vs H Q E
def Rsg (ns : List Str) (b : Bk) : Prop := b.ok ns 4 ∧ b.sz < 16777216 ∧ b.wt ≤ 100
def spLSigns : Sp := fun vs H Q _ => ∃ (ns : List Str) (v : V) (bs : List Bk) (x : Int), vs = [v, .int x] ∧ Tp H v (.tuple (bs.map bkD)) ∧ (∀ z ∈ ns, NmOk z) ∧ (∀ b ∈ bs, Rsg ns b) ∧ bs.length ≤ 1000 ∧ ∀ H' p, Sx [] H H' → H p = none → H' p = some (.tup ((famAt bs x).map V.int)) → Q (.ref p) H'
theorem fam_len (bs : List Bk) (n : Int) : (famAt bs n).length = bs.length := by unfold famAt; rw [List.length_map]
section
variable {w : World} {P : Program} {K : PySem.W.Frag} {mg : Str → Option Value} {base : Heap}
theorem ok_lsigns {f fS : Addr} {fd fdS : FuncData} (F : Fun K "_law_signs" "_law_signs" sSigns f fd) (F_sign : Fun K "_law_sign" "_law_sign" sSign fS fdS) (G_sign : FnOk P w K mg base CX0 9 fS fdS ["_law_program_here", "_law_number"] spSig9A)
    (b_sign : Binds K fdS ["_law_program_here", "_law_number"] []) (m_sign : mg "_law_sign" = some (.ref fS)) (z_tuple : mg "tuple" = none) : FnOk P w K mg base CX0 10 f fd ["_law_family_here", "_law_number"] spLSigns := by
  refine F.ok scSigns (fun vs H Q E h => ?_) (fun cdv A outer s H vs Q E hr h => ?_)
  · obtain ⟨_, _, _, _, rfl, _⟩ := h
    rfl
  · obtain ⟨ns, v, bs, x, rfl, t, hn, hb, hbl, q⟩ := h
    refine ⟨_, (pss_one (ps_ret (pe_callTy call_tuple_of (by rfl) z_tuple boot_tuple (pa_cons (pe_lc (own := [("_law_program_here", 2)]) (g := gName 2) (tt := tYes) rfl scSigns.nd (pi_tup (pv 0)) (blkOk_by (N := nSigns) (sc := defScope sSigns) (by decide +kernel)) (fun _ _ _ _ _ => (pg_name (i := 2) scSigns.nd rfl (by first | exact Or.inl rfl | exact Or.inr rfl))) (fun _ _ _ _ _ => pts_nil) (fun _ _ _ _ _ => (pe_call G_sign (hr.mono (by omega)) (by rfl) m_sign F_sign.kp b_sign .nil pass0 (pa_cons (pv 2) (pa_cons (pv 1) pa_nil))))) pa_nil)))), ?_⟩
    obtain ⟨a, xs, rfl, ha, hx⟩ := t.tuple
    have hl := hx.len
    rw [List.length_map] at hl
    refine ⟨_, rfl, a, rfl, ⟨_, SqT.of ha⟩, fun Z hZ => lc_tup (xs := xs) (fun i H' => Sx [] H H' ∧ H' Z = some (.lst ((famAt (bs.take i) x).map V.int))) ⟨Sx.n0 hZ, upd_same⟩ (fun i H' _ p => SqT.of (p.1 _ _ (by simp) ha)) (fun i y H' hy p => ?_) (fun H' p => ?_)⟩
    · obtain ⟨s1, eZ⟩ := p
      obtain ⟨d, hd, td⟩ := hx.get hy
      rw [List.getElem?_map] at hd
      obtain ⟨b, hb2, rfl⟩ := Option.map_eq_some_iff.mp hd
      obtain ⟨bo, bz, bw⟩ := hb b (List.mem_of_getElem? hb2)
      have il := (List.getElem?_eq_some_iff.mp hb2).1
      refine gnm ⟨rfl, gYes (iteT ?_)⟩
      refine ⟨_, rfl, _, rfl, ns, y, b, x, rfl, td.keep s1.tk0, bo, hn, bz, bw, fun H3 s3 => ?_⟩
      refine ⟨_, s3 _ _ (by simp) eZ, ?_, (s1.trans s3).own hZ, ?_⟩
      · refine lt_line ?_
        rw [List.length_map, fam_len, List.length_take]
        omega
      · rw [List.take_add_one, hb2]
        unfold famAt
        rw [Option.toList_some, List.map_append, List.map_append]
        exact upd_same
    · obtain ⟨s1, eZ⟩ := p
      rw [hl, List.take_length] at eZ
      exact ⟨Z, _, rfl, .inl ⟨SqL.of eZ, fun p hp => q _ p (s1.trans (Sx.n0 hp)) (s1.free (by simp) hp) upd_same⟩⟩
end
/-! ### one of a tuple's items -/
def spOneT : Sp := fun vs H Q _ => ∃ (a c : Addr) (cs : List Int) (k : Int) (p : Addr) (xs : List V), vs = [.ref a, .ref p] ∧ Dk H a c cs k ∧ k < KB ∧ H p = some (.tup xs) ∧ xs ≠ [] ∧ xs.length ≤ 100000 ∧
  ∀ H' cs' x, Sx [a, c] H H' → Dk H' a c cs' (k + 1) → x ∈ xs → Q x H'
section
variable {w : World} {P : Program} {K : PySem.W.Frag} {mg : Str → Option Value} {base : Heap}
theorem ok_oneT {f fD : Addr} {fd fdD : FuncData} {k : Nat} (F : Fun K "_law_one" "_law_one" sOne f fd) (F_draw : Fun K "_law_draw" "_law_draw" sDraw fD fdD) (G_draw : FnOk P w K mg base CX0 (k + 1) fD fdD ["_law_deck_here", "_law_many"] spDraw)
    (b_draw : Binds K fdD ["_law_deck_here", "_law_many"] []) (m_draw : mg "_law_draw" = some (.ref fD)) (z_len : mg "len" = none) : FnOk P w K mg base CX0 (k + 2) f fd ["_law_deck_here", "_law_items"] spOneT := by
  refine F.ok scOne (fun vs H Q E h => ?_) (fun cdv A outer s H vs Q E hr h => ?_)
  · obtain ⟨a, c, cs, k, p, xs, rfl, _⟩ := h
    rfl
  · obtain ⟨a, c, cs, k, p, xs, rfl, D, hk, hp, hne, hlen, q⟩ := h
    refine ⟨_, (pss_one (ps_ret (pe_ix ix_tup (pv 1) (pe_call G_draw (hr.mono (by omega)) (by rfl) m_draw F_draw.kp b_draw .nil pass0 (pa_cons (pv 0) (pa_cons (pe_callB call_len_seq (by rfl) z_len boot_len (pa_cons (pv 1) pa_nil)) pa_nil))) (fun _ _ => rfl)))), ?_⟩
    refine ⟨_, rfl, _, rfl, _, rfl, p, xs, rfl, .inr (SqT.of hp), a, c, cs, k, _, rfl, D, by have : 0 < xs.length := List.length_pos_iff.mpr hne; omega, by omega, hk, fun H' cs' r s1 D1 r0 r1 => ?_⟩
    obtain ⟨j, rfl⟩ := Int.eq_ofNat_of_zero_le r0
    have hj : j < xs.length := by omega
    exact ⟨p, xs, _, xs[j], rfl, rfl, SqT.of (D.tk s1 _ _ hp), atI_nat (List.getElem?_eq_getElem hj), q H' cs' _ s1 D1 (List.getElem_mem hj)⟩
end
/-! ### repr of any data -/
structure RpA (K : PySem.W.Frag) (H : Hp) (v : V) (d : PyData) : Prop where
  r1 : Dp K H v d
  r2 : d.showable = true
  r3 : d.hasDict = false
  r4 : d.depth ≤ 60
  r5 : d.shown.length ≤ 16777216
theorem RpA.of {K : PySem.W.Frag} {H : Hp} {v : V} {d : PyData} {k n : Nat} (h : Dp K H v d) (z : Shw k n d) (hk : k ≤ 60) (hn : n ≤ 8000) : RpA K H v d :=
  ⟨h, z.s, z.h, by have := z.dp; omega, z.len hn⟩
def rReprA (K : PySem.W.Frag) : List V → Hp → VK → Prop := fun xs H Q => ∃ x d, xs = [x] ∧ RpA K H x d ∧ Q (.str d.shown) H
theorem call_reprA {X : Cx} (hgd : X.A.guards = some []) (hu : X.A.units + 64 < cLine) : CallR X (.builtin "repr") (rReprA X.K) := by
  intro pins s σ H xs us Q I r h0; have h := h0
  obtain ⟨x, d, rfl, ⟨hd, hs, hnd, hdp, hz⟩, q⟩ := h
  rcases vals1 r with ⟨u, rfl, rx⟩
  have fin : ∀ {as : List Addr} {a : Addr}, Reads s.heap (.ref a) d as → wpAny (model X.prog X.w) X.A (call (.builtin "repr") [.ref a]) (EP X pins σ Q) X.xe s := fun {as a} rd =>
    repr_of_reads' rd hs (fun h => by rw [hnd] at h; cases h) hgd (by omega) (fun _ _ e => e) (fun h' u' tk hk => ⟨.str d.shown, H, I.kept hk, ⟨u', rfl⟩, q⟩) hz
  obtain ⟨as, rd⟩ := Dp.reads I d x u hd rx
  cases hd with
  | non =>
    cases rx
    have e : PyData.shown .none = "None" := by simp only [PyData.shown]
    rw [e] at q
    exact PySem.P.repr_of_none ⟨.str _, H, I.tok _, ⟨_, rfl⟩, q⟩
  | bl b =>
    cases rx
    have e : (PyData.bool b).shown = (if b then "True" else "False" : Str) := by cases b <;> simp [PyData.shown]
    rw [e] at q
    exact PySem.P.repr_of_bool ⟨.str _, H, I.tok _, ⟨_, rfl⟩, q⟩
  | int i =>
    obtain ⟨t, rfl⟩ := rx
    have hi : i.natAbs.log2 < 1920 := by
      have : (PyData.int i).showable = true := hs
      simpa only [PyData.showable, decide_eq_true_eq] using this
    have e : (PyData.int i).shown = (toString i : String) := by simp only [PyData.shown]
    rw [e] at q
    exact PySem.P.repr_of_int hi ⟨.str _, H, I.tok _, ⟨_, rfl⟩, q⟩
  | str z =>
    obtain ⟨t, rfl⟩ := rx
    have e : (PyData.str z).shown = reprText z := by simp only [PyData.shown]
    rw [e] at q hz
    exact PySem.P.repr_of_str ⟨.str _, H, I.tok _, ⟨_, rfl⟩, q⟩ hz
  | lst hq ha => cases rx; exact fin rd
  | tup hq ha => cases rx; exact fin rd
def cF : Int := 3500130
/-- programs over these names, each within so many statements, and so much weight -/
def tnn (b : Bk) : Nat := b.tn true + b.tn false
theorem Bk.tn_sum (q : Bool) : ∀ b : Bk, b.tn q = (b.lst.map (St.tn q)).sum
  | .nil => rfl
  | .cons s b => by rw [Bk.tn, Bk.lst, List.map_cons, List.sum_cons, Bk.tn_sum q b]
theorem Bk.more_tn (b : Bk) (n : Nat) (i : Int) (q : Bool) : (b.more n i).tn q ≤ b.tn q := by
  have := sum_take_le (St.tn q) b.lst n
  unfold Bk.more
  rw [Bk.tn_sum, Bk.ofL_lst, List.map_append, List.sum_append, b.tn_sum]
  simp only [List.map_cons, List.map_nil, List.sum_cons, List.sum_nil, St.tn]
  omega
def Fm (ns : List Str) (n : Nat) (bs : List Bk) : Prop := ∀ b ∈ bs, b.ok ns 4 ∧ b.sz ≤ 12 + n ∧ b.wt ≤ 16 + n ∧ tnn b ≤ 4
def spFamily (K : PySem.W.Frag) : Sp := fun vs H Q _ => ∃ (a c : Addr) (cs : List Int) (k : Int) (nm : Addr) (ns : List Str) (m : Int), vs = [.ref a, .ref nm, .int m] ∧ Dk H a c cs k ∧ Nms K H nm ns ∧ nm ≠ a ∧ nm ≠ c ∧ 1 ≤ m ∧ m ≤ 5 ∧ k + cF ≤ KB ∧
  ∀ H' cs' k' v (bs : List Bk), Sx [a, c] H H' → Dk H' a c cs' k' → k ≤ k' → k' ≤ k + cF → Tp H' v (.tuple (bs.map bkD)) → bs ≠ [] → (bs.length : Int) ≤ m → Fm ns 5 bs → Q v H'
section
variable {w : World} {P : Program} {K : PySem.W.Frag} {mg : Str → Option Value} {base : Heap}
theorem ok_family {f fD fO fL : Addr} {fd fdD fdO fdL : FuncData} (F : Fun K "_law_family" "_law_family" sFamily f fd) (F_draw : Fun K "_law_draw" "_law_draw" sDraw fD fdD) (F_one : Fun K "_law_one" "_law_one" sOne fO fdO) (F_little : Fun K "_law_little" "_law_little" sLittle fL fdL)
    (G_draw : FnOk P w K mg base CX0 1 fD fdD ["_law_deck_here", "_law_many"] spDraw) (G_one : FnOk P w K mg base CX0 2 fO fdO ["_law_deck_here", "_law_items"] (spOne K)) (G_little : FnOk P w K mg base CX0 16 fL fdL ["_law_deck_here", "_law_names_here"] (spLittleT K))
    (b_draw : Binds K fdD ["_law_deck_here", "_law_many"] []) (b_one : Binds K fdO ["_law_deck_here", "_law_items"] []) (b_little : Binds K fdL ["_law_deck_here", "_law_names_here"] [])
    (m_draw : mg "_law_draw" = some (.ref fD)) (m_one : mg "_law_one" = some (.ref fO)) (m_little : mg "_law_little" = some (.ref fL)) (z_range : mg "range" = none) (z_tuple : mg "tuple" = none) :
    FnOk P w K mg base CX0 17 f fd ["_law_deck_here", "_law_names_here", "_law_most"] (spFamily K) := by
  refine F.ok scFamily (fun vs H Q E h => ?_) (fun cdv A outer s H vs Q E hr h => ?_)
  · obtain ⟨a, c, cs, k, nm, ns, m, rfl, _⟩ := h
    rfl
  · obtain ⟨a, c, cs, k, nm, ns, m, rfl, D, N, na, nc, m1, m5, hk, q⟩ := h
    have eL : cL = 700020 := rfl
    have eF : cF = 3500130 := rfl
    refine ⟨_, (pss_cons (ps_set (i := 3) scFamily.nd rfl (by first | exact Or.inl rfl | exact Or.inr rfl) (pe_lst (pa_cons (pe_call G_little (hr.mono (by omega)) (by rfl) m_little F_little.kp b_little .nil pass0 (pa_cons (pv 0) (pa_cons (pv 1) pa_nil))) pa_nil)))
      (C8.pss_cut (ps_for PassesOwn.never rfl (pi_range1 (by rfl) z_range (pa_cons (pe_call G_draw (hr.mono (by omega)) (by rfl) m_draw F_draw.kp b_draw .nil pass0 (pa_cons (pv 0) (pa_cons (pv 2) pa_nil))) pa_nil)) (pg_name (i := 4) scFamily.nd rfl (by first | exact Or.inl rfl | exact Or.inr rfl)) (pss_cons (ps_set (i := 5) scFamily.nd rfl (by first | exact Or.inl rfl | exact Or.inr rfl) (pe_call G_draw (hr.mono (by omega)) (by rfl) m_draw F_draw.kp b_draw .nil pass0 (pa_cons (pv 0) (pa_cons pe_int pa_nil))))
      (pss_one (ps_if (pt_cmpR op_eq (pv 5) pe_int (nomark _)) (pss_one (ps_expr (pe_bm PySem.F.plainAttrs_list PySem.F.slot_list_append PySem.F.type_list_append mt_append (pv 3) (pa_cons (pe_call G_one (hr.mono (by omega)) (by rfl) m_one F_one.kp b_one .nil pass0 (pa_cons (pv 0) (pa_cons (pv 3) pa_nil))) pa_nil)))) (pss_one (ps_if (pt_cmpR op_eq (pv 5) pe_int (nomark _)) (pss_one (ps_expr (pe_bm PySem.F.plainAttrs_list PySem.F.slot_list_append PySem.F.type_list_append mt_append (pv 3) (pa_cons (pe_op op_catA (pe_slice sl_tupA (pe_call G_one (hr.mono (by omega)) (by rfl) m_one F_one.kp b_one .nil pass0 (pa_cons (pv 0) (pa_cons (pv 3) pa_nil))) po_none (po_some pe_int)) (pe_tup (pa_cons (pe_tup (pa_cons pe_str (pa_cons (pe_op op_sub (pe_call G_draw (hr.mono (by omega)) (by rfl) m_draw F_draw.kp b_draw .nil pass0 (pa_cons (pv 0) (pa_cons pe_int pa_nil))) pe_int) pa_nil))) pa_nil))) pa_nil)))) (pss_one (ps_expr (pe_bm PySem.F.plainAttrs_list PySem.F.slot_list_append PySem.F.type_list_append mt_append (pv 3) (pa_cons (pe_call G_little (hr.mono (by omega)) (by rfl) m_little F_little.kp b_little .nil pass0 (pa_cons (pv 0) (pa_cons (pv 1) pa_nil))) pa_nil))))))))))
      (pss_one (ps_ret (pe_callTy call_tuple_of (by rfl) z_tuple boot_tuple (pa_cons (pv 3) pa_nil)))))), ?_⟩
    refine ⟨_, rfl, _, rfl, a, c, cs, k, nm, ns, rfl, D, N, na, nc, by omega, fun H1 cs1 k1 v1 b1 s1 D1 k1a k1b T1 o1 z1 w1 n1' => ?_⟩
    refine ⟨by show 1 ≤ sizeLine; decide, fun L hL => ?_⟩
    obtain ⟨La, Lc⟩ := D1.nw hL
    have T2 := T1.new (o := .lst [v1]) hL
    have D2 := D1.new (o := .lst [v1]) hL
    have s2 := s1.new (o := .lst [v1]) hL
    have eL2 : (upd H1 L (.lst [v1])) L = some (.lst [v1]) := upd_same
    have hHL : H L = none := s1.free (by simp [La, Lc]) hL
    generalize upd H1 L (.lst [v1]) = H2 at T2 D2 s2 eL2 ⊢
    refine ⟨fun σ H' => ∃ (cs' : List Int) (k' : Int) (vals : List V) (bs : List Bk) (o4 o5 : Option V), σ = [some (.ref a), some (.ref nm), some (.int m), some (.ref L), o4, o5] ∧ Sx [a, c] H H' ∧ Dk H' a c cs' k' ∧ k ≤ k' ∧ k' ≤ k + cF ∧ H' L = some (.lst vals) ∧ TpAll H' vals (bs.map bkD) ∧ bs ≠ [] ∧ (bs.length : Int) ≤ m ∧ Fm ns 5 bs, ?_, ?_⟩
    · refine ⟨_, rfl, _, rfl, a, c, cs1, k1, m, rfl, D2, by omega, by omega, by omega, fun H3 cs3 r s3 D3 r0 r1 => ⟨r, rfl, by omega, by omega, ?_⟩⟩
      refine for_range (n := r.toNat) (fun i σ H' => ∃ (cs' : List Int) (k' : Int) (vals : List V) (bs : List Bk) (o4 o5 : Option V), σ = [some (.ref a), some (.ref nm), some (.int m), some (.ref L), o4, o5] ∧ Sx [a, c] H H' ∧ Dk H' a c cs' k' ∧ k ≤ k' ∧ k' ≤ k1 + 1 + (i : Int) * 700025 ∧ H' L = some (.lst vals) ∧ TpAll H' vals (bs.map bkD) ∧ bs.length = i + 1 ∧ Fm ns i bs)
        ⟨cs3, k1 + 1, [v1], [b1], _, _, rfl, s2.trans s3, D3, by omega, by omega, s3 _ _ (by simp [La, Lc]) eL2, .cons (T2.keep (D2.tk s3)) .nil, rfl, fun b hb => by rw [List.mem_singleton.mp hb]; exact ⟨o1, by omega, by omega, n1'⟩⟩ (fun i σ' H' hi h => ?_) (fun σ' H' h => ?_)
      · obtain ⟨cs4, k4, vals, bs, o4, o5, rfl, s4, D4, k4a, k4b, e4, T4, l4, F4⟩ := h
        have hi4 : i < 4 := by omega
        have N4 := N.keep s4 (by simp [na, nc])
        have vl := T4.len
        rw [List.length_map] at vl
        refine gnm ?_
        refine ⟨_, rfl, a, c, cs4, k4, 6, rfl, D4, by decide, by decide, by omega, fun H5 cs5 y s5 D5 y0 y1 => ?_⟩
        have T5 := T4.keep (D4.tk s5)
        have e5 := s5 _ _ (by simp [La, Lc]) e4
        have N5 := N4.keep s5 (by simp [na, nc])
        have s5 := s4.trans s5
        have F5 : Fm ns (i + 1) bs := fun b hb => ⟨(F4 b hb).1, by have := (F4 b hb).2.1; omega, by have := (F4 b hb).2.2.1; omega, (F4 b hb).2.2.2⟩
        -- one more
        have more : ∀ {H6 H7 : Hp} {cs6 : List Int} {k6 : Int} {v6 : V} {b6 : Bk} {σ : L2.St}, σ = [some (.ref a), some (.ref nm), some (.int m), some (.ref L), some (.int (0 + (i : Int))), some (.int y)] → Sx [a, c] H5 H6 → Dk H6 a c cs6 k6 → k4 + 1 ≤ k6 → k6 ≤ k4 + 700025 → Tp H6 v6 (bkD b6) → b6.ok ns 4 → b6.sz ≤ 13 + i → b6.wt ≤ 17 + i → tnn b6 ≤ 4 →
            ∃ l xs, V.ref L = .ref l ∧ [v6] = xs ∧ H6 L = some (.lst vals) ∧ vals.length < sizeLine ∧ ∃ (cs' : List Int) (k' : Int) (vals' : List V) (bs : List Bk) (o4 o5 : Option V), σ = [some (.ref a), some (.ref nm), some (.int m), some (.ref L), o4, o5] ∧ Sx [a, c] H (upd H6 L (.lst (vals ++ xs))) ∧ Dk (upd H6 L (.lst (vals ++ xs))) a c cs' k' ∧ k ≤ k' ∧ k' ≤ k1 + 1 + ((i + 1 : Nat) : Int) * 700025 ∧ (upd H6 L (.lst (vals ++ xs))) L = some (.lst vals') ∧ TpAll (upd H6 L (.lst (vals ++ xs))) vals' (bs.map bkD) ∧ bs.length = i + 1 + 1 ∧ Fm ns (i + 1) bs := fun {H6 H7 cs6 k6 v6 b6 σ} hσ s6 D6 k6a k6b t6 o6 z6 w6 n6 => by
          have e6 := s6 _ _ (by simp [La, Lc]) e5
          have T6 := T5.keep (D5.tk s6)
          refine ⟨L, [v6], rfl, rfl, e6, lt_line (by omega), cs6, k6, vals ++ [v6], bs ++ [b6], _, _, hσ, (s5.trans s6).own hHL, D6.sx ((Sx.refl (ex := [L]) _).put (by simp)) (by simp [La.symm]) (by simp [Lc.symm]), by omega, by omega, upd_same, ?_, by rw [List.length_append, l4]; rfl, fun b hb => ?_⟩
          · rw [List.map_append]
            exact (T6.keep (Tk.lst e6)).append (.cons (t6.keep (Tk.lst e6)) .nil)
          · rcases List.mem_append.1 hb with hb | hb
            · exact F5 b hb
            · rw [(List.mem_singleton.mp hb)]
              exact ⟨o6, by omega, by omega, n6⟩
        refine gnm ?_
        have sqL : vals ≠ [] := fun z => by rw [z] at vl; rw [l4] at vl; simp at vl
        refine ⟨_, rfl, rfl, _, rfl, ite2 (fun _ => ?_) (fun _ => ?_)⟩
        · refine ⟨_, rfl, .inl ⟨rfl, _, SqL.of e5⟩, _, rfl, _, rfl, a, c, cs5, _, _, rfl, D5, by omega, .inl ⟨L, _, rfl, SqL.of e5, sqL, by omega, La, Lc, fun H6 cs6 x s6 D6 hx => ?_⟩⟩
          obtain ⟨d, hd, t⟩ := T5.mem hx
          obtain ⟨b6, hb6, rfl⟩ := List.mem_map.mp hd
          obtain ⟨l, xs, h1, h2, h3, h4, h5⟩ := more (H7 := H6) rfl s6 D6 (by omega) (by omega) (t.keep (D5.tk s6)) (F4 b6 hb6).1 (by have := (F4 b6 hb6).2.1; omega) (by have := (F4 b6 hb6).2.2.1; omega) (F4 b6 hb6).2.2.2
          cases h2
          exact ⟨L, _, _, rfl, rfl, h3, h4, h5⟩
        refine ⟨_, rfl, rfl, _, rfl, ite2 (fun _ => ?_) (fun _ => ?_)⟩
        · refine ⟨_, rfl, .inl ⟨rfl, _, SqL.of e5⟩, _, rfl, _, rfl, a, c, cs5, _, _, rfl, D5, by omega, .inl ⟨L, _, rfl, SqL.of e5, sqL, by omega, La, Lc, fun H6 cs6 x s6 D6 hx => ?_⟩⟩
          obtain ⟨d, hd, t⟩ := T5.mem hx
          obtain ⟨b6, hb6, rfl⟩ := List.mem_map.mp hd
          have t6 : Tp H6 x (.tuple b6.ds) := t.keep (D5.tk s6)
          obtain ⟨ax, xs, rfl, hax, hxs⟩ := t6.tuple
          rw [b6.ds_lst] at hxs
          have xl := hxs.len
          rw [List.length_map] at xl
          -- the slice
          have key : ∀ {H7 : Hp} {v7 : V}, Sx [] H6 H7 → Tp H7 v7 (.tuple ((b6.lst.take 14).map St.d)) → True := fun _ _ => trivial
          clear key
          have cut : cutV xs none (some 14) = xs.take 14 := by
            unfold cutV
            rw [HT.sIx_none, show HT.sIx xs.length xs.length (some 14) = min 14 xs.length from HT.sIx_nat _ _ 14, List.drop_zero, Nat.sub_zero]
            rcases Nat.le_total 14 xs.length with h | h
            · rw [Nat.min_eq_left h]
            · rw [Nat.min_eq_right h, List.take_of_length_le (Nat.le_refl _), List.take_of_length_le h]
          have bl := bk_le b6
          have zb := (F4 b6 hb6).2.1
          have finish : ∀ (H7 H8 : Hp) (v7 : V) (y8 : Int) (cs8 : List Int), Sx [] H6 H7 → Sx [a, c] H7 H8 → Dk H8 a c cs8 (k4 + 1 + 1 + 1) → 0 ≤ y8 → y8 < 3 → Tp H8 v7 (.tuple ((b6.lst.take 14).map St.d)) → ∀ p1, H8 p1 = none → ∀ p2, (upd H8 p1 (.tup [.str "pay", .int (y8 - 1)])) p2 = none →
              ∀ {Qf : V → Hp → Prop}, (∀ H9 z9, Sx [a, c] H5 H9 → Dk H9 a c cs8 (k4 + 1 + 1 + 1) → Tp H9 z9 (bkD (b6.more 14 (y8 - 1))) → Qf z9 H9) → rCatA K v7 (.ref p2) (upd (upd H8 p1 (.tup [.str "pay", .int (y8 - 1)])) p2 (.tup [.ref p1])) Qf := fun H7 H8 v7 y8 cs8 s7 s8 D8 y80 y81 t8 p1 hp1 p2 hp2 Qf h => by
            have n1 : Sx [] H8 (upd (upd H8 p1 (.tup [.str "pay", .int (y8 - 1)])) p2 (.tup [.ref p1])) := (Sx.n0 hp1).new hp2
            have u1 := tpB (tpL H8 "pay" (.int (y8 - 1)) (.int (y8 - 1)) p1 (.int _) hp1) hp2
            refine cat_tp (t8.keep n1.tk0) u1 (by rw [List.length_map, List.length_take]; show _ + 1 ≤ 16777216; omega) (fun H9 z9 s9 _ t9 => ?_)
            refine h H9 z9 (((s6.trans s7.nil).trans s8).trans (n1.trans s9).nil) (D8.same (n1.trans s9)) ?_
            unfold bkD Bk.more
            rw [Bk.ofL_ds, List.map_append]
            exact t9
          have done : ∀ (H9 : Hp) (z9 : V) (y8 : Int) (cs8 : List Int), 0 ≤ y8 → y8 < 3 → Sx [a, c] H5 H9 → Dk H9 a c cs8 (k4 + 1 + 1 + 1) → Tp H9 z9 (bkD (b6.more 14 (y8 - 1))) → ∃ l acc xs, V.ref L = .ref l ∧ [z9] = [xs] ∧ H9 l = some (.lst acc) ∧ acc.length < sizeLine ∧ ∃ (cs' : List Int) (k' : Int) (vals : List V) (bs : List Bk) (o4 o5 : Option V), [some (.ref a), some (.ref nm), some (.int m), some (.ref L), some (.int (0 + (i : Int))), some (.int y)] = [some (.ref a), some (.ref nm), some (.int m), some (.ref L), o4, o5] ∧ Sx [a, c] H (upd H9 l (.lst (acc ++ [xs]))) ∧ Dk (upd H9 l (.lst (acc ++ [xs]))) a c cs' k' ∧ k ≤ k' ∧ k' ≤ k1 + 1 + ((i + 1 : Nat) : Int) * 700025 ∧ (upd H9 l (.lst (acc ++ [xs]))) L = some (.lst vals) ∧ TpAll (upd H9 l (.lst (acc ++ [xs]))) vals (bs.map bkD) ∧ bs.length = i + 1 + 1 ∧ Fm ns (i + 1) bs := fun H9 z9 y8 cs8 y80 y81 s9 D9 t9 => by
            obtain ⟨l, xs, h1, h2, h3, h4, h5⟩ := more (H7 := H9) rfl s9 D9 (by omega) (by omega) t9 (Bk.more_ok (F4 b6 hb6).1 14 (by omega) (by omega)) (by have := Bk.more_sz b6 14 (y8 - 1); omega) (by have := Bk.more_wt b6 14 (y8 - 1); have := (F4 b6 hb6).2.2.1; omega) (by have := Bk.more_tn b6 14 (y8 - 1) true; have := Bk.more_tn b6 14 (y8 - 1) false; have h44 := (F4 b6 hb6).2.2.2; unfold tnn at h44 ⊢; omega)
            cases h2
            exact ⟨L, _, _, rfl, rfl, h3, h4, h5⟩
          refine ⟨14, rfl, ax, xs, rfl, SqT.of hax, fun hw => ?_, fun hw p hp => ?_⟩
          · have e14 : b6.lst.take 14 = b6.lst := List.take_of_length_le (by
              have h := hw.2
              rw [show HT.sIx xs.length xs.length (some 14) = min 14 xs.length from HT.sIx_nat _ _ 14] at h
              omega)
            have t7 : Tp H6 (.ref ax) (.tuple ((b6.lst.take 14).map St.d)) := by rw [e14]; exact .tup hax hxs
            refine ⟨_, rfl, a, c, cs6, _, 3, rfl, D6, by decide, by decide, by omega, fun H8 cs8 y8 s8 D8 y80 y81 => ⟨y8, 1, rfl, rfl, by show 2 ≤ sizeLine; decide, fun p1 hp1 => ⟨by show 1 ≤ sizeLine; decide, fun p2 hp2 => ?_⟩⟩⟩
            exact finish H6 H8 _ y8 cs8 (Sx.refl _) s8 D8 y80 y81 (t7.keep (D6.tk s8)) p1 hp1 p2 hp2 (fun H9 z9 s9 D9 t9 => done H9 z9 y8 cs8 y80 y81 s9 D9 t9)
          · rw [cut]
            have t7 : Tp (upd H6 p (.tup (xs.take 14))) (.ref p) (.tuple ((b6.lst.take 14).map St.d)) := .tup upd_same (by
              have h := (show ∀ {vs : List V} {ds : List PyData} (n : Nat), TpAll H6 vs ds → TpAll H6 (vs.take n) (ds.take n) from fun {vs ds} n h => by
                induction n generalizing vs ds with
                | zero => exact .nil
                | succ n ih =>
                  cases h with
                  | nil => exact .nil
                  | cons h1 h2 => exact .cons h1 (ih h2)) 14 hxs
              rw [List.map_take]
              exact h.new hp)
            refine ⟨_, rfl, a, c, cs6, _, 3, rfl, D6.new hp, by decide, by decide, by omega, fun H8 cs8 y8 s8 D8 y80 y81 => ⟨y8, 1, rfl, rfl, by show 2 ≤ sizeLine; decide, fun p1 hp1 => ⟨by show 1 ≤ sizeLine; decide, fun p2 hp2 => ?_⟩⟩⟩
            exact finish _ H8 _ y8 cs8 (Sx.n0 hp) s8 D8 y80 y81 (t7.keep ((D6.new hp).tk s8)) p1 hp1 p2 hp2 (fun H9 z9 s9 D9 t9 => done H9 z9 y8 cs8 y80 y81 s9 D9 t9)
        · refine ⟨_, rfl, .inl ⟨rfl, _, SqL.of e5⟩, _, rfl, _, rfl, a, c, cs5, _, nm, ns, rfl, D5, N5, na, nc, by omega, fun H6 cs6 k6 v6 b6 s6 D6 k6a k6b T6 o6 z6 w6 n6 => ?_⟩
          obtain ⟨l, xs, h1, h2, h3, h4, h5⟩ := more (H7 := H6) rfl s6 D6 (by omega) (by omega) T6 o6 (by omega) (by omega) n6
          cases h2
          exact ⟨L, _, _, rfl, rfl, h3, h4, h5⟩
      · obtain ⟨cs4, k4, vals, bs, o4, o5, rfl, s4, D4, k4a, k4b, e4, T4, l4, F4⟩ := h
        exact ⟨cs4, k4, vals, bs, _, _, rfl, s4, D4, k4a, by omega, e4, T4, by intro z; rw [z] at l4; simp at l4, by omega, fun b hb => ⟨(F4 b hb).1, by have := (F4 b hb).2.1; omega, by have := (F4 b hb).2.2.1; omega, (F4 b hb).2.2.2⟩⟩
    · rintro _ H4 ⟨cs4, k4, vals, bs, o4, o5, rfl, s4, D4, k4a, k4b, e4, T4, b1', l4, F4⟩
      refine ⟨_, rfl, L, _, rfl, .inl ⟨SqL.of e4, fun p hp => ?_⟩⟩
      exact q _ cs4 k4 _ bs (s4.new hp) (D4.new hp) k4a k4b (.tup upd_same (T4.new hp)) b1' l4 F4
end
theorem gIfF {F : Hp → Prop} {t : TT} {a : TS} {D : Ends} {σ : L2.St} {H : Hp} (ht : ∀ Q : Bool → Hp → Prop, (∀ H', F H' → Q false H') → t σ H Q) (hb : ∀ H', F H' → D.nx σ H') : tIfS t a tNext D σ H := ht _ fun H' h => iteF (hb H' h)
theorem gIf2 {F G : Hp → Prop} {t : TT} {a : TS} {D : Ends} {σ : L2.St} {H : Hp} (ht : ∀ Q : Bool → Hp → Prop, (∀ H', F H' → Q true H') → (∀ H', G H' → Q false H') → t σ H Q) (ha : ∀ H', F H' → a D σ H') (hb : ∀ H', G H' → D.nx σ H') : tIfS t a tNext D σ H := ht _ (fun H' h => iteT (ha H' h)) (fun H' h => iteF (hb H' h))
theorem gSeqAsg {te : TE} {g : TG} {u : TS} {D : Ends} {σ : L2.St} {H : Hp} (h : te σ H fun x H1 => g x σ H1 (u D)) : tSeq (tAsg te g) u D σ H := h
theorem gAsg {te : TE} {g : TG} {D : Ends} {σ : L2.St} {H : Hp} (h : te σ H fun x H1 => g x σ H1 D.nx) : tAsg te g D σ H := h
theorem gRet {te : TE} {D : Ends} {σ : L2.St} {H : Hp} (h : te σ H D.rt) : tRet te D σ H := h
theorem gCall {sp : Sp} {dvs : List V} {E : XK} {t : TA} {σ : L2.St} {H : Hp} {Q : VK} (h : t σ H fun vs H1 => sp (vs ++ dvs) H1 Q E) : tCall sp dvs E t σ H Q := h
theorem gVar {i : Nat} {v : V} {σ : L2.St} {H : Hp} {Q : VK} (e : σ[i]? = some (some v)) (h : Q v H) : tVar i σ H Q := ⟨v, e, h⟩
/-! ### tables of sets, up to a mask of 511: where the slots lie -/
def orbL (m : Nat) : Nat → Nat → List Nat
  | 0, _ => []
  | n + 1, x => x :: orbL m n ((x * 5 + 1) % (m + 1))
def nodB : List Nat → Nat → Bool
  | [], _ => true
  | x :: l, b => !b.testBit x && nodB l (b ||| 2 ^ x)
theorem nodB_ok : ∀ (l : List Nat) (b : Nat), nodB l b = true → l.Nodup ∧ ∀ x ∈ l, b.testBit x = false
  | [], _, _ => ⟨List.nodup_nil, fun _ h => nomatch h⟩
  | x :: l, b, h => by
    rw [nodB, Bool.and_eq_true] at h
    obtain ⟨h1, h2⟩ := nodB_ok l _ h.2
    have h3 : b.testBit x = false := by simpa using h.1
    have h4 : ∀ y ∈ l, b.testBit y = false ∧ (2 ^ x).testBit y = false := fun y hy => by
      have := h2 y hy
      rw [Nat.testBit_or, Bool.or_eq_false_iff] at this
      exact this
    refine ⟨List.nodup_cons.mpr ⟨fun hx => ?_, h1⟩, fun y hy => ?_⟩
    · have := (h4 x hx).2
      rw [Nat.testBit_two_pow_self] at this
      cases this
    · rcases List.mem_cons.1 hy with rfl | hy
      · exact h3
      · exact (h4 y hy).1
theorem orbL_len (m : Nat) : ∀ n x, (orbL m n x).length = n
  | 0, _ => rfl
  | n + 1, x => by rw [orbL, List.length_cons, orbL_len m n]
theorem lcgI_shift (m x : Nat) : ∀ k, lcgI m ((x * 5 + 1) % (m + 1)) k = lcgI m x (k + 1)
  | 0 => rfl
  | k + 1 => by
    show (lcgI m ((x * 5 + 1) % (m + 1)) k * 5 + 1) % (m + 1) = (lcgI m x (k + 1) * 5 + 1) % (m + 1)
    rw [lcgI_shift m x k]
theorem orbL_mem (m : Nat) : ∀ (n x y : Nat), y ∈ orbL m n x → ∃ k, k < n ∧ lcgI m x k = y
  | n + 1, x, y, h => by
    rcases List.mem_cons.1 (show y ∈ x :: orbL m n ((x * 5 + 1) % (m + 1)) from h) with rfl | h
    · exact ⟨0, Nat.succ_pos _, rfl⟩
    · obtain ⟨k, hk, e⟩ := orbL_mem m n _ y h
      exact ⟨k + 1, Nat.succ_lt_succ hk, by rw [← lcgI_shift]; exact e⟩
theorem orbL_le (m : Nat) : ∀ (n x : Nat), x ≤ m → ∀ y ∈ orbL m n x, y ≤ m
  | n + 1, x, hx, y, h => by
    rcases List.mem_cons.1 (show y ∈ x :: orbL m n ((x * 5 + 1) % (m + 1)) from h) with rfl | h
    · exact hx
    · exact orbL_le m n _ (Nat.le_of_lt_succ (Nat.mod_lt _ (Nat.succ_pos _))) y h
def MaskD (m : Nat) : Prop := m = 7 ∨ m = 31 ∨ m = 127 ∨ m = 511
theorem mask_orb {m : Nat} (h : MaskD m) : nodB (orbL m (m + 1) 0) 0 = true ∧ lcgI m 0 (m + 1) = 0 := by
  rcases h with rfl | rfl | rfl | rfl
  · exact ⟨by decide +kernel, by decide +kernel⟩
  · exact ⟨by decide +kernel, by decide +kernel⟩
  · exact ⟨by decide +kernel, by decide +kernel⟩
  · exact ⟨by decide +kernel, by decide +kernel⟩
theorem lcgI_add (m x a : Nat) : ∀ k, lcgI m (lcgI m x a) k = lcgI m x (a + k)
  | 0 => rfl
  | k + 1 => by
    show (lcgI m (lcgI m x a) k * 5 + 1) % (m + 1) = (lcgI m x (a + k) * 5 + 1) % (m + 1)
    rw [lcgI_add m x a k]
theorem orb_all {m : Nat} (hm : MaskD m) {j : Nat} (hj : j ≤ m) : ∃ k, k ≤ m ∧ lcgI m 0 k = j := by
  obtain ⟨h1, _⟩ := mask_orb hm
  have nd := (nodB_ok _ _ h1).1
  refine Classical.byContradiction fun z => ?_
  have no : j ∉ orbL m (m + 1) 0 := fun hx => by
    obtain ⟨k, hk, e⟩ := orbL_mem m _ _ _ hx
    exact z ⟨k, Nat.le_of_lt_succ hk, e⟩
  have := nat_nodup_len (j :: orbL m (m + 1) 0) (List.range (m + 1)) (List.nodup_cons.mpr ⟨no, nd⟩) fun y hy => by
    rcases List.mem_cons.1 hy with rfl | hy
    · exact List.mem_range.mpr (Nat.lt_succ_of_le hj)
    · exact List.mem_range.mpr (Nat.lt_succ_of_le (orbL_le m _ 0 (Nat.zero_le _) y hy))
  rw [List.length_cons, orbL_len, List.length_range] at this
  omega
/-- from any slot to any other -/
theorem orb_any {m : Nat} (hm : MaskD m) {i j : Nat} (hi : i ≤ m) (hj : j ≤ m) : ∃ k, k ≤ m ∧ lcgI m i k = j := by
  obtain ⟨a, ha, rfl⟩ := orb_all hm hi
  obtain ⟨b, hb, rfl⟩ := orb_all hm hj
  have turn : ∀ k, lcgI m 0 (m + 1 + k) = lcgI m 0 k := fun k => by rw [← lcgI_add, (mask_orb hm).2]
  by_cases c : a ≤ b
  · exact ⟨b - a, by omega, by rw [lcgI_add, show a + (b - a) = b by omega]⟩
  · exact ⟨m + 1 + b - a, by omega, by rw [lcgI_add, show a + (m + 1 + b - a) = m + 1 + b by omega, turn]⟩
theorem run_any {m : Nat} (hm : MaskD m) (h : Int) {j : Nat} (hj : j ≤ m) : ∃ n, n ≤ m + 12 ∧ runI m (SetTable.bits h) n = j := by
  obtain ⟨k, hk, e⟩ := orb_any hm (runI_le m (SetTable.bits h) 12) hj
  exact ⟨12 + k, by omega, (runI_tail (bits_lt h) k).trans e⟩
theorem way_any {m : Nat} (hm : MaskD m) (h : Int) {j : Nat} (hj : j ≤ m) : ∃ k, k < 10 * SetTable.turns m ∧ way m h k = j := by
  obtain ⟨n, hn, rfl⟩ := run_any hm h hj
  obtain ⟨k, hk, e⟩ := run_nth m (SetTable.bits h) n
  have ht : SetTable.turns m = m + 15 := rfl
  exact ⟨k, by omega, congrArg SetTable.Probe.j e⟩
theorem way_in (m : Nat) (h : Int) (k : Nat) : way m h k ≤ m := by
  have r := runEnd_bd (m := m) (i := SetTable.bits h % (m + 1)) (Nat.le_of_lt_succ (Nat.mod_lt _ (Nat.succ_pos _)))
  have := nth_in (m := m) k (runAt m (SetTable.bits h % (m + 1)) (SetTable.bits h)) (by
    show (SetTable.bits h % (m + 1) + (SetTable.runEnd m (SetTable.bits h % (m + 1)) - SetTable.bits h % (m + 1)) ≤ m)
    omega)
  exact Nat.le_trans (Nat.le_add_right _ _) this
/-- a table of so many, none of them dropped -/
structure TabD (t : SetTable) (n : Nat) : Prop where
  ris : Ris t.place.toList
  dm : t.dummies = #[]
  sz : t.place.size = n
  mok : MaskD t.mask
  bd : ∀ j, j ∈ t.place.toList → j ≤ t.mask
theorem TabD.free {t : SetTable} {n : Nat} (T : TabD t n) (hn : n ≤ t.mask) (h : Int) : ∃ K, K < 10 * SetTable.turns t.mask ∧ way t.mask h K ∉ t.place.toList ∧ ∀ k, k < K → way t.mask h k ∈ t.place.toList := by
  obtain ⟨j, hj, no⟩ := st_missing t.place.toList (t.mask + 1) (by rw [Array.length_toList, T.sz]; omega)
  obtain ⟨k, hk, rfl⟩ := way_any T.mok h (Nat.le_of_lt_succ hj)
  obtain ⟨K, h1, h2, h3⟩ := st_least (p := fun k => way t.mask h k ∉ t.place.toList) k no
  exact ⟨K, Nat.lt_of_le_of_lt h1 hk, h2, fun c hc => Classical.byContradiction fun z => h3 c hc z⟩
theorem TabD.put {t : SetTable} {n j : Nat} (T : TabD t n) (hj : j ≤ t.mask) (no : j ∉ t.place.toList) : SetTable.below t.place j ≤ n ∧ TabD (t.put j).1 (n + 1) ∧ (t.put j).1.fill = n + 1 := by
  have c1 : SetTable.below t.place j ≤ t.place.size := (below_cut T.ris j).1
  have pl := put_place t j
  have size : (t.put j).1.place.size = n + 1 := by
    rw [← Array.length_toList, pl, len_ins _ (by rw [Array.length_toList]; exact c1), Array.length_toList, T.sz]
  refine ⟨by rw [← T.sz]; exact c1, ⟨ris_insert T.ris fun e => no (List.mem_of_getElem? (by rw [Array.getElem?_toList]; exact e)), put_dm T.dm j, size, T.mok, fun x hx => ?_⟩, ?_⟩
  · rw [pl] at hx
    rcases mem_ins.1 hx with rfl | hx
    · exact hj
    · exact T.bd x hx
  · show (t.put j).1.place.size + (t.put j).1.dummies.size = n + 1
    rw [size, put_dm T.dm j]
    rfl
/-! ### laid anew -/
theorem free_any {m : Nat} (hm : MaskD m) {ow : Array (Option Nat)} (h : Int) {j : Nat} (hj : j ≤ m) (hf : oAt ow j = none) :
    ∃ i, i ≤ m ∧ SetTable.layClean.free m ow (SetTable.turns m) (SetTable.bits h % (m + 1)) (SetTable.bits h) = some i ∧ oAt ow i = none := by
  obtain ⟨n, hn, e⟩ := run_any hm h hj
  have ht : SetTable.turns m = m + 15 := rfl
  have at_ : way m h (off m (SetTable.bits h % (m + 1)) (SetTable.bits h) n) = j := by
    unfold way
    rw [nth_off, itL_run]
    exact e
  obtain ⟨K, k1, k2, k3⟩ := st_least (p := fun k => oAt ow (way m h k) = none) _ (show oAt ow (way m h (off m (SetTable.bits h % (m + 1)) (SetTable.bits h) n)) = none by rw [at_]; exact hf)
  refine ⟨way m h K, way_in m h K, free_spec m ow _ n _ _ K (by omega) k1 (fun k hk => ?_) (by rw [show oAt ow (nth m (runAt m (SetTable.bits h % (m + 1)) (SetTable.bits h)) K).j = none from k2]; rfl), k2⟩
  have no : ¬ oAt ow (way m h k) = none := k3 k hk
  show (oAt ow (way m h k)).isNone = false
  cases z : oAt ow (way m h k) with
  | none => exact absurd z no
  | some _ => rfl
structure OwnD (m n : Nat) (ow : Array (Option Nat)) : Prop where
  sz : ow.size = m + 1
  has : ∀ k, k < n → ∃ j, j ≤ m ∧ oAt ow j = some k
  few : ∃ ps : List Nat, ps.length = n ∧ ∀ j, j ≤ m → oAt ow j ≠ none → j ∈ ps
theorem OwnD.step {m n : Nat} {ow : Array (Option Nat)} (hm : MaskD m) (O : OwnD m n ow) (hn : n ≤ m) (h : Int) :
    ∃ i, SetTable.layClean.free m ow (SetTable.turns m) (SetTable.bits h % (m + 1)) (SetTable.bits h) = some i ∧ OwnD m (n + 1) (ow.setIfInBounds i (some n)) := by
  obtain ⟨ps, pl, pi⟩ := O.few
  obtain ⟨j, hj, no⟩ := st_missing ps (m + 1) (by omega)
  have hj := Nat.le_of_lt_succ hj
  obtain ⟨i, hi, e, en⟩ := free_any hm h hj (Classical.byContradiction fun z => no (pi j hj z))
  have il : i < ow.size := by rw [O.sz]; exact Nat.lt_succ_of_le hi
  refine ⟨i, e, by rw [Array.size_setIfInBounds]; exact O.sz, fun k hk => ?_, ⟨i :: ps, by rw [List.length_cons, pl], fun a ha z => ?_⟩⟩
  · by_cases c : k = n
    · exact ⟨i, hi, by rw [oAt_set_self _ il, c]⟩
    · obtain ⟨a, ha, ea⟩ := O.has k (by omega)
      exact ⟨a, ha, by rw [oAt_set_ne _ (fun q => by rw [q, en] at ea; cases ea)]; exact ea⟩
  · by_cases c : a = i
    · rw [c]; exact List.mem_cons_self ..
    · rw [oAt_set_ne _ c] at z
      exact List.mem_cons_of_mem _ (pi a ha z)
theorem own_fold {m : Nat} (hm : MaskD m) : ∀ (hs : List Int) (n : Nat) (ow : Array (Option Nat)), OwnD m n ow → n + hs.length ≤ m → ∃ ow', hs.foldl (stepF m) (some (ow, n)) = some (ow', n + hs.length) ∧ OwnD m (n + hs.length) ow'
  | [], n, ow, O, _ => ⟨ow, rfl, O⟩
  | h :: hs, n, ow, O, hl => by
    rw [List.length_cons] at hl ⊢
    obtain ⟨i, e, O1⟩ := O.step hm (by omega) h
    obtain ⟨ow', e2, O2⟩ := own_fold hm hs (n + 1) _ O1 (by omega)
    rw [show n + 1 + hs.length = n + (hs.length + 1) by omega] at e2 O2
    exact ⟨ow', by rw [List.foldl_cons, stepF_some e]; exact e2, O2⟩
theorem own_laid {m : Nat} (hm : MaskD m) {hs : Array Int} (hn : hs.size ≤ m) : ∃ ow, SetTable.layClean m hs = some ow ∧ OwnD m hs.size ow := by
  have O0 : OwnD m 0 (Array.replicate (m + 1) none) := ⟨by simp, fun k hk => absurd hk (Nat.not_lt_zero _), [], rfl, fun j hj z => absurd (oAt_init hj) z⟩
  obtain ⟨ow, e, O⟩ := own_fold hm hs.toList 0 _ O0 (by rw [Array.length_toList]; omega)
  rw [Array.length_toList, Nat.zero_add] at e O
  exact ⟨ow, by rw [layClean_eq, e]; rfl, O⟩
theorem relaid_d (t : SetTable) {hs : Array Int} {wanted M : Nat} (hw : SetTable.sizeAbove wanted - 1 = M) (hM : MaskD M) (hn : hs.size ≤ M) :
    ∃ t' order, t.relaid hs wanted = some (t', order) ∧ order.toList.Perm (List.range hs.size) ∧ TabD t' hs.size ∧ t'.mask = M ∧ t'.led = t.led ∧ t'.plain = t.plain := by
  obtain ⟨ow, e, O⟩ := own_laid hM hn
  obtain ⟨r1, r2⟩ := ris_live (fun j => ow.getD j none) (List.range (M + 1)) (by unfold Ris; exact List.pairwise_lt_range)
  have r1 : Ris ((liveOf M ow).map (·.1)) := r1
  have r2 : ∀ x ∈ (liveOf M ow).map (·.1), x ∈ List.range (M + 1) := r2
  have len : (liveOf M ow).length = hs.size := by
    obtain ⟨ps, p1, p2⟩ := O.few
    have nd1 : ((liveOf M ow).map (·.1)).Nodup := List.Pairwise.imp (fun h => Nat.ne_of_lt h) r1
    have a := nat_nodup_len ((liveOf M ow).map (·.1)) ps nd1 fun x hx => by
      obtain ⟨⟨y, k⟩, hq, rfl⟩ := List.mem_map.mp hx
      obtain ⟨b1, b2⟩ := (mem_live O.sz).1 hq
      exact p2 y b1 (by rw [b2]; simp)
    have b := nat_nodup_len (List.range hs.size) ((liveOf M ow).map (·.2)) List.nodup_range fun k hk => by
      obtain ⟨j, b1, b2⟩ := O.has k (List.mem_range.mp hk)
      exact List.mem_map.mpr ⟨(j, k), (mem_live O.sz).2 ⟨b1, b2⟩, rfl⟩
    rw [List.length_map, p1] at a
    rw [List.length_range, List.length_map] at b
    omega
  refine ⟨tabOf t M ow, ((liveOf M ow).map (·.2)).toArray, by rw [relaid_eq, hw, e]; rfl, perm_range _ _ (by show ((liveOf M ow).map (·.2)).length = _; rw [List.length_map, len]) fun k hk => ?_, ⟨r1, rfl, ?_, hM, fun x hx => Nat.le_of_lt_succ (List.mem_range.mp (r2 x hx))⟩, rfl, rfl, rfl⟩
  · obtain ⟨j, b1, b2⟩ := O.has k hk
    exact List.mem_map.mpr ⟨(j, k), (mem_live O.sz).2 ⟨b1, b2⟩, rfl⟩
  · show ((liveOf M ow).map (·.1)).toArray.size = _
    rw [List.size_toArray, List.length_map, len]
theorem grow_7 : SetTable.sizeAbove (SetTable.grown 5) - 1 = 31 ∧ SetTable.sizeAbove (SetTable.grown 5) ≤ 512 := by decide +kernel
theorem grow_31 : SetTable.sizeAbove (SetTable.grown 19) - 1 = 127 ∧ SetTable.sizeAbove (SetTable.grown 19) ≤ 512 := by decide +kernel
theorem grow_127 : SetTable.sizeAbove (SetTable.grown 77) - 1 = 511 ∧ SetTable.sizeAbove (SetTable.grown 77) ≤ 512 := by decide +kernel
/-! ### a set of unlike tuples: one more put in -/
structure SetD (P : Program) (w : World) (h : Heap) (a : Addr) (L : List (Addr × List Int)) (es : Array (Int × Value)) (ep : Nat) (t : SetTable) : Prop where
  ob : ∃ v, h.get? a = some v ∧ v.ExactSet ∧ v.data = .set es ep t
  rows : (es.toList : List (Int × Value)) = rowsOf P w L
  tab : TabD t L.length
  nd : (L.map (·.2)).Nodup
  tup : ∀ q ∈ L, IsT P w h q.2 q.1
  plain : t.plain = true
  led : (w.params.followText "set-order") = true ∨ t.led = true
  room : (L.length * 5) < t.mask * 3
  few : L.length < 300
section
variable {P : Program} {w : World} {A : Around} {E : Value → Shared → Prop} {s : Shared} {a : Addr} {L : List (Addr × List Int)} {es : Array (Int × Value)} {ep : Nat} {t : SetTable}
theorem SetD.size (R : SetD P w s.heap a L es ep t) : es.size = L.length := by
  rw [← Array.length_toList, R.rows, rowsOf, List.length_map]
theorem TabD.fits {n : Nat} (T : TabD t n) (h : n ≤ t.mask) : t.fits n = true := by
  (unfold SetTable.fits SetTable.fill)
  rw [T.dm, T.sz, Bool.and_eq_true]
  exact ⟨beq_self_eq_true n, decide_eq_true (by show n + 0 ≤ _; omega)⟩
theorem SetD.fits (R : SetD P w s.heap a L es ep t) : t.fits es.size = true := by
  have := R.room
  rw [R.size]
  exact R.tab.fits (by omega)
theorem SetD.entry (R : SetD P w s.heap a L es ep t) {i : Nat} {p : Addr × List Int} (h : L[i]? = some p) : es[i]? = some (thash P w p.2, Value.ref p.1) := by
  rw [← Array.getElem?_toList, R.rows, rowsOf, List.getElem?_map, h]
  rfl
theorem TabD.stays {n : Nat} (T : TabD t n) : ¬ t.gaveWay = true := by
  unfold SetTable.gaveWay
  rcases T.mok with e | e | e | e <;> (rw [e]; decide)
theorem nth_dummy (m : Nat) : ∀ (n : Nat) (p : SetTable.Probe), p.dummy = none → (nth m p n).dummy = none
  | 0, _, h => h
  | n + 1, p, h => nth_dummy m n (adv m p) (by unfold adv; split <;> exact h)
/-- the first state of the way of a hash -/
abbrev way0 (m : Nat) (h : Int) : SetTable.Probe := runAt m (SetTable.bits h % (m + 1)) (SetTable.bits h)
/-- what is in no entry is not found: an empty slot is -/
theorem search_d (R : SetD P w s.heap a L es ep t) {x : Addr} {k : List Int} (hx : IsT P w s.heap k x) (hu : A.units < cLine) (hm : k ∉ L.map (·.2)) {K : Nat} (K1 : K < 10 * SetTable.turns t.mask)
    (K2 : way t.mask (thash P w k) K ∉ t.place.toList) (K3 : ∀ c, c < K → way t.mask (thash P w k) c ∈ t.place.toList) {Q : SetFound → Shared → Prop} (hQ : Q (.free (way t.mask (thash P w k) K) false) s) :
    ∀ (f c : Nat) (at_ : Option SetTable.Probe), at_.getD (t.probeStart (thash P w k)) = nth t.mask (way0 t.mask (thash P w k)) c → c ≤ K → K - c < f → wpAny (model P w) A (setSearchFrom a (.ref x) (thash P w k) true f at_) Q E s
  | 0, _, _, _, _, hf => absurd hf (Nat.not_lt_zero _)
  | f + 1, c, at_, e0, hc, hf => by
    rcases R.ob with ⟨o, ho, hex, hd⟩
    have shift : ∀ q, nth t.mask (nth t.mask (way0 t.mask (thash P w k)) c) q = nth t.mask (way0 t.mask (thash P w k)) (c + q) := fun q => (nth_add t.mask c _ q).symm
    have shj : ∀ q, (nth t.mask (nth t.mask (way0 t.mask (thash P w k)) c) q).j = way t.mask (thash P w k) (c + q) := fun q => congrArg SetTable.Probe.j (shift q)
    have spec := go_spec t R.tab.ris R.tab.dm (fun i => (es[i]?.map (·.1)).getD 0) (thash P w k) (10 * SetTable.turns t.mask) (K - c) (nth t.mask (way0 t.mask (thash P w k)) c) (nth_dummy _ _ _ rfl) (by omega)
      (fun q hq => by rw [shj]; exact K3 _ (by omega)) (by rw [shj, show c + (K - c) = K by omega]; exact K2)
    rw [setSearchFrom_succ]
    refine (wpAny_bind (wpAny_setState_of ho hd R.fits ?_))
    dsimp only
    refine wp_if_neg R.tab.stays ?_
    rcases spec with ⟨q, i, hq, hi, _, _, pr⟩ | ⟨_, pr⟩
    · -- an entry with this hash, another tuple
      rw [shj] at hi
      have pr2 : t.probe (fun i => (es[i]?.map (·.1)).getD 0) (thash P w k) (at_.getD (t.probeStart (thash P w k))) = some (.candidate (way t.mask (thash P w k) (c + q)) i (nth t.mask (way0 t.mask (thash P w k)) (c + (q + 1)))) := by
        rw [e0, ← shj, ← shift]
        exact pr
      rw [pr2]
      dsimp only
      obtain ⟨p, hp⟩ : ∃ p, L[i]? = some p := by
        have h1 := (List.getElem?_eq_some_iff.mp hi).1
        rw [Array.length_toList, R.tab.sz] at h1
        exact ⟨_, List.getElem?_eq_getElem h1⟩
      have mp : p ∈ L := List.mem_of_getElem? hp
      have ne : ¬ p.2 = k := fun e => hm (List.mem_map.mpr ⟨p, mp, e⟩)
      have on : wpAny (model P w) A (searchRest a (.ref x) (thash P w k) true f es t (way t.mask (thash P w k) (c + q)) i (nth t.mask (way0 t.mask (thash P w k)) (c + (q + 1)))) Q E s := by
        have slot := slot_live R.tab.ris hi
        unfold searchRest
        rw [R.entry hp]
        dsimp only
        refine wpAny_bind (wpAny_holding (wpAny_eqBool_tuple hu (R.tup p mp) hx ?_))
        refine (wpAny_bind (wpAny_setState_of ho hd R.fits ?_))
        dsimp only
        refine wp_if_neg (by simp [ne]) ?_
        rw [sameMem]
        dsimp only
        simp only [if_true, slot, R.entry hp]
        refine (wpAny_bind (wpAny_isSame_ref_self (wpAny_bind (wpAny_pure ?_))))
        simp only [if_true]
        refine wp_if_neg (by simp [ne]) ?_
        exact search_d R hx hu hm K1 K2 K3 hQ f (c + (q + 1)) _ rfl (by omega) (by omega)
      by_cases hl : t.led = true
      · refine (wp_if_neg (by simp [hl]) ?_)
        exact on
      · refine (wp_if_pos (by simp [hl]) ?_)
        refine (wpAny_bind (seen_tup hx (fun y hy => ?_) ?_))
        · obtain ⟨e, he, rfl⟩ := List.mem_map.mp hy
          have he2 : e ∈ es.toList := by
            have : e ∈ es ∧ e.1 = thash P w k := by simpa using he
            simpa using this.1
          rw [R.rows] at he2
          obtain ⟨p2, h2, rfl⟩ := List.mem_map.mp he2
          exact ⟨p2.2, p2.1, rfl, R.tup p2 h2⟩
        · refine (wp_if_neg (by decide) ?_)
          exact on
    · have pr2 : t.probe (fun i => (es[i]?.map (·.1)).getD 0) (thash P w k) (at_.getD (t.probeStart (thash P w k))) = some (.empty (way t.mask (thash P w k) K) none) := by
        rw [e0]
        refine pr.trans ?_
        rw [shj, show c + (K - c) = K by omega]
      rw [pr2]
      dsimp only
      exact wpAny_pure hQ
theorem find_d (R : SetD P w s.heap a L es ep t) {x : Addr} {k : List Int} (hx : IsT P w s.heap k x) (hu : A.units < cLine) (hm : k ∉ L.map (·.2)) {Q : SetFound → Shared → Prop} (hQ : ∀ j, j ≤ t.mask → j ∉ t.place.toList → Q (.free j false) s) : wpAny (model P w) A (setSearch a (.ref x) (thash P w k) true) Q E s := by
  have hr := R.room
  obtain ⟨K, K1, K2, K3⟩ := R.tab.free (by omega) (thash P w k)
  have tm : SetTable.turns t.mask = t.mask + 15 := rfl
  have big : t.mask ≤ 511 := by rcases R.tab.mok with e | e | e | e <;> omega
  unfold setSearch
  exact search_d R hx hu hm K1 K2 K3 (hQ _ (way_in _ _ _) K2) 100000 0 none rfl (Nat.zero_le _) (by omega)
/-- laid anew in a larger table -/
theorem relay_d {o : Obj} (ho : s.heap.get? a = some o) (hex : o.ExactSet) (hd : o.data = .set es ep t) (hrows : es.toList = rowsOf P w L) (T : TabD t L.length) (hfl : L.length ≤ t.mask) (nd : (L.map (·.2)).Nodup) (tup : ∀ p ∈ L, IsT P w s.heap p.2 p.1) (pl : t.plain = true)
    (ld : w.params.followText "set-order" = true ∨ t.led = true) (few : L.length < 300) {wanted M : Nat} (hw : SetTable.sizeAbove wanted - 1 = M ∧ SetTable.sizeAbove wanted ≤ 512) (hM : MaskD M) (hn : L.length * 5 < M * 3) {Q : Unit → Shared → Prop}
    (hQ : ∀ h' L' es' ep' t', Heap.SameBut a s.heap h' → SetD P w h' a L' es' ep' t' → L'.Perm L → Q () { s with heap := h' }) : wpAny (model P w) A (setRelay a wanted) Q E s := by
  have sz : es.size = L.length := by rw [← Array.length_toList, hrows, rowsOf, List.length_map]
  obtain ⟨t', order, e, pm, T', em, el, ep'⟩ := relaid_d t (hs := es.map (·.1)) (wanted := wanted) hw.1 hM (by rw [Array.size_map, sz]; omega)
  rw [Array.size_map, sz] at pm T'
  obtain ⟨L2, r1, r2, _⟩ := order_rows L es order hrows pm
  have sz2 : (order.filterMap (es[·]?)).size = es.size := by rw [← Array.length_toList, r1, rowsOf, List.length_map, r2.length_eq, sz]
  rw [setRelay_eq]
  refine wpAny_bind (wpAny_setState_of ho hd (by rw [sz]; exact T.fits hfl) ?_)
  dsimp only
  refine wp_if_neg (by have := hw.2; rw [sizeLine_eq]; omega) ?_
  rw [e]
  dsimp only
  refine wpAny_bind ?_
  refine wp_if_neg (by rw [sz2]; simp) ?_
  refine wpAny_pure ?_
  dsimp only
  refine wpAny_storeSet_of ho hd ?_ (by rw [sz2, sz, sizeLine_eq]; omega)
  have sb : (Heap.SameBut a s.heap (s.heap.update a (Obj.putSet (order.filterMap (es[·]?)) t'))) := Heap.SameBut.update ..
  refine hQ _ L2 _ (ep + 1) t' sb ⟨⟨_, store_at ho hd, ⟨hex.1, hex.2.1, hex.2.2⟩, rfl⟩, r1, by rw [r2.length_eq]; exact T', (r2.map (·.2)).nodup_iff.mpr nd, fun p hp => isT_same (tup p (r2.mem_iff.mp hp)) ho hd sb, by rw [ep']; exact pl, by rw [el]; exact ld, by rw [r2.length_eq, em]; exact hn, by rw [r2.length_eq]; exact few⟩ r2
theorem add_d (R : SetD P w s.heap a L es ep t) {x : Addr} {k : List Int} (hx : IsT P w s.heap k x) (hu : A.units < cLine) (hm : k ∉ L.map (·.2)) (hfew : L.length + 1 < 300) {Q : Bool → Shared → Prop}
    (hQ : ∀ h' L' es' ep' t', Heap.SameBut a s.heap h' → SetD P w h' a L' es' ep' t' → L'.Perm ((x, k) :: L) → Q true { s with heap := h' }) : wpAny (model P w) A (setAddHashed a (.ref x) (thash P w k)) Q E s := by
  rcases R.ob with ⟨o, ho, hex, hd⟩
  have sz := R.size
  have hr := R.room
  unfold setAddHashed
  refine wpAny_holding ?_
  rw [show (100000 : Nat) = 99999 + 1 from rfl]; rw [setAddHashedIn_succ]
  refine (wpAny_bind (wpAny_setState_of ho hd R.fits ?_))
  dsimp only
  refine (wp_if_neg (by simp [byScan, Value.scannable]) ?_)
  refine wpAny_bind (find_d R hx hu hm fun j hj no => ?_)
  dsimp only
  refine (wpAny_bind (wpAny_setState_of ho hd R.fits ?_))
  dsimp only
  obtain ⟨b1, T1, fl⟩ := R.tab.put hj no
  have p1 : (t.put j).1.plain = true := R.plain
  have m1 : (t.put j).1.mask = t.mask := rfl
  have l1 : (t.put j).1.led = t.led := rfl
  have q2 : (t.put j).2 = SetTable.below t.place j := rfl
  generalize t.put j = pt at T1 fl p1 m1 l1 q2 ⊢
  obtain ⟨t1, p⟩ := pt
  dsimp only at T1 fl p1 m1 l1 q2 ⊢
  subst q2
  generalize SetTable.below t.place j = p at b1 ⊢
  first
    | (refine wpAny_bind ?_; refine wp_if_pos p1 ?_; refine hashBy_tup hx ?_)
    | refine wp_if_pos p1 (wpAny_bind (hashBy_tup hx ?_))
  simp only [if_true]
  have r1 : (SetTable.insertAt es p (thash P w k, Value.ref x)).toList = rowsOf P w (L.take p ++ (x, k) :: L.drop p) := by rw [SetTable.toList_insertAt, rows_put, R.rows]
  have pm := (put_perm L p (x, k))
  have len : (L.take p ++ (x, k) :: L.drop p).length = L.length + 1 := pm.length_eq
  have nd1 : ((L.take p ++ (x, k) :: L.drop p).map (·.2)).Nodup := (pm.map (·.2)).nodup_iff.mpr (by rw [List.map_cons]; exact List.nodup_cons.mpr ⟨hm, R.nd⟩)
  have sz1 : (SetTable.insertAt es p (thash P w k, Value.ref x)).size = L.length + 1 := by rw [← Array.length_toList, r1, rowsOf, List.length_map, len]
  generalize SetTable.insertAt es p (thash P w k, Value.ref x) = es1 at r1 sz1 ⊢
  generalize L.take p ++ (x, k) :: L.drop p = L1 at pm len nd1 r1
  rw [← len] at T1
  refine wpAny_bind (wpAny_storeSet_of ho hd ?_ (by rw [sz1, sizeLine_eq]; omega))
  have sb : (Heap.SameBut a s.heap (s.heap.update a (Obj.putSet es1 t1))) := Heap.SameBut.update ..
  have ho1 := (store_at (es' := es1) (t' := t1) ho hd)
  generalize (s.heap.update a (Obj.putSet es1 t1)) = h1 at sb ho1 ⊢
  have tup1 : (∀ p ∈ L1, IsT P w h1 p.2 p.1) := fun p hp => by
    rcases List.mem_cons.1 (pm.mem_iff.mp hp) with e | hp
    · rw [e]
      exact isT_same hx ho hd sb
    · exact (isT_same (R.tup p hp) ho hd sb)
  have ld1 : w.params.followText "set-order" = true ∨ t1.led = true := by rw [l1]; exact R.led
  by_cases full : (L.length + 1) * 5 ≥ t1.mask * 3
  · have hf : t1.tooFull = true := by unfold SetTable.tooFull; rw [fl]; exact decide_eq_true full
    first
      | (refine wpAny_bind ?_; refine wp_if_pos (by (simp [hf])) ?_)
      | (refine wp_if_pos (by (simp [hf])) ?_; refine wpAny_bind ?_)
    rw [sz]
    have go : ∀ M, (SetTable.sizeAbove (SetTable.grown (L.length + 1)) - 1 = M ∧ SetTable.sizeAbove (SetTable.grown (L.length + 1)) ≤ 512) → MaskD M → (L.length + 1) * 5 < M * 3 →
        wpAny (model P w) A (setRelay a (SetTable.grown (L.length + 1))) (fun _ s' => wpAny (model P w) A (pure true) Q E s') E { s with heap := h1 } := fun M g1 g2 g3 =>
      relay_d (s := { s with heap := h1 }) ho1 ⟨hex.1, hex.2.1, hex.2.2⟩ rfl r1 T1 (by rw [len, m1]; omega) nd1 tup1 p1 ld1 (by rw [len]; exact hfew) g1 g2 (by rw [len]; exact g3) fun h2 L2 es2 ep2 t2 sb2 R2 pm2 =>
        wpAny_pure (hQ h2 L2 es2 ep2 t2 (sb.trans sb2) R2 (pm2.trans pm))
    rw [m1] at full
    rcases R.tab.mok with e | e | e | e
    · have l4 : L.length + 1 = 5 := by omega
      exact go 31 (by rw [l4]; exact grow_7) (.inr (.inl rfl)) (by omega)
    · have l4 : L.length + 1 = 19 := by omega
      exact go 127 (by rw [l4]; exact grow_31) (.inr (.inr (.inl rfl))) (by omega)
    · have l4 : L.length + 1 = 77 := by omega
      exact go 511 (by rw [l4]; exact grow_127) (.inr (.inr (.inr rfl))) (by omega)
    · omega
  · have hf : ¬ t1.tooFull = true := by unfold SetTable.tooFull; rw [fl]; exact fun z => full (of_decide_eq_true z)
    first
      | refine wp_if_neg (by (simp [hf])) ?_
      | (refine wpAny_bind ?_; refine wp_if_neg (by (simp [hf])) ?_; refine wpAny_pure ?_)
    exact wpAny_pure (hQ h1 L1 es1 (ep + 1) t1 sb ⟨⟨_, ho1, ⟨hex.1, hex.2.1, hex.2.2⟩, rfl⟩, r1, T1, nd1, tup1, p1, ld1, by rw [len]; omega, by rw [len]; exact hfew⟩ pm)
end
/-! ### set(xs), xs a list of unlike tuples of ints -/
section
variable {w : World} {P : Program} {s : Shared} {A : Around} {E : Value → Shared → Prop}
theorem SetD.keep {h h' : Heap} {a : Addr} {L : List (Addr × List Int)} {es : Array (Int × Value)} {ep : Nat} {t : SetTable} (R : SetD P w h a L es ep t) (k1 : ∀ o, h.get? a = some o → h'.get? a = some o) (k2 : ∀ p ∈ L, IsT P w h' p.2 p.1) : SetD P w h' a L es ep t := by
  obtain ⟨o, ho, r⟩ := R.ob
  exact ⟨⟨o, k1 o ho, r⟩, R.rows, R.tab, R.nd, k2, R.plain, R.led, R.room, R.few⟩
abbrev newSet (w : World) : Obj := { cls := .type "set", dict := none, data := .set #[] 0 (.fresh 0 0 (!w.params.followText "set-order")) }
theorem setD_fresh {h : Heap} {a : Addr} (ho : h.get? a = some (newSet w)) : SetD P w h a [] #[] 0 (.fresh 0 0 (!w.params.followText "set-order")) where
  ob := ⟨newSet w, ho, ⟨rfl, rfl, rfl⟩, rfl⟩
  rows := rfl
  tab := ⟨List.Pairwise.nil, rfl, rfl, .inl rfl, fun x hx => nomatch hx⟩
  nd := List.nodup_nil
  tup := fun p hp => nomatch hp
  plain := rfl
  led := by
    show (_ ∨ (!w.params.followText "set-order") = true)
    cases w.params.followText "set-order" <;> simp
  room := by show 0 * 5 < 7 * 3; decide
  few := by show 0 < 300; decide
theorem take_up {α : Type} {l : List α} {i : Nat} {x : α} (h : l[i]? = some x) : l.take (i + 1) = l.take i ++ [x] := by rw [List.take_add_one, h]; rfl
theorem update_d {I : Addr} {fp wr : List Addr} {G : Array GenState → Array GenState → Prop} {n : Nat} {Pv : Nat → Value → Prop} {St : Nat → Shared → Prop} {R : Result → Shared → Prop}
    (W : WalksS P w A.in1 I fp wr G n Pv St) (S : Addr) (hSf : S ∉ fp) (ks : List (Addr × List Int)) (nd : (ks.map (·.2)).Nodup) (hn : n = ks.length) (few : ks.length < 300) (hv : ∀ i v, Pv i v → ∃ p, ks[i]? = some p ∧ v = .ref p.1)
    (h0 : Heap) (hk : ∀ p ∈ ks, IsT P w h0 p.2 p.1) (hSn : h0.get? S = none) (hw0 : ∀ b ∈ wr, h0.get? b = none) (hu : A.in1.units < cLine) :
    ∀ (left i : Nat) (s : Shared), n - i = left → i ≤ n → St i s → (∀ b o, h0.get? b = some o → s.heap.get? b = some o) → (∃ L es ep t, SetD P w s.heap S L es ep t ∧ L.Perm (ks.take i)) →
      (∀ s' L es ep t, Moved (S :: wr) G s s' → SetD P w s'.heap S L es ep t → L.Perm ks → (∀ b o, h0.get? b = some o → s'.heap.get? b = some o) → R (.ok (.ret .none)) s') → codeAny (model P w) A (.builtin "set.update.loop" ⟨[.ref S, .ref I], []⟩) R s := by
  have Sw : S ∉ wr := fun h => hSf (W.sub _ h)
  have up : ∀ b ∈ wr, b ∈ S :: wr := fun b hb => List.mem_cons_of_mem _ hb
  have keep : ∀ {s s' : Shared}, Moved wr G s s' → (∀ b o, h0.get? b = some o → s.heap.get? b = some o) → ∀ b o, h0.get? b = some o → s'.heap.get? b = some o := fun m k b o e =>
    m.heap b o (fun hb => by rw [hw0 b hb] at e; cases e) (k b o e)
  intro left
  induction left with
  | zero =>
    intro i s hl hi st kp ⟨L, es, ep, t, D, pm⟩ hR
    obtain rfl : i = n := by omega
    refine (codeAny_builtin F.entry_set_update_loop ?_)
    rw [(Around.under_plainId F.plain_set_update_loop _)]
    show (wpAny _ A.in1 (pyNext (.ref I) >>= _) _ _ s)
    refine wpAny_bind (W.done s _ _ st fun s' m => ?_)
    show (wpAny _ A.in1 (ret Value.none) _ _ s')
    have kp' := keep m kp
    rw [hn, List.take_length] at pm
    exact wpAny_pure (hR s' L es ep t (m.mono up) (D.keep (fun o e => m.heap S o Sw e) fun p hp => isT_keep (hk p (pm.mem_iff.mp hp)) kp') pm kp')
  | succ left ih =>
    intro i s hl hi st kp ⟨L, es, ep, t, D, pm⟩ hR
    have lt : i < n := by omega
    refine (codeAny_builtin F.entry_set_update_loop ?_)
    rw [(Around.under_plainId F.plain_set_update_loop _)]
    show (wpAny _ A.in1 (pyNext (.ref I) >>= _) _ _ s)
    refine wpAny_bind (W.item i s _ _ lt st fun v s' hP st' m => ?_)
    obtain ⟨p, hp, rfl⟩ := hv i v hP
    have kp' := keep m kp
    have D' : SetD P w s'.heap S L es ep t := D.keep (fun o e => m.heap S o Sw e) fun q hq => isT_keep (hk q (List.mem_of_mem_take (pm.mem_iff.mp hq))) kp'
    have hx : IsT P w s'.heap p.2 p.1 := isT_keep (hk p (List.mem_of_getElem? hp)) kp'
    have new : p.2 ∉ L.map (·.2) := fun z => by
      have z := (pm.map (·.2)).mem_iff.mp z
      have nd2 : ((ks.take (i + 1)).map (·.2)).Nodup := by
        rw [List.map_take]
        exact nd.sublist (List.take_sublist _ _)
      rw [take_up hp, List.map_append] at nd2
      exact (List.nodup_append.mp nd2).2.2 _ z _ (by simp) rfl
    show (wpAny _ A.in1 (holding [Value.ref p.1] (setAdd S (.ref p.1)) >>= _) _ _ s')
    refine (wpAny_bind (wpAny_holding ?_))
    unfold setAdd
    refine wpAny_holding ?_
    refine (wpAny_bind (wpAny_pyHash_tuple hu hx ?_))
    have ll := pm.length_eq
    rw [List.length_take] at ll
    refine add_d (s := { s' with toks := s'.toks + (p.2.length + 1) }) D' hx hu new (by omega) fun h' L' es' ep' t' sb D2 pm2 => ?_
    have pm' : L'.Perm (ks.take (i + 1)) := by
      rw [take_up hp]
      exact pm2.trans ((pm.cons p).trans (List.perm_append_singleton p _).symm)
    have kp2 : ∀ b o, h0.get? b = some o → h'.get? b = some o := fun b o e => (sb.2 b (fun z => by rw [z, hSn] at e; cases e)).trans (kp' b o e)
    refine wpAny_pure ⟨plainId_quiet F.plain_set_update_loop _, ih (i + 1) _ (by omega) lt (W.frame _ s' _ _ st' (Nat.le_add_right _ _) fun b hb o e => ?_) kp2 ⟨L', es', ep', t', D2, pm'⟩ fun s'' L2 es2 ep2 t2 m2 D3 pm3 kp3 => ?_⟩
    · rw [sb.2 b (fun z : b = S => hSf (by rw [← z]; exact hb))]; exact e
    · refine hR s'' L2 es2 ep2 t2 (Moved.trans W.gtrans ((m.mono up).then_heap (Nat.le_add_right _ _) fun b o hb e => ?_) m2) D3 pm3 kp3
      rw [sb.2 b (fun z : b = S => hb (by rw [z]; exact List.mem_cons_self))]; exact e
set_option maxRecDepth 100001 in
set_option maxHeartbeats 3300000 in
theorem call_set_d {l : Addr} {items : Array Value} (ks : List (Addr × List Int)) {Q : Value → Shared → Prop} (hh : A.handled = none) (hl : s.heap.IsList l items) (hit : items.toList = ks.map fun p => Value.ref p.1) (nd : (ks.map (·.2)).Nodup)
    (hk : ∀ p ∈ ks, IsT P w s.heap p.2 p.1) (few : ks.length < 300) (hu : A.units + 3 < cLine)
    (h : ∀ (h' : Heap) (tk : Nat) L es ep t, SetD P w h' s.heap.objs.size L es ep t → L.Perm ks → (∀ b o, s.heap.get? b = some o → h'.get? b = some o) → Q (.ref s.heap.objs.size) { s with heap := h', toks := tk }) : wpAny (model P w) A (call (.type "set") [.ref l]) Q E s := by
  have isz : items.size = ks.length := by rw [← Array.length_toList, hit, List.length_map]
  rcases F.called_set.mro with ⟨c, tl, hmro⟩
  have hmade := (F.called_set.made)
  have hsub := F.called_set.sub
  refine (wpAny_call (codeAny_of_tree ?_))
  show (wpAny _ _ (callAny (.type "set") _) _ _ _)
  refine (wpAny_pure ⟨Code.quiet_builtin _ (by decide +kernel), codeAny_builtin F.entry_type_call ?_⟩)
  rw [(Around.under_plain (weight_type_call_type "set" [.ref l] []) rfl)]
  have h1 := (F.called_set.notType)
  have h2 := (F.called_set.canCreate)
  have hct := (F.typeCall_set_1 (.ref l))
  repeat any_goals (first | assumption | wp_step)
  refine codeAny_mono (code_set_led1 (.ref l) (E := E) (Q₁ := fun obj s₁ => obj = .ref s.heap.objs.size ∧ s₁ = { s with heap := s.heap.push (newSet w) }) ⟨rfl, rfl⟩) fun r s₁ hr => ?_
  cases r with
  | error e => exact hr
  | ok fl =>
    cases fl with
    | ret obj =>
      obtain ⟨rfl, rfl⟩ := hr
      have gS : (s.heap.push (newSet w)).get? s.heap.objs.size = some (newSet w) := Heap.get?_push_size _ rfl
      have hT : Shared.TypeIs { s with heap := s.heap.push (newSet w) } (.ref s.heap.objs.size) "set" := ⟨_, gS, rfl⟩
      have hli := (F.called_set.init.lookup)
      have hbi := (F.called_set.init.bind (.ref s.heap.objs.size))
      repeat any_goals (first | assumption | wp_step)
      refine codeAny_mono (codeAny_call_builtin (R := wants (fun r s₂ => r = .none ∧ ∃ h' tk L es ep t, s₂ = { s with heap := h', toks := tk } ∧ SetD P w h' s.heap.objs.size L es ep t ∧ L.Perm ks ∧ (∀ b o, s.heap.get? b = some o → h'.get? b = some o)) E) F.called_set.init.plain F.entry_set_init (check_set_init_1 hT ?_)) fun r₂ s₂ hr₂ => ?_
      · rcases hl with ⟨ol, hol, hcl, nl, hdl⟩
        obtain ⟨c1, d1, x1, y1⟩ := ol
        simp only at hcl hdl
        subst hcl; subst hdl
        have hol' : (s.heap.push (newSet w)).get? l = some { cls := .type "list", dict := d1, data := .seq items nl, slots := y1 } := Heap.get?_push_of_some _ hol
        have f1 := F.sub_list_set
        have f2 := F.sub_list_frozenset
        have f3 : (Value.type "list" == Value.type "dict") = false := by decide
        have hl1 : (s.heap.push (newSet w)).IsList l items := ⟨_, hol', rfl, nl, rfl⟩
        (unfold Builtin.«set.__init__» noKeywords Builtin.Frozenset.updateFrom)
        generalize hPI : pyIter = PI
        wp_walk
        subst hPI
        refine (wpAny_pyIter_list hl1 ?_)
        refine (wpAny_bind (wpAny_runValue ?_))
        have lS : l < s.heap.objs.size := Heap.lt_size hol
        have h3 : A.in1.in1.in1.handled = none := by simp [hh]
        have neI : l ≠ (s.heap.push (newSet w)).objs.size := by
          rw [Heap.size_push]; exact Nat.ne_of_lt (Nat.lt_succ_of_lt lS)
        have sf : s.heap.objs.size ∉ [(s.heap.push (newSet w)).objs.size, l] := by
          rw [Heap.size_push]; simp only [List.mem_cons, List.not_mem_nil, or_false, not_or]
          exact ⟨Nat.ne_of_lt (Nat.lt_succ_self _), Nat.ne_of_gt lS⟩
        have hval : (∀ (i : Nat) (v : Value), items[i]? = some v → ∃ p, ks[i]? = some p ∧ v = .ref p.1) := fun i v hv => by
          have q : (items.toList[i]? = some v) := by rw [Array.getElem?_toList]; exact hv
          rw [hit] at q
          rw [List.getElem?_map] at q
          obtain ⟨p, hp, rfl⟩ := Option.map_eq_some_iff.mp q
          exact ⟨p, hp, rfl⟩
        have free : ∀ b, s.heap.objs.size ≤ b → s.heap.get? b = none := fun b hb => by
          cases q : s.heap.get? b with
          | none => rfl
          | some o => exact (absurd (Nat.lt_of_lt_of_le (Heap.lt_size q) hb) (Nat.lt_irrefl _))
        refine update_d ((Walks.list h3 _ l neI items).toS) s.heap.objs.size sf ks nd isz few hval s.heap hk (free _ (Nat.le_refl _)) (fun b hb => free b (by
            rw [List.mem_singleton.mp hb]; rw [Heap.size_push]
            exact Nat.le_succ _)) hu (items.size - 0) 0 _ (by omega) (Nat.zero_le _) ⟨⟨_, Heap.get?_push_size _ rfl, rfl, rfl⟩, (hl1.push _)⟩ (fun b o e => Heap.get?_push_of_some _ (Heap.get?_push_of_some _ e)) ?hSn ?hR
        case hSn => exact ⟨[], #[], 0, _, setD_fresh (Heap.get?_push_of_some _ gS), by rw [List.take_zero]⟩
        case hR =>
          intro s' L es ep t hm D' pm kp
          rcases s' with ⟨h', g2, d', tk', os'⟩
          have eg : (g2 = s.gens) := hm.gens
          have ed : (d' = s.drawn) := hm.drawn
          have eo : os' = s.os := hm.os
          subst eg; subst ed; subst eo
          show wpAny _ _ _ _ _ _
          refine wpAny_pure ?_
          show (wpAny _ _ (ret Value.none) _ _ _)
          exact wpAny_pure ⟨rfl, h', tk', L, es, ep, t, rfl, D', pm, kp⟩
      · cases r₂ with
        | error e => exact hr₂
        | ok fl₂ =>
          cases fl₂ with
          | ret r =>
            obtain ⟨rfl, h', tk, L, es, ep, t, rfl, D', pm, kp⟩ := hr₂
            repeat any_goals (first | assumption | wp_step)
            exact h _ _ _ _ _ _ D' pm kp
          | _ => exact hr₂.elim
    | _ => exact hr.elim
end
/-! ### sorted(set), and the rules -/
def intsT (k : List Int) : PyData := .tuple (k.map .int)
theorem intsT_alike (a b : List Int) : PySem.W.alike (intsT a) (intsT b) = true := by
  unfold intsT
  simp only [PySem.W.alike, PySem.W.alike_ints]
theorem intsT_depth (a : List Int) : (intsT a).depth ≤ 1 := by
  unfold intsT
  simp only [PyData.depth, PySem.W.depth_ints]
  omega
theorem items_vals {P : Program} {w : World} {k : List Int} {us : List Value} (h : ItemsAre (intKind P w) k us) : Vals (k.map V.int) us := by
  induction h with
  | nil => exact .nil
  | @cons k0 v ks vs h1 _ ih =>
    rcases Value.isInt_shape h1 with ⟨t, rfl⟩
    exact .cons ⟨t, rfl⟩ ih
theorem each_of {α γ : Type} {f : α → γ} {R : γ → α → Prop} : ∀ (L : List α), (∀ q ∈ L, R (f q) q) → PySem.W.EachIs R (L.map f) L
  | [], _ => .nil
  | q :: L, h => .cons (h q (List.mem_cons_self ..)) (each_of L fun x hx => h x (List.mem_cons_of_mem _ hx))
theorem each_refD {α : Type} {f : α → Value} : ∀ {vs : List Value} {zs : List α}, PySem.W.EachIs (fun v z => v = f z) vs zs → vs = zs.map f
  | [], [], .nil => rfl
  | _ :: _, _ :: _, .cons h t => by rw [h, each_refD t]; rfl
theorem reads_intsD {h : Heap} : ∀ {s : List Int} {its : List Value}, Vals (s.map V.int) its → ReadsAll h its (s.map .int) []
  | [], _, .nil => .nil
  | i :: s, _, .cons r t => by
    obtain ⟨u, rfl⟩ := r
    exact .cons (.int i u) (reads_intsD t)
section
variable {w : World} {P : Program} {s : Shared} {A : Around} {E : Value → Shared → Prop}
theorem sorted_d {a : Addr} {L : List (Addr × List Int)} {es : Array (Int × Value)} {ep : Nat} {t : SetTable} {Q : Value → Shared → Prop} (R : SetD P w s.heap a L es ep t) (hh : A.handled = none) (hu : A.units + 8 < cLine) (hne : ∀ q ∈ L, q.2 ≠ [])
    (hQ : ∀ s' p (L1 : List (Addr × List Int)) (out : List Value) (c : Nat), (∀ b o, s.heap.get? b = some o → s'.heap.get? b = some o) → s'.gens = s.gens → s'.os = s.os → s.heap.objs.size ≤ p →
      L1.Perm L → out = (L1.mergeSort (PySem.W.dataLe false fun q => intsT q.2)).map (fun q => Value.ref q.1) → s'.heap.get? p = some (seqObj "list" out.toArray c) → Q (.ref p) s') : wpAny (model P w) A (call (.builtin "sorted") [.ref a]) Q E s := by
  rcases R.ob with ⟨o, ho, hex, hd⟩
  have few := R.few
  have sz := R.size
  refine (Calls.call_function_entry kind_sorted plain_sorted entry_sorted (args_sorted1 _) ?_)
  unfold Builtin.«sorted»
  refine (wpAny_bind (m := checkCount "sorted" 1 1 _) (wpAny_pure ?_))
  refine (wpAny_bind (collect_set (A := A.in1) hh ⟨o, ho, hex.1, hd⟩ R.fits (by unfold scanBound; omega) R.tab.ris R.led fun s1 vs k1 hz g1 o1 pm => ?_))
  have es2 : es.toList.map (·.2) = L.map fun q => Value.ref q.1 := by rw [R.rows, rowsOf, List.map_map]; rfl
  rw [es2] at pm
  obtain ⟨L1, e1, p1⟩ : ∃ L1 : List (Addr × List Int), vs = L1.map (fun q => Value.ref q.1) ∧ L1.Perm L := by
    have key : ∀ (vs : List Value) (M : List (Addr × List Int)), vs.Perm (M.map fun q => Value.ref q.1) → ∃ L1, vs = List.map (fun q => Value.ref q.1) L1 ∧ L1.Perm M := by
      intro vs
      induction vs with
      | nil =>
        intro M h
        have := h.length_eq
        rw [List.length_nil, List.length_map] at this
        exact ⟨[], rfl, by rw [List.eq_nil_of_length_eq_zero this.symm]⟩
      | cons v vs ih =>
        intro M h
        obtain ⟨q, hq, eq⟩ := List.mem_map.mp (h.mem_iff.mp (List.mem_cons_self ..))
        obtain ⟨M1, M2, rfl⟩ := List.append_of_mem hq
        have h2 : (v :: vs).Perm (v :: (M1 ++ M2).map fun q => Value.ref q.1) := by
          refine h.trans ?_
          rw [← eq]
          exact ((List.perm_middle (a := q) (l₁ := M1) (l₂ := M2)).map fun q => Value.ref q.1)
        obtain ⟨L1, e, p⟩ := ih (M1 ++ M2) h2.cons_inv
        exact ⟨q :: L1, by rw [List.map_cons, eq, e], (p.cons q).trans List.perm_middle.symm⟩
    exact key vs L pm
  subst e1
  have len := p1.length_eq
  refine wpAny_bind (wpAny_newList ?_ (by rw [List.length_map, sizeLine_eq]; omega))
  have ob : (s1.heap.push (seqObj "list" (L1.map fun q => Value.ref q.1).toArray 0)).get? s1.heap.objs.size = some (seqObj "list" (L1.map fun q => Value.ref q.1).toArray 0) := Heap.get?_push_size _ rfl
  have old : ∀ b o, s1.heap.get? b = some o → (s1.heap.push (seqObj "list" (L1.map fun q => Value.ref q.1).toArray 0)).get? b = some o := fun b o e => Heap.get?_push_of_some _ e
  have low : ∀ b o, s1.heap.get? b = some o → b ≠ s1.heap.objs.size := fun b o e => Nat.ne_of_lt (Heap.lt_size e)
  generalize s1.heap.push (seqObj "list" (L1.map fun q => Value.ref q.1).toArray 0) = hp2 at ob old ⊢
  refine wpAny_bind (wpAny_holding (PySem.W.list_sort_data (A := A.in1) (s := { s1 with heap := hp2 }) (R := fun v q => v = Value.ref q.1) (enc := fun q : Addr × List Int => intsT q.2) (bs := L1) ob (each_of L1 fun _ _ => rfl) (each_of L1 fun q hq => ?_) (PySem.W.AllAlike.of fun b b' => intsT_alike _ _) (.inl fun d hd => by
      rcases List.mem_map.mp hd with ⟨q, hq, rfl⟩
      match e : q.2, hne q (p1.mem_iff.mp hq) with
      | x :: r, _ => exact ⟨.int x, r.map .int, rfl⟩)
    (by rw [sizeLine_eq]; omega) (fun b _ => by have := intsT_depth b.2; show A.units + 1 + 1 + (intsT b.2).depth < cLine; omega) fun out ho2 hR => ?_))
  · obtain ⟨o3, its, n3, h3, c3, d3, i3⟩ := R.tup q (p1.mem_iff.mp hq)
    exact ⟨[], .tuple (old _ _ (k1 _ _ h3)) c3 d3 (by simpa using reads_intsD (items_vals i3)), by simp⟩
  · have eo : out = (L1.mergeSort (PySem.W.dataLe false fun q => intsT q.2)).map (fun q => Value.ref q.1) := each_refD hR
    obtain ⟨c, hc⟩ := PyProof.Rows.sortedHeap_at (vs := L1.map fun q => Value.ref q.1) (out := List.toArray out) ob
    refine wpAny_pure ⟨_, rfl, hQ _ s1.heap.objs.size L1 out c (fun b u e => ?_) g1 o1 hz p1 eo hc⟩
    have q := k1 b u e
    exact (PyProof.Rows.sortedHeap_old (low _ _ q) (Heap.lt_size (old _ _ q))).trans (old _ _ q)
end
/-- the set at an address, its tuples elsewhere -/
structure SetD0 (P : Program) (w : World) (h : Heap) (a : Addr) (L : List (Addr × List Int)) : Prop where
  ex : ∃ (es : Array (Int × Value)) (ep : Nat) (t : SetTable), (∃ o, h.get? a = some o ∧ o.ExactSet ∧ o.data = .set es ep t) ∧ es.toList = rowsOf P w L ∧ TabD t L.length ∧ (L.map (·.2)).Nodup ∧ t.plain = true ∧ (w.params.followText "set-order" = true ∨ t.led = true) ∧ L.length * 5 < t.mask * 3 ∧ L.length < 300
def SetDO (P : Program) (w : World) (a : Addr) (L : List (Addr × List Int)) : HO := .ext fun h => SetD0 P w h a L
theorem SetD.d0 {P : Program} {w : World} {h : Heap} {a : Addr} {L : List (Addr × List Int)} {es : Array (Int × Value)} {ep : Nat} {t : SetTable} (R : SetD P w h a L es ep t) : SetD0 P w h a L := ⟨es, ep, t, R.ob, R.rows, R.tab, R.nd, R.plain, R.led, R.room, R.few⟩
theorem setDO_new {P : Program} {w : World} {H : Hp} {h : Heap} {a : Addr} {L : List (Addr × List Int)} (R : SetD0 P w h a L) : ObjOk P w H h a (SetDO P w a L) := by
  have ⟨es, ep, t, ⟨v, hv, r⟩, q⟩ := R.ex
  refine ⟨R, ⟨v, hv⟩, fun h1 h2 p k => ?_⟩
  have ⟨es', ep', t', ⟨o', ho', r'⟩, q'⟩ := SetD0.ex p
  exact (⟨es', ep', t', ⟨o', k o' ho', r'⟩, q'⟩)
section
variable {X : Cx}
def rSetOfD (K : PySem.W.Frag) (P : Program) (w : World) : List V → Hp → VK → Prop := fun xs H Q => ∃ (l : Addr) (ks : List (Addr × List Int)), xs = [V.ref l] ∧ SqL K H l (ks.map fun p => V.ref p.1) ∧ (∀ p ∈ ks, SqT K H p.1 (p.2.map V.int)) ∧ (ks.map (·.2)).Nodup ∧ ks.length < 300 ∧
  ∀ a L, H a = none → L.Perm ks → Q (.ref a) (upd H a (SetDO P w a L))
theorem cr_setOfD (hc : X.calm = true) (hu : X.A.units + 64 < cLine) : CallR X (.type "set") (rSetOfD X.K X.prog X.w) := by
  intro pins s σ H xs us Q I r h0; have h := h0
  obtain ⟨l, ks, rfl, hl, hk, nd, few, q⟩ := h
  obtain rfl := Vals.ref1 r
  rcases I.list hl with ⟨its, rv, pl, _⟩
  refine call_set_d (P := X.prog) (w := X.w) ks (I.ok.hd hc) pl.isList (by simpa using refs_of_vals rv) nd (fun p hp => I.isT (hk p hp)) few (by omega) fun h' tk L es ep t R pm k => ?_
  exact ⟨.ref s.heap.objs.size, upd H s.heap.objs.size (SetDO X.prog X.w s.heap.objs.size L), I.laid (t' := tk) k (Nat.le_refl _) (setDO_new R.d0), rfl, q _ L (I.hok.fresh (Nat.le_refl _)) pm⟩
def rSortedSD (K : PySem.W.Frag) (P : Program) (w : World) : List V → Hp → VK → Prop := fun vs H Q => ∃ (a : Addr) (L : List (Addr × List Int)), vs = [V.ref a] ∧ H a = some (SetDO P w a L) ∧ (∀ p ∈ L, SqT K H p.1 (p.2.map V.int) ∧ p.2 ≠ []) ∧
  ∀ (p : Addr) (L1 : List (Addr × List Int)), H p = none → L1.Perm L → Q (.ref p) (upd H p (.lst ((L1.mergeSort (PySem.W.dataLe false fun q => intsT q.2)).map fun q => V.ref q.1)))
theorem cr_sortedSD (hc : X.calm = true) (hu : X.A.units + 64 < cLine) : CallR X (.builtin "sorted") (rSortedSD X.K X.prog X.w) := by
  intro pins s σ H xs us Q I r h0; have h := h0
  obtain ⟨a, L, rfl, ha, hk, q⟩ := h
  obtain rfl := Vals.ref1 r
  have R0 : SetD0 X.prog X.w s.heap a L := (show ObjOk X.prog X.w H s.heap a (SetDO X.prog X.w a L) from I.hok a _ ha).1
  have ⟨es, ep, t, h1, h2, h3, h4, h5, h6, h7, h8⟩ := R0.ex
  have R : SetD X.prog X.w s.heap a L es ep t := ⟨h1, h2, h3, h4, fun p hp => I.isT (hk p hp).1, h5, h6, h7, h8⟩
  refine sorted_d R (I.ok.hd hc) (by omega) (fun p hp => (hk p hp).2) fun s' p L1 out c k g1 o1 hz pm eo hp => ?_
  have pm2 : (L1.mergeSort (PySem.W.dataLe false fun q => intsT q.2)).Perm L := (List.mergeSort_perm _ _).trans pm
  have fresh : H p = none := I.hok.fresh hz
  have ln : ((L1.mergeSort (PySem.W.dataLe false fun q => intsT q.2)).map fun q => V.ref q.1).length ≤ sizeLine := by
    have := pm2.length_eq
    rw [List.length_map]; rw [sizeLine_eq]
    omega
  have vl : Vals ((L1.mergeSort (PySem.W.dataLe false fun q => intsT q.2)).map fun q => V.ref q.1) out := by
    rw [eo]
    exact vals_of_refs _
  have J : Inv X pins σ (upd H p (.lst ((L1.mergeSort (PySem.W.dataLe false fun q => intsT q.2)).map fun q => V.ref q.1))) { s with heap := s'.heap, gens := s'.gens, drawn := s'.drawn, toks := s'.toks } :=
    I.call (ch := []) (Un.laid k hz fresh) (I.hok.laid k hz ⟨ln, out, c, vl, hp⟩) (by rw [g1]; exact I.bare) (fun _ z => nomatch z)
  have e : (s' = { s with heap := s'.heap, gens := s'.gens, drawn := s'.drawn, toks := s'.toks }) := by
    cases s'
    cases s
    cases o1
    rfl
  rw [e]
  exact ⟨.ref p, _, J, rfl, q p L1 fresh pm⟩
end
/-! ### the order of kinds is the order of their signs -/
theorem le_tup {β : Type} (x : β → List Int) (p q : β) : PySem.W.dataLe false (fun b => intsT (x b)) p q = decide (x p ≤ x q) := by
  show (!PySem.W.dataLt (.tuple ((x q).map .int)) (.tuple ((x p).map .int))) = _
  rw [PySem.W.dataLt_tuple]
  show (!PySem.W.rowLt ((x q).map .int) ((x p).map .int)) = _
  rw [PySem.W.dataLt_ints]
  by_cases h : x q < x p
  · have h' : (¬ x p ≤ x q) := fun r => List.not_lt.mpr r h
    simp [h, h']
  · have h' : (x p ≤ x q) := List.not_lt.mp h
    simp [h, h']
theorem eqv_ints : ∀ (a b : List Int), PyData.eqv (intsT a) (intsT b) = decide (a = b) := by
  intro a b
  unfold intsT
  simp only [PyData.eqv]
  have : ∀ (a b : List Int), PyData.eqvAll (a.map .int) (b.map .int) = decide (a = b) := by
    intro a
    induction a with
    | nil => intro b; cases b <;> simp [PyData.eqvAll]
    | cons x a ih =>
      intro b
      cases b with
      | nil => simp [PyData.eqvAll]
      | cons y b =>
        simp only [List.map_cons, PyData.eqvAll, PyData.eqv, ih b]
        by_cases h1 : x = y <;> by_cases h2 : a = b <;> simp [h1, h2]
  exact this a b
/-- x before y: by signs, then by number -/
def kdLe (p q : Kd) : Prop := p.1 < q.1 ∨ (p.1 = q.1 ∧ p.2 ≤ q.2)
instance (p q : Kd) : Decidable (kdLe p q) := by unfold kdLe; infer_instance
theorem le_kd (p q : Kd) : PySem.W.dataLe false kdD p q = decide (kdLe p q) := by
  show (!PySem.W.dataLt (.tuple [intsT q.1, .int q.2]) (.tuple [intsT p.1, .int p.2])) = _
  rw [PySem.W.dataLt_pair (intsT_alike _ _) (by simp [PySem.W.alike]), eqv_ints, PySem.W.dataLt_int]
  have ei : PyData.eqv (.int q.2) (.int p.2) = decide (q.2 = p.2) := by simp only [PyData.eqv]; by_cases z : q.2 = p.2 <;> simp [z]
  rw [ei]
  simp only [decide_eq_true_eq]
  by_cases h : q.1 = p.1
  · rw [if_pos h]
    by_cases h2 : q.2 = p.2
    · rw [if_pos h2]; exact (decide_eq_true (p := kdLe p q) (.inr ⟨h.symm, by omega⟩)).symm
    · rw [if_neg h2]
      rw [Bool.eq_iff_iff, Bool.not_eq_true', decide_eq_false_iff_not, decide_eq_true_eq]
      refine ⟨fun z => .inr ⟨h.symm, by omega⟩, fun z => ?_⟩
      rcases z with z | ⟨_, z⟩
      · rw [h] at z; exact absurd z (List.lt_irrefl _)
      · omega
  · rw [if_neg h]
    have h1 := le_tup (β := List Int) id p.1 q.1
    have h1 : (!PySem.W.dataLt (intsT q.1) (intsT p.1)) = decide (p.1 ≤ q.1) := h1
    rw [h1]
    rw [Bool.eq_iff_iff]; rw [decide_eq_true_eq, decide_eq_true_eq]
    constructor
    · intro z
      exact .inl (Classical.byContradiction fun c => h (List.le_antisymm (List.not_lt.mp c) z))
    · rintro (z | ⟨z, _⟩)
      · exact List.le_of_lt z
      · exact absurd z.symm h
theorem kdLe_le {p q : Kd} (h : kdLe p q) : p.1 ≤ q.1 := by
  rcases h with h | ⟨h, _⟩
  · exact List.le_of_lt h
  · rw [h]; exact List.le_refl _
theorem sorted_uniq : ∀ {l m : List (List Int)}, l.Perm m → l.Pairwise (fun a b => a ≤ b) → m.Pairwise (fun a b => a ≤ b) → l = m
  | [], m, h, _, _ => (List.nil_perm.mp h).symm
  | a :: l, [], h, _, _ => nomatch List.perm_nil.mp h
  | a :: l, b :: m, h, h1, h2 => by
    have ha := List.pairwise_cons.mp h1
    have hb := List.pairwise_cons.mp h2
    have e : a = b := by
      rcases List.mem_cons.1 (h.mem_iff.mp (List.mem_cons_self ..)) with z | z
      · exact z
      · rcases List.mem_cons.1 (h.mem_iff.mpr (List.mem_cons_self ..)) with y | y
        · exact y.symm
        · exact List.le_antisymm (ha.1 b y) (hb.1 a z)
    subst e
    rw [sorted_uniq h.cons_inv ha.2 hb.2]
theorem kd_sorted (L : List Kd) : ((L.mergeSort (PySem.W.dataLe false kdD)).map (·.1)).Pairwise fun a b => a ≤ b := by
  have e : PySem.W.dataLe false kdD = fun p q => decide (kdLe p q) := by funext p q; exact le_kd p q
  rw [e]
  refine List.pairwise_map.mpr ((List.pairwise_mergeSort (le := fun p q => decide (kdLe p q)) ?_ ?_ L).imp fun h => kdLe_le (of_decide_eq_true h))
  · intro a b c h1 h2
    refine decide_eq_true ?_
    rcases of_decide_eq_true h1 with h1 | ⟨h1, h1'⟩ <;> rcases of_decide_eq_true h2 with h2 | ⟨h2, h2'⟩
    · exact .inl (List.lt_trans h1 h2)
    · exact .inl (by rw [← h2]; exact h1)
    · exact .inl (by rw [h1]; exact h2)
    · exact .inr ⟨h1.trans h2, by omega⟩
  · intro a b
    by_cases h : a.1 = b.1
    · by_cases h2 : a.2 ≤ b.2
      · rw [show decide (kdLe a b) = true from decide_eq_true (.inr ⟨h, h2⟩)]; rfl
      · rw [show decide (kdLe b a) = true from decide_eq_true (.inr ⟨h.symm, by omega⟩), Bool.or_true]
    · rcases List.le_total a.1 b.1 with z | z
      · have : a.1 < b.1 := Classical.byContradiction fun c => h (List.le_antisymm z (List.not_lt.mp c))
        rw [show decide (kdLe a b) = true from decide_eq_true (.inl this)]; rfl
      · have : b.1 < a.1 := Classical.byContradiction fun c => h (List.le_antisymm (List.not_lt.mp c) z)
        rw [show decide (kdLe b a) = true from decide_eq_true (.inl this), Bool.or_true]
theorem ref_sorted (L : List (Addr × List Int)) : ((L.mergeSort (PySem.W.dataLe false fun q => intsT q.2)).map (·.2)).Pairwise fun a b => a ≤ b := by
  have e : (PySem.W.dataLe false fun q : Addr × List Int => intsT q.2) = fun p q => decide (p.2 ≤ q.2) := by funext p q; exact le_tup (fun q : Addr × List Int => q.2) p q
  rw [e]
  refine List.pairwise_map.mpr ((List.pairwise_mergeSort (le := fun (p q : Addr × List Int) => decide (p.2 ≤ q.2)) ?_ ?_ L).imp fun h => of_decide_eq_true h)
  · intro a b c h1 h2
    exact decide_eq_true (List.le_trans (of_decide_eq_true h1) (of_decide_eq_true h2))
  · intro a b
    rcases List.le_total a.2 b.2 with z | z
    · rw [decide_eq_true z]; rfl
    · rw [decide_eq_true z, Bool.or_true]
theorem kd_set {L : List Kd} {L1 ks : List (Addr × List Int)} (h : ks.map (·.2) = (L.mergeSort (PySem.W.dataLe false kdD)).map (·.1)) (p : L1.Perm ks) :
    (L1.mergeSort (PySem.W.dataLe false fun q => intsT q.2)).map (·.2) = (L.mergeSort (PySem.W.dataLe false kdD)).map (·.1) := by
  refine sorted_uniq ?_ (ref_sorted _) (kd_sorted _)
  rw [← h]
  exact ((List.mergeSort_perm _ _).trans p).map _
/-! ### rows of signs are few; their repr -/
def allC : Nat → Nat → List (List Int)
  | 0, _ => [[]]
  | N + 1, m => (allC N m).flatMap fun c => (List.range (m + 2)).map fun (j : Nat) => ((j : Int) - 1) :: c
theorem allC_len : ∀ (N m : Nat), (allC N m).length = (m + 2) ^ N
  | 0, _ => rfl
  | N + 1, m => by
    show List.length (List.flatMap _ _) = _
    rw [List.length_flatMap, List.map_congr_left (g := fun _ => m + 2) (fun c _ => by rw [List.length_map, List.length_range]), List.map_const', List.sum_replicate_nat, allC_len N m, Nat.pow_succ]
theorem mem_allC {m : Nat} : ∀ {c : List Int}, (∀ x ∈ c, -1 ≤ x ∧ x ≤ m) → c ∈ allC c.length m
  | [], _ => List.mem_singleton.mpr rfl
  | x :: c, h => by
    have h1 := (h x (List.mem_cons_self ..))
    refine List.mem_flatMap.mpr ⟨c, mem_allC fun y hy => h y (List.mem_cons_of_mem _ hy), List.mem_map.mpr ⟨(x + 1).toNat, List.mem_range.mpr (by omega), ?_⟩⟩
    congr 1
    omega
theorem rows_few {N : Nat} {RS : List (List Int)} (nd : RS.Nodup) (h : ∀ r ∈ RS, r.length = N ∧ ∀ y ∈ r, -1 ≤ y ∧ y ≤ 1) : RS.length ≤ 3 ^ N := by
  have := nodup_len (m := allC N 1) nd fun r hr => by
    obtain ⟨h1, h2⟩ := h r hr
    have := mem_allC (m := 1) (c := r) h2
    rwa [h1] at this
  rwa [allC_len] at this
/-- a row of signs: at most five of them -/
def Sg5 (s : List Int) : Prop := s.length ≤ 5 ∧ ∀ y ∈ s, -1 ≤ y ∧ y ≤ 1
theorem Sg5.shw {s : List Int} (h : Sg5 s) : Shw 1 10 (intsT s) :=
  (Shw.tup (ShwA.allInt (l := s) (n := 1) (by decide) (by decide) (fun i hi => by have := h.2 i hi; show i.natAbs < 2; omega) 0)).mono (Nat.le_refl _) (by have := h.1; omega)
theorem rp_sg {K : PySem.W.Frag} {H : Hp} {a : Addr} {s : List Int} (h : H a = some (.tup (s.map V.int))) (h5 : Sg5 s) : RpA K H (.ref a) (intsT s) :=
  RpA.of (Tp.dp (.tup h (TpAll.ints _))) h5.shw (by decide) (by decide)
theorem rp_i4 {K : PySem.W.Frag} {H : Hp} {i : Int} (h : i.natAbs < 2 ^ 400) : RpA K H (.int i) (.int i) :=
  RpA.of (k := 0) (n := 400) (.int _) (Shw.int h (by decide) (by decide) 0) (by decide) (by decide)
theorem tp_sgs {H : Hp} : ∀ {ks : List (Addr × List Int)}, (∀ p ∈ ks, H p.1 = some (.tup (p.2.map V.int))) → TpAll H (ks.map fun p => V.ref p.1) ((ks.map (·.2)).map intsT)
  | [], _ => .nil
  | p :: ks, h => .cons (.tup (h p (List.mem_cons_self ..)) (TpAll.ints _)) (tp_sgs fun q hq => h q (List.mem_cons_of_mem _ hq))
theorem shw_sgs : ∀ {ss : List (List Int)}, (∀ s ∈ ss, Sg5 s) → ShwA 1 (11 * ss.length) (ss.map intsT)
  | [], _ => ShwA.nil 1 _
  | s :: ss, h => (ShwA.cons (h s (List.mem_cons_self ..)).shw (shw_sgs fun q hq => h q (List.mem_cons_of_mem _ hq))).mono (Nat.le_refl _) (by rw [List.length_cons]; omega)
theorem rp_sgs {K : PySem.W.Frag} {H : Hp} {Y : Addr} {ks : List (Addr × List Int)} {ss : List (List Int)} (e : H Y = some (.lst (ks.map fun p => V.ref p.1))) (h : ∀ p ∈ ks, H p.1 = some (.tup (p.2.map V.int))) (es : ks.map (·.2) = ss) (h5 : ∀ s ∈ ss, Sg5 s) (hl : ss.length < 300) : RpA K H (.ref Y) (.list (ss.map intsT)) := by
  subst es
  exact RpA.of (k := 2) (n := 3300) (.lst (SqL.of e) (TpAll.dp (tp_sgs h))) ((Shw.lst (shw_sgs h5)).mono (Nat.le_refl _) (by omega)) (by decide) (by decide)
/-- told is in sgs: the list test -/
theorem any_sgs {ss : List (List Int)} {s : List Int} (h : s ∈ ss) : ((ss.map intsT).any fun z => PyData.eqv z (intsT s)) = true := by
  rw [List.any_map, List.any_eq_true]
  exact ⟨s, h, by show PyData.eqv (intsT s) (intsT s) = true; rw [eqv_ints]; exact decide_eq_true rfl⟩
theorem lstSh {ds : List PyData} (h : ∀ d ∈ ds, ∃ s, d = intsT s) : SeqAt.shaped (.list ds) = true := by
  have z : ∀ ds : List PyData, (∀ d ∈ ds, ∃ s, d = intsT s) → PyData.canLayAll0 ds = true ∧ PyData.depthAll ds ≤ 1 := by
    intro ds
    induction ds with
    | nil => exact fun _ => ⟨by simp only [PyData.canLayAll0], by simp only [PyData.depthAll]; omega⟩
    | cons d ds ih =>
      intro h
      obtain ⟨h1, h2⟩ := ih fun x hx => h x (List.mem_cons_of_mem _ hx)
      obtain ⟨s, rfl⟩ := h d (List.mem_cons_self ..)
      have e : SeqAt.shaped (intsT s) = true := sgD_sh s
      have d1 : (intsT s).depth ≤ 1 := by unfold intsT; simp only [PyData.depth, PySem.W.depth_ints]; omega
      refine ⟨?_, ?_⟩
      · rw [PyData.canLayAll0, h1, Bool.and_true]
        exact SeqAt.canLay_of_shaped e
      · rw [PyData.depthAll]; omega
  obtain ⟨h1, h2⟩ := z ds h
  unfold SeqAt.shaped
  rw [show (PyData.list ds).canLay0 = true by rw [PyData.canLay0]; exact h1, decide_eq_true (by simp only [PyData.depth]; omega)]
  rfl
abbrev sPLaw : Stmt := topS 50
abbrev nPLaw : List Str := ["_law_script", "_law_deck_here", "_law_turn", "_law_family_here", "_law_kinds", "_law_first", "_law_number", "_law_signs_here", "_law_told", "_law_kind"]
theorem scPLaw : FnScope nPLaw ["_law_script"] (defScope sPLaw) := ⟨rfl, rfl, rfl, by decide +kernel, rfl, by decide +kernel, by decide +kernel⟩
/-! ### the law of kinds told -/
theorem call_isiK {X : Cx} {K : PySem.W.Frag} (h : X.K = K) : CallR X (.builtin "isinstance") (rIsi K) := h ▸ call_isi
theorem op_notInDK {X : Cx} {K : PySem.W.Frag} (h : X.K = K) (hu : X.A.units + 65 < cLine) : OpR X (compareOp .NotIn) (rNotInD K) := h ▸ op_notInD hu
/-- what the law holds: deck, family, kinds, firsts -/
structure L4 (D c F ra : Addr) (v : V) (bs : List Bk) (M : List Kd) (cs : List Int) (k : Int) (L : List Kd) (H : Hp) : Prop where
  d : Dk H D c cs k
  t : Tp H v (.tuple (bs.map bkD))
  r : Tp H (.ref ra) (.tuple (M.map kdD))
  f : H F = some (.dT (L.map entI))
  ok : ∀ x ∈ L, famAt bs x.2 = x.1
section
variable {D c F ra : Addr} {v : V} {bs : List Bk} {M : List Kd} {cs cs' : List Int} {k k' : Int} {L L' : List Kd} {H H' : Hp}
theorem L4.sx (x : L4 D c F ra v bs M cs k L H) (s : Sx [] H H') : L4 D c F ra v bs M cs k L H' := ⟨x.d.same s, x.t.keep s.tk0, x.r.keep s.tk0, s _ _ (by simp) x.f, x.ok⟩
theorem L4.ne (x : L4 D c F ra v bs M cs k L H) : F ≠ D ∧ F ≠ c := ⟨(fun e => by have := x.f; rw [e, x.d.ha] at this; cases this), (fun e => by have := x.f; rw [e, x.d.hc] at this; cases this)⟩
theorem L4.deck (x : L4 D c F ra v bs M cs k L H) (s : Sx [D, c] H H') (d : Dk H' D c cs' k') : L4 D c F ra v bs M cs' k' L H' := ⟨d, x.t.keep (x.d.tk s), x.r.keep (x.d.tk s), s _ _ (by simp [x.ne.1, x.ne.2]) x.f, x.ok⟩
theorem L4.put (x : L4 D c F ra v bs M cs k L H) (ok : ∀ x ∈ L', famAt bs x.2 = x.1) : L4 D c F ra v bs M cs k L' (upd H F (.dT (L'.map entI))) :=
  ⟨x.d.sx ((Sx.refl (ex := [F]) _).put (by simp)) (by simp [x.ne.1.symm]) (by simp [x.ne.2.symm]), x.t.keep (tk_dT x.f), x.r.keep (tk_dT x.f), upd_same, ok⟩
end
theorem kput_mem {L : List Kd} {s : List Int} {v : Int} {x : Kd} (h : x ∈ kput L s v) : x = (s, v) ∨ x ∈ L := by
  unfold kput at h
  split at h
  · rcases List.mem_map.mp h with ⟨y, hy, rfl⟩
    split
    · exact .inl rfl
    · exact .inr hy
  · rcases List.mem_append.1 h with h | h
    · exact .inr h
    · exact .inl (List.mem_singleton.mp h)
theorem sgn_lim (t : Int) : -1 ≤ sgn t ∧ sgn t ≤ 1 := by rw [sgn_of]; split <;> (try split) <;> omega
theorem fam_lim {bs : List Bk} {n y : Int} (h : y ∈ famAt bs n) : -1 ≤ y ∧ y ≤ 1 := by
  obtain ⟨b, _, rfl⟩ := List.mem_map.mp h
  exact sgn_lim _
theorem fam5 {bs : List Bk} (h : bs.length ≤ 5) (n : Int) : Sg5 (famAt bs n) := ⟨by rw [fam_len]; exact h, fun _ hy => fam_lim hy⟩
theorem Sx.unlock {H H' : Hp} {d : Addr} {u : HO} {o : Obj} (hd : H d = some u) (s : Sx [] (upd H d (.frz o u)) H') : Sx [] H (upd H' d u) := fun b x _ e => by
  by_cases c : b = d
  · rw [c, hd] at e
    rw [c, upd_same, e]
  · rw [upd_ne c]
    exact s b x (by simp) (by rw [upd_ne c]; exact e)
def spLawK34 (K : PySem.W.Frag) : Sp := fun vs H Q _ => ∃ (a : Addr) (ns : List Int), vs = [.ref a] ∧ SqL K H a (ns.map V.int) ∧ ns.length ≤ 63 ∧ ∀ H', Q (.bl true) H'
section
variable {w : World} {P : Program} {K : PySem.W.Frag} {mg : Str → Option Value} {base : Heap}
set_option maxHeartbeats 8000001 in
theorem ok_law34 {f fA fD fE fG fS fN fL fO : Addr} {fd fdA fdD fdE fdG fdS fdN fdL fdO : FuncData} (F_law : Fun K "law" "law" sPLaw f fd)
    (F_deck : Fun K "_law_deck" "_law_deck" sDeck fA fdA) (F_names : Fun K "_law_names" "_law_names" sNames fD fdD) (F_family : Fun K "_law_family" "_law_family" sFamily fE fdE)
    (F_pkinds_of : Fun K "kinds_of" "kinds_of" sPKindsOf fG fdG) (F_psigns_of : Fun K "signs_of" "signs_of" sPSignsOf fS fdS) (F_near : Fun K "_law_near" "_law_near" sNear fN fdN) (F_signs : Fun K "_law_signs" "_law_signs" sSigns fL fdL) (F_first_of : Fun K "_law_first_of" "_law_first_of" sFirstOf fO fdO)
    (G_deck : FnOk P w K mg base CX0 1 fA fdA ["_law_script"] (spDeck K)) (G_names : FnOk P w K mg base CX0 3 fD fdD ["_law_deck_here"] (spNames K)) (G_family : FnOk P w K mg base CX0 17 fE fdE ["_law_deck_here", "_law_names_here", "_law_most"] (spFamily K))
    (G_pkinds_of : FnOk P w K mg base CX0 42 fG fdG ["family"] spKindsA) (G_psigns_of : FnOk P w K mg base CX0 41 fS fdS ["family"] spSignsA) (G_near : FnOk P w K mg base CX0 2 fN fdN ["_law_deck_here", "_law_rows"] spNear)
    (G_signs : FnOk P w K mg base CX0 10 fL fdL ["_law_family_here", "_law_number"] spLSigns) (G_first_of : FnOk P w K mg base CX0 2 fO fdO ["_law_numbers"] spFirstL)
    (b_deck : Binds K fdA ["_law_script"] []) (b_names : Binds K fdD ["_law_deck_here"] []) (b_family : Binds K fdE ["_law_deck_here", "_law_names_here", "_law_most"] []) (b_pkinds_of : Binds K fdG ["family"] []) (b_psigns_of : Binds K fdS ["family"] []) (b_near : Binds K fdN ["_law_deck_here", "_law_rows"] [])
    (b_signs : Binds K fdL ["_law_family_here", "_law_number"] []) (b_first_of : Binds K fdO ["_law_numbers"] [])
    (m_deck : mg "_law_deck" = some (.ref fA)) (m_names : mg "_law_names" = some (.ref fD)) (m_family : mg "_law_family" = some (.ref fE)) (m_pkinds_of : mg "kinds_of" = some (.ref fG)) (m_psigns_of : mg "signs_of" = some (.ref fS)) (m_near : mg "_law_near" = some (.ref fN)) (m_signs : mg "_law_signs" = some (.ref fL)) (m_first_of : mg "_law_first_of" = some (.ref fO))
    (z_repr : mg "repr" = none) (z_range : mg "range" = none) (z_sorted : mg "sorted" = none) (z_set : mg "set" = none) (z_isinstance : mg "isinstance" = none) (z_tuple : mg "tuple" = none) (z_len : mg "len" = none) (z_list : mg "list" = none) (z_bool : mg "bool" = none) : FnG P w K mg base 43 f fd ["_law_script"] (spLawK34 K) := by
  refine Fun.okG F_law scPLaw (fun vs H Q E h => ?_) (fun cdv A outer s H vs Q E hr hgd h => ?_)
  · obtain ⟨_, _, rfl, _⟩ := h
    rfl
  · rcases h with ⟨a, ns, rfl, hS, hlen, q⟩
    have hu := hr.units
    have hu65 : (A.deeper (envOfC "law" (defScope sPLaw) s.heap.objs.size f cdv)).units + 65 < cLine := by have := hr.un; omega
    have KBe : KB = 1099511627776 := rfl
    have eF : cF = 3500130 := rfl
    refine ⟨_, (pss_cons (ps_set (i := 1) scPLaw.nd rfl (by first | exact Or.inl rfl | exact Or.inr rfl) (pe_call G_deck (hr.mono (by omega)) (by rfl) m_deck F_deck.kp b_deck .nil pass0 (pa_cons (pv 0) pa_nil)))
      (C8.pss_cut (ps_for PassesOwn.never rfl (pi_range1 (by rfl) z_range (pa_cons pe_int pa_nil)) (pg_name (i := 2) scPLaw.nd rfl (by first | exact Or.inl rfl | exact Or.inr rfl)) (pss_cons (ps_set (i := 3) scPLaw.nd rfl (by first | exact Or.inl rfl | exact Or.inr rfl) (pe_call G_family (hr.mono (by omega)) (by rfl) m_family F_family.kp b_family .nil pass0 (pa_cons (pv 1) (pa_cons (pe_call G_names (hr.mono (by omega)) (by rfl) m_names F_names.kp b_names .nil pass0 (pa_cons (pv 1) pa_nil)) (pa_cons pe_int pa_nil)))))
      (pss_cons (ps_par (i := 4) (j := 5) (by rfl) scPLaw.nd rfl rfl (by decide) rfl rfl (pa_cons (pe_call G_pkinds_of (hr.mono (by omega)) (by rfl) m_pkinds_of F_pkinds_of.kp b_pkinds_of .nil pass0 (pa_cons (pv 3) pa_nil)) (pa_cons pe_dnewT pa_nil)) (by rfl))
      (pss_cons (ps_if (PW.pt (pw_or (pt_not (pt_val (pe_callB call_isi (by rfl) z_isinstance (by decide +kernel) (pa_cons (pv 4) (pa_cons (pe_bltn (v := .ty "tuple") (by rfl) z_tuple (by decide +kernel) rfl) pa_nil))))) (pw_or1 (pt_cmpR op_in_seq pe_bl (pe_lc (own := [("_law_kind", 9)]) (g := gName 9) (tt := tYes) rfl scPLaw.nd (pi_tup (pv 4)) (blkOk_by (N := nPLaw) (sc := defScope sPLaw) (by decide +kernel)) (fun _ _ _ _ _ => (pg_name (i := 9) scPLaw.nd rfl (by first | exact Or.inl rfl | exact Or.inr rfl))) (fun _ _ _ _ _ => pts_nil) (fun _ _ _ _ _ => (pe_and (pe_callB (call_isiK (K := K) rfl) (by rfl) z_isinstance (by decide +kernel) (pa_cons (pv 9) (pa_cons (pe_bltn (v := .ty "tuple") (by rfl) z_tuple (by decide +kernel) rfl) pa_nil))) (pe_one (pe_cmpR op_eq (pe_callB (call_lenK (K := K) rfl) (by rfl) z_len boot_len (pa_cons (pv 9) pa_nil)) pe_int (nomark _)))))) (by with_unfolding_all rfl))))) (pss_one (ps_ret pe_bl)) pss_nil)
      (C8.pss_cut (ps_for PassesOwn.never rfl (pi_list (pe_call G_near (hr.mono (by omega)) (by rfl) m_near F_near.kp b_near .nil pass0 (pa_cons (pv 1) (pa_cons (pe_callTy call_list_of (by rfl) z_list boot_list (pa_cons (pe_call G_psigns_of (hr.mono (by omega)) (by rfl) m_psigns_of F_psigns_of.kp b_psigns_of .nil pass0 (pa_cons (pv 3) pa_nil)) pa_nil)) pa_nil)))) (pg_name (i := 6) scPLaw.nd rfl (by first | exact Or.inl rfl | exact Or.inr rfl)) (pss_cons (ps_set (i := 7) scPLaw.nd rfl (by first | exact Or.inl rfl | exact Or.inr rfl) (pe_call G_signs (hr.mono (by omega)) (by rfl) m_signs F_signs.kp b_signs .nil pass0 (pa_cons (pv 3) (pa_cons (pv 6) pa_nil))))
      (pss_one (ps_dput (hu_of hr) (pv 5) (pv 7) (pe_call G_first_of (hr.mono (by omega)) (by rfl) m_first_of F_first_of.kp b_first_of .nil pass0 (pa_cons (pe_lst (pa_cons (pv 6) (pa_cons (pe_dget2 (hu_of hr) (pv 5) (pv 7) (pv 6) ⟨rfl, rfl, rfl, rfl⟩) pa_nil))) pa_nil)) rfl))))
      (C8.pss_cut (ps_for PassesOwn.never rfl (pi_tup (pv 4)) (pg_tup rfl (pgs_cons (pg_name (i := 7) scPLaw.nd rfl (by first | exact Or.inl rfl | exact Or.inr rfl)) (pgs_cons (pg_name (i := 6) scPLaw.nd rfl (by first | exact Or.inl rfl | exact Or.inr rfl)) pgs_nil))) (pss_cons (ps_if (PW.pt (pw_or (pt_cmpR op_ne (pe_callB (call_reprA hgd hu) (by rfl) z_repr boot_repr (pa_cons (pe_call G_signs (hr.mono (by omega)) (by rfl) m_signs F_signs.kp b_signs .nil pass0 (pa_cons (pv 3) (pa_cons (pv 6) pa_nil))) pa_nil)) (pe_callB (call_reprA hgd hu) (by rfl) z_repr boot_repr (pa_cons (pv 7) pa_nil)) (nomark _)) (pw_or1 (pt_val (pe_callB call_isi (by rfl) z_isinstance (by decide +kernel) (pa_cons (pv 6) (pa_cons (pe_bltn (v := .ty "bool") (by rfl) z_bool (by decide +kernel) rfl) pa_nil))))))) (pss_one (ps_ret pe_bl)) pss_nil)
      (pss_one (ps_if (pt_cmpR op_ne (pe_callB (call_reprA hgd hu) (by rfl) z_repr boot_repr (pa_cons (pe_call G_first_of (hr.mono (by omega)) (by rfl) m_first_of F_first_of.kp b_first_of .nil pass0 (pa_cons (pe_lst (pa_cons (pv 6) (pa_cons (pe_dget2 (hu_of hr) (pv 5) (pv 7) (pv 6) ⟨rfl, rfl, rfl, rfl⟩) pa_nil))) pa_nil)) pa_nil)) (pe_callB (call_reprA hgd hu) (by rfl) z_repr boot_repr (pa_cons (pv 6) pa_nil)) (nomark _)) (pss_one (ps_ret pe_bl)) pss_nil))))
      (pss_cons (ps_set (i := 8) scPLaw.nd rfl (by first | exact Or.inl rfl | exact Or.inr rfl) (pe_lc (own := [("_law_signs_here", 7), ("_law_number", 6)]) (g := gTup K 2 (gCons (gName 7) (gCons (gName 6) gNil))) (tt := tYes) rfl scPLaw.nd (pi_tup (pv 4)) (blkOk_by (N := nPLaw) (sc := defScope sPLaw) (by decide +kernel)) (fun _ _ _ _ _ => (pg_tup rfl (pgs_cons (pg_name (i := 7) scPLaw.nd rfl (by first | exact Or.inl rfl | exact Or.inr rfl)) (pgs_cons (pg_name (i := 6) scPLaw.nd rfl (by first | exact Or.inl rfl | exact Or.inr rfl)) pgs_nil)))) (fun _ _ _ _ _ => pts_nil) (fun _ _ _ _ _ => (pv 7))))
      (pss_one (ps_if (PW.pt (pw_or (pt_cmpR op_ne (pe_callB (call_reprA hgd hu) (by rfl) z_repr boot_repr (pa_cons (pv 8) pa_nil)) (pe_callB (call_reprA hgd hu) (by rfl) z_repr boot_repr (pa_cons (pe_callB (cr_sortedSD rfl hu) (by rfl) z_sorted boot_sorted (pa_cons (pe_callTy (cr_setOfD rfl hu) (by rfl) z_set boot_set (pa_cons (pv 8) pa_nil)) pa_nil)) pa_nil)) (nomark _)) (pw_or1 (pt_cmpR (op_neD hr.units) (pe_lock (pe_lc (own := [("_law_signs_here", 7)]) (g := gName 7) (tt := _) rfl scPLaw.nd (pi_keys (pv 5)) (blkOk_by (N := nPLaw) (sc := defScope sPLaw) (by decide +kernel)) (fun _ _ _ _ _ => (pg_name (i := 7) scPLaw.nd rfl (by first | exact Or.inl rfl | exact Or.inr rfl))) (fun _ _ _ _ _ => pts_one (pt_cmpR (op_notInDK (K := K) rfl hu65) (pv 7) (pv 8) (by with_unfolding_all rfl))) (fun _ _ _ _ _ => (pv 7)))) (pe_lst pa_nil) (nomark _))))) (pss_one (ps_ret pe_bl)) pss_nil)))))))))
      (pss_one (ps_ret pe_bl) ))), ?_⟩
    refine ⟨_, rfl, a, ns, rfl, hS, hlen, fun H1 D c cs s1 _ _ DK => ?_⟩
    refine gnm ⟨fun _ H' => True, ?_, fun σ' H' _ => q H'⟩
    refine ⟨5, rfl, by decide, by decide, for_range (n := 5) (fun i σ' H' => ∃ o2 o3 o4 o5 o6 o7 o8, σ' = [some (.ref a), some (.ref D), o2, o3, o4, o5, o6, o7, o8, none] ∧ ∃ cs k, Dk H' D c cs k ∧ k ≤ (i : Int) * 3600000)
      ⟨_, _, _, _, _, _, _, rfl, _, _, DK, by decide⟩ (fun i σ' H' hi h => ?_) (fun σ' H' h => trivial)⟩
    clear DK
    obtain ⟨o2, o3, o4, o5, o6, o7, o8, rfl, cs1, k1, DK, hk1⟩ := h
    refine gnm ?_
    refine ⟨_, rfl, _, rfl, D, c, cs1, k1, rfl, DK, by omega, fun H2 cs2 k2 nm ns s2 D2 k2a k2b hnm na nc N => ?_⟩
    refine ⟨D, c, cs2, k2, nm, ns, 5, rfl, D2, N, na, nc, by decide, by decide, by omega, fun H3 cs3 k3 v bs s3 D3 k3a k3b T ne bl Fb => gnm ?_⟩
    have b5 : bs.length ≤ 5 := by omega
    have R : ∀ b ∈ bs, Pr ns b := fun b hb => ⟨(Fb b hb).1, by have := (Fb b hb).2.2.1; omega, by have := (Fb b hb).2.2.2; unfold tnn at this; omega⟩
    have Rq : ∀ b ∈ bs, Rsg ns b := fun b hb => ⟨(Fb b hb).1, by have := (Fb b hb).2.1; omega, by have := (Fb b hb).2.2.1; omega⟩
    have Nok := N.ok
    clear N Fb s2 s3 D2 DK
    refine ⟨_, rfl, ns, v, bs, rfl, T, R, by omega, fun H4 r4 L s4 kn ll lb t4 => fun F hF => ?_⟩
    obtain ⟨ra, xs, rfl, hra, hx⟩ := t4.tuple
    have pm : (L.mergeSort (PySem.W.dataLe false kdD)).Perm L := List.mergeSort_perm _ _
    have X5 : L4 D c F ra v bs (L.mergeSort (PySem.W.dataLe false kdD)) cs3 k3 [] (upd H4 F (.dT [])) := by
      have s5 := Sx.n0 (o := .dT []) hF
      exact ⟨(D3.same s4).same s5, (T.keep s4.tk0).keep s5.tk0, t4.keep s5.tk0, upd_same, fun _ h => nomatch h⟩
    generalize hM : L.mergeSort (PySem.W.dataLe false kdD) = M at X5 pm
    generalize upd H4 F (.dT []) = H5 at X5 ⊢
    clear t4 s4 hF D3 T hra hx xs
    refine ⟨_, _, rfl, gnm ?_⟩
    have good : ∀ x ∈ M, famAt bs x.2 = x.1 ∧ ∀ n, famAt bs n = x.1 → ordN x.2 ≤ ordN n := fun x hx => kn.at_ x (pm.mem_iff.mp hx)
    have big : ∀ x ∈ M, x.2.natAbs < 2 ^ 400 := fun x hx => lb x (pm.mem_iff.mp hx)
    have nd : (M.map (·.1)).Nodup := (pm.map (·.1)).nodup_iff.mpr kn.nd
    have all : ∀ n, famAt bs n ∈ M.map (·.1) := fun n => by
      obtain ⟨m, hm⟩ := kn.all n
      exact List.mem_map.mpr ⟨_, pm.mem_iff.mpr hm, rfl⟩
    -- the guard
    dsimp only
    refine gIfF (F := fun H' => L4 D c F ra v bs M cs3 k3 [] H') (fun Q' hQ => ?_) (fun H6 X6 => ?_)
    · obtain ⟨ra', xs, e1, hra, hx⟩ := X5.r.tuple
      cases e1
      have xl := hx.len
      rw [List.length_map] at xl
      refine ⟨_, rfl, _, _, _, _, _, rfl, .ty _, .base (.tup hra), kit_ty (r := true) (by decide +kernel), _, rfl, iteF ?_⟩
      refine ⟨_, rfl, ra, rfl, ⟨_, SqT.of hra⟩, fun Y hY => lc_tup (xs := xs) (fun j H' => Sx [] H5 H' ∧ H' Y = some (.lst (List.replicate j (.bl true)))) ⟨Sx.n0 hY, upd_same⟩ (fun j H' _ p => SqT.of (p.1 _ _ (by simp) hra)) (fun j x H' hj p => ?_) (fun H6 p => ?_)⟩
      · obtain ⟨s6, eY⟩ := p
        obtain ⟨d, hd, tx⟩ := (hx.keep s6.tk0).get hj
        rw [List.getElem?_map] at hd
        obtain ⟨y, hy, rfl⟩ := Option.map_eq_some_iff.mp hd
        have jl := (List.getElem?_eq_some_iff.mp hy).1
        obtain ⟨ak, bk, rfl, hak, hbk⟩ := tpKd tx
        refine gnm ⟨rfl, gYes (iteT ?_)⟩
        refine ⟨_, rfl, _, _, _, _, _, rfl, .ty _, .base (.tup hak), kit_ty (r := true) (by decide +kernel), _, rfl, iteT ?_⟩
        refine ⟨_, rfl, ak, _, rfl, .inr (SqT.of hak), rfl, ?_⟩
        refine ⟨_, eY, lt_line (by rw [List.length_replicate]; have := pm.length_eq; omega), s6.own hY, ?_⟩
        rw [List.replicate_succ']
        exact upd_same
      · obtain ⟨s6, eY⟩ := p
        refine ⟨Y, _, rfl, .inl (SqL.of eY), rfl, ?_, _, rfl, ?_⟩
        · rw [List.all_eq_true]; intro z hz; rw [(List.mem_replicate.mp hz).2]; rfl
        · have e : inV (.bl false) (List.replicate xs.length (V.bl true)) = false := by
            unfold inV
            rw [List.any_eq_false]
            intro z hz
            rw [(List.mem_replicate.mp hz).2]
            decide +kernel
          rw [e]
          exact hQ _ (X5.sx s6)
    clear X5
    obtain ⟨ra', xs, e1, hra, hx⟩ := X6.r.tuple
    cases e1
    have xl := hx.len
    rw [List.length_map] at xl
    have keyK : ∀ {H' : Hp} {p : Addr} {s : List Int}, H' p = some (.tup (s.map V.int)) → H' p = some (.tup ((s.map Sum.inl : List L2.Key).map kV)) := fun h => by rw [inl_kV]; exact h
    -- the numbers near
    refine ⟨fun σ' H' => ∃ o6 o7 L1 cs k, σ' = [some (.ref a), some (.ref D), some (.int (0 + (i : Int))), some v, some (.ref ra), some (.ref F), o6, o7, o8, none] ∧ L4 D c F ra v bs M cs k L1 H' ∧ k = k3 + 1, ?_, ?_⟩
    · refine ⟨_, rfl, _, rfl, ns, v, bs, rfl, X6.t, R, by omega, fun H7 Rw s7 tR => ?_⟩
      have X7 := X6.sx s7
      obtain ⟨rr, rvs, rfl, hrr, hrx⟩ := tR.tuple
      refine ⟨rr, rvs, rfl, .inr (SqT.of hrr), fun Lr hLr => ?_⟩
      obtain ⟨LD, Lc⟩ := X7.d.nw hLr
      have X8 := X7.sx (Sx.n0 (o := .lst rvs) hLr)
      refine ⟨D, c, cs3, k3, Lr, rvs, _, _, rfl, X8.d, by omega, LD, Lc, upd_same, hrx.new hLr, fun HA csA Z nums sA DA hZ eZ lz => ?_⟩
      have XA := X8.deck sA DA
      clear X7 X8 hrx hLr hrr tR s7 sA hZ LD Lc X6
      have ZF : Z ≠ F := fun e => by have := XA.f; rw [← e, eZ] at this; cases this
      refine ⟨Z, rfl, ⟨_, SqL.of eZ⟩, for_list (xs := nums.map V.int) (fun j σ' H' => ∃ o6 o7 L1, σ' = [some (.ref a), some (.ref D), some (.int (0 + (i : Int))), some v, some (.ref ra), some (.ref F), o6, o7, o8, none] ∧ Sx [F] HA H' ∧ L4 D c F ra v bs M csA (k3 + 1) L1 H' ∧ L1.length ≤ j) ⟨_, _, _, rfl, Sx.refl _, XA, Nat.le_refl _⟩ (fun j σ' H' _ p => ?_) (fun j x σ' H' hj p => ?_) (fun σ' H' p => ?_)⟩
      · obtain ⟨_, _, _, _, sB, _⟩ := p
        exact SqL.of (sB _ _ (by simp [ZF]) eZ)
      · obtain ⟨o6, o7, L1, rfl, sB, XB, l1⟩ := p
        have hj2 := (List.getElem?_eq_some_iff.mp hj).1
        rw [List.length_map] at hj2
        rw [List.getElem?_map] at hj
        obtain ⟨n, hn, rfl⟩ := Option.map_eq_some_iff.mp hj
        refine gnm ?_
        refine ⟨_, rfl, _, rfl, ns, v, bs, n, rfl, XB.t, Nok, Rq, by omega, fun H8 p s8 hp ep => gnm ?_⟩
        have X8 := XB.sx s8
        have hm : famAt bs ((L1.lookup (famAt bs n)).getD n) = famAt bs n := by
          cases e : L1.lookup (famAt bs n) with
          | none => rfl
          | some m => exact X8.ok _ (lookup_mem e)
        have dg : DGet H8 F (.ref p) ((L1.lookup (famAt bs n)).map V.int) := by rw [← valV_entI]; exact DGet.t X8.f (keyK ep)
        have eg : ((L1.lookup (famAt bs n)).map V.int).getD (.int n) = .int ((L1.lookup (famAt bs n)).getD n) := by cases L1.lookup (famAt bs n) <;> rfl
        refine ⟨_, rfl, _, rfl, F, rfl, .inr ⟨_, .inl X8.f⟩, _, rfl, _, rfl, _, dg, ?_⟩
        rw [eg]
        generalize (L1.lookup (famAt bs n)).getD n = m at hm
        refine ⟨by show 2 ≤ sizeLine; decide, fun ℓ hℓ => ⟨ℓ, [n, m], rfl, upd_same, by show 2 ≤ 2000; decide, fun H9 o s9 no so => ?_⟩⟩
        cases o with
        | none => exact nomatch no rfl
        | some m' =>
          obtain ⟨mem, _⟩ := so m' rfl
          have sl := (Sx.n0 (o := .lst [.int n, .int m]) hℓ).trans s9
          have X9 := X8.sx sl
          have ep9 := sl _ _ (by simp) ep
          have dp : DPut H9 F (.ref p) (.int m') _ := DPut.t X9.f (keyK ep9) (by rw [List.length_map]; show _ < 16777216; omega)
          rw [putK_entI] at dp
          refine ⟨_, rfl, _, rfl, F, _, rfl, dp, ?_⟩
          have ok : ∀ x ∈ kput L1 (famAt bs n) m', famAt bs x.2 = x.1 := fun x hx => by
            rcases kput_mem hx with rfl | hx
            · rcases (by simpa using mem : m' = n ∨ m' = m) with rfl | rfl
              · rfl
              · exact hm
            · exact X9.ok x hx
          exact ⟨_, _, _, rfl, ((sB.trans s8.nil).trans sl.nil).put (by simp), X9.put ok, by have := kput_len L1 (famAt bs n) m'; omega⟩
      · obtain ⟨o6, o7, L1, rfl, sB, XB, l1⟩ := p
        exact ⟨_, _, _, _, _, rfl, XB, rfl⟩
    rintro _ HB ⟨o6, o7, L1, csB, kB, rfl, XB, hkB⟩
    clear X6
    have few : M.length < 300 := by
      have := rows_few (N := bs.length) nd fun r hr => by
        obtain ⟨x, hx, rfl⟩ := List.mem_map.mp hr
        rw [← (good x hx).1]
        exact ⟨fam_len _ _, fun y hy => fam_lim hy⟩
      rw [List.length_map] at this
      have h2 : 3 ^ bs.length ≤ 3 ^ 5 := Nat.pow_le_pow_right (by decide) b5
      have : (3 : Nat) ^ 5 = 243 := by decide
      omega
    -- each kind told
    clear hra hx xl
    have hxB := XB.r
    obtain ⟨ra', xs, e1, hra, hx⟩ := hxB.tuple
    cases e1
    have xl := hx.len
    rw [List.length_map] at xl
    refine ⟨fun σ' H' => ∃ o6 o7, σ' = [some (.ref a), some (.ref D), some (.int (0 + (i : Int))), some v, some (.ref ra), some (.ref F), o6, o7, o8, none] ∧ L4 D c F ra v bs M csB kB L1 H', ?_, ?_⟩
    · refine ⟨_, rfl, ra, rfl, ⟨_, SqT.of hra⟩, for_tup (xs := xs) (fun j σ' H' => ∃ o6 o7, σ' = [some (.ref a), some (.ref D), some (.int (0 + (i : Int))), some v, some (.ref ra), some (.ref F), o6, o7, o8, none] ∧ Sx [] HB H' ∧ L4 D c F ra v bs M csB kB L1 H') ⟨_, _, rfl, Sx.refl _, XB⟩ (fun j σ' H' _ p => ?_) (fun j x σ' H' hj p => ?_) (fun σ' H' p => ?_)⟩
      · obtain ⟨_, _, _, sC, _⟩ := p
        exact SqT.of (sC _ _ (by simp) hra)
      · obtain ⟨o6, o7, rfl, sC, XC⟩ := p
        obtain ⟨d, hd, tx⟩ := (hx.keep sC.tk0).get hj
        rw [List.getElem?_map] at hd
        obtain ⟨y, hy, rfl⟩ := Option.map_eq_some_iff.mp hd
        have hym := List.mem_of_getElem? hy
        obtain ⟨g1, g2⟩ := good y hym
        obtain ⟨ak, bk, rfl, hak, hbk⟩ := tpKd tx
        have y5 : Sg5 y.1 := by rw [← g1]; exact fam5 b5 _
        refine ⟨ak, _, rfl, SqT.of hak, rfl, _, _, rfl, gnm ⟨_, _, rfl, gnm ⟨rfl, ?_⟩⟩⟩
        dsimp only
        refine gIfF (F := fun H' => Sx [] HB H' ∧ L4 D c F ra v bs M csB kB L1 H' ∧ H' bk = some (.tup (y.1.map V.int))) (fun Q' hQ => ?_) (fun H8 h8 => ?_)
        · refine ⟨_, rfl, _, rfl, ns, v, bs, y.2, rfl, XC.t, Nok, Rq, by omega, fun H8 p s8 hp ep => ?_⟩
          have hbk8 := s8 _ _ (by simp) hbk
          rw [g1] at ep
          refine ⟨_, _, rfl, rp_sg ep y5, _, rfl, _, _, rfl, rp_sg hbk8 y5, rfl, _, rfl, ?_⟩
          rw [decide_eq_true rfl]
          refine iteF ⟨_, rfl, _, _, _, _, _, rfl, .ty _, .base (.int y.2), kit_ty (r := false) (by decide +kernel), _, rfl, ?_⟩
          exact hQ _ ⟨sC.trans s8, XC.sx s8, hbk8⟩
        · obtain ⟨s8, X8, hbk8⟩ := h8
          dsimp only
          refine gIfF (F := fun H' => Sx [] HB H' ∧ L4 D c F ra v bs M csB kB L1 H') (fun Q' hQ => ?_) (fun H9 h9 => ?_)
          · have hm : famAt bs ((L1.lookup y.1).getD y.2) = y.1 := by
              cases e : L1.lookup y.1 with
              | none => exact g1
              | some m => exact X8.ok _ (lookup_mem e)
            have dg : DGet H8 F (.ref bk) ((L1.lookup y.1).map V.int) := by rw [← valV_entI]; exact DGet.t X8.f (keyK hbk8)
            have eg : ((L1.lookup y.1).map V.int).getD (.int y.2) = .int ((L1.lookup y.1).getD y.2) := by cases L1.lookup y.1 <;> rfl
            refine ⟨_, rfl, _, rfl, F, rfl, .inr ⟨_, .inl X8.f⟩, _, rfl, _, rfl, _, dg, ?_⟩
            rw [eg]
            generalize (L1.lookup y.1).getD y.2 = m at hm
            refine ⟨by show 2 ≤ sizeLine; decide, fun ℓ hℓ => ⟨ℓ, [y.2, m], rfl, upd_same, by show 2 ≤ 2000; decide, fun H9 o s9 no so => ?_⟩⟩
            cases o with
            | none => exact nomatch no rfl
            | some m' =>
              obtain ⟨mem, least⟩ := so m' rfl
              have em : m' = y.2 := by
                rcases (by simpa using mem : m' = y.2 ∨ m' = m) with h0 | h0
                · exact h0
                · have h1 := least y.2 (by simp)
                  have h2 := g2 m' (by rw [h0]; exact hm)
                  exact ordN_inj (by omega)
              subst em
              have sl := (Sx.n0 (o := .lst [.int y.2, .int m]) hℓ).trans s9
              refine ⟨_, _, rfl, rp_i4 (big y hym), _, rfl, _, _, rfl, rp_i4 (big y hym), rfl, _, rfl, ?_⟩
              rw [decide_eq_true rfl]
              exact hQ _ ⟨s8.trans sl, X8.sx sl⟩
          · obtain ⟨s9, X9⟩ := h9
            exact ⟨_, _, rfl, s9, X9⟩
      · obtain ⟨o6, o7, rfl, _, XC⟩ := p
        exact ⟨_, _, rfl, XC⟩
    clear hra hx xl XB
    rintro _ HC ⟨o6, o7, rfl, XC⟩
    -- the signs told
    have hxC := XC.r
    obtain ⟨ra', xs, e1, hra, hx⟩ := hxC.tuple
    cases e1
    have xl := hx.len
    rw [List.length_map] at xl
    refine ⟨_, rfl, ra, rfl, ⟨_, SqT.of hra⟩, fun Y hY => lc_tup (xs := xs) (fun j H' => Sx [] HC H' ∧ ∃ ba : List Addr, H' Y = some (.lst (ba.map V.ref)) ∧ ba.length = j ∧ ∀ (q : Nat) b x, ba[q]? = some b → M[q]? = some x → H' b = some (.tup (x.1.map V.int))) ⟨Sx.n0 hY, [], upd_same, rfl, fun q b x h => by simp at h⟩ (fun j H' _ p => SqT.of (p.1 _ _ (by simp) hra)) (fun j x H' hj p => ?_) (fun H6 p => ?_)⟩
    · obtain ⟨s6, ba, eY, bl', ball⟩ := p
      have jl := (List.getElem?_eq_some_iff.mp hj).1
      obtain ⟨d, hd, tx⟩ := (hx.keep s6.tk0).get hj
      rw [List.getElem?_map] at hd
      obtain ⟨y, hy, rfl⟩ := Option.map_eq_some_iff.mp hd
      obtain ⟨ak, bk, rfl, hak, hbk⟩ := tpKd tx
      refine ⟨ak, _, rfl, SqT.of hak, rfl, _, _, rfl, gnm ⟨_, _, rfl, gnm ⟨rfl, rfl, ?_⟩⟩⟩
      refine gYes (iteT ?_)
      refine ⟨_, rfl, _, eY, lt_line (by rw [List.length_map]; omega), s6.own hY, ba ++ [bk], by rw [List.map_append]; exact upd_same, by rw [List.length_append, bl']; rfl, fun q b x h1 h2 => ?_⟩
      by_cases c1 : q < j
      · rw [List.getElem?_append_left (by omega)] at h1
        have := ball q b x h1 h2
        rw [upd_ne (fun e => by rw [e, eY] at this; cases this)]
        exact this
      · have : q = j := by
          have := (List.getElem?_eq_some_iff.mp h1).1
          rw [List.length_append] at this
          have : q < ba.length + 1 := this
          omega
        subst this
        rw [List.getElem?_append_right (by omega), bl', Nat.sub_self] at h1
        cases h1
        rw [hy] at h2
        cases h2
        rw [upd_ne (fun e => by rw [e, eY] at hbk; cases hbk)]
        exact hbk
    obtain ⟨s6, ba, eY, bl', ball⟩ := p
    have X6 := XC.sx s6
    generalize hks : ba.zip (M.map (·.1)) = ks
    have k1 : ks.map (·.1) = ba := by rw [← hks]; exact List.map_fst_zip (by rw [List.length_map]; omega)
    have k2 : ks.map (·.2) = M.map (·.1) := by rw [← hks]; exact List.map_snd_zip (by rw [List.length_map]; omega)
    have kin : ∀ p ∈ ks, H6 p.1 = some (.tup (p.2.map V.int)) := fun p hp => by
      rw [← hks] at hp
      obtain ⟨q, hq⟩ := List.mem_iff_getElem?.mp hp
      obtain ⟨q1, q2⟩ := List.getElem?_zip_eq_some.mp hq
      rw [List.getElem?_map] at q2
      obtain ⟨x, hx, e2⟩ := Option.map_eq_some_iff.mp q2
      rw [← e2]; exact ball q _ x q1 hx
    have s5 : ∀ s ∈ M.map (·.1), Sg5 s := fun s hs => by
      obtain ⟨x, hx, rfl⟩ := List.mem_map.mp hs
      rw [← (good x hx).1]; exact fam5 b5 _
    have kne : ∀ p ∈ ks, p.2 ≠ [] := fun p hp e => by
      have : p.2 ∈ M.map (·.1) := by rw [← k2]; exact List.mem_map.mpr ⟨p, hp, rfl⟩
      obtain ⟨x, hx, e2⟩ := List.mem_map.mp this
      have e2 : x.1 = p.2 := e2
      rw [e, ← (good x hx).1] at e2
      have := congrArg List.length e2
      rw [fam_len] at this
      exact ne (List.eq_nil_of_length_eq_zero this)
    have klen : ks.length = M.length := by have := congrArg List.length k2; rwa [List.length_map, List.length_map] at this
    have mlen : (M.map (·.1)).length < 300 := by rw [List.length_map]; exact few
    have eY6 : H6 Y = some (.lst (ks.map fun p => V.ref p.1)) := by rw [eY, ← k1, List.map_map]; rfl
    clear eY ball hks k1 bl' s6 hY hra hx xl XC
    refine gnm ?_
    dsimp only
    refine gIfF (F := fun H' => L4 D c F ra v bs M csB kB L1 H') (fun Q' hQ => ?_) (fun H9 h9 => ?_)
    · refine ⟨_, rfl, _, _, rfl, rp_sgs eY6 kin k2 s5 mlen, ?_⟩
      refine ⟨_, rfl, Y, ks, rfl, SqL.of eY6, fun p hp => SqT.of (kin p hp), by rw [k2]; exact nd, by omega, fun A Ls hA pA => ?_⟩
      have sA := Sx.n0 (o := SetDO P w A Ls) hA
      refine ⟨A, Ls, rfl, upd_same, fun p hp => ⟨SqT.of (sA _ _ (by simp) (kin p (pA.mem_iff.mp hp))), kne p (pA.mem_iff.mp hp)⟩, fun p L1' hp p1 => ?_⟩
      have p3 : (L1'.mergeSort (PySem.W.dataLe false fun q => intsT q.2)).Perm ks := (List.mergeSort_perm _ _).trans (p1.trans pA)
      have e3 : (L1'.mergeSort (PySem.W.dataLe false fun q => intsT q.2)).map (·.2) = M.map (·.1) := by
        rw [← hM] at k2 ⊢
        exact kd_set k2 (p1.trans pA)
      generalize L1'.mergeSort (PySem.W.dataLe false fun q => intsT q.2) = L3 at p3 e3
      have sP := sA.new (o := .lst (L3.map fun q => V.ref q.1)) hp
      have X7 := X6.sx sP
      have eY7 := sP _ _ (by simp) eY6
      have kin7 := fun q hq => sP _ _ (by simp) (kin q hq)
      have eP : (upd (upd H6 A (SetDO P w A Ls)) p (.lst (L3.map fun q => V.ref q.1))) p = some (.lst (L3.map fun q => V.ref q.1)) := upd_same
      refine ⟨_, _, rfl, rp_sgs eP (fun q hq => kin7 q (p3.mem_iff.mp hq)) e3 s5 mlen, rfl, _, rfl, ?_⟩
      rw [decide_eq_true rfl]
      refine iteF ?_
      have hQ7 : ∀ H', Sx [] (upd (upd H6 A (SetDO P w A Ls)) p (.lst (L3.map fun q => V.ref q.1))) H' → Q' false H' := fun H' s => hQ H' (X7.sx s)
      change tTest _ _ (upd (upd H6 A (SetDO P w A Ls)) p (.lst (L3.map fun q => V.ref q.1))) _
      generalize upd (upd H6 A (SetDO P w A Ls)) p (.lst (L3.map fun q => V.ref q.1)) = H7 at X7 eY7 kin7 eP hQ7 ⊢
      clear hQ sP sA hp hA e3 p3 p1 pA
      refine ⟨F, _, X7.f, True.intro, fun od => ?_⟩
      have F7 := X7.f
      have YF : Y ≠ F := fun e => by rw [e, F7] at eY7; cases eY7
      have kF : ∀ q ∈ ks, q.1 ≠ F := fun q hq e => by have := kin7 q hq; rw [e, F7] at this; cases this
      refine ⟨_, rfl, F, od, rfl, .inr ⟨_, upd_same, fun Z hZ => lc_it walk_keysT (fun j H' => Sx [] (upd H7 F (.frz od (.dT (L1.map entI)))) H' ∧ H' Z = some (.lst [])) ⟨Sx.n0 hZ, upd_same⟩ (fun j H' _ p => p.1 _ _ (by simp) upd_same) (fun j x H' H8 hj p y => ?_) (fun H8 p => ?_)⟩⟩
      · obtain ⟨sZ, eZ⟩ := p
        obtain ⟨rfl, k', vv, q', hk, rfl, hq'⟩ := y
        rw [List.getElem?_map] at hk
        obtain ⟨z, hz, ez⟩ := Option.map_eq_some_iff.mp hk
        cases ez
        rw [inl_kV] at hq'
        have hzs : famAt bs z.2 = z.1 := X7.ok z (List.mem_of_getElem? hz)
        have eY8 := sZ _ _ (by simp) (by rw [upd_ne YF]; exact eY7)
        have kin8 : ∀ q ∈ ks, H8 q.1 = some (.tup (q.2.map V.int)) := fun q hq => sZ _ _ (by simp) (by rw [upd_ne (kF q hq)]; exact kin7 q hq)
        refine gnm ⟨rfl, _, rfl, _, rfl, intsT z.1, _, Tp.dp (.tup hq' (TpAll.ints _)), .lst (SqL.of eY8) (TpAll.dp (tp_sgs kin8)), sgD_sh _, lstSh (fun d hd => ?_), _, rfl, ?_⟩
        · obtain ⟨s', _, rfl⟩ := List.mem_map.mp hd
          exact ⟨s', rfl⟩
        · rw [any_sgs (by rw [k2, ← hzs]; exact all _)]
          exact iteF ⟨sZ, eZ⟩
      · obtain ⟨sZ, eZ⟩ := p
        refine ⟨sZ _ _ (by simp) upd_same, by show 0 ≤ sizeLine; decide, fun E' hE' => ?_⟩
        have ZF : Z ≠ F := fun e => by rw [e, upd_same] at hZ; cases hZ
        have sU := Sx.unlock F7 sZ
        have sE := sU.trans (Sx.n0 (o := .lst []) hE')
        refine ⟨.list [], .list [], .lst (SqL.of ((Sx.n0 (o := .lst []) hE') _ _ (by simp) (by rw [upd_ne ZF]; exact eZ))) .nil, .lst (SqL.of upd_same) .nil, lstSh (fun _ h => nomatch h), lstSh (fun _ h => nomatch h), _, rfl, ?_⟩
        exact hQ7 _ sE
    · exact ⟨_, _, _, _, _, _, _, rfl, csB, kB, h9.d, by omega⟩
end
theorem walk_ofEG {l : PySem.W.OpenLaw} {n k : Nat} {q : Program} {loose : List Str} {XP : (Str → Option Value) → Heap → Prop} {YP : World → Heap → Prop} {d : DefRec} {x : Str}
    (hn : l.most = some n) (hn2 : n ≤ sizeLine) (hr : Room k callerA) (hdf : d.params.defaults = [])
    (F : ∀ (w : World) (mg : Str → Option Value) (fa : Addr) (h : PySem.Heap), YP w h → h.Ns mainGlobals mg → mg d.name = some (.ref fa) →
      ∃ (K : PySem.W.Frag) (fd : PySem.FuncData) (sp : Sp), K.In h ∧ (∀ (s : Shared) (u : Value), BindsTo s fd ⟨[u], []⟩ [(x, u)]) ∧
        (∀ (H : Hp) (a : Addr) (ns : List Int), ns.length ≤ n → Only H → SqL K H a (ns.map V.int) → sp [.ref a] H (fun v _ => v = .bl true) E0) ∧ ∀ base : Heap, K.In base → base.Ns mainGlobals mg → FnG l.prog w K mg base k fa fd [x] sp) :
    PySem.W.WalkO q loose XP YP l.row.toRowW d [] (fun g us => PySem.call g us) := by
  refine Att.attach_call hn hdf fun w s₀ s₁ mg mb fa o pm cd doc a vs ns G Y _ _ _ hmg hobj hints hlen hg => ?_
  rcases F w mg fa _ Y G.T.g hmg with ⟨K, fd, sp, KX, hb, hsp, hF⟩
  exact law_callG KX G.T.g G.T.b G.T.builtins G.T.nolimit hg hobj hints (Nat.le_trans hlen hn2) hr hF hb fun H hO hS => hsp H a ns hlen hO hS
/-! ### the head -/
theorem Fun.of {K : PySem.W.Frag} {x qual : Str} {st : Stmt} {kws : List (Str × V)} {f : Addr} {fd : FuncData} (F : FunD K x qual (defArgs st) (defBody st) (defScope st) [] kws f fd) : Fun K x qual st f fd := by
  rcases F.ex with ⟨oc, od, dV, kV, doc, pm, an, cdv, ct, osl, rfl, lk, hcd, hD, hK⟩
  obtain ⟨_, rfl⟩ | ⟨e, _⟩ := hD
  · exact ⟨⟨oc, od, kV, doc, pm, an, cdv, ct, osl, rfl, lk, hcd⟩, F.kp⟩
  · exact absurd rfl e
set_option maxHeartbeats 0 in
theorem facts {w : World} {P : Program} {K : PySem.W.Frag} {h : Heap} {mg : Str → Option Value} {f : Addr} (X : K.In h) (G : h.Ns mainGlobals mg) (hfa : mg ("law" : Str) = some (.ref f)) (c : He.SaysD fa fn K) :
    ∃ fd : FuncData, (∀ (s : Shared) (v : Value), BindsTo s fd ⟨[v], []⟩ [("_law_script", v)]) ∧ ∀ base : Heap, K.In base → base.Ns mainGlobals mg → FnG P w K mg base 43 f fd ["_law_script"] (spLawK34 K) := by
  obtain ⟨fd_pis_integer, D_pis_integer⟩ := c.def_ 0 (d := dPIsInteger) rfl
  obtain ⟨fd_pbare_test, D_pbare_test⟩ := c.def_ 1 (d := dPBareTest) rfl
  obtain ⟨fd_pblocks_of, D_pblocks_of⟩ := c.def_ 2 (d := dPBlocksOf) rfl
  obtain ⟨fd_peach_statement, D_peach_statement⟩ := c.def_ 3 (d := dPEachStatement) rfl
  obtain ⟨fd_ptests_with, D_ptests_with⟩ := c.def_ 4 (d := dPTestsWith) rfl
  obtain ⟨fd_psign_parts, D_psign_parts⟩ := c.def_ 5 (d := dPSignParts) rfl
  obtain ⟨fd_pends_of, D_pends_of⟩ := c.def_ 6 (d := dPEndsOf) rfl
  obtain ⟨fd_pways_of, D_pways_of⟩ := c.def_ 7 (d := dPWaysOf) rfl
  obtain ⟨fd_pparts_by, D_pparts_by⟩ := c.def_ 8 (d := dPPartsBy) rfl
  obtain ⟨fd_pparts_below, D_pparts_below⟩ := c.def_ 9 (d := dPPartsBelow) rfl
  obtain ⟨fd_pline_of, D_pline_of⟩ := c.def_ 10 (d := dPLineOf) rfl
  obtain ⟨fd_ptimes_line, D_ptimes_line⟩ := c.def_ 11 (d := dPTimesLine) rfl
  obtain ⟨fd_psum_line, D_psum_line⟩ := c.def_ 12 (d := dPSumLine) rfl
  obtain ⟨fd_ptighter_low, D_ptighter_low⟩ := c.def_ 13 (d := dPTighterLow) rfl
  obtain ⟨fd_ptighter_high, D_ptighter_high⟩ := c.def_ 14 (d := dPTighterHigh) rfl
  obtain ⟨fd_psigns_of, D_psigns_of⟩ := c.def_ 15 (d := dPSignsOf) rfl
  obtain ⟨fd_pkinds_of, D_pkinds_of⟩ := c.def_ 16 (d := dPKindsOf) rfl
  obtain ⟨fd_porder_of, D_porder_of⟩ := c.def_ 17 (d := dPOrderOf) rfl
  obtain ⟨fd_pfirst_of, D_pfirst_of⟩ := c.def_ 18 (d := dPFirstOf) rfl
  obtain ⟨fd_phas_one, D_phas_one⟩ := c.def_ 19 (d := dPHasOne) rfl
  obtain ⟨fd_ptable_of, D_ptable_of⟩ := c.def_ 20 (d := dPTableOf) rfl
  obtain ⟨fd_pcolumn_of, D_pcolumn_of⟩ := c.def_ 21 (d := dPColumnOf) rfl
  obtain ⟨fd_pcrossed, D_pcrossed⟩ := c.def_ 22 (d := dPCrossed) rfl
  obtain ⟨fd_pjoined, D_pjoined⟩ := c.def_ 23 (d := dPJoined) rfl
  obtain ⟨fd_pleast_common, D_pleast_common⟩ := c.def_ 24 (d := dPLeastCommon) rfl
  obtain ⟨fd_pbezout, D_pbezout⟩ := c.def_ 25 (d := dPBezout) rfl
  obtain ⟨fd_deck, D_deck⟩ := c.def_ 26 (d := dDeck) rfl
  obtain ⟨fd_draw, D_draw⟩ := c.def_ 27 (d := dDraw) rfl
  obtain ⟨fd_one, D_one⟩ := c.def_ 28 (d := dOne) rfl
  obtain ⟨fd_rank, D_rank⟩ := c.def_ 29 (d := dRank) rfl
  obtain ⟨fd_small, D_small⟩ := c.def_ 30 (d := dSmall) rfl
  obtain ⟨fd_first_of, D_first_of⟩ := c.def_ 31 (d := dFirstOf) rfl
  obtain ⟨fd_names, D_names⟩ := c.def_ 32 (d := dNames) rfl
  obtain ⟨fd_expression, D_expression⟩ := c.def_ 33 (d := dExpression) rfl
  obtain ⟨fd_test, D_test⟩ := c.def_ 34 (d := dTest) rfl
  obtain ⟨fd_row, D_row⟩ := c.def_ 35 (d := dRow) rfl
  obtain ⟨fd_block, D_block⟩ := c.def_ 36 (d := dBlock) rfl
  obtain ⟨fd_program, D_program⟩ := c.def_ 37 (d := dProgram) rfl
  obtain ⟨fd_little, D_little⟩ := c.def_ 38 (d := dLittle) rfl
  obtain ⟨fd_family, D_family⟩ := c.def_ 39 (d := dFamily) rfl
  obtain ⟨fd_value, D_value⟩ := c.def_ 40 (d := dValue) rfl
  obtain ⟨fd_is_true, D_is_true⟩ := c.def_ 41 (d := dIsTrue) rfl
  obtain ⟨fd_sign, D_sign⟩ := c.def_ 42 (d := dSign) rfl
  obtain ⟨fd_signs, D_signs⟩ := c.def_ 43 (d := dSigns) rfl
  obtain ⟨fd_near, D_near⟩ := c.def_ 44 (d := dNear) rfl
  obtain ⟨fd_law, D_law⟩ := c.def_ 45 (d := dPLaw) rfl
  have e := hfa.symm.trans (He.glo_ok X G (c.fact 45 (f := .glo "law") rfl))
  cases e
  have bl := FunD.bindsA (ps := ["_law_script"]) D_law fun _ _ _ _ _ _ us hl => match us, hl with | [_], _ => rfl
  refine ⟨fd_law, fun s v => bl s [v] rfl, fun base _ _ => ?_⟩
  have F_pis_integer : Fun K "is_integer" "is_integer" sPIsInteger (He.ga K "is_integer") fd_pis_integer := Fun.of D_pis_integer
  have b_pis_integer : Binds K fd_pis_integer ["value"] [] := F_pis_integer.binds (ps := ["value"]) fun _ _ _ _ _ _ us hl => match us, hl with | [_], _ => rfl
  have F_pbare_test : Fun K "bare_test" "bare_test" sPBareTest (He.ga K "bare_test") fd_pbare_test := Fun.of D_pbare_test
  have b_pbare_test : Binds K fd_pbare_test ["test"] [] := F_pbare_test.binds (ps := ["test"]) fun _ _ _ _ _ _ us hl => match us, hl with | [_], _ => rfl
  have F_pblocks_of : Fun K "blocks_of" "blocks_of" sPBlocksOf (He.ga K "blocks_of") fd_pblocks_of := Fun.of D_pblocks_of
  have b_pblocks_of : Binds K fd_pblocks_of ["statement"] [] := F_pblocks_of.binds (ps := ["statement"]) fun _ _ _ _ _ _ us hl => match us, hl with | [_], _ => rfl
  have F_peach_statement : Fun K "each_statement" "each_statement" sPEachStatement (He.ga K "each_statement") fd_peach_statement := Fun.of D_peach_statement
  have b_peach_statement : Binds K fd_peach_statement ["program"] [] := F_peach_statement.binds (ps := ["program"]) fun _ _ _ _ _ _ us hl => match us, hl with | [_], _ => rfl
  have F_ptests_with : Fun K "tests_with" "tests_with" sPTestsWith (He.ga K "tests_with") fd_ptests_with := Fun.of D_ptests_with
  have b_ptests_with : Binds K fd_ptests_with ["statement", "word"] [] := F_ptests_with.binds (ps := ["statement", "word"]) fun _ _ _ _ _ _ us hl => match us, hl with | [_, _], _ => rfl
  have F_psign_parts : Fun K "sign_parts" "sign_parts" sPSignParts (He.ga K "sign_parts") fd_psign_parts := Fun.of D_psign_parts
  have b_psign_parts : Binds K fd_psign_parts ["program", "period"] [] := F_psign_parts.binds (ps := ["program", "period"]) fun _ _ _ _ _ _ us hl => match us, hl with | [_, _], _ => rfl
  have F_pends_of : Fun K "ends_of" "ends_of" sPEndsOf (He.ga K "ends_of") fd_pends_of := Fun.of D_pends_of
  have b_pends_of : Binds K fd_pends_of ["block", "lines", "total", "part"] [] := F_pends_of.binds (ps := ["block", "lines", "total", "part"]) fun _ _ _ _ _ _ us hl => match us, hl with | [_, _, _, _], _ => rfl
  have F_pways_of : Fun K "ways_of" "ways_of" sPWaysOf (He.ga K "ways_of") fd_pways_of := Fun.of D_pways_of
  have b_pways_of : Binds K fd_pways_of ["statement", "lines", "part"] [] := F_pways_of.binds (ps := ["statement", "lines", "part"]) fun _ _ _ _ _ _ us hl => match us, hl with | [_, _, _], _ => rfl
  have F_pparts_by : Fun K "parts_by" "parts_by" sPPartsBy (He.ga K "parts_by") fd_pparts_by := Fun.of D_pparts_by
  have b_pparts_by : Binds K fd_pparts_by ["test", "lines", "part"] [] := F_pparts_by.binds (ps := ["test", "lines", "part"]) fun _ _ _ _ _ _ us hl => match us, hl with | [_, _, _], _ => rfl
  have F_pparts_below : Fun K "parts_below" "parts_below" sPPartsBelow (He.ga K "parts_below") fd_pparts_below := Fun.of D_pparts_below
  have b_pparts_below : Binds K fd_pparts_below ["line", "part"] [] := F_pparts_below.binds (ps := ["line", "part"]) fun _ _ _ _ _ _ us hl => match us, hl with | [_, _], _ => rfl
  have F_pline_of : Fun K "line_of" "line_of" sPLineOf (He.ga K "line_of") fd_pline_of := Fun.of D_pline_of
  have b_pline_of : Binds K fd_pline_of ["expression", "lines"] [] := F_pline_of.binds (ps := ["expression", "lines"]) fun _ _ _ _ _ _ us hl => match us, hl with | [_, _], _ => rfl
  have F_ptimes_line : Fun K "times_line" "times_line" sPTimesLine (He.ga K "times_line") fd_ptimes_line := Fun.of D_ptimes_line
  have b_ptimes_line : Binds K fd_ptimes_line ["factor", "line"] [] := F_ptimes_line.binds (ps := ["factor", "line"]) fun _ _ _ _ _ _ us hl => match us, hl with | [_, _], _ => rfl
  have F_psum_line : Fun K "sum_line" "sum_line" sPSumLine (He.ga K "sum_line") fd_psum_line := Fun.of D_psum_line
  have b_psum_line : Binds K fd_psum_line ["one", "other"] [] := F_psum_line.binds (ps := ["one", "other"]) fun _ _ _ _ _ _ us hl => match us, hl with | [_, _], _ => rfl
  have F_ptighter_low : Fun K "tighter_low" "tighter_low" sPTighterLow (He.ga K "tighter_low") fd_ptighter_low := Fun.of D_ptighter_low
  have b_ptighter_low : Binds K fd_ptighter_low ["low", "other"] [] := F_ptighter_low.binds (ps := ["low", "other"]) fun _ _ _ _ _ _ us hl => match us, hl with | [_, _], _ => rfl
  have F_ptighter_high : Fun K "tighter_high" "tighter_high" sPTighterHigh (He.ga K "tighter_high") fd_ptighter_high := Fun.of D_ptighter_high
  have b_ptighter_high : Binds K fd_ptighter_high ["high", "other"] [] := F_ptighter_high.binds (ps := ["high", "other"]) fun _ _ _ _ _ _ us hl => match us, hl with | [_, _], _ => rfl
  have F_psigns_of : Fun K "signs_of" "signs_of" sPSignsOf (He.ga K "signs_of") fd_psigns_of := Fun.of D_psigns_of
  have b_psigns_of : Binds K fd_psigns_of ["family"] [] := F_psigns_of.binds (ps := ["family"]) fun _ _ _ _ _ _ us hl => match us, hl with | [_], _ => rfl
  have F_pkinds_of : Fun K "kinds_of" "kinds_of" sPKindsOf (He.ga K "kinds_of") fd_pkinds_of := Fun.of D_pkinds_of
  have b_pkinds_of : Binds K fd_pkinds_of ["family"] [] := F_pkinds_of.binds (ps := ["family"]) fun _ _ _ _ _ _ us hl => match us, hl with | [_], _ => rfl
  have F_porder_of : Fun K "order_of" "order_of" sPOrderOf (He.ga K "order_of") fd_porder_of := Fun.of D_porder_of
  have b_porder_of : Binds K fd_porder_of ["number"] [] := F_porder_of.binds (ps := ["number"]) fun _ _ _ _ _ _ us hl => match us, hl with | [_], _ => rfl
  have F_pfirst_of : Fun K "first_of" "first_of" sPFirstOf (He.ga K "first_of") fd_pfirst_of := Fun.of D_pfirst_of
  have b_pfirst_of : Binds K fd_pfirst_of ["rest", "by", "low", "high"] [] := F_pfirst_of.binds (ps := ["rest", "by", "low", "high"]) fun _ _ _ _ _ _ us hl => match us, hl with | [_, _, _, _], _ => rfl
  have F_phas_one : Fun K "has_one" "has_one" sPHasOne (He.ga K "has_one") fd_phas_one := Fun.of D_phas_one
  have b_phas_one : Binds K fd_phas_one ["rest", "by", "low", "high"] [] := F_phas_one.binds (ps := ["rest", "by", "low", "high"]) fun _ _ _ _ _ _ us hl => match us, hl with | [_, _, _, _], _ => rfl
  have F_ptable_of : Fun K "table_of" "table_of" sPTableOf (He.ga K "table_of") fd_ptable_of := Fun.of D_ptable_of
  have b_ptable_of : Binds K fd_ptable_of ["family"] [] := F_ptable_of.binds (ps := ["family"]) fun _ _ _ _ _ _ us hl => match us, hl with | [_], _ => rfl
  have F_pcolumn_of : Fun K "column_of" "column_of" sPColumnOf (He.ga K "column_of") fd_pcolumn_of := Fun.of D_pcolumn_of
  have b_pcolumn_of : Binds K fd_pcolumn_of ["program"] [] := F_pcolumn_of.binds (ps := ["program"]) fun _ _ _ _ _ _ us hl => match us, hl with | [_], _ => rfl
  have F_pcrossed : Fun K "crossed" "crossed" sPCrossed (He.ga K "crossed") fd_pcrossed := Fun.of D_pcrossed
  have b_pcrossed : Binds K fd_pcrossed ["pieces", "others", "rest", "by"] [] := F_pcrossed.binds (ps := ["pieces", "others", "rest", "by"]) fun _ _ _ _ _ _ us hl => match us, hl with | [_, _, _, _], _ => rfl
  have F_pjoined : Fun K "joined" "joined" sPJoined (He.ga K "joined") fd_pjoined := Fun.of D_pjoined
  have b_pjoined : Binds K fd_pjoined ["pieces"] [] := F_pjoined.binds (ps := ["pieces"]) fun _ _ _ _ _ _ us hl => match us, hl with | [_], _ => rfl
  have F_pleast_common : Fun K "least_common" "least_common" sPLeastCommon (He.ga K "least_common") fd_pleast_common := Fun.of D_pleast_common
  have b_pleast_common : Binds K fd_pleast_common ["one", "other"] [] := F_pleast_common.binds (ps := ["one", "other"]) fun _ _ _ _ _ _ us hl => match us, hl with | [_, _], _ => rfl
  have F_pbezout : Fun K "bezout" "bezout" sPBezout (He.ga K "bezout") fd_pbezout := Fun.of D_pbezout
  have b_pbezout : Binds K fd_pbezout ["one", "other"] [] := F_pbezout.binds (ps := ["one", "other"]) fun _ _ _ _ _ _ us hl => match us, hl with | [_, _], _ => rfl
  have F_deck : Fun K "_law_deck" "_law_deck" sDeck (He.ga K "_law_deck") fd_deck := Fun.of D_deck
  have b_deck : Binds K fd_deck ["_law_script"] [] := F_deck.binds (ps := ["_law_script"]) fun _ _ _ _ _ _ us hl => match us, hl with | [_], _ => rfl
  have F_draw : Fun K "_law_draw" "_law_draw" sDraw (He.ga K "_law_draw") fd_draw := Fun.of D_draw
  have b_draw : Binds K fd_draw ["_law_deck_here", "_law_many"] [] := F_draw.binds (ps := ["_law_deck_here", "_law_many"]) fun _ _ _ _ _ _ us hl => match us, hl with | [_, _], _ => rfl
  have F_one : Fun K "_law_one" "_law_one" sOne (He.ga K "_law_one") fd_one := Fun.of D_one
  have b_one : Binds K fd_one ["_law_deck_here", "_law_items"] [] := F_one.binds (ps := ["_law_deck_here", "_law_items"]) fun _ _ _ _ _ _ us hl => match us, hl with | [_, _], _ => rfl
  have F_rank : Fun K "_law_rank" "_law_rank" sRank (He.ga K "_law_rank") fd_rank := Fun.of D_rank
  have b_rank : Binds K fd_rank ["_law_number"] [] := F_rank.binds (ps := ["_law_number"]) fun _ _ _ _ _ _ us hl => match us, hl with | [_], _ => rfl
  have F_small : Fun K "_law_small" "_law_small" sSmall (He.ga K "_law_small") fd_small := Fun.of D_small
  have b_small : Binds K fd_small ["_law_many"] [] := F_small.binds (ps := ["_law_many"]) fun _ _ _ _ _ _ us hl => match us, hl with | [_], _ => rfl
  have F_first_of : Fun K "_law_first_of" "_law_first_of" sFirstOf (He.ga K "_law_first_of") fd_first_of := Fun.of D_first_of
  have b_first_of : Binds K fd_first_of ["_law_numbers"] [] := F_first_of.binds (ps := ["_law_numbers"]) fun _ _ _ _ _ _ us hl => match us, hl with | [_], _ => rfl
  have F_names : Fun K "_law_names" "_law_names" sNames (He.ga K "_law_names") fd_names := Fun.of D_names
  have b_names : Binds K fd_names ["_law_deck_here"] [] := F_names.binds (ps := ["_law_deck_here"]) fun _ _ _ _ _ _ us hl => match us, hl with | [_], _ => rfl
  have F_expression : Fun K "_law_expression" "_law_expression" sExpression (He.ga K "_law_expression") fd_expression := Fun.of D_expression
  have b_expression : Binds K fd_expression ["_law_deck_here", "_law_names_here", "_law_deep"] [] := F_expression.binds (ps := ["_law_deck_here", "_law_names_here", "_law_deep"]) fun _ _ _ _ _ _ us hl => match us, hl with | [_, _, _], _ => rfl
  have F_test : Fun K "_law_test" "_law_test" sTest (He.ga K "_law_test") fd_test := Fun.of D_test
  have b_test : Binds K fd_test ["_law_deck_here", "_law_names_here", "_law_room", "_law_times"] [] := F_test.binds (ps := ["_law_deck_here", "_law_names_here", "_law_room", "_law_times"]) fun _ _ _ _ _ _ us hl => match us, hl with | [_, _, _, _], _ => rfl
  have F_row : Fun K "_law_row" "_law_row" sRow (He.ga K "_law_row") fd_row := Fun.of D_row
  have b_row : Binds K fd_row ["_law_deck_here", "_law_names_here", "_law_room", "_law_times", "_law_depth"] [] := F_row.binds (ps := ["_law_deck_here", "_law_names_here", "_law_room", "_law_times", "_law_depth"]) fun _ _ _ _ _ _ us hl => match us, hl with | [_, _, _, _, _], _ => rfl
  have F_block : Fun K "_law_block" "_law_block" sBlock (He.ga K "_law_block") fd_block := Fun.of D_block
  have b_block : Binds K fd_block ["_law_deck_here", "_law_names_here", "_law_room", "_law_times", "_law_depth"] [] := F_block.binds (ps := ["_law_deck_here", "_law_names_here", "_law_room", "_law_times", "_law_depth"]) fun _ _ _ _ _ _ us hl => match us, hl with | [_, _, _, _, _], _ => rfl
  have F_program : Fun K "_law_program" "_law_program" sProgram (He.ga K "_law_program") fd_program := Fun.of D_program
  have b_program : Binds K fd_program ["_law_deck_here", "_law_names_here"] [] := F_program.binds (ps := ["_law_deck_here", "_law_names_here"]) fun _ _ _ _ _ _ us hl => match us, hl with | [_, _], _ => rfl
  have F_little : Fun K "_law_little" "_law_little" sLittle (He.ga K "_law_little") fd_little := Fun.of D_little
  have b_little : Binds K fd_little ["_law_deck_here", "_law_names_here"] [] := F_little.binds (ps := ["_law_deck_here", "_law_names_here"]) fun _ _ _ _ _ _ us hl => match us, hl with | [_, _], _ => rfl
  have F_family : Fun K "_law_family" "_law_family" sFamily (He.ga K "_law_family") fd_family := Fun.of D_family
  have b_family : Binds K fd_family ["_law_deck_here", "_law_names_here", "_law_most"] [] := F_family.binds (ps := ["_law_deck_here", "_law_names_here", "_law_most"]) fun _ _ _ _ _ _ us hl => match us, hl with | [_, _, _], _ => rfl
  have F_value : Fun K "_law_value" "_law_value" sValue (He.ga K "_law_value") fd_value := Fun.of D_value
  have b_value : Binds K fd_value ["_law_names_here", "_law_expression_here"] [] := F_value.binds (ps := ["_law_names_here", "_law_expression_here"]) fun _ _ _ _ _ _ us hl => match us, hl with | [_, _], _ => rfl
  have F_is_true : Fun K "_law_is_true" "_law_is_true" sIsTrue (He.ga K "_law_is_true") fd_is_true := Fun.of D_is_true
  have b_is_true : Binds K fd_is_true ["_law_names_here", "_law_test_here"] [] := F_is_true.binds (ps := ["_law_names_here", "_law_test_here"]) fun _ _ _ _ _ _ us hl => match us, hl with | [_, _], _ => rfl
  have F_sign : Fun K "_law_sign" "_law_sign" sSign (He.ga K "_law_sign") fd_sign := Fun.of D_sign
  have b_sign : Binds K fd_sign ["_law_program_here", "_law_number"] [] := F_sign.binds (ps := ["_law_program_here", "_law_number"]) fun _ _ _ _ _ _ us hl => match us, hl with | [_, _], _ => rfl
  have F_signs : Fun K "_law_signs" "_law_signs" sSigns (He.ga K "_law_signs") fd_signs := Fun.of D_signs
  have b_signs : Binds K fd_signs ["_law_family_here", "_law_number"] [] := F_signs.binds (ps := ["_law_family_here", "_law_number"]) fun _ _ _ _ _ _ us hl => match us, hl with | [_, _], _ => rfl
  have F_near : Fun K "_law_near" "_law_near" sNear (He.ga K "_law_near") fd_near := Fun.of D_near
  have b_near : Binds K fd_near ["_law_deck_here", "_law_rows"] [] := F_near.binds (ps := ["_law_deck_here", "_law_rows"]) fun _ _ _ _ _ _ us hl => match us, hl with | [_, _], _ => rfl
  have F_law : Fun K "law" "law" sPLaw (He.ga K "law") fd_law := Fun.of D_law
  have m_pis_integer : mg "is_integer" = some (.ref (He.ga K "is_integer")) := He.glo_ok X G (c.fact 0 (f := .glo "is_integer") rfl)
  have m_pbare_test : mg "bare_test" = some (.ref (He.ga K "bare_test")) := He.glo_ok X G (c.fact 1 (f := .glo "bare_test") rfl)
  have m_pblocks_of : mg "blocks_of" = some (.ref (He.ga K "blocks_of")) := He.glo_ok X G (c.fact 2 (f := .glo "blocks_of") rfl)
  have m_peach_statement : mg "each_statement" = some (.ref (He.ga K "each_statement")) := He.glo_ok X G (c.fact 3 (f := .glo "each_statement") rfl)
  have m_ptests_with : mg "tests_with" = some (.ref (He.ga K "tests_with")) := He.glo_ok X G (c.fact 4 (f := .glo "tests_with") rfl)
  have m_psign_parts : mg "sign_parts" = some (.ref (He.ga K "sign_parts")) := He.glo_ok X G (c.fact 5 (f := .glo "sign_parts") rfl)
  have m_pends_of : mg "ends_of" = some (.ref (He.ga K "ends_of")) := He.glo_ok X G (c.fact 6 (f := .glo "ends_of") rfl)
  have m_pways_of : mg "ways_of" = some (.ref (He.ga K "ways_of")) := He.glo_ok X G (c.fact 7 (f := .glo "ways_of") rfl)
  have m_pparts_by : mg "parts_by" = some (.ref (He.ga K "parts_by")) := He.glo_ok X G (c.fact 8 (f := .glo "parts_by") rfl)
  have m_pparts_below : mg "parts_below" = some (.ref (He.ga K "parts_below")) := He.glo_ok X G (c.fact 9 (f := .glo "parts_below") rfl)
  have m_pline_of : mg "line_of" = some (.ref (He.ga K "line_of")) := He.glo_ok X G (c.fact 10 (f := .glo "line_of") rfl)
  have m_ptimes_line : mg "times_line" = some (.ref (He.ga K "times_line")) := He.glo_ok X G (c.fact 11 (f := .glo "times_line") rfl)
  have m_psum_line : mg "sum_line" = some (.ref (He.ga K "sum_line")) := He.glo_ok X G (c.fact 12 (f := .glo "sum_line") rfl)
  have m_ptighter_low : mg "tighter_low" = some (.ref (He.ga K "tighter_low")) := He.glo_ok X G (c.fact 13 (f := .glo "tighter_low") rfl)
  have m_ptighter_high : mg "tighter_high" = some (.ref (He.ga K "tighter_high")) := He.glo_ok X G (c.fact 14 (f := .glo "tighter_high") rfl)
  have m_psigns_of : mg "signs_of" = some (.ref (He.ga K "signs_of")) := He.glo_ok X G (c.fact 15 (f := .glo "signs_of") rfl)
  have m_pkinds_of : mg "kinds_of" = some (.ref (He.ga K "kinds_of")) := He.glo_ok X G (c.fact 16 (f := .glo "kinds_of") rfl)
  have m_porder_of : mg "order_of" = some (.ref (He.ga K "order_of")) := He.glo_ok X G (c.fact 17 (f := .glo "order_of") rfl)
  have m_pfirst_of : mg "first_of" = some (.ref (He.ga K "first_of")) := He.glo_ok X G (c.fact 18 (f := .glo "first_of") rfl)
  have m_phas_one : mg "has_one" = some (.ref (He.ga K "has_one")) := He.glo_ok X G (c.fact 19 (f := .glo "has_one") rfl)
  have m_ptable_of : mg "table_of" = some (.ref (He.ga K "table_of")) := He.glo_ok X G (c.fact 20 (f := .glo "table_of") rfl)
  have m_pcolumn_of : mg "column_of" = some (.ref (He.ga K "column_of")) := He.glo_ok X G (c.fact 21 (f := .glo "column_of") rfl)
  have m_pcrossed : mg "crossed" = some (.ref (He.ga K "crossed")) := He.glo_ok X G (c.fact 22 (f := .glo "crossed") rfl)
  have m_pjoined : mg "joined" = some (.ref (He.ga K "joined")) := He.glo_ok X G (c.fact 23 (f := .glo "joined") rfl)
  have m_pleast_common : mg "least_common" = some (.ref (He.ga K "least_common")) := He.glo_ok X G (c.fact 24 (f := .glo "least_common") rfl)
  have m_pbezout : mg "bezout" = some (.ref (He.ga K "bezout")) := He.glo_ok X G (c.fact 25 (f := .glo "bezout") rfl)
  have m_deck : mg "_law_deck" = some (.ref (He.ga K "_law_deck")) := He.glo_ok X G (c.fact 26 (f := .glo "_law_deck") rfl)
  have m_draw : mg "_law_draw" = some (.ref (He.ga K "_law_draw")) := He.glo_ok X G (c.fact 27 (f := .glo "_law_draw") rfl)
  have m_one : mg "_law_one" = some (.ref (He.ga K "_law_one")) := He.glo_ok X G (c.fact 28 (f := .glo "_law_one") rfl)
  have m_rank : mg "_law_rank" = some (.ref (He.ga K "_law_rank")) := He.glo_ok X G (c.fact 29 (f := .glo "_law_rank") rfl)
  have m_small : mg "_law_small" = some (.ref (He.ga K "_law_small")) := He.glo_ok X G (c.fact 30 (f := .glo "_law_small") rfl)
  have m_first_of : mg "_law_first_of" = some (.ref (He.ga K "_law_first_of")) := He.glo_ok X G (c.fact 31 (f := .glo "_law_first_of") rfl)
  have m_names : mg "_law_names" = some (.ref (He.ga K "_law_names")) := He.glo_ok X G (c.fact 32 (f := .glo "_law_names") rfl)
  have m_expression : mg "_law_expression" = some (.ref (He.ga K "_law_expression")) := He.glo_ok X G (c.fact 33 (f := .glo "_law_expression") rfl)
  have m_test : mg "_law_test" = some (.ref (He.ga K "_law_test")) := He.glo_ok X G (c.fact 34 (f := .glo "_law_test") rfl)
  have m_row : mg "_law_row" = some (.ref (He.ga K "_law_row")) := He.glo_ok X G (c.fact 35 (f := .glo "_law_row") rfl)
  have m_block : mg "_law_block" = some (.ref (He.ga K "_law_block")) := He.glo_ok X G (c.fact 36 (f := .glo "_law_block") rfl)
  have m_program : mg "_law_program" = some (.ref (He.ga K "_law_program")) := He.glo_ok X G (c.fact 37 (f := .glo "_law_program") rfl)
  have m_little : mg "_law_little" = some (.ref (He.ga K "_law_little")) := He.glo_ok X G (c.fact 38 (f := .glo "_law_little") rfl)
  have m_family : mg "_law_family" = some (.ref (He.ga K "_law_family")) := He.glo_ok X G (c.fact 39 (f := .glo "_law_family") rfl)
  have m_value : mg "_law_value" = some (.ref (He.ga K "_law_value")) := He.glo_ok X G (c.fact 40 (f := .glo "_law_value") rfl)
  have m_is_true : mg "_law_is_true" = some (.ref (He.ga K "_law_is_true")) := He.glo_ok X G (c.fact 41 (f := .glo "_law_is_true") rfl)
  have m_sign : mg "_law_sign" = some (.ref (He.ga K "_law_sign")) := He.glo_ok X G (c.fact 42 (f := .glo "_law_sign") rfl)
  have m_signs : mg "_law_signs" = some (.ref (He.ga K "_law_signs")) := He.glo_ok X G (c.fact 43 (f := .glo "_law_signs") rfl)
  have m_near : mg "_law_near" = some (.ref (He.ga K "_law_near")) := He.glo_ok X G (c.fact 44 (f := .glo "_law_near") rfl)
  have z_abs : mg "abs" = none := He.free_ok X G (c.fact 46 (f := .free "abs") rfl)
  have z_bool : mg "bool" = none := He.free_ok X G (c.fact 47 (f := .free "bool") rfl)
  have z_enumerate : mg "enumerate" = none := He.free_ok X G (c.fact 48 (f := .free "enumerate") rfl)
  have z_int : mg "int" = none := He.free_ok X G (c.fact 49 (f := .free "int") rfl)
  have z_isinstance : mg "isinstance" = none := He.free_ok X G (c.fact 50 (f := .free "isinstance") rfl)
  have z_len : mg "len" = none := He.free_ok X G (c.fact 51 (f := .free "len") rfl)
  have z_list : mg "list" = none := He.free_ok X G (c.fact 52 (f := .free "list") rfl)
  have z_max : mg "max" = none := He.free_ok X G (c.fact 53 (f := .free "max") rfl)
  have z_min : mg "min" = none := He.free_ok X G (c.fact 54 (f := .free "min") rfl)
  have z_range : mg "range" = none := He.free_ok X G (c.fact 55 (f := .free "range") rfl)
  have z_repr : mg "repr" = none := He.free_ok X G (c.fact 56 (f := .free "repr") rfl)
  have z_sorted : mg "sorted" = none := He.free_ok X G (c.fact 57 (f := .free "sorted") rfl)
  have z_str : mg "str" = none := He.free_ok X G (c.fact 58 (f := .free "str") rfl)
  have z_tuple : mg "tuple" = none := He.free_ok X G (c.fact 59 (f := .free "tuple") rfl)
  have z_set : mg "set" = none := He.free_ok X G (c.fact 60 (f := .free "set") rfl)
  have G_deck : FnOk P w K mg base CX0 1 (He.ga K "_law_deck") fd_deck ["_law_script"] (spDeck K) := by apply ok_deck (k := 0) <;> assumption
  have G_draw : FnOk P w K mg base CX0 1 (He.ga K "_law_draw") fd_draw ["_law_deck_here", "_law_many"] spDraw := by apply ok_draw (k := 0) <;> assumption
  have G_one : FnOk P w K mg base CX0 2 (He.ga K "_law_one") fd_one ["_law_deck_here", "_law_items"] (spOne K) := by apply ok_one (k := 0) <;> assumption
  have G_expr : ∀ d : Nat, FnOk P w K mg base CX0 (d + 2) (He.ga K "_law_expression") fd_expression ["_law_deck_here", "_law_names_here", "_law_deep"] (spExpr K d) := by apply ok_expr <;> assumption
  have G_expr3 : FnOk P w K mg base CX0 5 (He.ga K "_law_expression") fd_expression ["_law_deck_here", "_law_names_here", "_law_deep"] (spExpr K 3) := G_expr 3
  have G_expr2 : FnOk P w K mg base CX0 4 (He.ga K "_law_expression") fd_expression ["_law_deck_here", "_law_names_here", "_law_deep"] (spExpr K 2) := G_expr 2
  have G_test : FnOk P w K mg base CX0 6 (He.ga K "_law_test") fd_test ["_law_deck_here", "_law_names_here", "_law_room", "_law_times"] (spTest K) := by apply ok_test <;> assumption
  have G_block : ∀ d : Nat, d ≤ 4 → FnOk P w K mg base CX0 (6 + 2 * d) (He.ga K "_law_block") fd_block ["_law_deck_here", "_law_names_here", "_law_room", "_law_times", "_law_depth"] (spBlock K d) := by
    intro d
    induction d with
    | zero => exact fun _ => ok_block0 (k := 5) F_block
    | succ d ih =>
      intro hd
      have G_block := ih (by omega)
      have G_row : FnOk P w K mg base CX0 (6 + 2 * d + 1) (He.ga K "_law_row") fd_row ["_law_deck_here", "_law_names_here", "_law_room", "_law_times", "_law_depth"] (spRow K d) := by apply ok_row <;> assumption
      have hd3 : d ≤ 3 := by omega
      exact (show FnOk P w K mg base CX0 (6 + 2 * d + 1 + 1) (He.ga K "_law_block") fd_block _ (spBlock K (d + 1)) by apply ok_block hd3 <;> assumption)
  have G_block4 : FnOk P w K mg base CX0 14 (He.ga K "_law_block") fd_block ["_law_deck_here", "_law_names_here", "_law_room", "_law_times", "_law_depth"] (spBlock K 4) := G_block 4 (by omega)
  have G_program : FnOk P w K mg base CX0 15 (He.ga K "_law_program") fd_program ["_law_deck_here", "_law_names_here"] (spProgT K) := by apply ok_programT <;> assumption
  have G_names : FnOk P w K mg base CX0 3 (He.ga K "_law_names") fd_names ["_law_deck_here"] (spNames K) := by apply ok_names (k := 0) <;> assumption
  have G_little : FnOk P w K mg base CX0 16 (He.ga K "_law_little") fd_little ["_law_deck_here", "_law_names_here"] (spLittleT K) := by apply ok_littleT <;> assumption
  have G_value : ∀ ns, FnOk P w K mg base CX0 5 (He.ga K "_law_value") fd_value ["_law_names_here", "_law_expression_here"] (spVal9 ns 3) := fun ns => FnOk.up (ok_val9 F_value b_value m_value z_isinstance z_int z_str 3) (by omega)
  have G_is_true : ∀ ns, FnOk P w K mg base CX0 8 (He.ga K "_law_is_true") fd_is_true ["_law_names_here", "_law_test_here"] (spTru9 ns 3) := fun ns => ok_tru9 F_is_true F_value b_is_true b_value m_is_true m_value z_int (G_value ns) 3
  have G_sign : FnOk P w K mg base CX0 9 (He.ga K "_law_sign") fd_sign ["_law_program_here", "_law_number"] spSig9A := FnOk.ex fun ns => ok_sig9 F_sign F_value F_is_true (G_value ns) (G_is_true ns) b_value b_is_true m_value m_is_true z_range z_list z_int
  have G_pis_integer : FnOk P w K mg base CX0 1 (He.ga K "is_integer") fd_pis_integer ["value"] spIsInt := ok_pis_integer (k := 0) F_pis_integer z_isinstance z_int z_bool
  have G_pblocks_of : FnOk P w K mg base CX0 1 (He.ga K "blocks_of") fd_pblocks_of ["statement"] spBlocks := ok_pblocks_of (k := 0) F_pblocks_of
  have G_peach : GFn P w K mg base 2 (He.ga K "each_statement") fd_peach_statement ["program"] spEach := ok_peach F_peach_statement F_pblocks_of G_pblocks_of b_pblocks_of m_pblocks_of
  have G_ptimes_line : FnOk P w K mg base CX0 1 (He.ga K "times_line") fd_ptimes_line ["factor", "line"] spTimesL := ok_ptimes (k := 0) F_ptimes_line
  have G_psum_line : FnOk P w K mg base CX0 1 (He.ga K "sum_line") fd_psum_line ["one", "other"] spSumL := ok_psuml (k := 0) F_psum_line
  have G_ptighter_low : FnOk P w K mg base CX0 1 (He.ga K "tighter_low") fd_ptighter_low ["low", "other"] spTlo := ok_ptlo (k := 0) F_ptighter_low z_max
  have G_ptighter_high : FnOk P w K mg base CX0 1 (He.ga K "tighter_high") fd_ptighter_high ["high", "other"] spThi := ok_pthi (k := 0) F_ptighter_high z_min
  have G_porder_of : FnOk P w K mg base CX0 1 (He.ga K "order_of") fd_porder_of ["number"] spOrd := ok_pord (k := 0) F_porder_of
  have G_phas_one : FnOk P w K mg base CX0 1 (He.ga K "has_one") fd_phas_one ["rest", "by", "low", "high"] spHas := ok_phas (k := 0) F_phas_one
  have G_pbezout : FnOk P w K mg base CX0 1 (He.ga K "bezout") fd_pbezout ["one", "other"] spBez := ok_pbez (k := 0) F_pbezout
  have G_pleast_common : FnOk P w K mg base CX0 2 (He.ga K "least_common") fd_pleast_common ["one", "other"] spLcm := ok_plcm (k := 0) F_pleast_common F_pbezout G_pbezout b_pbezout m_pbezout
  have G_pparts_below : FnOk P w K mg base CX0 2 (He.ga K "parts_below") fd_pparts_below ["line", "part"] spBelow := by apply ok_pbelow (k := 0) <;> assumption
  have G_pbare_test : FnOk P w K mg base CX0 1 (He.ga K "bare_test") fd_pbare_test ["test"] spBare := ok_pbare (k := 0) F_pbare_test
  have G_ptests_with : FnOk P w K mg base CX0 2 (He.ga K "tests_with") fd_ptests_with ["statement", "word"] spTestsWith := ok_ptests (k := 0) F_ptests_with F_pbare_test G_pbare_test b_pbare_test m_pbare_test
  have G_pcrossed : FnOk P w K mg base CX0 2 (He.ga K "crossed") fd_pcrossed ["pieces", "others", "rest", "by"] spCross := by apply ok_pcross <;> assumption
  have G_pjoined : FnOk P w K mg base CX0 1 (He.ga K "joined") fd_pjoined ["pieces"] spJoin := ok_pjoin (k := 0) F_pjoined
  have G_pfirst_of : FnOk P w K mg base CX0 4 (He.ga K "first_of") fd_pfirst_of ["rest", "by", "low", "high"] spFirst := by apply ok_pfirst <;> assumption
  have tabs : ∀ ns : List Str, FnOk P w K mg base CX0 41 (He.ga K "signs_of") fd_psigns_of ["family"] (spSigns ns) ∧ FnOk P w K mg base CX0 42 (He.ga K "kinds_of") fd_pkinds_of ["family"] (spKinds ns) := by
    intro ns
    have G_pline_of : FnOk P w K mg base CX0 6 (He.ga K "line_of") fd_pline_of ["expression", "lines"] (spLine ns 4) := ok_pline F_pline_of F_ptimes_line F_psum_line F_pis_integer G_ptimes_line G_psum_line G_pis_integer b_pline_of b_ptimes_line b_psum_line b_pis_integer m_pline_of m_ptimes_line m_psum_line m_pis_integer z_isinstance z_str 4
    have G_pparts_by : FnOk P w K mg base CX0 10 (He.ga K "parts_by") fd_pparts_by ["test", "lines", "part"] (spBy ns 3) := ok_pby F_pparts_by F_pparts_below F_pline_of G_pparts_below G_pline_of b_pparts_by b_pparts_below b_pline_of m_pparts_by m_pparts_below m_pline_of 3
    have G_pways_of : FnOk P w K mg base CX0 11 (He.ga K "ways_of") fd_pways_of ["statement", "lines", "part"] (spWays ns) := by apply ok_pways <;> assumption
    have G_pends_of : ∀ M : Int, FnOk P w K mg base CX0 37 (He.ga K "ends_of") fd_pends_of ["block", "lines", "total", "part"] (spEnds ns M 26) := fun M => ok_pends F_pends_of F_pline_of F_psum_line F_pways_of G_pline_of G_psum_line G_pways_of b_pends_of b_pline_of b_psum_line b_pways_of m_pends_of m_pline_of m_psum_line m_pways_of z_enumerate 26
    have G_psign_parts : FnOk P w K mg base CX0 38 (He.ga K "sign_parts") fd_psign_parts ["program", "period"] (spSignParts ns) := by apply ok_psignparts <;> assumption
    have G_pcolumn_of : FnOk P w K mg base CX0 39 (He.ga K "column_of") fd_pcolumn_of ["program"] (spCol ns) := by apply ok_pcol <;> assumption
    have G_ptable_of : FnOk P w K mg base CX0 40 (He.ga K "table_of") fd_ptable_of ["family"] (spTab ns) := by apply ok_ptab <;> assumption
    have G_psigns_of : FnOk P w K mg base CX0 41 (He.ga K "signs_of") fd_psigns_of ["family"] (spSigns ns) := by apply ok_psigns <;> assumption
    have G_pkinds_of : FnOk P w K mg base CX0 42 (He.ga K "kinds_of") fd_pkinds_of ["family"] (spKinds ns) := by apply ok_pkinds <;> assumption
    exact ⟨G_psigns_of, G_pkinds_of⟩
  have G_psigns_of : FnOk P w K mg base CX0 41 (He.ga K "signs_of") fd_psigns_of ["family"] spSignsA := FnOk.ex fun ns => (tabs ns).1
  have G_rank : FnOk P w K mg base CX0 1 (He.ga K "_law_rank") fd_rank ["_law_number"] spOrd := ok_rank (k := 0) F_rank
  have G_first_of : FnOk P w K mg base CX0 2 (He.ga K "_law_first_of") fd_first_of ["_law_numbers"] spFirstL := ok_lfirst F_first_of F_rank G_rank b_rank m_rank
  have G_near : FnOk P w K mg base CX0 2 (He.ga K "_law_near") fd_near ["_law_deck_here", "_law_rows"] spNear := by apply ok_near <;> assumption
  have G_pkinds_of : FnOk P w K mg base CX0 42 (He.ga K "kinds_of") fd_pkinds_of ["family"] spKindsA := FnOk.ex fun ns => (tabs ns).2
  have G_family : FnOk P w K mg base CX0 17 (He.ga K "_law_family") fd_family ["_law_deck_here", "_law_names_here", "_law_most"] (spFamily K) := by apply ok_family <;> assumption
  have G_signs : FnOk P w K mg base CX0 10 (He.ga K "_law_signs") fd_signs ["_law_family_here", "_law_number"] spLSigns := ok_lsigns F_signs F_sign G_sign b_sign m_sign z_tuple
  exact ok_law34 F_law F_deck F_names F_family F_pkinds_of F_psigns_of F_near F_signs F_first_of G_deck G_names G_family G_pkinds_of G_psigns_of G_near G_signs G_first_of b_deck b_names b_family b_pkinds_of b_psigns_of b_near b_signs b_first_of m_deck m_names m_family m_pkinds_of m_psigns_of m_near m_signs m_first_of z_repr z_range z_sorted z_set z_isinstance z_tuple z_len z_list z_bool
end GA
open PyProof.Rows PySem PySem.W PySem.Calls
set_option maxHeartbeats 0 in
set_option maxRecDepth 200000 in
theorem PySem.Challenge.cw_whichheld_k34_kinds_told_holds : PySem.Challenge.rw_whichheld_k34_kinds_told.Holds := by
  w_on; o_law
  refine HandSHeadRun.head_any (r := GA.R) (q := view GA.R.prog [50]) (H := GA.hookH) (ob := GA.obsH) (M := 9000) (loose := GA.looseN) (d := HandSHeadRun.topDef GA.R.prog 50) (kwd := []) GA.obsH_eq
    (by kernel_rfl) (fun s => by kernel_rfl) GA.run_head (by kernel_rfl) (by kernel_rfl) (by kernel_rfl) (by rfl) (by first | assumption | decide +kernel) (by decide +kernel) ⟨rfl, rfl, rfl, rfl, rfl, by decide +kernel⟩ ?hw ?hc
  case hw => w_witness2
  case hc =>
    refine GA.walk_ofEG (l := PySem.Challenge.rw_whichheld_k34_kinds_told) (n := 63) (k := 43) (x := "_law_script") rfl (by decide) ⟨rfl, by decide, by decide⟩ (by kernel_rfl) ?F
    intro w mg fa h Y G hmg0; obtain ⟨K, KX, c⟩ := Y
    have hmg : mg ("law" : PySem.Str) = some (.ref fa) := (show (HandSHeadRun.topDef GA.R.prog 50).name = ("law" : PySem.Str) by kernel_rfl) ▸ hmg0
    obtain ⟨fd, hb, hF⟩ := GA.facts (P := (PySem.Challenge.rw_whichheld_k34_kinds_told).prog) (w := w) KX G hmg c
    exact ⟨K, fd, GA.spLawK34 K, KX, hb, fun H a ns hl _ hS => ⟨a, ns, rfl, hS, hl, fun _ => rfl⟩, hF⟩
