/- Scenes compared and marked. -/
import Derived.Test.YtpkokghbkamelaaDoorTZVc
import Derived.Test.YtpkokghbkamelaaDoorTZSpec
namespace Go.Vi
set_option linter.unusedSimpArgs false
theorem vc_laws_eqScene (s i : Int) (n : Nat) (c : List Sc) (w h : Int) (u : List UInt8) (x y d q s_ i_ : Int) (n_ : Nat) (c_ : List Sc) (w_ h_ : Int) (u_ : List UInt8) (x_ y_ d_ q_ : Int) (hp : is3 c n /\ is3 c_ n_ /\ n <= 2000000 /\ n_ <= 2000000) : VC_laws_eqScene s i n c w h u x y d q s_ i_ n_ c_ w_ h_ u_ x_ y_ d_ q_ (retG 2 (.bool (s == s_ && i == i_ && rows3 c == rows3 c_ && w == w_ && h == h_ && u == u_ && x == x_ && y == y_ && d == d_ && q == q_)) [⟨.recs [.int .i64, .str, .int .i64] c, 96, .rows 3⟩, ⟨.recs [.int .i64, .str, .int .i64] c_, 96, .rows 3⟩]) := by
 unfold VC_laws_eqScene
 refine ⟨⟨hp⟩, fun h1 => retG_r2l ?_, fun h1 => ⟨fun h2 => retG_r2l ?_, fun h2 => ⟨fun h3 => retG_r2l ?_, fun h3 => ⟨fun h4 => retG_r2l ?_, fun h4 => ⟨fun h5 => retG_r2l ?_, fun h5 => ⟨fun h6 => retG_r2l ?_, fun h6 => ⟨fun h7 => retG_r2l ?_, fun h7 => ⟨fun h8 => retG_r2l ?_, fun h8 => retG_r2l ?_⟩⟩⟩⟩⟩⟩⟩⟩
 ·rw [Bool.not_eq_true'] at h1
  rw [h1]
  simp
 all_goals simp_all
theorem vc_laws_markScene (k s i : Int) (n : Nat) (c : List Sc) (w h : Int) (u : List UInt8) (x y d q : Int) (hp : is3 c n /\ n <= 2000000 /\ 0 <= k /\ k <= 1000000) : VC_laws_markScene k s i n c w h u x y d q (retG 1 (.int .i64 (k + (3 * n : Nat))) [⟨.recs [.int .i64, .str, .int .i64] (flat3 (mkR k n)), 96, .rows 3⟩]) :=
 ⟨⟨hp⟩, retG_r1i rfl⟩
theorem vc_laws_heldScene (k s i : Int) (n : Nat) (c : List Sc) (w h : Int) (u : List UInt8) (x y d q : Int) (hp : is3 c n /\ n <= 2000000 /\ 0 <= k /\ k <= 1000000) : VC_laws_heldScene k s i n c w h u x y d q (retG 1 (.int .i64 (bif decide (rows3 c = mkR k n) then k + (3 * n : Nat) else -1)) [⟨.recs [.int .i64, .str, .int .i64] c, 96, .rows 3⟩]) := by
 unfold VC_laws_heldScene
 refine ⟨⟨hp⟩, fun h1 => retG_r1i ?_, fun h1 => retG_r1i rfl⟩
 have h1 := of_decide_eq_true h1
 cases hb : decide (rows3 c = mkR k n) with
 | false => rfl
 | true =>
  rw [hb] at h1
  have h1 : k + ((3 * n : Nat) : Int) < 0 := h1
  omega
theorem vc_impl_isSize (a b : Int) (_ : True) : VC_impl_isSize a b (retP (.bool (inB a 1 9 && inB b 1 9))) := by
 unfold VC_impl_isSize
 simp only [retP_bool, retP_lit]
 exact ⟨⟨trivial⟩, fun h => ⟨⟨trivial⟩, by simp [h]⟩, fun h => by simp [h]⟩
theorem size_bd {w h : Int} (hw : inB w 1 9 = true) (hh : inB h 1 9 = true) : IntKind.wrap .i64 (w * h) = w * h /\ 1 <= w * h /\ w * h <= 81 := by
 have h1 := inB_eq.1 hw
 have h2 := inB_eq.1 hh
 have a1 : w * h <= 9 * h := Int.mul_le_mul_of_nonneg_right h1.2 (by omega)
 have a2 : 1 * h <= w * h := Int.mul_le_mul_of_nonneg_right h1.1 (by omega)
 exact ⟨wrap64_in (by omega), by omega, by omega⟩
theorem retG_es1 {g : Bool} {s i w h : Int} {c r : List Sc} {l : List Row3} {u : List UInt8} {e f : TypeId} {sh : List Sh} {b0 b1 : Blk} (hg : g = false) (hr : r = []) (hu : u = []) (hl : l = []) : retG 1 (.tup [.agg [.int .i64 (zI g s), .int .i64 (zI g i), .row 1 l.length, .int .i64 (zI g w), .int .i64 (zI g h), .str u, .int .i64 0, .int .i64 0, .int .i64 0, .int .i64 0], .bool g]) [⟨.recs sh c, e, .rows 3⟩, ⟨.recs sh r, f, .rows 3⟩] (.tup [.agg [.int .i64 0, .int .i64 0, .raw (.slice none 0 0), .int .i64 0, .int .i64 0, .str (Array.toList #[]), .int .i64 0, .int .i64 0, .int .i64 0, .int .i64 0], .lit false]) [⟨.recs sh c, e, .rows 3⟩, b0, b1] := by
 subst hg; subst hr; subst hu; subst hl
 unfold retG leSel leSelBy autoSel zI
 simp [pairsL, pairsV, idPairs, pairsIn, selOf, lookN, selMem, chkB, nodupSel, hasSel, prefSel, leSt, leL, leV, nilToL, V.nilTo, isNilS, isGhost, findSel, selL, V.sel, Cells.selN, Cells.none0, leMem, leCells, memUnder, underL, V.under, Kind.isRow]
 try exact trivial
theorem retG_es2 {g : Bool} {s i w h : Int} {c d r : List Sc} {n m : Nat} {u v : List UInt8} {e f : TypeId} {sh : List Sh} {b0 b1 : Blk} (hg : g = true) (hr : d = r) (hu : v = u) (hm : m = n) : retG 1 (.tup [.agg [.int .i64 (zI g s), .int .i64 (zI g i), .row 1 n, .int .i64 (zI g w), .int .i64 (zI g h), .str u, .int .i64 0, .int .i64 0, .int .i64 0, .int .i64 0], .bool g]) [⟨.recs sh c, e, .rows 3⟩, ⟨.recs sh r, f, .rows 3⟩] (.tup [.agg [.int .i64 s, .int .i64 i, .row 3 m, .int .i64 w, .int .i64 h, .str v, .int .i64 0, .int .i64 0, .int .i64 0, .int .i64 0], .lit true]) [⟨.recs sh c, e, .rows 3⟩, b0, b1, ⟨.recs sh d, f, .rows 3⟩] := by
 subst hg; subst hr; subst hu; subst hm
 unfold retG leSel leSelBy autoSel zI
 simp [pairsL, pairsV, idPairs, pairsIn, selOf, lookN, selMem, chkB, nodupSel, hasSel, prefSel, leSt, leL, leV, nilToL, V.nilTo, isNilS, isGhost, findSel, selL, V.sel, Cells.selN, Cells.none0, leMem, leCells, memUnder, underL, V.under, Kind.isRow]
 try exact trivial
theorem retG_es3 {g : Bool} {s i w h : Int} {c r : List Sc} {l : List Row3} {u : List UInt8} {e f y : TypeId} {z : Kind} {g0 g1 g2 g3 : List UInt8} {sh : List Sh} {b0 b1 : Blk} (hg : g = false) (hr : r = []) (hu : u = []) (hl : l = []) : retG 2 (.tup [.agg [.int .i64 (zI g s), .int .i64 (zI g i), .row 2 l.length, .int .i64 (zI g w), .int .i64 (zI g h), .str u, .int .i64 0, .int .i64 0, .int .i64 0, .int .i64 0], .bool g]) [⟨.recs sh c, e, .rows 3⟩, ⟨.vals [.str g0, .str g1, .str g2, .str g3], y, z⟩, ⟨.recs sh r, f, .rows 3⟩] (.tup [.agg [.int .i64 0, .int .i64 0, .raw (.slice none 0 0), .int .i64 0, .int .i64 0, .str (Array.toList #[]), .int .i64 0, .int .i64 0, .int .i64 0, .int .i64 0], .lit false]) [⟨.recs sh c, e, .rows 3⟩, ⟨.vals [.str g0, .str g1, .str g2, .str g3], y, z⟩, b0, b1] := by
 subst hg; subst hr; subst hu; subst hl
 unfold retG leSel leSelBy autoSel zI
 simp [pairsL, pairsV, idPairs, pairsIn, selOf, lookN, selMem, chkB, nodupSel, hasSel, prefSel, leSt, leL, leV, nilToL, V.nilTo, isNilS, isGhost, findSel, selL, V.sel, Cells.selN, Cells.none0, leMem, leCells, memUnder, underL, V.under, Kind.isRow]
 try exact trivial
theorem retG_es4 {g : Bool} {s i w h : Int} {c d r : List Sc} {n m : Nat} {u v : List UInt8} {e f y : TypeId} {z : Kind} {g0 g1 g2 g3 : List UInt8} {sh : List Sh} {b0 b1 : Blk} (hg : g = true) (hr : d = r) (hu : v = u) (hm : m = n) : retG 2 (.tup [.agg [.int .i64 (zI g s), .int .i64 (zI g i), .row 2 n, .int .i64 (zI g w), .int .i64 (zI g h), .str u, .int .i64 0, .int .i64 0, .int .i64 0, .int .i64 0], .bool g]) [⟨.recs sh c, e, .rows 3⟩, ⟨.vals [.str g0, .str g1, .str g2, .str g3], y, z⟩, ⟨.recs sh r, f, .rows 3⟩] (.tup [.agg [.int .i64 s, .int .i64 i, .row 4 m, .int .i64 w, .int .i64 h, .str v, .int .i64 0, .int .i64 0, .int .i64 0, .int .i64 0], .lit true]) [⟨.recs sh c, e, .rows 3⟩, ⟨.vals [.str g0, .str g1, .str g2, .str g3], y, z⟩, b0, b1, ⟨.recs sh d, f, .rows 3⟩] := by
 subst hg; subst hr; subst hu; subst hm
 unfold retG leSel leSelBy autoSel zI
 simp [pairsL, pairsV, idPairs, pairsIn, selOf, lookN, selMem, chkB, nodupSel, hasSel, prefSel, leSt, leL, leV, nilToL, V.nilTo, isNilS, isGhost, findSel, selL, V.sel, Cells.selN, Cells.none0, leMem, leCells, memUnder, underL, V.under, Kind.isRow]
 try exact trivial
theorem es_no {s i : Int} {l : List Row3} {w h : Int} (hn : esB s i l w h = false) : flat3 (esR (esB s i l w h) l) = [] /\ esU (esB s i l w h) w h = [] /\ esR (esB s i l w h) l = [] := by
 rw [hn]; exact ⟨rfl, rfl, rfl⟩
end Go.Vi
