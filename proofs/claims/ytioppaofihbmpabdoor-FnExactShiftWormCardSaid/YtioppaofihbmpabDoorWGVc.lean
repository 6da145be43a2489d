/- The conditions, reckoned out by program: texts alone. -/
import Derived.Test.YtioppaofihbmpabDoorWGDefs
namespace Go.Vi
set_option linter.unusedVariables false
def VC_spec_ShiftWorm (mw : Int) (mh : Int) (mr : List UInt8) (mn : List UInt8) (mx : Int) (my : Int) (md : Int) (right : Int) (down : Int) (K : V → Prop) : Prop := At True ∧ ((!womB 
  { w := mw, h := mh, r := mr, n := mn, x := mx, y := my, d := md }) = true → K (V.tup [V.agg [V.int IntKind.i64 (0 : Int), V.int IntKind.i64 (0 : Int), V.str (Array.toList #[]), V.str 
  (Array.toList #[]), V.int IntKind.i64 (0 : Int), V.int IntKind.i64 (0 : Int), V.int IntKind.i64 (0 : Int)], V.lit false])) ∧ ((!womB { w := mw, h := mh, r := mr, n := mn, x := mx, y := my, d := md }) 
  = false → At True ∧ ((!inB right (0 : Int) (IntKind.wrap IntKind.i64 (mw - (1 : Int)))) = true → K (V.tup [V.agg [V.int IntKind.i64 (0 : Int), V.int IntKind.i64 (0 : Int), V.str (Array.toList 
  #[]), V.str (Array.toList #[]), V.int IntKind.i64 (0 : Int), V.int IntKind.i64 (0 : Int), V.int IntKind.i64 (0 : Int)], V.lit false])) ∧ ((!inB right (0 : Int) (IntKind.wrap IntKind.i64 
  (mw - (1 : Int)))) = false → At True ∧ ((!inB down (0 : Int) (IntKind.wrap IntKind.i64 (mh - (1 : Int)))) = true → K (V.tup [V.agg [V.int IntKind.i64 (0 : Int), V.int IntKind.i64 (0 
  : Int), V.str (Array.toList #[]), V.str (Array.toList #[]), V.int IntKind.i64 (0 : Int), V.int IntKind.i64 (0 : Int), V.int IntKind.i64 (0 : Int)], V.lit false])) ∧ ((!inB down (0 : 
  Int) (IntKind.wrap IntKind.i64 (mh - (1 : Int)))) = false → (True ∧ ((True ∧ right = right) ∧ (True ∧ down = down) ∧ ((0 : Nat) = (0 : Nat) ∧ (0 : Nat) = (0 : Nat)) ∧ ((1 : Nat) = (1 
  : Nat) ∧ (0 : Nat) = (0 : Nat)) ∧ ((2 : Nat) = (2 : Nat) ∧ (0 : Nat) = (0 : Nat)) ∧ (True ∧ (0 : Int) = (0 : Int)) ∧ True) ∧ ((True ∧ (True ∧ mw = mw) ∧ (True ∧ mh = mh) ∧ mr = mr ∧ 
  mn = mn ∧ (True ∧ mx = mx) ∧ (True ∧ my = my) ∧ (True ∧ md = md) ∧ True) ∧ (True ∧ (True ∧ (0 : Int) = (0 : Int)) ∧ (True ∧ (0 : Int) = (0 : Int)) ∧ nilB = nilB ∧ nilB = nilB ∧ (True 
  ∧ (0 : Int) = (0 : Int)) ∧ (True ∧ (0 : Int) = (0 : Int)) ∧ (True ∧ (0 : Int) = (0 : Int)) ∧ True) ∧ (True ∧ (True ∧ mw = mw) ∧ (True ∧ mh = mh) ∧ nilB = shTxt mw mh right down mr (Int.toNat 
  (0 : Int)) ∧ nilB = shTxt mw mh right down mn (Int.toNat (0 : Int)) ∧ (True ∧ (0 : Int) = (0 : Int)) ∧ (True ∧ (0 : Int) = (0 : Int)) ∧ (True ∧ md = md) ∧ True) ∧ True) ∧ True) ∧ At 
  (shInv { w := mw, h := mh, r := mr, n := mn, x := mx, y := my, d := md } right down (0 : Int)) ∧ ∀ (a : Int), shInv { w := mw, h := mh, r := mr, n := mn, x := mx, y := my, d := md } 
  right down a → (decide (a < (↑(List.length mr) : Int)) = true → True ∧ At (mw ≠ (0 : Int)) ∧ At ((1 : Int) ≤ mh ∧ mh ≤ (1000 : Int) ∧ (-1000000 : Int) ≤ IntKind.wrap IntKind.i64 (IntKind.wrap 
  IntKind.i64 (Int.tdiv a mw) - down) ∧ IntKind.wrap IntKind.i64 (IntKind.wrap IntKind.i64 (Int.tdiv a mw) - down) ≤ (1000000 : Int)) ∧ At (mw ≠ (0 : Int)) ∧ At ((1 : Int) ≤ mw ∧ mw ≤ 
  (1000 : Int) ∧ (-1000000 : Int) ≤ IntKind.wrap IntKind.i64 (Int.tmod a mw - right) ∧ IntKind.wrap IntKind.i64 (Int.tmod a mw - right) ≤ (1000000 : Int)) ∧ True ∧ At ((0 : Int) ≤ IntKind.wrap 
  IntKind.i64 (IntKind.wrap IntKind.i64 (IntKind.wrap IntKind.i64 (IntKind.wrap IntKind.i64 (Int.tdiv a mw) - down) % mh * mw) + IntKind.wrap IntKind.i64 (Int.tmod a mw - right) % mw) 
  ∧ IntKind.wrap IntKind.i64 (IntKind.wrap IntKind.i64 (IntKind.wrap IntKind.i64 (IntKind.wrap IntKind.i64 (Int.tdiv a mw) - down) % mh * mw) + IntKind.wrap IntKind.i64 (Int.tmod a mw 
  - right) % mw) ≤ IntKind.wrap IntKind.i64 (IntKind.wrap IntKind.i64 (IntKind.wrap IntKind.i64 (IntKind.wrap IntKind.i64 (IntKind.wrap IntKind.i64 (Int.tdiv a mw) - down) % mh * mw) 
  + IntKind.wrap IntKind.i64 (Int.tmod a mw - right) % mw) + (1 : Int)) ∧ IntKind.wrap IntKind.i64 (IntKind.wrap IntKind.i64 (IntKind.wrap IntKind.i64 (IntKind.wrap IntKind.i64 (IntKind.wrap 
  IntKind.i64 (Int.tdiv a mw) - down) % mh * mw) + IntKind.wrap IntKind.i64 (Int.tmod a mw - right) % mw) + (1 : Int)) ≤ (↑(List.length mr) : Int)) ∧ At (List.length (shTxt mw mh right 
  down mr (Int.toNat a)) + List.length (List.drop (Int.toNat (IntKind.wrap IntKind.i64 (IntKind.wrap IntKind.i64 (IntKind.wrap IntKind.i64 (IntKind.wrap IntKind.i64 (Int.tdiv a mw) - 
  down) % mh * mw) + IntKind.wrap IntKind.i64 (Int.tmod a mw - right) % mw))) (List.take (Int.toNat (IntKind.wrap IntKind.i64 (IntKind.wrap IntKind.i64 (IntKind.wrap IntKind.i64 (IntKind.wrap 
  IntKind.i64 (IntKind.wrap IntKind.i64 (Int.tdiv a mw) - down) % mh * mw) + IntKind.wrap IntKind.i64 (Int.tmod a mw - right) % mw) + (1 : Int)))) mr)) ≤ (9223372036854775807 : Nat)) 
  ∧ True ∧ At ((0 : Int) ≤ IntKind.wrap IntKind.i64 (IntKind.wrap IntKind.i64 (IntKind.wrap IntKind.i64 (IntKind.wrap IntKind.i64 (Int.tdiv a mw) - down) % mh * mw) + IntKind.wrap IntKind.i64 
  (Int.tmod a mw - right) % mw) ∧ IntKind.wrap IntKind.i64 (IntKind.wrap IntKind.i64 (IntKind.wrap IntKind.i64 (IntKind.wrap IntKind.i64 (Int.tdiv a mw) - down) % mh * mw) + IntKind.wrap 
  IntKind.i64 (Int.tmod a mw - right) % mw) ≤ IntKind.wrap IntKind.i64 (IntKind.wrap IntKind.i64 (IntKind.wrap IntKind.i64 (IntKind.wrap IntKind.i64 (IntKind.wrap IntKind.i64 (Int.tdiv 
  a mw) - down) % mh * mw) + IntKind.wrap IntKind.i64 (Int.tmod a mw - right) % mw) + (1 : Int)) ∧ IntKind.wrap IntKind.i64 (IntKind.wrap IntKind.i64 (IntKind.wrap IntKind.i64 (IntKind.wrap 
  IntKind.i64 (IntKind.wrap IntKind.i64 (Int.tdiv a mw) - down) % mh * mw) + IntKind.wrap IntKind.i64 (Int.tmod a mw - right) % mw) + (1 : Int)) ≤ (↑(List.length mn) : Int)) ∧ At (List.length 
  (shTxt mw mh right down mn (Int.toNat a)) + List.length (List.drop (Int.toNat (IntKind.wrap IntKind.i64 (IntKind.wrap IntKind.i64 (IntKind.wrap IntKind.i64 (IntKind.wrap IntKind.i64 
  (Int.tdiv a mw) - down) % mh * mw) + IntKind.wrap IntKind.i64 (Int.tmod a mw - right) % mw))) (List.take (Int.toNat (IntKind.wrap IntKind.i64 (IntKind.wrap IntKind.i64 (IntKind.wrap 
  IntKind.i64 (IntKind.wrap IntKind.i64 (IntKind.wrap IntKind.i64 (Int.tdiv a mw) - down) % mh * mw) + IntKind.wrap IntKind.i64 (Int.tmod a mw - right) % mw) + (1 : Int)))) mn)) ≤ (9223372036854775807 
  : Nat)) ∧ (True ∧ ((True ∧ right = right) ∧ (True ∧ down = down) ∧ ((0 : Nat) = (0 : Nat) ∧ (0 : Nat) = (0 : Nat)) ∧ ((1 : Nat) = (1 : Nat) ∧ (0 : Nat) = (0 : Nat)) ∧ ((2 : Nat) = (2 
  : Nat) ∧ (0 : Nat) = (0 : Nat)) ∧ (True ∧ IntKind.wrap IntKind.i64 (a + (1 : Int)) = IntKind.wrap IntKind.i64 (a + (1 : Int))) ∧ True) ∧ ((True ∧ (True ∧ mw = mw) ∧ (True ∧ mh = mh) 
  ∧ mr = mr ∧ mn = mn ∧ (True ∧ mx = mx) ∧ (True ∧ my = my) ∧ (True ∧ md = md) ∧ True) ∧ (True ∧ (True ∧ (0 : Int) = (0 : Int)) ∧ (True ∧ (0 : Int) = (0 : Int)) ∧ nilB = nilB ∧ nilB = 
  nilB ∧ (True ∧ (0 : Int) = (0 : Int)) ∧ (True ∧ (0 : Int) = (0 : Int)) ∧ (True ∧ (0 : Int) = (0 : Int)) ∧ True) ∧ (True ∧ (True ∧ mw = mw) ∧ (True ∧ mh = mh) ∧ shTxt mw mh right down 
  mr (Int.toNat a) ++ List.drop (Int.toNat (IntKind.wrap IntKind.i64 (IntKind.wrap IntKind.i64 (IntKind.wrap IntKind.i64 (IntKind.wrap IntKind.i64 (Int.tdiv a mw) - down) % mh * mw) + 
  IntKind.wrap IntKind.i64 (Int.tmod a mw - right) % mw))) (List.take (Int.toNat (IntKind.wrap IntKind.i64 (IntKind.wrap IntKind.i64 (IntKind.wrap IntKind.i64 (IntKind.wrap IntKind.i64 
  (IntKind.wrap IntKind.i64 (Int.tdiv a mw) - down) % mh * mw) + IntKind.wrap IntKind.i64 (Int.tmod a mw - right) % mw) + (1 : Int)))) mr) = shTxt mw mh right down mr (Int.toNat (IntKind.wrap 
  IntKind.i64 (a + (1 : Int)))) ∧ shTxt mw mh right down mn (Int.toNat a) ++ List.drop (Int.toNat (IntKind.wrap IntKind.i64 (IntKind.wrap IntKind.i64 (IntKind.wrap IntKind.i64 (IntKind.wrap 
  IntKind.i64 (Int.tdiv a mw) - down) % mh * mw) + IntKind.wrap IntKind.i64 (Int.tmod a mw - right) % mw))) (List.take (Int.toNat (IntKind.wrap IntKind.i64 (IntKind.wrap IntKind.i64 (IntKind.wrap 
  IntKind.i64 (IntKind.wrap IntKind.i64 (IntKind.wrap IntKind.i64 (Int.tdiv a mw) - down) % mh * mw) + IntKind.wrap IntKind.i64 (Int.tmod a mw - right) % mw) + (1 : Int)))) mn) = shTxt 
  mw mh right down mn (Int.toNat (IntKind.wrap IntKind.i64 (a + (1 : Int)))) ∧ (True ∧ (0 : Int) = (0 : Int)) ∧ (True ∧ (0 : Int) = (0 : Int)) ∧ (True ∧ md = md) ∧ True) ∧ True) ∧ True) 
  ∧ At (shInv { w := mw, h := mh, r := mr, n := mn, x := mx, y := my, d := md } right down (IntKind.wrap IntKind.i64 (a + (1 : Int))) ∧ Int.toNat ((↑(List.length mr) : Int) - IntKind.wrap 
  IntKind.i64 (a + (1 : Int))) < Int.toNat ((↑(List.length mr) : Int) - a))) ∧ (decide (a < (↑(List.length mr) : Int)) = false → At (mw ≠ (0 : Int)) ∧ At (mh ≠ (0 : Int)) ∧ K (V.tup [V.agg 
  [V.int IntKind.i64 mw, V.int IntKind.i64 mh, V.str (shTxt mw mh right down mr (Int.toNat a)), V.str (shTxt mw mh right down mn (Int.toNat a)), V.int IntKind.i64 (Int.tmod (IntKind.wrap 
  IntKind.i64 (mx + right)) mw), V.int IntKind.i64 (Int.tmod (IntKind.wrap IntKind.i64 (my + down)) mh), V.int IntKind.i64 md], V.lit true])))))

def VC_impl_ShiftWorm_1 (x : Int) (y : Int) (right : Int) (down : Int) (mw : Int) (mh : Int) (mr : List UInt8) (mn : List UInt8) (mx : Int) (my : Int) (md : Int) (K : V → List Blk → Prop) : Prop :=
  True ∧
  At (mw ≠ (0 : Int)) ∧
    At (mh ≠ (0 : Int)) ∧
      K
        (V.tup
          [V.int IntKind.i64 (Int.tmod (IntKind.wrap IntKind.i64 (x + right)) mw),
            V.int IntKind.i64 (Int.tmod (IntKind.wrap IntKind.i64 (y + down)) mh)])
        [{ cs := Cells.vals [V.int IntKind.i64 right], elem := 3, kind := Kind.box },
          {
            cs :=
              Cells.vals
                [V.int IntKind.i64 mw, V.int IntKind.i64 mh, V.str mr, V.str mn, V.int IntKind.i64 mx,
                  V.int IntKind.i64 my, V.int IntKind.i64 md],
            elem := 28, kind := Kind.box },
          { cs := Cells.vals [V.int IntKind.i64 down], elem := 3, kind := Kind.box }]

def VC_impl_ShiftWorm (mw : Int) (mh : Int) (mr : List UInt8) (mn : List UInt8) (mx : Int) (my : Int) (md : Int) (right : Int) (down : Int) (K : V → Prop) : Prop := At True ∧ ((!womB 
  { w := mw, h := mh, r := mr, n := mn, x := mx, y := my, d := md }) = true → K (V.tup [V.agg [V.int IntKind.i64 (0 : Int), V.int IntKind.i64 (0 : Int), V.str (Array.toList #[]), V.str 
  (Array.toList #[]), V.int IntKind.i64 (0 : Int), V.int IntKind.i64 (0 : Int), V.int IntKind.i64 (0 : Int)], V.lit false])) ∧ ((!womB { w := mw, h := mh, r := mr, n := mn, x := mx, y := my, d := md }) 
  = false → At (inB mw (3 : Int) (6 : Int) = true ∧ inB mh (3 : Int) (6 : Int) = true) ∧ ((!(inB right (0 : Int) (mw - (1 : Int)) && inB down (0 : Int) (mh - (1 : Int)))) = true → K (V.tup 
  [V.agg [V.int IntKind.i64 (0 : Int), V.int IntKind.i64 (0 : Int), V.str (Array.toList #[]), V.str (Array.toList #[]), V.int IntKind.i64 (0 : Int), V.int IntKind.i64 (0 : Int), V.int 
  IntKind.i64 (0 : Int)], V.lit false])) ∧ ((!(inB right (0 : Int) (mw - (1 : Int)) && inB down (0 : Int) (mh - (1 : Int)))) = false → At ((0 : Int) ≤ (↑(List.length mr) : Int) ∧ (↑(List.length 
  mr) : Int) ≤ (↑(List.length mr) : Int) ∧ (↑(List.length mr) : Int) ≤ (1000000000 : Int)) ∧ ((mr = mr ∧ (True ∧ mw = mw) ∧ (True ∧ mw = mw) ∧ ((46 : Nat) = (46 : Nat) ∧ [(0 : Nat), (1 
  : Nat), (2 : Nat)] = [(0 : Nat), (1 : Nat), (2 : Nat)]) ∧ ((3 : Nat) = (3 : Nat) ∧ Int.toNat (↑(List.length mr) : Int) = Int.toNat (↑(List.length mr) : Int)) ∧ (True ∧ (↑(Int.toNat 
  (↑(List.length mr) : Int)) : Int) = (↑(List.length mr) : Int)) ∧ (True ∧ (0 : Int) = (0 : Int)) ∧ True) ∧ ((True ∧ (True ∧ right = right) ∧ True) ∧ (True ∧ (True ∧ mw = mw) ∧ (True 
  ∧ mh = mh) ∧ mr = mr ∧ mn = mn ∧ (True ∧ mx = mx) ∧ (True ∧ my = my) ∧ (True ∧ md = md) ∧ True) ∧ (True ∧ (True ∧ down = down) ∧ True) ∧ (True ∧ List.replicate (Int.toNat (↑(List.length 
  mr) : Int)) (0 : UInt8) = relW mw mh right down mr (Int.toNat (0 : Int))) ∧ True) ∧ True) ∧ At (reInv mr (0 : Int)) ∧ ∀ (a : Int), reInv mr a → (decide (a < (↑(List.length mr) : Int)) 
  = true → True ∧ At (mw ≠ (0 : Int)) ∧ At (mw ≠ (0 : Int)) ∧ At (womB { w := mw, h := mh, r := mr, n := mn, x := mx, y := my, d := md } = true ∧ (0 : Int) ≤ Int.tmod a mw ∧ Int.tmod 
  a mw ≤ (9 : Int) ∧ (0 : Int) ≤ IntKind.wrap IntKind.i64 (Int.tdiv a mw) ∧ IntKind.wrap IntKind.i64 (Int.tdiv a mw) ≤ (9 : Int) ∧ (0 : Int) ≤ right ∧ right ≤ (9 : Int) ∧ (0 : Int) ≤ 
  down ∧ down ≤ (9 : Int)) ∧ At ((0 : Int) ≤ a ∧ a < (↑(List.length mr) : Int)) ∧ At ((0 : Int) ≤ IntKind.wrap IntKind.i64 (IntKind.wrap IntKind.i64 ((IntKind.wrap IntKind.i64 (Int.tdiv 
  a mw) + down) % mh * mw) + (Int.tmod a mw + right) % mw) ∧ IntKind.wrap IntKind.i64 (IntKind.wrap IntKind.i64 ((IntKind.wrap IntKind.i64 (Int.tdiv a mw) + down) % mh * mw) + (Int.tmod 
  a mw + right) % mw) < (↑(Int.toNat (↑(List.length mr) : Int)) : Int)) ∧ At (Int.toNat (IntKind.wrap IntKind.i64 (IntKind.wrap IntKind.i64 ((IntKind.wrap IntKind.i64 (Int.tdiv a mw) 
  + down) % mh * mw) + (Int.tmod a mw + right) % mw)) < List.length (relW mw mh right down mr (Int.toNat a)) ∧ (0 : Int) ≤ (↑(UInt8.toNat (List.getD mr (Int.toNat a) (0 : UInt8))) : Int) 
  ∧ (↑(UInt8.toNat (List.getD mr (Int.toNat a) (0 : UInt8))) : Int) < (256 : Int)) ∧ ((mr = mr ∧ (True ∧ mw = mw) ∧ (True ∧ mw = mw) ∧ ((46 : Nat) = (46 : Nat) ∧ [(0 : Nat), (1 : Nat), 
  (2 : Nat)] = [(0 : Nat), (1 : Nat), (2 : Nat)]) ∧ ((3 : Nat) = (3 : Nat) ∧ Int.toNat (↑(List.length mr) : Int) = Int.toNat (↑(List.length mr) : Int)) ∧ (True ∧ (↑(List.length mr) : 
  Int) = (↑(List.length mr) : Int)) ∧ (True ∧ IntKind.wrap IntKind.i64 (a + (1 : Int)) = IntKind.wrap IntKind.i64 (a + (1 : Int))) ∧ True) ∧ ((True ∧ (True ∧ right = right) ∧ True) ∧ 
  (True ∧ (True ∧ mw = mw) ∧ (True ∧ mh = mh) ∧ mr = mr ∧ mn = mn ∧ (True ∧ mx = mx) ∧ (True ∧ my = my) ∧ (True ∧ md = md) ∧ True) ∧ (True ∧ (True ∧ down = down) ∧ True) ∧ (True ∧ List.set 
  (relW mw mh right down mr (Int.toNat a)) (Int.toNat (IntKind.wrap IntKind.i64 (IntKind.wrap IntKind.i64 ((IntKind.wrap IntKind.i64 (Int.tdiv a mw) + down) % mh * mw) + (Int.tmod a mw 
  + right) % mw))) (UInt8.ofNat (Int.toNat (↑(UInt8.toNat (List.getD mr (Int.toNat a) (0 : UInt8))) : Int))) = relW mw mh right down mr (Int.toNat (IntKind.wrap IntKind.i64 (a + (1 : 
  Int))))) ∧ True) ∧ True) ∧ At (reInv mr (IntKind.wrap IntKind.i64 (a + (1 : Int))) ∧ Int.toNat ((↑(List.length mr) : Int) - IntKind.wrap IntKind.i64 (a + (1 : Int))) < Int.toNat ((↑(List.length 
  mr) : Int) - a))) ∧ (decide (a < (↑(List.length mr) : Int)) = false → At (Int.toNat (↑(List.length mr) : Int) ≤ List.length (relW mw mh right down mr (Int.toNat a))) ∧ At ((0 : Int) 
  ≤ (↑(List.length mn) : Int) ∧ (↑(List.length mn) : Int) ≤ (↑(List.length mn) : Int) ∧ (↑(List.length mn) : Int) ≤ (1000000000 : Int)) ∧ ((mn = mn ∧ (True ∧ mw = mw) ∧ (True ∧ mw = mw) 
  ∧ ((46 : Nat) = (46 : Nat) ∧ [(0 : Nat), (1 : Nat), (2 : Nat)] = [(0 : Nat), (1 : Nat), (2 : Nat)]) ∧ ((3 : Nat) = (3 : Nat) ∧ Int.toNat (↑(List.length mn) : Int) = Int.toNat (↑(List.length 
  mn) : Int)) ∧ (True ∧ (↑(Int.toNat (↑(List.length mn) : Int)) : Int) = (↑(List.length mn) : Int)) ∧ (True ∧ (0 : Int) = (0 : Int)) ∧ True) ∧ ((True ∧ (True ∧ right = right) ∧ True) 
  ∧ (True ∧ (True ∧ mw = mw) ∧ (True ∧ mh = mh) ∧ mr = mr ∧ mn = mn ∧ (True ∧ mx = mx) ∧ (True ∧ my = my) ∧ (True ∧ md = md) ∧ True) ∧ (True ∧ (True ∧ down = down) ∧ True) ∧ (True ∧ List.replicate 
  (Int.toNat (↑(List.length mn) : Int)) (0 : UInt8) = relW mw mh right down mn (Int.toNat (0 : Int))) ∧ True) ∧ True) ∧ At (reInv mn (0 : Int)) ∧ ∀ (a_3 : Int), reInv mn a_3 → (decide 
  (a_3 < (↑(List.length mn) : Int)) = true → True ∧ At (mw ≠ (0 : Int)) ∧ At (mw ≠ (0 : Int)) ∧ At (womB { w := mw, h := mh, r := mr, n := mn, x := mx, y := my, d := md } = true ∧ (0 
  : Int) ≤ Int.tmod a_3 mw ∧ Int.tmod a_3 mw ≤ (9 : Int) ∧ (0 : Int) ≤ IntKind.wrap IntKind.i64 (Int.tdiv a_3 mw) ∧ IntKind.wrap IntKind.i64 (Int.tdiv a_3 mw) ≤ (9 : Int) ∧ (0 : Int) 
  ≤ right ∧ right ≤ (9 : Int) ∧ (0 : Int) ≤ down ∧ down ≤ (9 : Int)) ∧ At ((0 : Int) ≤ a_3 ∧ a_3 < (↑(List.length mn) : Int)) ∧ At ((0 : Int) ≤ IntKind.wrap IntKind.i64 (IntKind.wrap 
  IntKind.i64 ((IntKind.wrap IntKind.i64 (Int.tdiv a_3 mw) + down) % mh * mw) + (Int.tmod a_3 mw + right) % mw) ∧ IntKind.wrap IntKind.i64 (IntKind.wrap IntKind.i64 ((IntKind.wrap IntKind.i64 
  (Int.tdiv a_3 mw) + down) % mh * mw) + (Int.tmod a_3 mw + right) % mw) < (↑(Int.toNat (↑(List.length mn) : Int)) : Int)) ∧ At (Int.toNat (IntKind.wrap IntKind.i64 (IntKind.wrap IntKind.i64 
  ((IntKind.wrap IntKind.i64 (Int.tdiv a_3 mw) + down) % mh * mw) + (Int.tmod a_3 mw + right) % mw)) < List.length (relW mw mh right down mn (Int.toNat a_3)) ∧ (0 : Int) ≤ (↑(UInt8.toNat 
  (List.getD mn (Int.toNat a_3) (0 : UInt8))) : Int) ∧ (↑(UInt8.toNat (List.getD mn (Int.toNat a_3) (0 : UInt8))) : Int) < (256 : Int)) ∧ ((mn = mn ∧ (True ∧ mw = mw) ∧ (True ∧ mw = mw) 
  ∧ ((46 : Nat) = (46 : Nat) ∧ [(0 : Nat), (1 : Nat), (2 : Nat)] = [(0 : Nat), (1 : Nat), (2 : Nat)]) ∧ ((3 : Nat) = (3 : Nat) ∧ Int.toNat (↑(List.length mn) : Int) = Int.toNat (↑(List.length 
  mn) : Int)) ∧ (True ∧ (↑(List.length mn) : Int) = (↑(List.length mn) : Int)) ∧ (True ∧ IntKind.wrap IntKind.i64 (a_3 + (1 : Int)) = IntKind.wrap IntKind.i64 (a_3 + (1 : Int))) ∧ True) 
  ∧ ((True ∧ (True ∧ right = right) ∧ True) ∧ (True ∧ (True ∧ mw = mw) ∧ (True ∧ mh = mh) ∧ mr = mr ∧ mn = mn ∧ (True ∧ mx = mx) ∧ (True ∧ my = my) ∧ (True ∧ md = md) ∧ True) ∧ (True 
  ∧ (True ∧ down = down) ∧ True) ∧ (True ∧ List.set (relW mw mh right down mn (Int.toNat a_3)) (Int.toNat (IntKind.wrap IntKind.i64 (IntKind.wrap IntKind.i64 ((IntKind.wrap IntKind.i64 
  (Int.tdiv a_3 mw) + down) % mh * mw) + (Int.tmod a_3 mw + right) % mw))) (UInt8.ofNat (Int.toNat (↑(UInt8.toNat (List.getD mn (Int.toNat a_3) (0 : UInt8))) : Int))) = relW mw mh right 
  down mn (Int.toNat (IntKind.wrap IntKind.i64 (a_3 + (1 : Int))))) ∧ True) ∧ True) ∧ At (reInv mn (IntKind.wrap IntKind.i64 (a_3 + (1 : Int))) ∧ Int.toNat ((↑(List.length mn) : Int) 
  - IntKind.wrap IntKind.i64 (a_3 + (1 : Int))) < Int.toNat ((↑(List.length mn) : Int) - a_3))) ∧ (decide (a_3 < (↑(List.length mn) : Int)) = false → At (Int.toNat (↑(List.length mn) 
  : Int) ≤ List.length (relW mw mh right down mn (Int.toNat a_3))) ∧ At (womB { w := mw, h := mh, r := mr, n := mn, x := mx, y := my, d := md } = true ∧ (0 : Int) ≤ mx ∧ mx ≤ (9 : Int) 
  ∧ (0 : Int) ≤ my ∧ my ≤ (9 : Int) ∧ (0 : Int) ≤ right ∧ right ≤ (9 : Int) ∧ (0 : Int) ≤ down ∧ down ≤ (9 : Int)) ∧ K (V.tup [V.agg [V.int IntKind.i64 mw, V.int IntKind.i64 mh, V.str 
  (List.take (Int.toNat (↑(List.length mr) : Int)) (relW mw mh right down mr (Int.toNat a))), V.str (List.take (Int.toNat (↑(List.length mn) : Int)) (relW mw mh right down mn (Int.toNat 
  a_3))), V.int IntKind.i64 ((mx + right) % mw), V.int IntKind.i64 ((my + down) % mh), V.int IntKind.i64 md], V.lit true])))))

end Go.Vi
