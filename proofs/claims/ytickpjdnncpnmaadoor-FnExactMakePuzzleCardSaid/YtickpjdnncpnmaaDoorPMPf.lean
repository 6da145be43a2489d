import Derived.Test.YtickpjdnncpnmaaDoorQAPf
/- Puzzles that are made. -/
namespace Go.Vi
def pmN (z : Int) : Int := (151 * z + 2083) % 10007
def pmK (z : Int) : Int := pmN z % 5
def pmZ (z : Int) : Int := bif pmK z == 4 then pmN z else pmN (pmN z)
def pmA (m z : Int) : Int := bif pmK z == 4 then 0 else bif pmK z == 0 then pmN (pmN z) % m else pmN (pmN z) % 51
def pmX (w : Wd) (z : Int) : Int := bif pmK z == 4 then valK 4 0 w else pmA w.c.length z
def pmY (w : Wd) (z : Int) : Int := bif pmK z == 4 then 0 else valK (pmK z) (pmA w.c.length z) w
def pmS (w : Wd) (s : Int) : Nat -> Int × List Int
 | 0 => (s, [])
 | k + 1 => (pmZ (pmS w s k).1, (pmS w s k).2 ++ [pmK (pmS w s k).1, pmX w (pmS w s k).1, pmY w (pmS w s k).1])
def pmG (w : Wd) (c s : Int) : Bool := hidB w && inB c 0 6 && inB s 0 9999
def pmR (w : Wd) (c s : Int) : List UInt8 := bif pmG w c s then w.r else []
def pmW (w : Wd) (c s : Int) : Int := bif pmG w c s then w.w else 0
def pmH (w : Wd) (c s : Int) : Int := bif pmG w c s then w.h else 0
def pmL (w : Wd) (c s : Int) : Nat := bif pmG w c s then c.toNat else 0
def pmB (w : Wd) (c s : Int) : List Int := bif pmG w c s then (pmS w s c.toNat).2 else []
def pmInv (w : Wd) (c s k : Int) : Prop := pmG w c s = true /\ 0 <= k /\ k <= c
def pmF : Ann := { α := Unit, find := fun _ => none, head := fun _ => ⟨[], []⟩, inv := fun _ => True, meas := fun _ => 0, force := true }
def ann_impl_clueMaker_2 : Nat -> St -> Option Ann := fun key _ =>
 match Nat.beq key 1004, Nat.beq key 1007 with
 | true, _ => some pmF
 | _, true => some pmF
 | _, _ => none
def ann_spec_MakePuzzle : Nat -> St -> Option Ann := fun key st =>
 match Nat.beq key 5, st.mem, intAt st 1, intAt st 2 with
 | true, [⟨.vals vs, e0, k0⟩, b1, ⟨_, e2, k2⟩], some c, some s =>
  (match wdOf vs with
  | some w => some {
    α := Int
    find := fun st => (match intAt st 1 with | some d => some (c - d) | none => none)
    head := fun k => { only st [(1, .int .i64 (c - k)), (3, .ptr 0 0), (6, .ptr 1 0), (7, .lit false), (8, .ptr 2 0), (9, .int .i64 (pmS w s k.toNat).1)] with mem := [⟨.vals vs, e0, k0⟩, b1, ⟨.vals [.str w.r, .int .i64 w.w, .int .i64 w.h, .row 3 k.toNat], e2, k2⟩, ⟨.ints .i64 (pmS w s k.toNat).2, 83, .rows 3⟩] }
    inv := fun k => pmInv w c s k
    meas := fun k => (c - k).toNat
    auto := true }
  | none => none)
 | _, _, _, _ => none
def ann_impl_MakePuzzle : Nat -> St -> Option Ann := fun key st =>
 match Nat.beq key 1007 with
 | true => some pmF
 | false =>
 match Nat.beq key 6, st.mem, intAt st 1, intAt st 2 with
 | true, [⟨.vals vs, e0, k0⟩, b1, ⟨_, e2, k2⟩, b3, b4, ⟨_, e5, k5⟩], some c, some s =>
  (match wdOf vs with
  | some w => some {
    α := Int
    find := fun st => intAt st 35
    head := fun k => { only st [(3, .ptr 0 0), (6, .ptr 1 0), (7, .lit false), (8, .ptr 2 0), (9, .fn 91 [3, 4]), (34, .int .i64 c), (35, .int .i64 k)] with mem := [⟨.vals vs, e0, k0⟩, b1, ⟨.vals [.str w.r, .int .i64 w.w, .int .i64 w.h, .row 6 k.toNat], e2, k2⟩, b3, b4, ⟨.vals [.int .i64 (pmS w s k.toNat).1], e5, k5⟩, ⟨.ints .i64 (pmS w s k.toNat).2, 83, .rows 3⟩] }
    inv := fun k => pmInv w c s k
    meas := fun k => (c - k).toNat
    auto := true }
  | none => none)
 | _, _, _, _ => none
end Go.Vi

/- Closed forms of the functions of this chapter. -/
namespace Go.Vi
set_option linter.unusedVariables false
def F_spec_pzNext : FSpec := fun args m =>
 match args, m with
 | [.int .i64 z], [] => some (0 <= z /\ z <= 10006, .int .i64 (pmN z))
 | _, _ => none
def F_spec_pzOf : FSpec := fun args m =>
 match args, m with
 | [.int .i64 k, .int .i64 a, .agg [.str wr, .int .i64 ww, .int .i64 wh, .str wc, .int .i64 wx, .int .i64 wy, .int .i64 wd]], [] => some (askK k a ⟨wr, ww, wh, wc, wx, wy, wd⟩ = true, .agg [.int .i64 k, .int .i64 (bif k == 4 then valK 4 0 ⟨wr, ww, wh, wc, wx, wy, wd⟩ else a), .int .i64 (bif k == 4 then 0 else valK k a ⟨wr, ww, wh, wc, wx, wy, wd⟩)])
 | _, _ => none
def F_impl_clueMaker_1 : GSpec := fun args m =>
 match args, m with
 | [.int .i64 c, .ptr 0 0], [⟨.vals [.int .i64 z], 3, .box⟩] => some (0 <= z /\ z <= 10006 /\ 1 <= c /\ c <= 1000, .int .i64 (pmN z % c), [⟨.vals [.int .i64 (pmN z)], 3, .box⟩])
 | _, _ => none
def F_impl_clueMaker_2 : GSpec := fun args m =>
 match args, m with
 | [.ptr 0 0, .ptr 1 0], [⟨.vals [.fn 90 [2]], 81, .box⟩, ⟨.vals [.str wr, .int .i64 ww, .int .i64 wh, .str wc, .int .i64 wx, .int .i64 wy, .int .i64 wd], 53, .box⟩, ⟨.vals [.int .i64 z], 3, .box⟩] => some (goodB ⟨wr, ww, wh, wc, wx, wy, wd⟩ = true /\ 1 <= wc.length /\ wc.length <= 100 /\ 0 <= z /\ z <= 10006, .agg [.int .i64 (pmK z), .int .i64 (pmX ⟨wr, ww, wh, wc, wx, wy, wd⟩ z), .int .i64 (pmY ⟨wr, ww, wh, wc, wx, wy, wd⟩ z)], [⟨.vals [.fn 90 [2]], 81, .box⟩, ⟨.vals [.str wr, .int .i64 ww, .int .i64 wh, .str wc, .int .i64 wx, .int .i64 wy, .int .i64 wd], 53, .box⟩, ⟨.vals [.int .i64 (pmZ z)], 3, .box⟩])
 | _, _ => none
def F_spec_MakePuzzle : GSpec := fun args m =>
 match args, m with
 | [.agg [.str wr, .int .i64 ww, .int .i64 wh, .str wc, .int .i64 wx, .int .i64 wy, .int .i64 wd], .int .i64 c, .int .i64 s], [] => some (True, .tup [.agg [.str (pmR ⟨wr, ww, wh, wc, wx, wy, wd⟩ c s), .int .i64 (pmW ⟨wr, ww, wh, wc, wx, wy, wd⟩ c s), .int .i64 (pmH ⟨wr, ww, wh, wc, wx, wy, wd⟩ c s), .row 0 (pmL ⟨wr, ww, wh, wc, wx, wy, wd⟩ c s)], .bool (pmG ⟨wr, ww, wh, wc, wx, wy, wd⟩ c s)], [⟨.ints .i64 (pmB ⟨wr, ww, wh, wc, wx, wy, wd⟩ c s), 83, .rows 3⟩])
 | _, _ => none
def F_impl_MakePuzzle : GSpec := fun args m =>
 match args, m with
 | [.agg [.str wr, .int .i64 ww, .int .i64 wh, .str wc, .int .i64 wx, .int .i64 wy, .int .i64 wd], .int .i64 c, .int .i64 s], [] => some (True, .tup [.agg [.str (pmR ⟨wr, ww, wh, wc, wx, wy, wd⟩ c s), .int .i64 (pmW ⟨wr, ww, wh, wc, wx, wy, wd⟩ c s), .int .i64 (pmH ⟨wr, ww, wh, wc, wx, wy, wd⟩ c s), .row 0 (pmL ⟨wr, ww, wh, wc, wx, wy, wd⟩ c s)], .bool (pmG ⟨wr, ww, wh, wc, wx, wy, wd⟩ c s)], [⟨.ints .i64 (pmB ⟨wr, ww, wh, wc, wx, wy, wd⟩ c s), 83, .rows 3⟩])
 | _, _ => none
end Go.Vi

/- The conditions, reckoned out by program: texts alone. -/
namespace Go.Vi
set_option linter.unusedVariables false
def VC_spec_pzNext (z:Int)(K:V → Prop):Prop:=
 At ((10007:Int) ≠ (0:Int))∧K (V.int .i64 (Int.tmod (IntKind.wrap .i64 (IntKind.wrap .i64 ((151:Int) * z) + (2083:Int))) (10007:Int)))
def VC_spec_pzOf (k:Int)(a:Int)(wr:List UInt8)(ww:Int)(wh:Int)(wc:List UInt8)(wx:Int)(wy:Int)(wd:Int)(K:V → Prop):Prop:=
 ((k==(4:Int))=true→At (askK (4:Int) (0:Int) { r := wr,w := ww,h := wh,c := wc,x := wx,y := wy,d := wd }=true)∧
 K (V.agg [V.int .i64 (4:Int),V.int .i64 (valK (4:Int) (0:Int) { r := wr,w := ww,h := wh,c := wc,x := wx,y := wy,d := wd }),V.int .i64 (0:Int)]))∧((k==(4:Int))=false→
 At (askK k a { r := wr,w := ww,h := wh,c := wc,x := wx,y := wy,d := wd }=true)∧K (V.agg [V.int .i64 k,V.int .i64 a,V.int .i64 (valK k a { r := wr,w := ww,h := wh,c := wc,x := wx,y := wy,d := wd })]))
def VC_impl_clueMaker_1 (c:Int)(z:Int)(K:V → List Blk → Prop):Prop:=
 At ((10007:Int) ≠ (0:Int))∧At (c ≠ (0:Int))∧
 K (V.int .i64 (Int.tmod (Int.tmod (IntKind.wrap .i64 (IntKind.wrap .i64 (z * (151:Int)) + (2083:Int))) (10007:Int)) c)) [⟨Cells.vals [V.int .i64 (Int.tmod (IntKind.wrap .i64 (IntKind.wrap .i64 (z * (151:Int)) + (2083:Int))) (10007:Int))],3,Kind.box⟩]
def VC_impl_clueMaker_2 (wr:List UInt8)(ww:Int)(wh:Int)(wc:List UInt8)(wx:Int)(wy:Int)(wd:Int)(z:Int)(K:V → List Blk → Prop):Prop:=
 At ((0:Int)≤z∧z≤(10006:Int)∧(1:Int)≤(5:Int)∧(5:Int)≤(1000:Int))∧((pmN z % (5:Int)==(0:Int))=true→((((At ((0:Int)≤pmN z∧pmN z≤(10006:Int)∧(1:Int)≤(↑(List.length wc):Int)∧(↑(List.length wc):Int)≤(1000:Int))∧
 (At (askK (pmN z % (5:Int)) (pmN (pmN z) % (↑(List.length wc):Int)) { r := wr,w := ww,h := wh,c := wc,x := wx,y := wy,d := wd }=true)∧
 K (V.agg [V.int .i64 (pmN z % (5:Int)),V.int .i64 (bif pmN z % (5:Int)==(4:Int) then valK (4:Int) (0:Int) { r := wr,w := ww,h := wh,c := wc,x := wx,y := wy,d := wd } else pmN (pmN z) % (↑(List.length wc):Int)),V.int .i64 (bif pmN z % (5:Int)==(4:Int) then (0:Int) else valK (pmN z % (5:Int)) (pmN (pmN z) % (↑(List.length wc):Int)) { r := wr,w := ww,h := wh,c := wc,x := wx,y := wy,d := wd })]) [⟨Cells.vals [V.fn (90:Nat) [(2:Nat)]],(81:Nat),Kind.box⟩,⟨Cells.vals [V.str wr,V.int .i64 ww,V.int .i64 wh,V.str wc,V.int .i64 wx,V.int .i64 wy,V.int .i64 wd],53,Kind.box⟩,⟨Cells.vals [V.int .i64 (pmN (pmN z))],3,Kind.box⟩,⟨Cells.vals [V.int .i64 (pmN z % (5:Int)),V.int .i64 (bif pmN z % (5:Int)==(4:Int) then valK (4:Int) (0:Int) { r := wr,w := ww,h := wh,c := wc,x := wx,y := wy,d := wd } else pmN (pmN z) % (↑(List.length wc):Int)),V.int .i64 (bif pmN z % (5:Int)==(4:Int) then (0:Int) else valK (pmN z % (5:Int)) (pmN (pmN z) % (↑(List.length wc):Int)) { r := wr,w := ww,h := wh,c := wc,x := wx,y := wy,d := wd })],83,Kind.box⟩]∧
 True)∧True)∧True)∧True)∧(((At ((0:Int)≤pmN z∧pmN z≤(10006:Int)∧(1:Int)≤(↑(List.length wc):Int)∧(↑(List.length wc):Int)≤(1000:Int))∧
 (At (askK (pmN z % (5:Int)) (pmN (pmN z) % (↑(List.length wc):Int)) { r := wr,w := ww,h := wh,c := wc,x := wx,y := wy,d := wd }=true)∧
 K (V.agg [V.int .i64 (pmN z % (5:Int)),V.int .i64 (bif pmN z % (5:Int)==(4:Int) then valK (4:Int) (0:Int) { r := wr,w := ww,h := wh,c := wc,x := wx,y := wy,d := wd } else pmN (pmN z) % (↑(List.length wc):Int)),V.int .i64 (bif pmN z % (5:Int)==(4:Int) then (0:Int) else valK (pmN z % (5:Int)) (pmN (pmN z) % (↑(List.length wc):Int)) { r := wr,w := ww,h := wh,c := wc,x := wx,y := wy,d := wd })]) [⟨Cells.vals [V.fn (90:Nat) [(2:Nat)]],(81:Nat),Kind.box⟩,⟨Cells.vals [V.str wr,V.int .i64 ww,V.int .i64 wh,V.str wc,V.int .i64 wx,V.int .i64 wy,V.int .i64 wd],53,Kind.box⟩,⟨Cells.vals [V.int .i64 (pmN (pmN z))],3,Kind.box⟩,⟨Cells.vals [V.int .i64 (pmN z % (5:Int)),V.int .i64 (bif pmN z % (5:Int)==(4:Int) then valK (4:Int) (0:Int) { r := wr,w := ww,h := wh,c := wc,x := wx,y := wy,d := wd } else pmN (pmN z) % (↑(List.length wc):Int)),V.int .i64 (bif pmN z % (5:Int)==(4:Int) then (0:Int) else valK (pmN z % (5:Int)) (pmN (pmN z) % (↑(List.length wc):Int)) { r := wr,w := ww,h := wh,c := wc,x := wx,y := wy,d := wd })],83,Kind.box⟩]∧
 True)∧True)∧True)∧True)∧True)∧((((At ((0:Int)≤pmN z∧pmN z≤(10006:Int)∧(1:Int)≤(↑(List.length wc):Int)∧(↑(List.length wc):Int)≤(1000:Int))∧
 (At (askK (pmN z % (5:Int)) (pmN (pmN z) % (↑(List.length wc):Int)) { r := wr,w := ww,h := wh,c := wc,x := wx,y := wy,d := wd }=true)∧
 K (V.agg [V.int .i64 (pmN z % (5:Int)),V.int .i64 (bif pmN z % (5:Int)==(4:Int) then valK (4:Int) (0:Int) { r := wr,w := ww,h := wh,c := wc,x := wx,y := wy,d := wd } else pmN (pmN z) % (↑(List.length wc):Int)),V.int .i64 (bif pmN z % (5:Int)==(4:Int) then (0:Int) else valK (pmN z % (5:Int)) (pmN (pmN z) % (↑(List.length wc):Int)) { r := wr,w := ww,h := wh,c := wc,x := wx,y := wy,d := wd })]) [⟨Cells.vals [V.fn (90:Nat) [(2:Nat)]],(81:Nat),Kind.box⟩,⟨Cells.vals [V.str wr,V.int .i64 ww,V.int .i64 wh,V.str wc,V.int .i64 wx,V.int .i64 wy,V.int .i64 wd],53,Kind.box⟩,⟨Cells.vals [V.int .i64 (pmN (pmN z))],3,Kind.box⟩,⟨Cells.vals [V.int .i64 (pmN z % (5:Int)),V.int .i64 (bif pmN z % (5:Int)==(4:Int) then valK (4:Int) (0:Int) { r := wr,w := ww,h := wh,c := wc,x := wx,y := wy,d := wd } else pmN (pmN z) % (↑(List.length wc):Int)),V.int .i64 (bif pmN z % (5:Int)==(4:Int) then (0:Int) else valK (pmN z % (5:Int)) (pmN (pmN z) % (↑(List.length wc):Int)) { r := wr,w := ww,h := wh,c := wc,x := wx,y := wy,d := wd })],83,Kind.box⟩]∧
 True)∧True)∧True)∧True)∧(((At ((0:Int)≤pmN z∧pmN z≤(10006:Int)∧(1:Int)≤(↑(List.length wc):Int)∧(↑(List.length wc):Int)≤(1000:Int))∧
 (At (askK (pmN z % (5:Int)) (pmN (pmN z) % (↑(List.length wc):Int)) { r := wr,w := ww,h := wh,c := wc,x := wx,y := wy,d := wd }=true)∧
 K (V.agg [V.int .i64 (pmN z % (5:Int)),V.int .i64 (bif pmN z % (5:Int)==(4:Int) then valK (4:Int) (0:Int) { r := wr,w := ww,h := wh,c := wc,x := wx,y := wy,d := wd } else pmN (pmN z) % (↑(List.length wc):Int)),V.int .i64 (bif pmN z % (5:Int)==(4:Int) then (0:Int) else valK (pmN z % (5:Int)) (pmN (pmN z) % (↑(List.length wc):Int)) { r := wr,w := ww,h := wh,c := wc,x := wx,y := wy,d := wd })]) [⟨Cells.vals [V.fn (90:Nat) [(2:Nat)]],(81:Nat),Kind.box⟩,⟨Cells.vals [V.str wr,V.int .i64 ww,V.int .i64 wh,V.str wc,V.int .i64 wx,V.int .i64 wy,V.int .i64 wd],53,Kind.box⟩,⟨Cells.vals [V.int .i64 (pmN (pmN z))],3,Kind.box⟩,⟨Cells.vals [V.int .i64 (pmN z % (5:Int)),V.int .i64 (bif pmN z % (5:Int)==(4:Int) then valK (4:Int) (0:Int) { r := wr,w := ww,h := wh,c := wc,x := wx,y := wy,d := wd } else pmN (pmN z) % (↑(List.length wc):Int)),V.int .i64 (bif pmN z % (5:Int)==(4:Int) then (0:Int) else valK (pmN z % (5:Int)) (pmN (pmN z) % (↑(List.length wc):Int)) { r := wr,w := ww,h := wh,c := wc,x := wx,y := wy,d := wd })],83,Kind.box⟩]∧
 True)∧True)∧True)∧(At ((0:Int)≤pmN z∧pmN z≤(10006:Int)∧(1:Int)≤(↑(List.length wc):Int)∧(↑(List.length wc):Int)≤(1000:Int))∧
 (At (askK (pmN z % (5:Int)) (pmN (pmN z) % (↑(List.length wc):Int)) { r := wr,w := ww,h := wh,c := wc,x := wx,y := wy,d := wd }=true)∧
 K (V.agg [V.int .i64 (pmN z % (5:Int)),V.int .i64 (bif pmN z % (5:Int)==(4:Int) then valK (4:Int) (0:Int) { r := wr,w := ww,h := wh,c := wc,x := wx,y := wy,d := wd } else pmN (pmN z) % (↑(List.length wc):Int)),V.int .i64 (bif pmN z % (5:Int)==(4:Int) then (0:Int) else valK (pmN z % (5:Int)) (pmN (pmN z) % (↑(List.length wc):Int)) { r := wr,w := ww,h := wh,c := wc,x := wx,y := wy,d := wd })]) [⟨Cells.vals [V.fn (90:Nat) [(2:Nat)]],(81:Nat),Kind.box⟩,⟨Cells.vals [V.str wr,V.int .i64 ww,V.int .i64 wh,V.str wc,V.int .i64 wx,V.int .i64 wy,V.int .i64 wd],53,Kind.box⟩,⟨Cells.vals [V.int .i64 (pmN (pmN z))],3,Kind.box⟩,⟨Cells.vals [V.int .i64 (pmN z % (5:Int)),V.int .i64 (bif pmN z % (5:Int)==(4:Int) then valK (4:Int) (0:Int) { r := wr,w := ww,h := wh,c := wc,x := wx,y := wy,d := wd } else pmN (pmN z) % (↑(List.length wc):Int)),V.int .i64 (bif pmN z % (5:Int)==(4:Int) then (0:Int) else valK (pmN z % (5:Int)) (pmN (pmN z) % (↑(List.length wc):Int)) { r := wr,w := ww,h := wh,c := wc,x := wx,y := wy,d := wd })],83,Kind.box⟩]∧
 True)∧True)∧True)∧True)∧((((At ((0:Int)≤pmN z∧pmN z≤(10006:Int)∧(1:Int)≤(↑(List.length wc):Int)∧(↑(List.length wc):Int)≤(1000:Int))∧
 (At (askK (pmN z % (5:Int)) (pmN (pmN z) % (↑(List.length wc):Int)) { r := wr,w := ww,h := wh,c := wc,x := wx,y := wy,d := wd }=true)∧
 K (V.agg [V.int .i64 (pmN z % (5:Int)),V.int .i64 (bif pmN z % (5:Int)==(4:Int) then valK (4:Int) (0:Int) { r := wr,w := ww,h := wh,c := wc,x := wx,y := wy,d := wd } else pmN (pmN z) % (↑(List.length wc):Int)),V.int .i64 (bif pmN z % (5:Int)==(4:Int) then (0:Int) else valK (pmN z % (5:Int)) (pmN (pmN z) % (↑(List.length wc):Int)) { r := wr,w := ww,h := wh,c := wc,x := wx,y := wy,d := wd })]) [⟨Cells.vals [V.fn (90:Nat) [(2:Nat)]],(81:Nat),Kind.box⟩,⟨Cells.vals [V.str wr,V.int .i64 ww,V.int .i64 wh,V.str wc,V.int .i64 wx,V.int .i64 wy,V.int .i64 wd],53,Kind.box⟩,⟨Cells.vals [V.int .i64 (pmN (pmN z))],3,Kind.box⟩,⟨Cells.vals [V.int .i64 (pmN z % (5:Int)),V.int .i64 (bif pmN z % (5:Int)==(4:Int) then valK (4:Int) (0:Int) { r := wr,w := ww,h := wh,c := wc,x := wx,y := wy,d := wd } else pmN (pmN z) % (↑(List.length wc):Int)),V.int .i64 (bif pmN z % (5:Int)==(4:Int) then (0:Int) else valK (pmN z % (5:Int)) (pmN (pmN z) % (↑(List.length wc):Int)) { r := wr,w := ww,h := wh,c := wc,x := wx,y := wy,d := wd })],83,Kind.box⟩]∧
 True)∧True)∧True)∧True)∧(((At ((0:Int)≤pmN z∧pmN z≤(10006:Int)∧(1:Int)≤(↑(List.length wc):Int)∧(↑(List.length wc):Int)≤(1000:Int))∧
 (At (askK (pmN z % (5:Int)) (pmN (pmN z) % (↑(List.length wc):Int)) { r := wr,w := ww,h := wh,c := wc,x := wx,y := wy,d := wd }=true)∧
 K (V.agg [V.int .i64 (pmN z % (5:Int)),V.int .i64 (bif pmN z % (5:Int)==(4:Int) then valK (4:Int) (0:Int) { r := wr,w := ww,h := wh,c := wc,x := wx,y := wy,d := wd } else pmN (pmN z) % (↑(List.length wc):Int)),V.int .i64 (bif pmN z % (5:Int)==(4:Int) then (0:Int) else valK (pmN z % (5:Int)) (pmN (pmN z) % (↑(List.length wc):Int)) { r := wr,w := ww,h := wh,c := wc,x := wx,y := wy,d := wd })]) [⟨Cells.vals [V.fn (90:Nat) [(2:Nat)]],(81:Nat),Kind.box⟩,⟨Cells.vals [V.str wr,V.int .i64 ww,V.int .i64 wh,V.str wc,V.int .i64 wx,V.int .i64 wy,V.int .i64 wd],53,Kind.box⟩,⟨Cells.vals [V.int .i64 (pmN (pmN z))],3,Kind.box⟩,⟨Cells.vals [V.int .i64 (pmN z % (5:Int)),V.int .i64 (bif pmN z % (5:Int)==(4:Int) then valK (4:Int) (0:Int) { r := wr,w := ww,h := wh,c := wc,x := wx,y := wy,d := wd } else pmN (pmN z) % (↑(List.length wc):Int)),V.int .i64 (bif pmN z % (5:Int)==(4:Int) then (0:Int) else valK (pmN z % (5:Int)) (pmN (pmN z) % (↑(List.length wc):Int)) { r := wr,w := ww,h := wh,c := wc,x := wx,y := wy,d := wd })],83,Kind.box⟩]∧
 True)∧True)∧True)∧(At ((0:Int)≤pmN z∧pmN z≤(10006:Int)∧(1:Int)≤(↑(List.length wc):Int)∧(↑(List.length wc):Int)≤(1000:Int))∧
 (At (askK (pmN z % (5:Int)) (pmN (pmN z) % (↑(List.length wc):Int)) { r := wr,w := ww,h := wh,c := wc,x := wx,y := wy,d := wd }=true)∧
 K (V.agg [V.int .i64 (pmN z % (5:Int)),V.int .i64 (bif pmN z % (5:Int)==(4:Int) then valK (4:Int) (0:Int) { r := wr,w := ww,h := wh,c := wc,x := wx,y := wy,d := wd } else pmN (pmN z) % (↑(List.length wc):Int)),V.int .i64 (bif pmN z % (5:Int)==(4:Int) then (0:Int) else valK (pmN z % (5:Int)) (pmN (pmN z) % (↑(List.length wc):Int)) { r := wr,w := ww,h := wh,c := wc,x := wx,y := wy,d := wd })]) [⟨Cells.vals [V.fn (90:Nat) [(2:Nat)]],(81:Nat),Kind.box⟩,⟨Cells.vals [V.str wr,V.int .i64 ww,V.int .i64 wh,V.str wc,V.int .i64 wx,V.int .i64 wy,V.int .i64 wd],53,Kind.box⟩,⟨Cells.vals [V.int .i64 (pmN (pmN z))],3,Kind.box⟩,⟨Cells.vals [V.int .i64 (pmN z % (5:Int)),V.int .i64 (bif pmN z % (5:Int)==(4:Int) then valK (4:Int) (0:Int) { r := wr,w := ww,h := wh,c := wc,x := wx,y := wy,d := wd } else pmN (pmN z) % (↑(List.length wc):Int)),V.int .i64 (bif pmN z % (5:Int)==(4:Int) then (0:Int) else valK (pmN z % (5:Int)) (pmN (pmN z) % (↑(List.length wc):Int)) { r := wr,w := ww,h := wh,c := wc,x := wx,y := wy,d := wd })],83,Kind.box⟩]∧
 True)∧True)∧True)∧True)∧True)∧((pmN z % (5:Int)==(0:Int))=false→((pmN z % (5:Int)==(4:Int))=true→At (askK (pmN z % (5:Int)) (0:Int) { r := wr,w := ww,h := wh,c := wc,x := wx,y := wy,d := wd }=true)∧
 K (V.agg [V.int .i64 (pmN z % (5:Int)),V.int .i64 (bif pmN z % (5:Int)==(4:Int) then valK (4:Int) (0:Int) { r := wr,w := ww,h := wh,c := wc,x := wx,y := wy,d := wd } else (0:Int)),V.int .i64 (bif pmN z % (5:Int)==(4:Int) then (0:Int) else valK (pmN z % (5:Int)) (0:Int) { r := wr,w := ww,h := wh,c := wc,x := wx,y := wy,d := wd })]) [⟨Cells.vals [V.fn (90:Nat) [(2:Nat)]],(81:Nat),Kind.box⟩,⟨Cells.vals [V.str wr,V.int .i64 ww,V.int .i64 wh,V.str wc,V.int .i64 wx,V.int .i64 wy,V.int .i64 wd],53,Kind.box⟩,⟨Cells.vals [V.int .i64 (pmN z)],3,Kind.box⟩,⟨Cells.vals [V.int .i64 (pmN z % (5:Int)),V.int .i64 (bif pmN z % (5:Int)==(4:Int) then valK (4:Int) (0:Int) { r := wr,w := ww,h := wh,c := wc,x := wx,y := wy,d := wd } else (0:Int)),V.int .i64 (bif pmN z % (5:Int)==(4:Int) then (0:Int) else valK (pmN z % (5:Int)) (0:Int) { r := wr,w := ww,h := wh,c := wc,x := wx,y := wy,d := wd })],83,Kind.box⟩])∧
 ((pmN z % (5:Int)==(4:Int))=false→(((At ((0:Int)≤pmN z∧pmN z≤(10006:Int)∧(1:Int)≤(51:Int)∧(51:Int)≤(1000:Int))∧
 (At (askK (pmN z % (5:Int)) (pmN (pmN z) % (51:Int)) { r := wr,w := ww,h := wh,c := wc,x := wx,y := wy,d := wd }=true)∧
 K (V.agg [V.int .i64 (pmN z % (5:Int)),V.int .i64 (bif pmN z % (5:Int)==(4:Int) then valK (4:Int) (0:Int) { r := wr,w := ww,h := wh,c := wc,x := wx,y := wy,d := wd } else pmN (pmN z) % (51:Int)),V.int .i64 (bif pmN z % (5:Int)==(4:Int) then (0:Int) else valK (pmN z % (5:Int)) (pmN (pmN z) % (51:Int)) { r := wr,w := ww,h := wh,c := wc,x := wx,y := wy,d := wd })]) [⟨Cells.vals [V.fn (90:Nat) [(2:Nat)]],(81:Nat),Kind.box⟩,⟨Cells.vals [V.str wr,V.int .i64 ww,V.int .i64 wh,V.str wc,V.int .i64 wx,V.int .i64 wy,V.int .i64 wd],53,Kind.box⟩,⟨Cells.vals [V.int .i64 (pmN (pmN z))],3,Kind.box⟩,⟨Cells.vals [V.int .i64 (pmN z % (5:Int)),V.int .i64 (bif pmN z % (5:Int)==(4:Int) then valK (4:Int) (0:Int) { r := wr,w := ww,h := wh,c := wc,x := wx,y := wy,d := wd } else pmN (pmN z) % (51:Int)),V.int .i64 (bif pmN z % (5:Int)==(4:Int) then (0:Int) else valK (pmN z % (5:Int)) (pmN (pmN z) % (51:Int)) { r := wr,w := ww,h := wh,c := wc,x := wx,y := wy,d := wd })],83,Kind.box⟩]∧
 True)∧True)∧True)∧True)∧(((At ((0:Int)≤pmN z∧pmN z≤(10006:Int)∧(1:Int)≤(51:Int)∧(51:Int)≤(1000:Int))∧(At (askK (pmN z % (5:Int)) (pmN (pmN z) % (51:Int)) { r := wr,w := ww,h := wh,c := wc,x := wx,y := wy,d := wd }=true)∧
 K (V.agg [V.int .i64 (pmN z % (5:Int)),V.int .i64 (bif pmN z % (5:Int)==(4:Int) then valK (4:Int) (0:Int) { r := wr,w := ww,h := wh,c := wc,x := wx,y := wy,d := wd } else pmN (pmN z) % (51:Int)),V.int .i64 (bif pmN z % (5:Int)==(4:Int) then (0:Int) else valK (pmN z % (5:Int)) (pmN (pmN z) % (51:Int)) { r := wr,w := ww,h := wh,c := wc,x := wx,y := wy,d := wd })]) [⟨Cells.vals [V.fn (90:Nat) [(2:Nat)]],(81:Nat),Kind.box⟩,⟨Cells.vals [V.str wr,V.int .i64 ww,V.int .i64 wh,V.str wc,V.int .i64 wx,V.int .i64 wy,V.int .i64 wd],53,Kind.box⟩,⟨Cells.vals [V.int .i64 (pmN (pmN z))],3,Kind.box⟩,⟨Cells.vals [V.int .i64 (pmN z % (5:Int)),V.int .i64 (bif pmN z % (5:Int)==(4:Int) then valK (4:Int) (0:Int) { r := wr,w := ww,h := wh,c := wc,x := wx,y := wy,d := wd } else pmN (pmN z) % (51:Int)),V.int .i64 (bif pmN z % (5:Int)==(4:Int) then (0:Int) else valK (pmN z % (5:Int)) (pmN (pmN z) % (51:Int)) { r := wr,w := ww,h := wh,c := wc,x := wx,y := wy,d := wd })],83,Kind.box⟩]∧
 True)∧True)∧True)∧(At ((0:Int)≤pmN z∧pmN z≤(10006:Int)∧(1:Int)≤(51:Int)∧(51:Int)≤(1000:Int))∧(At (askK (pmN z % (5:Int)) (pmN (pmN z) % (51:Int)) { r := wr,w := ww,h := wh,c := wc,x := wx,y := wy,d := wd }=true)∧
 K (V.agg [V.int .i64 (pmN z % (5:Int)),V.int .i64 (bif pmN z % (5:Int)==(4:Int) then valK (4:Int) (0:Int) { r := wr,w := ww,h := wh,c := wc,x := wx,y := wy,d := wd } else pmN (pmN z) % (51:Int)),V.int .i64 (bif pmN z % (5:Int)==(4:Int) then (0:Int) else valK (pmN z % (5:Int)) (pmN (pmN z) % (51:Int)) { r := wr,w := ww,h := wh,c := wc,x := wx,y := wy,d := wd })]) [⟨Cells.vals [V.fn (90:Nat) [(2:Nat)]],(81:Nat),Kind.box⟩,⟨Cells.vals [V.str wr,V.int .i64 ww,V.int .i64 wh,V.str wc,V.int .i64 wx,V.int .i64 wy,V.int .i64 wd],53,Kind.box⟩,⟨Cells.vals [V.int .i64 (pmN (pmN z))],3,Kind.box⟩,⟨Cells.vals [V.int .i64 (pmN z % (5:Int)),V.int .i64 (bif pmN z % (5:Int)==(4:Int) then valK (4:Int) (0:Int) { r := wr,w := ww,h := wh,c := wc,x := wx,y := wy,d := wd } else pmN (pmN z) % (51:Int)),V.int .i64 (bif pmN z % (5:Int)==(4:Int) then (0:Int) else valK (pmN z % (5:Int)) (pmN (pmN z) % (51:Int)) { r := wr,w := ww,h := wh,c := wc,x := wx,y := wy,d := wd })],83,Kind.box⟩]∧
 True)∧True)∧True)∧True))
def VC_spec_MakePuzzle (wr:List UInt8)(ww:Int)(wh:Int)(wc:List UInt8)(wx:Int)(wy:Int)(wd:Int)(c:Int)(s:Int)(K:V → List Blk → Prop):Prop:=
 At True∧((!hidB { r := wr,w := ww,h := wh,c := wc,x := wx,y := wy,d := wd })=true→
 K (V.tup [V.agg [V.str ([]:List UInt8),V.int .i64 (0:Int),V.int .i64 (0:Int),V.raw (Value.slice none (0:Nat) (0:Nat))],V.lit false]) [⟨Cells.vals [V.str wr,V.int .i64 ww,V.int .i64 wh,V.str wc,V.int .i64 wx,V.int .i64 wy,V.int .i64 wd],53,Kind.box⟩,⟨Cells.vals [V.str ([]:List UInt8),V.int .i64 (0:Int),V.int .i64 (0:Int),V.raw (Value.slice none (0:Nat) (0:Nat))],31,Kind.box⟩])∧
 ((!hidB { r := wr,w := ww,h := wh,c := wc,x := wx,y := wy,d := wd })=false→At True∧((!inB c (0:Int) (6:Int))=true→
 K (V.tup [V.agg [V.str ([]:List UInt8),V.int .i64 (0:Int),V.int .i64 (0:Int),V.raw (Value.slice none (0:Nat) (0:Nat))],V.lit false]) [⟨Cells.vals [V.str wr,V.int .i64 ww,V.int .i64 wh,V.str wc,V.int .i64 wx,V.int .i64 wy,V.int .i64 wd],53,Kind.box⟩,⟨Cells.vals [V.str ([]:List UInt8),V.int .i64 (0:Int),V.int .i64 (0:Int),V.raw (Value.slice none (0:Nat) (0:Nat))],31,Kind.box⟩])∧
 ((!inB c (0:Int) (6:Int))=false→At True∧((!inB s (0:Int) (9999:Int))=true→
 K (V.tup [V.agg [V.str ([]:List UInt8),V.int .i64 (0:Int),V.int .i64 (0:Int),V.raw (Value.slice none (0:Nat) (0:Nat))],V.lit false]) [⟨Cells.vals [V.str wr,V.int .i64 ww,V.int .i64 wh,V.str wc,V.int .i64 wx,V.int .i64 wy,V.int .i64 wd],53,Kind.box⟩,⟨Cells.vals [V.str ([]:List UInt8),V.int .i64 (0:Int),V.int .i64 (0:Int),V.raw (Value.slice none (0:Nat) (0:Nat))],31,Kind.box⟩])∧
 ((!inB s (0:Int) (9999:Int))=false→(True∧((True∧c=c - (c - c))∧((0:Nat)=(0:Nat)∧(0:Nat)=(0:Nat))∧((1:Nat)=(1:Nat)∧(0:Nat)=(0:Nat))∧false=false∧((2:Nat)=(2:Nat)∧(0:Nat)=(0:Nat))∧(True∧
 s=Prod.fst (pmS { r := wr,w := ww,h := wh,c := wc,x := wx,y := wy,d := wd } s (Int.toNat (c - c))))∧True)∧((True∧wr=wr∧(True∧ww=ww)∧(True∧wh=wh)∧wc=wc∧(True∧wx=wx)∧(True∧wy=wy)∧(True∧wd=wd)∧True)∧(True∧nilB=nilB∧(True∧
 (0:Int)=(0:Int))∧(True∧(0:Int)=(0:Int))∧Value.slice none (0:Nat) (0:Nat)=Value.slice none (0:Nat) (0:Nat)∧True)∧(True∧wr=wr∧(True∧ww=ww)∧(True∧wh=wh)∧((3:Nat)=(3:Nat)∧(0:Nat)=Int.toNat (c - c))∧True)∧(True∧
 IntKind.i64=IntKind.i64∧nilI=Prod.snd (pmS { r := wr,w := ww,h := wh,c := wc,x := wx,y := wy,d := wd } s (Int.toNat (c - c))))∧True)∧True)∧
 At (pmInv { r := wr,w := ww,h := wh,c := wc,x := wx,y := wy,d := wd } c s (c - c))∧∀(a:Int),pmInv { r := wr,w := ww,h := wh,c := wc,x := wx,y := wy,d := wd } c s a→(decide (c - a > (0:Int))=true→
 At ((0:Int)≤Prod.fst (pmS { r := wr,w := ww,h := wh,c := wc,x := wx,y := wy,d := wd } s (Int.toNat a))∧Prod.fst (pmS { r := wr,w := ww,h := wh,c := wc,x := wx,y := wy,d := wd } s (Int.toNat a))≤(10006:Int))∧
 At ((5:Int) ≠ (0:Int))∧(decide (Int.tmod (pmN (Prod.fst (pmS { r := wr,w := ww,h := wh,c := wc,x := wx,y := wy,d := wd } s (Int.toNat a)))) (5:Int) < (4:Int))=true→
 At ((0:Int)≤pmN (Prod.fst (pmS { r := wr,w := ww,h := wh,c := wc,x := wx,y := wy,d := wd } s (Int.toNat a)))∧pmN (Prod.fst (pmS { r := wr,w := ww,h := wh,c := wc,x := wx,y := wy,d := wd } s (Int.toNat a)))≤(10006:Int))∧
 At ((51:Int) ≠ (0:Int))∧((Int.tmod (pmN (Prod.fst (pmS { r := wr,w := ww,h := wh,c := wc,x := wx,y := wy,d := wd } s (Int.toNat a)))) (5:Int)==(0:Int))=true→At ((↑(List.length wc):Int) ≠ (0:Int))∧
 (((At (askK (Int.tmod (pmN (Prod.fst (pmS { r := wr,w := ww,h := wh,c := wc,x := wx,y := wy,d := wd } s (Int.toNat a)))) (5:Int)) (Int.tmod (pmN (pmN (Prod.fst (pmS { r := wr,w := ww,h := wh,c := wc,x := wx,y := wy,d := wd } s (Int.toNat a))))) (↑(List.length wc):Int)) { r := wr,w := ww,h := wh,c := wc,x := wx,y := wy,d := wd }=true)∧
 ((At ((List.length (Prod.snd (pmS { r := wr,w := ww,h := wh,c := wc,x := wx,y := wy,d := wd } s (Int.toNat a)))=Int.toNat a * (3:Nat)∧
 (1:Nat) * (3:Nat)≤List.length [Int.tmod (pmN (Prod.fst (pmS { r := wr,w := ww,h := wh,c := wc,x := wx,y := wy,d := wd } s (Int.toNat a)))) (5:Int),bif Int.tmod (pmN (Prod.fst (pmS { r := wr,w := ww,h := wh,c := wc,x := wx,y := wy,d := wd } s (Int.toNat a)))) (5:Int)==(4:Int) then valK (4:Int) (0:Int) { r := wr,w := ww,h := wh,c := wc,x := wx,y := wy,d := wd } else Int.tmod (pmN (pmN (Prod.fst (pmS { r := wr,w := ww,h := wh,c := wc,x := wx,y := wy,d := wd } s (Int.toNat a))))) (↑(List.length wc):Int),bif Int.tmod (pmN (Prod.fst (pmS { r := wr,w := ww,h := wh,c := wc,x := wx,y := wy,d := wd } s (Int.toNat a)))) (5:Int)==(4:Int) then (0:Int) else valK (Int.tmod (pmN (Prod.fst (pmS { r := wr,w := ww,h := wh,c := wc,x := wx,y := wy,d := wd } s (Int.toNat a)))) (5:Int)) (Int.tmod (pmN (pmN (Prod.fst (pmS { r := wr,w := ww,h := wh,c := wc,x := wx,y := wy,d := wd } s (Int.toNat a))))) (↑(List.length wc):Int)) { r := wr,w := ww,h := wh,c := wc,x := wx,y := wy,d := wd }])∧
 posM (Kind.rows (3:Nat)) (1:Nat)∧Int.toNat a + (1:Nat)≤(1000000000:Nat))∧((True∧((True∧IntKind.wrap .i64 (c - a - (1:Int))=c - (c - IntKind.wrap .i64 (c - a - (1:Int))))∧((0:Nat)=(0:Nat)∧(0:Nat)=(0:Nat))∧
 ((1:Nat)=(1:Nat)∧(0:Nat)=(0:Nat))∧false=false∧((2:Nat)=(2:Nat)∧(0:Nat)=(0:Nat))∧(True∧
 pmN (pmN (Prod.fst (pmS { r := wr,w := ww,h := wh,c := wc,x := wx,y := wy,d := wd } s (Int.toNat a))))=Prod.fst (pmS { r := wr,w := ww,h := wh,c := wc,x := wx,y := wy,d := wd } s (Int.toNat (c - IntKind.wrap .i64 (c - a - (1:Int))))))∧
 True)∧((True∧wr=wr∧(True∧ww=ww)∧(True∧wh=wh)∧wc=wc∧(True∧wx=wx)∧(True∧wy=wy)∧(True∧wd=wd)∧True)∧(True∧nilB=nilB∧(True∧(0:Int)=(0:Int))∧(True∧(0:Int)=(0:Int))∧
 Value.slice none (0:Nat) (0:Nat)=Value.slice none (0:Nat) (0:Nat)∧True)∧(True∧wr=wr∧(True∧ww=ww)∧(True∧wh=wh)∧((3:Nat)=(3:Nat)∧Int.toNat a + (1:Nat)=Int.toNat (c - IntKind.wrap .i64 (c - a - (1:Int))))∧True)∧(True∧
 IntKind.i64=IntKind.i64∧
 Prod.snd (pmS { r := wr,w := ww,h := wh,c := wc,x := wx,y := wy,d := wd } s (Int.toNat a)) ++ List.take ((1:Nat) * (3:Nat)) [Int.tmod (pmN (Prod.fst (pmS { r := wr,w := ww,h := wh,c := wc,x := wx,y := wy,d := wd } s (Int.toNat a)))) (5:Int),bif Int.tmod (pmN (Prod.fst (pmS { r := wr,w := ww,h := wh,c := wc,x := wx,y := wy,d := wd } s (Int.toNat a)))) (5:Int)==(4:Int) then valK (4:Int) (0:Int) { r := wr,w := ww,h := wh,c := wc,x := wx,y := wy,d := wd } else Int.tmod (pmN (pmN (Prod.fst (pmS { r := wr,w := ww,h := wh,c := wc,x := wx,y := wy,d := wd } s (Int.toNat a))))) (↑(List.length wc):Int),bif Int.tmod (pmN (Prod.fst (pmS { r := wr,w := ww,h := wh,c := wc,x := wx,y := wy,d := wd } s (Int.toNat a)))) (5:Int)==(4:Int) then (0:Int) else valK (Int.tmod (pmN (Prod.fst (pmS { r := wr,w := ww,h := wh,c := wc,x := wx,y := wy,d := wd } s (Int.toNat a)))) (5:Int)) (Int.tmod (pmN (pmN (Prod.fst (pmS { r := wr,w := ww,h := wh,c := wc,x := wx,y := wy,d := wd } s (Int.toNat a))))) (↑(List.length wc):Int)) { r := wr,w := ww,h := wh,c := wc,x := wx,y := wy,d := wd }]=Prod.snd (pmS { r := wr,w := ww,h := wh,c := wc,x := wx,y := wy,d := wd } s (Int.toNat (c - IntKind.wrap .i64 (c - a - (1:Int))))))∧
 True)∧True)∧At (pmInv { r := wr,w := ww,h := wh,c := wc,x := wx,y := wy,d := wd } c s (c - IntKind.wrap .i64 (c - a - (1:Int)))∧Int.toNat (c - (c - IntKind.wrap .i64 (c - a - (1:Int)))) < Int.toNat (c - a)))∧True)∧True)∧
 True)∧True)∧True)∧
 (((At (askK (Int.tmod (pmN (Prod.fst (pmS { r := wr,w := ww,h := wh,c := wc,x := wx,y := wy,d := wd } s (Int.toNat a)))) (5:Int)) (Int.tmod (pmN (pmN (Prod.fst (pmS { r := wr,w := ww,h := wh,c := wc,x := wx,y := wy,d := wd } s (Int.toNat a))))) (↑(List.length wc):Int)) { r := wr,w := ww,h := wh,c := wc,x := wx,y := wy,d := wd }=true)∧
 ((At ((List.length (Prod.snd (pmS { r := wr,w := ww,h := wh,c := wc,x := wx,y := wy,d := wd } s (Int.toNat a)))=Int.toNat a * (3:Nat)∧
 (1:Nat) * (3:Nat)≤List.length [Int.tmod (pmN (Prod.fst (pmS { r := wr,w := ww,h := wh,c := wc,x := wx,y := wy,d := wd } s (Int.toNat a)))) (5:Int),bif Int.tmod (pmN (Prod.fst (pmS { r := wr,w := ww,h := wh,c := wc,x := wx,y := wy,d := wd } s (Int.toNat a)))) (5:Int)==(4:Int) then valK (4:Int) (0:Int) { r := wr,w := ww,h := wh,c := wc,x := wx,y := wy,d := wd } else Int.tmod (pmN (pmN (Prod.fst (pmS { r := wr,w := ww,h := wh,c := wc,x := wx,y := wy,d := wd } s (Int.toNat a))))) (↑(List.length wc):Int),bif Int.tmod (pmN (Prod.fst (pmS { r := wr,w := ww,h := wh,c := wc,x := wx,y := wy,d := wd } s (Int.toNat a)))) (5:Int)==(4:Int) then (0:Int) else valK (Int.tmod (pmN (Prod.fst (pmS { r := wr,w := ww,h := wh,c := wc,x := wx,y := wy,d := wd } s (Int.toNat a)))) (5:Int)) (Int.tmod (pmN (pmN (Prod.fst (pmS { r := wr,w := ww,h := wh,c := wc,x := wx,y := wy,d := wd } s (Int.toNat a))))) (↑(List.length wc):Int)) { r := wr,w := ww,h := wh,c := wc,x := wx,y := wy,d := wd }])∧
 posM (Kind.rows (3:Nat)) (1:Nat)∧Int.toNat a + (1:Nat)≤(1000000000:Nat))∧((True∧((True∧IntKind.wrap .i64 (c - a - (1:Int))=c - (c - IntKind.wrap .i64 (c - a - (1:Int))))∧((0:Nat)=(0:Nat)∧(0:Nat)=(0:Nat))∧
 ((1:Nat)=(1:Nat)∧(0:Nat)=(0:Nat))∧false=false∧((2:Nat)=(2:Nat)∧(0:Nat)=(0:Nat))∧(True∧
 pmN (pmN (Prod.fst (pmS { r := wr,w := ww,h := wh,c := wc,x := wx,y := wy,d := wd } s (Int.toNat a))))=Prod.fst (pmS { r := wr,w := ww,h := wh,c := wc,x := wx,y := wy,d := wd } s (Int.toNat (c - IntKind.wrap .i64 (c - a - (1:Int))))))∧
 True)∧((True∧wr=wr∧(True∧ww=ww)∧(True∧wh=wh)∧wc=wc∧(True∧wx=wx)∧(True∧wy=wy)∧(True∧wd=wd)∧True)∧(True∧nilB=nilB∧(True∧(0:Int)=(0:Int))∧(True∧(0:Int)=(0:Int))∧
 Value.slice none (0:Nat) (0:Nat)=Value.slice none (0:Nat) (0:Nat)∧True)∧(True∧wr=wr∧(True∧ww=ww)∧(True∧wh=wh)∧((3:Nat)=(3:Nat)∧Int.toNat a + (1:Nat)=Int.toNat (c - IntKind.wrap .i64 (c - a - (1:Int))))∧True)∧(True∧
 IntKind.i64=IntKind.i64∧
 Prod.snd (pmS { r := wr,w := ww,h := wh,c := wc,x := wx,y := wy,d := wd } s (Int.toNat a)) ++ List.take ((1:Nat) * (3:Nat)) [Int.tmod (pmN (Prod.fst (pmS { r := wr,w := ww,h := wh,c := wc,x := wx,y := wy,d := wd } s (Int.toNat a)))) (5:Int),bif Int.tmod (pmN (Prod.fst (pmS { r := wr,w := ww,h := wh,c := wc,x := wx,y := wy,d := wd } s (Int.toNat a)))) (5:Int)==(4:Int) then valK (4:Int) (0:Int) { r := wr,w := ww,h := wh,c := wc,x := wx,y := wy,d := wd } else Int.tmod (pmN (pmN (Prod.fst (pmS { r := wr,w := ww,h := wh,c := wc,x := wx,y := wy,d := wd } s (Int.toNat a))))) (↑(List.length wc):Int),bif Int.tmod (pmN (Prod.fst (pmS { r := wr,w := ww,h := wh,c := wc,x := wx,y := wy,d := wd } s (Int.toNat a)))) (5:Int)==(4:Int) then (0:Int) else valK (Int.tmod (pmN (Prod.fst (pmS { r := wr,w := ww,h := wh,c := wc,x := wx,y := wy,d := wd } s (Int.toNat a)))) (5:Int)) (Int.tmod (pmN (pmN (Prod.fst (pmS { r := wr,w := ww,h := wh,c := wc,x := wx,y := wy,d := wd } s (Int.toNat a))))) (↑(List.length wc):Int)) { r := wr,w := ww,h := wh,c := wc,x := wx,y := wy,d := wd }]=Prod.snd (pmS { r := wr,w := ww,h := wh,c := wc,x := wx,y := wy,d := wd } s (Int.toNat (c - IntKind.wrap .i64 (c - a - (1:Int))))))∧
 True)∧True)∧At (pmInv { r := wr,w := ww,h := wh,c := wc,x := wx,y := wy,d := wd } c s (c - IntKind.wrap .i64 (c - a - (1:Int)))∧Int.toNat (c - (c - IntKind.wrap .i64 (c - a - (1:Int)))) < Int.toNat (c - a)))∧True)∧True)∧
 True)∧True)∧
 (At (askK (Int.tmod (pmN (Prod.fst (pmS { r := wr,w := ww,h := wh,c := wc,x := wx,y := wy,d := wd } s (Int.toNat a)))) (5:Int)) (Int.tmod (pmN (pmN (Prod.fst (pmS { r := wr,w := ww,h := wh,c := wc,x := wx,y := wy,d := wd } s (Int.toNat a))))) (↑(List.length wc):Int)) { r := wr,w := ww,h := wh,c := wc,x := wx,y := wy,d := wd }=true)∧
 (((At ((List.length (Prod.snd (pmS { r := wr,w := ww,h := wh,c := wc,x := wx,y := wy,d := wd } s (Int.toNat a)))=Int.toNat a * (3:Nat)∧
 (1:Nat) * (3:Nat)≤List.length [Int.tmod (pmN (Prod.fst (pmS { r := wr,w := ww,h := wh,c := wc,x := wx,y := wy,d := wd } s (Int.toNat a)))) (5:Int),bif Int.tmod (pmN (Prod.fst (pmS { r := wr,w := ww,h := wh,c := wc,x := wx,y := wy,d := wd } s (Int.toNat a)))) (5:Int)==(4:Int) then valK (4:Int) (0:Int) { r := wr,w := ww,h := wh,c := wc,x := wx,y := wy,d := wd } else Int.tmod (pmN (pmN (Prod.fst (pmS { r := wr,w := ww,h := wh,c := wc,x := wx,y := wy,d := wd } s (Int.toNat a))))) (↑(List.length wc):Int),bif Int.tmod (pmN (Prod.fst (pmS { r := wr,w := ww,h := wh,c := wc,x := wx,y := wy,d := wd } s (Int.toNat a)))) (5:Int)==(4:Int) then (0:Int) else valK (Int.tmod (pmN (Prod.fst (pmS { r := wr,w := ww,h := wh,c := wc,x := wx,y := wy,d := wd } s (Int.toNat a)))) (5:Int)) (Int.tmod (pmN (pmN (Prod.fst (pmS { r := wr,w := ww,h := wh,c := wc,x := wx,y := wy,d := wd } s (Int.toNat a))))) (↑(List.length wc):Int)) { r := wr,w := ww,h := wh,c := wc,x := wx,y := wy,d := wd }])∧
 posM (Kind.rows (3:Nat)) (1:Nat)∧Int.toNat a + (1:Nat)≤(1000000000:Nat))∧((True∧((True∧IntKind.wrap .i64 (c - a - (1:Int))=c - (c - IntKind.wrap .i64 (c - a - (1:Int))))∧((0:Nat)=(0:Nat)∧(0:Nat)=(0:Nat))∧
 ((1:Nat)=(1:Nat)∧(0:Nat)=(0:Nat))∧false=false∧((2:Nat)=(2:Nat)∧(0:Nat)=(0:Nat))∧(True∧
 pmN (pmN (Prod.fst (pmS { r := wr,w := ww,h := wh,c := wc,x := wx,y := wy,d := wd } s (Int.toNat a))))=Prod.fst (pmS { r := wr,w := ww,h := wh,c := wc,x := wx,y := wy,d := wd } s (Int.toNat (c - IntKind.wrap .i64 (c - a - (1:Int))))))∧
 True)∧((True∧wr=wr∧(True∧ww=ww)∧(True∧wh=wh)∧wc=wc∧(True∧wx=wx)∧(True∧wy=wy)∧(True∧wd=wd)∧True)∧(True∧nilB=nilB∧(True∧(0:Int)=(0:Int))∧(True∧(0:Int)=(0:Int))∧
 Value.slice none (0:Nat) (0:Nat)=Value.slice none (0:Nat) (0:Nat)∧True)∧(True∧wr=wr∧(True∧ww=ww)∧(True∧wh=wh)∧((3:Nat)=(3:Nat)∧Int.toNat a + (1:Nat)=Int.toNat (c - IntKind.wrap .i64 (c - a - (1:Int))))∧True)∧(True∧
 IntKind.i64=IntKind.i64∧
 Prod.snd (pmS { r := wr,w := ww,h := wh,c := wc,x := wx,y := wy,d := wd } s (Int.toNat a)) ++ List.take ((1:Nat) * (3:Nat)) [Int.tmod (pmN (Prod.fst (pmS { r := wr,w := ww,h := wh,c := wc,x := wx,y := wy,d := wd } s (Int.toNat a)))) (5:Int),bif Int.tmod (pmN (Prod.fst (pmS { r := wr,w := ww,h := wh,c := wc,x := wx,y := wy,d := wd } s (Int.toNat a)))) (5:Int)==(4:Int) then valK (4:Int) (0:Int) { r := wr,w := ww,h := wh,c := wc,x := wx,y := wy,d := wd } else Int.tmod (pmN (pmN (Prod.fst (pmS { r := wr,w := ww,h := wh,c := wc,x := wx,y := wy,d := wd } s (Int.toNat a))))) (↑(List.length wc):Int),bif Int.tmod (pmN (Prod.fst (pmS { r := wr,w := ww,h := wh,c := wc,x := wx,y := wy,d := wd } s (Int.toNat a)))) (5:Int)==(4:Int) then (0:Int) else valK (Int.tmod (pmN (Prod.fst (pmS { r := wr,w := ww,h := wh,c := wc,x := wx,y := wy,d := wd } s (Int.toNat a)))) (5:Int)) (Int.tmod (pmN (pmN (Prod.fst (pmS { r := wr,w := ww,h := wh,c := wc,x := wx,y := wy,d := wd } s (Int.toNat a))))) (↑(List.length wc):Int)) { r := wr,w := ww,h := wh,c := wc,x := wx,y := wy,d := wd }]=Prod.snd (pmS { r := wr,w := ww,h := wh,c := wc,x := wx,y := wy,d := wd } s (Int.toNat (c - IntKind.wrap .i64 (c - a - (1:Int))))))∧
 True)∧True)∧At (pmInv { r := wr,w := ww,h := wh,c := wc,x := wx,y := wy,d := wd } c s (c - IntKind.wrap .i64 (c - a - (1:Int)))∧Int.toNat (c - (c - IntKind.wrap .i64 (c - a - (1:Int)))) < Int.toNat (c - a)))∧True)∧True)∧
 True)∧((At ((List.length (Prod.snd (pmS { r := wr,w := ww,h := wh,c := wc,x := wx,y := wy,d := wd } s (Int.toNat a)))=Int.toNat a * (3:Nat)∧
 (1:Nat) * (3:Nat)≤List.length [Int.tmod (pmN (Prod.fst (pmS { r := wr,w := ww,h := wh,c := wc,x := wx,y := wy,d := wd } s (Int.toNat a)))) (5:Int),bif Int.tmod (pmN (Prod.fst (pmS { r := wr,w := ww,h := wh,c := wc,x := wx,y := wy,d := wd } s (Int.toNat a)))) (5:Int)==(4:Int) then valK (4:Int) (0:Int) { r := wr,w := ww,h := wh,c := wc,x := wx,y := wy,d := wd } else Int.tmod (pmN (pmN (Prod.fst (pmS { r := wr,w := ww,h := wh,c := wc,x := wx,y := wy,d := wd } s (Int.toNat a))))) (↑(List.length wc):Int),bif Int.tmod (pmN (Prod.fst (pmS { r := wr,w := ww,h := wh,c := wc,x := wx,y := wy,d := wd } s (Int.toNat a)))) (5:Int)==(4:Int) then (0:Int) else valK (Int.tmod (pmN (Prod.fst (pmS { r := wr,w := ww,h := wh,c := wc,x := wx,y := wy,d := wd } s (Int.toNat a)))) (5:Int)) (Int.tmod (pmN (pmN (Prod.fst (pmS { r := wr,w := ww,h := wh,c := wc,x := wx,y := wy,d := wd } s (Int.toNat a))))) (↑(List.length wc):Int)) { r := wr,w := ww,h := wh,c := wc,x := wx,y := wy,d := wd }])∧
 posM (Kind.rows (3:Nat)) (1:Nat)∧Int.toNat a + (1:Nat)≤(1000000000:Nat))∧((True∧((True∧IntKind.wrap .i64 (c - a - (1:Int))=c - (c - IntKind.wrap .i64 (c - a - (1:Int))))∧((0:Nat)=(0:Nat)∧(0:Nat)=(0:Nat))∧
 ((1:Nat)=(1:Nat)∧(0:Nat)=(0:Nat))∧false=false∧((2:Nat)=(2:Nat)∧(0:Nat)=(0:Nat))∧(True∧
 pmN (pmN (Prod.fst (pmS { r := wr,w := ww,h := wh,c := wc,x := wx,y := wy,d := wd } s (Int.toNat a))))=Prod.fst (pmS { r := wr,w := ww,h := wh,c := wc,x := wx,y := wy,d := wd } s (Int.toNat (c - IntKind.wrap .i64 (c - a - (1:Int))))))∧
 True)∧((True∧wr=wr∧(True∧ww=ww)∧(True∧wh=wh)∧wc=wc∧(True∧wx=wx)∧(True∧wy=wy)∧(True∧wd=wd)∧True)∧(True∧nilB=nilB∧(True∧(0:Int)=(0:Int))∧(True∧(0:Int)=(0:Int))∧
 Value.slice none (0:Nat) (0:Nat)=Value.slice none (0:Nat) (0:Nat)∧True)∧(True∧wr=wr∧(True∧ww=ww)∧(True∧wh=wh)∧((3:Nat)=(3:Nat)∧Int.toNat a + (1:Nat)=Int.toNat (c - IntKind.wrap .i64 (c - a - (1:Int))))∧True)∧(True∧
 IntKind.i64=IntKind.i64∧
 Prod.snd (pmS { r := wr,w := ww,h := wh,c := wc,x := wx,y := wy,d := wd } s (Int.toNat a)) ++ List.take ((1:Nat) * (3:Nat)) [Int.tmod (pmN (Prod.fst (pmS { r := wr,w := ww,h := wh,c := wc,x := wx,y := wy,d := wd } s (Int.toNat a)))) (5:Int),bif Int.tmod (pmN (Prod.fst (pmS { r := wr,w := ww,h := wh,c := wc,x := wx,y := wy,d := wd } s (Int.toNat a)))) (5:Int)==(4:Int) then valK (4:Int) (0:Int) { r := wr,w := ww,h := wh,c := wc,x := wx,y := wy,d := wd } else Int.tmod (pmN (pmN (Prod.fst (pmS { r := wr,w := ww,h := wh,c := wc,x := wx,y := wy,d := wd } s (Int.toNat a))))) (↑(List.length wc):Int),bif Int.tmod (pmN (Prod.fst (pmS { r := wr,w := ww,h := wh,c := wc,x := wx,y := wy,d := wd } s (Int.toNat a)))) (5:Int)==(4:Int) then (0:Int) else valK (Int.tmod (pmN (Prod.fst (pmS { r := wr,w := ww,h := wh,c := wc,x := wx,y := wy,d := wd } s (Int.toNat a)))) (5:Int)) (Int.tmod (pmN (pmN (Prod.fst (pmS { r := wr,w := ww,h := wh,c := wc,x := wx,y := wy,d := wd } s (Int.toNat a))))) (↑(List.length wc):Int)) { r := wr,w := ww,h := wh,c := wc,x := wx,y := wy,d := wd }]=Prod.snd (pmS { r := wr,w := ww,h := wh,c := wc,x := wx,y := wy,d := wd } s (Int.toNat (c - IntKind.wrap .i64 (c - a - (1:Int))))))∧
 True)∧True)∧At (pmInv { r := wr,w := ww,h := wh,c := wc,x := wx,y := wy,d := wd } c s (c - IntKind.wrap .i64 (c - a - (1:Int)))∧Int.toNat (c - (c - IntKind.wrap .i64 (c - a - (1:Int)))) < Int.toNat (c - a)))∧True)∧True)∧
 True)∧True)∧True)∧((Int.tmod (pmN (Prod.fst (pmS { r := wr,w := ww,h := wh,c := wc,x := wx,y := wy,d := wd } s (Int.toNat a)))) (5:Int)==(0:Int))=false→
 (((At (askK (Int.tmod (pmN (Prod.fst (pmS { r := wr,w := ww,h := wh,c := wc,x := wx,y := wy,d := wd } s (Int.toNat a)))) (5:Int)) (Int.tmod (pmN (pmN (Prod.fst (pmS { r := wr,w := ww,h := wh,c := wc,x := wx,y := wy,d := wd } s (Int.toNat a))))) (51:Int)) { r := wr,w := ww,h := wh,c := wc,x := wx,y := wy,d := wd }=true)∧
 ((At ((List.length (Prod.snd (pmS { r := wr,w := ww,h := wh,c := wc,x := wx,y := wy,d := wd } s (Int.toNat a)))=Int.toNat a * (3:Nat)∧
 (1:Nat) * (3:Nat)≤List.length [Int.tmod (pmN (Prod.fst (pmS { r := wr,w := ww,h := wh,c := wc,x := wx,y := wy,d := wd } s (Int.toNat a)))) (5:Int),bif Int.tmod (pmN (Prod.fst (pmS { r := wr,w := ww,h := wh,c := wc,x := wx,y := wy,d := wd } s (Int.toNat a)))) (5:Int)==(4:Int) then valK (4:Int) (0:Int) { r := wr,w := ww,h := wh,c := wc,x := wx,y := wy,d := wd } else Int.tmod (pmN (pmN (Prod.fst (pmS { r := wr,w := ww,h := wh,c := wc,x := wx,y := wy,d := wd } s (Int.toNat a))))) (51:Int),bif Int.tmod (pmN (Prod.fst (pmS { r := wr,w := ww,h := wh,c := wc,x := wx,y := wy,d := wd } s (Int.toNat a)))) (5:Int)==(4:Int) then (0:Int) else valK (Int.tmod (pmN (Prod.fst (pmS { r := wr,w := ww,h := wh,c := wc,x := wx,y := wy,d := wd } s (Int.toNat a)))) (5:Int)) (Int.tmod (pmN (pmN (Prod.fst (pmS { r := wr,w := ww,h := wh,c := wc,x := wx,y := wy,d := wd } s (Int.toNat a))))) (51:Int)) { r := wr,w := ww,h := wh,c := wc,x := wx,y := wy,d := wd }])∧
 posM (Kind.rows (3:Nat)) (1:Nat)∧Int.toNat a + (1:Nat)≤(1000000000:Nat))∧((True∧((True∧IntKind.wrap .i64 (c - a - (1:Int))=c - (c - IntKind.wrap .i64 (c - a - (1:Int))))∧((0:Nat)=(0:Nat)∧(0:Nat)=(0:Nat))∧
 ((1:Nat)=(1:Nat)∧(0:Nat)=(0:Nat))∧false=false∧((2:Nat)=(2:Nat)∧(0:Nat)=(0:Nat))∧(True∧
 pmN (pmN (Prod.fst (pmS { r := wr,w := ww,h := wh,c := wc,x := wx,y := wy,d := wd } s (Int.toNat a))))=Prod.fst (pmS { r := wr,w := ww,h := wh,c := wc,x := wx,y := wy,d := wd } s (Int.toNat (c - IntKind.wrap .i64 (c - a - (1:Int))))))∧
 True)∧((True∧wr=wr∧(True∧ww=ww)∧(True∧wh=wh)∧wc=wc∧(True∧wx=wx)∧(True∧wy=wy)∧(True∧wd=wd)∧True)∧(True∧nilB=nilB∧(True∧(0:Int)=(0:Int))∧(True∧(0:Int)=(0:Int))∧
 Value.slice none (0:Nat) (0:Nat)=Value.slice none (0:Nat) (0:Nat)∧True)∧(True∧wr=wr∧(True∧ww=ww)∧(True∧wh=wh)∧((3:Nat)=(3:Nat)∧Int.toNat a + (1:Nat)=Int.toNat (c - IntKind.wrap .i64 (c - a - (1:Int))))∧True)∧(True∧
 IntKind.i64=IntKind.i64∧
 Prod.snd (pmS { r := wr,w := ww,h := wh,c := wc,x := wx,y := wy,d := wd } s (Int.toNat a)) ++ List.take ((1:Nat) * (3:Nat)) [Int.tmod (pmN (Prod.fst (pmS { r := wr,w := ww,h := wh,c := wc,x := wx,y := wy,d := wd } s (Int.toNat a)))) (5:Int),bif Int.tmod (pmN (Prod.fst (pmS { r := wr,w := ww,h := wh,c := wc,x := wx,y := wy,d := wd } s (Int.toNat a)))) (5:Int)==(4:Int) then valK (4:Int) (0:Int) { r := wr,w := ww,h := wh,c := wc,x := wx,y := wy,d := wd } else Int.tmod (pmN (pmN (Prod.fst (pmS { r := wr,w := ww,h := wh,c := wc,x := wx,y := wy,d := wd } s (Int.toNat a))))) (51:Int),bif Int.tmod (pmN (Prod.fst (pmS { r := wr,w := ww,h := wh,c := wc,x := wx,y := wy,d := wd } s (Int.toNat a)))) (5:Int)==(4:Int) then (0:Int) else valK (Int.tmod (pmN (Prod.fst (pmS { r := wr,w := ww,h := wh,c := wc,x := wx,y := wy,d := wd } s (Int.toNat a)))) (5:Int)) (Int.tmod (pmN (pmN (Prod.fst (pmS { r := wr,w := ww,h := wh,c := wc,x := wx,y := wy,d := wd } s (Int.toNat a))))) (51:Int)) { r := wr,w := ww,h := wh,c := wc,x := wx,y := wy,d := wd }]=Prod.snd (pmS { r := wr,w := ww,h := wh,c := wc,x := wx,y := wy,d := wd } s (Int.toNat (c - IntKind.wrap .i64 (c - a - (1:Int))))))∧
 True)∧True)∧At (pmInv { r := wr,w := ww,h := wh,c := wc,x := wx,y := wy,d := wd } c s (c - IntKind.wrap .i64 (c - a - (1:Int)))∧Int.toNat (c - (c - IntKind.wrap .i64 (c - a - (1:Int)))) < Int.toNat (c - a)))∧True)∧True)∧
 True)∧True)∧True)∧
 (((At (askK (Int.tmod (pmN (Prod.fst (pmS { r := wr,w := ww,h := wh,c := wc,x := wx,y := wy,d := wd } s (Int.toNat a)))) (5:Int)) (Int.tmod (pmN (pmN (Prod.fst (pmS { r := wr,w := ww,h := wh,c := wc,x := wx,y := wy,d := wd } s (Int.toNat a))))) (51:Int)) { r := wr,w := ww,h := wh,c := wc,x := wx,y := wy,d := wd }=true)∧
 ((At ((List.length (Prod.snd (pmS { r := wr,w := ww,h := wh,c := wc,x := wx,y := wy,d := wd } s (Int.toNat a)))=Int.toNat a * (3:Nat)∧
 (1:Nat) * (3:Nat)≤List.length [Int.tmod (pmN (Prod.fst (pmS { r := wr,w := ww,h := wh,c := wc,x := wx,y := wy,d := wd } s (Int.toNat a)))) (5:Int),bif Int.tmod (pmN (Prod.fst (pmS { r := wr,w := ww,h := wh,c := wc,x := wx,y := wy,d := wd } s (Int.toNat a)))) (5:Int)==(4:Int) then valK (4:Int) (0:Int) { r := wr,w := ww,h := wh,c := wc,x := wx,y := wy,d := wd } else Int.tmod (pmN (pmN (Prod.fst (pmS { r := wr,w := ww,h := wh,c := wc,x := wx,y := wy,d := wd } s (Int.toNat a))))) (51:Int),bif Int.tmod (pmN (Prod.fst (pmS { r := wr,w := ww,h := wh,c := wc,x := wx,y := wy,d := wd } s (Int.toNat a)))) (5:Int)==(4:Int) then (0:Int) else valK (Int.tmod (pmN (Prod.fst (pmS { r := wr,w := ww,h := wh,c := wc,x := wx,y := wy,d := wd } s (Int.toNat a)))) (5:Int)) (Int.tmod (pmN (pmN (Prod.fst (pmS { r := wr,w := ww,h := wh,c := wc,x := wx,y := wy,d := wd } s (Int.toNat a))))) (51:Int)) { r := wr,w := ww,h := wh,c := wc,x := wx,y := wy,d := wd }])∧
 posM (Kind.rows (3:Nat)) (1:Nat)∧Int.toNat a + (1:Nat)≤(1000000000:Nat))∧((True∧((True∧IntKind.wrap .i64 (c - a - (1:Int))=c - (c - IntKind.wrap .i64 (c - a - (1:Int))))∧((0:Nat)=(0:Nat)∧(0:Nat)=(0:Nat))∧
 ((1:Nat)=(1:Nat)∧(0:Nat)=(0:Nat))∧false=false∧((2:Nat)=(2:Nat)∧(0:Nat)=(0:Nat))∧(True∧
 pmN (pmN (Prod.fst (pmS { r := wr,w := ww,h := wh,c := wc,x := wx,y := wy,d := wd } s (Int.toNat a))))=Prod.fst (pmS { r := wr,w := ww,h := wh,c := wc,x := wx,y := wy,d := wd } s (Int.toNat (c - IntKind.wrap .i64 (c - a - (1:Int))))))∧
 True)∧((True∧wr=wr∧(True∧ww=ww)∧(True∧wh=wh)∧wc=wc∧(True∧wx=wx)∧(True∧wy=wy)∧(True∧wd=wd)∧True)∧(True∧nilB=nilB∧(True∧(0:Int)=(0:Int))∧(True∧(0:Int)=(0:Int))∧
 Value.slice none (0:Nat) (0:Nat)=Value.slice none (0:Nat) (0:Nat)∧True)∧(True∧wr=wr∧(True∧ww=ww)∧(True∧wh=wh)∧((3:Nat)=(3:Nat)∧Int.toNat a + (1:Nat)=Int.toNat (c - IntKind.wrap .i64 (c - a - (1:Int))))∧True)∧(True∧
 IntKind.i64=IntKind.i64∧
 Prod.snd (pmS { r := wr,w := ww,h := wh,c := wc,x := wx,y := wy,d := wd } s (Int.toNat a)) ++ List.take ((1:Nat) * (3:Nat)) [Int.tmod (pmN (Prod.fst (pmS { r := wr,w := ww,h := wh,c := wc,x := wx,y := wy,d := wd } s (Int.toNat a)))) (5:Int),bif Int.tmod (pmN (Prod.fst (pmS { r := wr,w := ww,h := wh,c := wc,x := wx,y := wy,d := wd } s (Int.toNat a)))) (5:Int)==(4:Int) then valK (4:Int) (0:Int) { r := wr,w := ww,h := wh,c := wc,x := wx,y := wy,d := wd } else Int.tmod (pmN (pmN (Prod.fst (pmS { r := wr,w := ww,h := wh,c := wc,x := wx,y := wy,d := wd } s (Int.toNat a))))) (51:Int),bif Int.tmod (pmN (Prod.fst (pmS { r := wr,w := ww,h := wh,c := wc,x := wx,y := wy,d := wd } s (Int.toNat a)))) (5:Int)==(4:Int) then (0:Int) else valK (Int.tmod (pmN (Prod.fst (pmS { r := wr,w := ww,h := wh,c := wc,x := wx,y := wy,d := wd } s (Int.toNat a)))) (5:Int)) (Int.tmod (pmN (pmN (Prod.fst (pmS { r := wr,w := ww,h := wh,c := wc,x := wx,y := wy,d := wd } s (Int.toNat a))))) (51:Int)) { r := wr,w := ww,h := wh,c := wc,x := wx,y := wy,d := wd }]=Prod.snd (pmS { r := wr,w := ww,h := wh,c := wc,x := wx,y := wy,d := wd } s (Int.toNat (c - IntKind.wrap .i64 (c - a - (1:Int))))))∧
 True)∧True)∧At (pmInv { r := wr,w := ww,h := wh,c := wc,x := wx,y := wy,d := wd } c s (c - IntKind.wrap .i64 (c - a - (1:Int)))∧Int.toNat (c - (c - IntKind.wrap .i64 (c - a - (1:Int)))) < Int.toNat (c - a)))∧True)∧True)∧
 True)∧True)∧
 (At (askK (Int.tmod (pmN (Prod.fst (pmS { r := wr,w := ww,h := wh,c := wc,x := wx,y := wy,d := wd } s (Int.toNat a)))) (5:Int)) (Int.tmod (pmN (pmN (Prod.fst (pmS { r := wr,w := ww,h := wh,c := wc,x := wx,y := wy,d := wd } s (Int.toNat a))))) (51:Int)) { r := wr,w := ww,h := wh,c := wc,x := wx,y := wy,d := wd }=true)∧
 (((At ((List.length (Prod.snd (pmS { r := wr,w := ww,h := wh,c := wc,x := wx,y := wy,d := wd } s (Int.toNat a)))=Int.toNat a * (3:Nat)∧
 (1:Nat) * (3:Nat)≤List.length [Int.tmod (pmN (Prod.fst (pmS { r := wr,w := ww,h := wh,c := wc,x := wx,y := wy,d := wd } s (Int.toNat a)))) (5:Int),bif Int.tmod (pmN (Prod.fst (pmS { r := wr,w := ww,h := wh,c := wc,x := wx,y := wy,d := wd } s (Int.toNat a)))) (5:Int)==(4:Int) then valK (4:Int) (0:Int) { r := wr,w := ww,h := wh,c := wc,x := wx,y := wy,d := wd } else Int.tmod (pmN (pmN (Prod.fst (pmS { r := wr,w := ww,h := wh,c := wc,x := wx,y := wy,d := wd } s (Int.toNat a))))) (51:Int),bif Int.tmod (pmN (Prod.fst (pmS { r := wr,w := ww,h := wh,c := wc,x := wx,y := wy,d := wd } s (Int.toNat a)))) (5:Int)==(4:Int) then (0:Int) else valK (Int.tmod (pmN (Prod.fst (pmS { r := wr,w := ww,h := wh,c := wc,x := wx,y := wy,d := wd } s (Int.toNat a)))) (5:Int)) (Int.tmod (pmN (pmN (Prod.fst (pmS { r := wr,w := ww,h := wh,c := wc,x := wx,y := wy,d := wd } s (Int.toNat a))))) (51:Int)) { r := wr,w := ww,h := wh,c := wc,x := wx,y := wy,d := wd }])∧
 posM (Kind.rows (3:Nat)) (1:Nat)∧Int.toNat a + (1:Nat)≤(1000000000:Nat))∧((True∧((True∧IntKind.wrap .i64 (c - a - (1:Int))=c - (c - IntKind.wrap .i64 (c - a - (1:Int))))∧((0:Nat)=(0:Nat)∧(0:Nat)=(0:Nat))∧
 ((1:Nat)=(1:Nat)∧(0:Nat)=(0:Nat))∧false=false∧((2:Nat)=(2:Nat)∧(0:Nat)=(0:Nat))∧(True∧
 pmN (pmN (Prod.fst (pmS { r := wr,w := ww,h := wh,c := wc,x := wx,y := wy,d := wd } s (Int.toNat a))))=Prod.fst (pmS { r := wr,w := ww,h := wh,c := wc,x := wx,y := wy,d := wd } s (Int.toNat (c - IntKind.wrap .i64 (c - a - (1:Int))))))∧
 True)∧((True∧wr=wr∧(True∧ww=ww)∧(True∧wh=wh)∧wc=wc∧(True∧wx=wx)∧(True∧wy=wy)∧(True∧wd=wd)∧True)∧(True∧nilB=nilB∧(True∧(0:Int)=(0:Int))∧(True∧(0:Int)=(0:Int))∧
 Value.slice none (0:Nat) (0:Nat)=Value.slice none (0:Nat) (0:Nat)∧True)∧(True∧wr=wr∧(True∧ww=ww)∧(True∧wh=wh)∧((3:Nat)=(3:Nat)∧Int.toNat a + (1:Nat)=Int.toNat (c - IntKind.wrap .i64 (c - a - (1:Int))))∧True)∧(True∧
 IntKind.i64=IntKind.i64∧
 Prod.snd (pmS { r := wr,w := ww,h := wh,c := wc,x := wx,y := wy,d := wd } s (Int.toNat a)) ++ List.take ((1:Nat) * (3:Nat)) [Int.tmod (pmN (Prod.fst (pmS { r := wr,w := ww,h := wh,c := wc,x := wx,y := wy,d := wd } s (Int.toNat a)))) (5:Int),bif Int.tmod (pmN (Prod.fst (pmS { r := wr,w := ww,h := wh,c := wc,x := wx,y := wy,d := wd } s (Int.toNat a)))) (5:Int)==(4:Int) then valK (4:Int) (0:Int) { r := wr,w := ww,h := wh,c := wc,x := wx,y := wy,d := wd } else Int.tmod (pmN (pmN (Prod.fst (pmS { r := wr,w := ww,h := wh,c := wc,x := wx,y := wy,d := wd } s (Int.toNat a))))) (51:Int),bif Int.tmod (pmN (Prod.fst (pmS { r := wr,w := ww,h := wh,c := wc,x := wx,y := wy,d := wd } s (Int.toNat a)))) (5:Int)==(4:Int) then (0:Int) else valK (Int.tmod (pmN (Prod.fst (pmS { r := wr,w := ww,h := wh,c := wc,x := wx,y := wy,d := wd } s (Int.toNat a)))) (5:Int)) (Int.tmod (pmN (pmN (Prod.fst (pmS { r := wr,w := ww,h := wh,c := wc,x := wx,y := wy,d := wd } s (Int.toNat a))))) (51:Int)) { r := wr,w := ww,h := wh,c := wc,x := wx,y := wy,d := wd }]=Prod.snd (pmS { r := wr,w := ww,h := wh,c := wc,x := wx,y := wy,d := wd } s (Int.toNat (c - IntKind.wrap .i64 (c - a - (1:Int))))))∧
 True)∧True)∧At (pmInv { r := wr,w := ww,h := wh,c := wc,x := wx,y := wy,d := wd } c s (c - IntKind.wrap .i64 (c - a - (1:Int)))∧Int.toNat (c - (c - IntKind.wrap .i64 (c - a - (1:Int)))) < Int.toNat (c - a)))∧True)∧True)∧
 True)∧((At ((List.length (Prod.snd (pmS { r := wr,w := ww,h := wh,c := wc,x := wx,y := wy,d := wd } s (Int.toNat a)))=Int.toNat a * (3:Nat)∧
 (1:Nat) * (3:Nat)≤List.length [Int.tmod (pmN (Prod.fst (pmS { r := wr,w := ww,h := wh,c := wc,x := wx,y := wy,d := wd } s (Int.toNat a)))) (5:Int),bif Int.tmod (pmN (Prod.fst (pmS { r := wr,w := ww,h := wh,c := wc,x := wx,y := wy,d := wd } s (Int.toNat a)))) (5:Int)==(4:Int) then valK (4:Int) (0:Int) { r := wr,w := ww,h := wh,c := wc,x := wx,y := wy,d := wd } else Int.tmod (pmN (pmN (Prod.fst (pmS { r := wr,w := ww,h := wh,c := wc,x := wx,y := wy,d := wd } s (Int.toNat a))))) (51:Int),bif Int.tmod (pmN (Prod.fst (pmS { r := wr,w := ww,h := wh,c := wc,x := wx,y := wy,d := wd } s (Int.toNat a)))) (5:Int)==(4:Int) then (0:Int) else valK (Int.tmod (pmN (Prod.fst (pmS { r := wr,w := ww,h := wh,c := wc,x := wx,y := wy,d := wd } s (Int.toNat a)))) (5:Int)) (Int.tmod (pmN (pmN (Prod.fst (pmS { r := wr,w := ww,h := wh,c := wc,x := wx,y := wy,d := wd } s (Int.toNat a))))) (51:Int)) { r := wr,w := ww,h := wh,c := wc,x := wx,y := wy,d := wd }])∧
 posM (Kind.rows (3:Nat)) (1:Nat)∧Int.toNat a + (1:Nat)≤(1000000000:Nat))∧((True∧((True∧IntKind.wrap .i64 (c - a - (1:Int))=c - (c - IntKind.wrap .i64 (c - a - (1:Int))))∧((0:Nat)=(0:Nat)∧(0:Nat)=(0:Nat))∧
 ((1:Nat)=(1:Nat)∧(0:Nat)=(0:Nat))∧false=false∧((2:Nat)=(2:Nat)∧(0:Nat)=(0:Nat))∧(True∧
 pmN (pmN (Prod.fst (pmS { r := wr,w := ww,h := wh,c := wc,x := wx,y := wy,d := wd } s (Int.toNat a))))=Prod.fst (pmS { r := wr,w := ww,h := wh,c := wc,x := wx,y := wy,d := wd } s (Int.toNat (c - IntKind.wrap .i64 (c - a - (1:Int))))))∧
 True)∧((True∧wr=wr∧(True∧ww=ww)∧(True∧wh=wh)∧wc=wc∧(True∧wx=wx)∧(True∧wy=wy)∧(True∧wd=wd)∧True)∧(True∧nilB=nilB∧(True∧(0:Int)=(0:Int))∧(True∧(0:Int)=(0:Int))∧
 Value.slice none (0:Nat) (0:Nat)=Value.slice none (0:Nat) (0:Nat)∧True)∧(True∧wr=wr∧(True∧ww=ww)∧(True∧wh=wh)∧((3:Nat)=(3:Nat)∧Int.toNat a + (1:Nat)=Int.toNat (c - IntKind.wrap .i64 (c - a - (1:Int))))∧True)∧(True∧
 IntKind.i64=IntKind.i64∧
 Prod.snd (pmS { r := wr,w := ww,h := wh,c := wc,x := wx,y := wy,d := wd } s (Int.toNat a)) ++ List.take ((1:Nat) * (3:Nat)) [Int.tmod (pmN (Prod.fst (pmS { r := wr,w := ww,h := wh,c := wc,x := wx,y := wy,d := wd } s (Int.toNat a)))) (5:Int),bif Int.tmod (pmN (Prod.fst (pmS { r := wr,w := ww,h := wh,c := wc,x := wx,y := wy,d := wd } s (Int.toNat a)))) (5:Int)==(4:Int) then valK (4:Int) (0:Int) { r := wr,w := ww,h := wh,c := wc,x := wx,y := wy,d := wd } else Int.tmod (pmN (pmN (Prod.fst (pmS { r := wr,w := ww,h := wh,c := wc,x := wx,y := wy,d := wd } s (Int.toNat a))))) (51:Int),bif Int.tmod (pmN (Prod.fst (pmS { r := wr,w := ww,h := wh,c := wc,x := wx,y := wy,d := wd } s (Int.toNat a)))) (5:Int)==(4:Int) then (0:Int) else valK (Int.tmod (pmN (Prod.fst (pmS { r := wr,w := ww,h := wh,c := wc,x := wx,y := wy,d := wd } s (Int.toNat a)))) (5:Int)) (Int.tmod (pmN (pmN (Prod.fst (pmS { r := wr,w := ww,h := wh,c := wc,x := wx,y := wy,d := wd } s (Int.toNat a))))) (51:Int)) { r := wr,w := ww,h := wh,c := wc,x := wx,y := wy,d := wd }]=Prod.snd (pmS { r := wr,w := ww,h := wh,c := wc,x := wx,y := wy,d := wd } s (Int.toNat (c - IntKind.wrap .i64 (c - a - (1:Int))))))∧
 True)∧True)∧At (pmInv { r := wr,w := ww,h := wh,c := wc,x := wx,y := wy,d := wd } c s (c - IntKind.wrap .i64 (c - a - (1:Int)))∧Int.toNat (c - (c - IntKind.wrap .i64 (c - a - (1:Int)))) < Int.toNat (c - a)))∧True)∧True)∧
 True)∧True)∧True))∧(decide (Int.tmod (pmN (Prod.fst (pmS { r := wr,w := ww,h := wh,c := wc,x := wx,y := wy,d := wd } s (Int.toNat a)))) (5:Int) < (4:Int))=false→
 (((At (askK (Int.tmod (pmN (Prod.fst (pmS { r := wr,w := ww,h := wh,c := wc,x := wx,y := wy,d := wd } s (Int.toNat a)))) (5:Int)) (0:Int) { r := wr,w := ww,h := wh,c := wc,x := wx,y := wy,d := wd }=true)∧
 ((At ((List.length (Prod.snd (pmS { r := wr,w := ww,h := wh,c := wc,x := wx,y := wy,d := wd } s (Int.toNat a)))=Int.toNat a * (3:Nat)∧
 (1:Nat) * (3:Nat)≤List.length [Int.tmod (pmN (Prod.fst (pmS { r := wr,w := ww,h := wh,c := wc,x := wx,y := wy,d := wd } s (Int.toNat a)))) (5:Int),bif Int.tmod (pmN (Prod.fst (pmS { r := wr,w := ww,h := wh,c := wc,x := wx,y := wy,d := wd } s (Int.toNat a)))) (5:Int)==(4:Int) then valK (4:Int) (0:Int) { r := wr,w := ww,h := wh,c := wc,x := wx,y := wy,d := wd } else (0:Int),bif Int.tmod (pmN (Prod.fst (pmS { r := wr,w := ww,h := wh,c := wc,x := wx,y := wy,d := wd } s (Int.toNat a)))) (5:Int)==(4:Int) then (0:Int) else valK (Int.tmod (pmN (Prod.fst (pmS { r := wr,w := ww,h := wh,c := wc,x := wx,y := wy,d := wd } s (Int.toNat a)))) (5:Int)) (0:Int) { r := wr,w := ww,h := wh,c := wc,x := wx,y := wy,d := wd }])∧
 posM (Kind.rows (3:Nat)) (1:Nat)∧Int.toNat a + (1:Nat)≤(1000000000:Nat))∧((True∧((True∧IntKind.wrap .i64 (c - a - (1:Int))=c - (c - IntKind.wrap .i64 (c - a - (1:Int))))∧((0:Nat)=(0:Nat)∧(0:Nat)=(0:Nat))∧
 ((1:Nat)=(1:Nat)∧(0:Nat)=(0:Nat))∧false=false∧((2:Nat)=(2:Nat)∧(0:Nat)=(0:Nat))∧(True∧
 pmN (Prod.fst (pmS { r := wr,w := ww,h := wh,c := wc,x := wx,y := wy,d := wd } s (Int.toNat a)))=Prod.fst (pmS { r := wr,w := ww,h := wh,c := wc,x := wx,y := wy,d := wd } s (Int.toNat (c - IntKind.wrap .i64 (c - a - (1:Int))))))∧
 True)∧((True∧wr=wr∧(True∧ww=ww)∧(True∧wh=wh)∧wc=wc∧(True∧wx=wx)∧(True∧wy=wy)∧(True∧wd=wd)∧True)∧(True∧nilB=nilB∧(True∧(0:Int)=(0:Int))∧(True∧(0:Int)=(0:Int))∧
 Value.slice none (0:Nat) (0:Nat)=Value.slice none (0:Nat) (0:Nat)∧True)∧(True∧wr=wr∧(True∧ww=ww)∧(True∧wh=wh)∧((3:Nat)=(3:Nat)∧Int.toNat a + (1:Nat)=Int.toNat (c - IntKind.wrap .i64 (c - a - (1:Int))))∧True)∧(True∧
 IntKind.i64=IntKind.i64∧
 Prod.snd (pmS { r := wr,w := ww,h := wh,c := wc,x := wx,y := wy,d := wd } s (Int.toNat a)) ++ List.take ((1:Nat) * (3:Nat)) [Int.tmod (pmN (Prod.fst (pmS { r := wr,w := ww,h := wh,c := wc,x := wx,y := wy,d := wd } s (Int.toNat a)))) (5:Int),bif Int.tmod (pmN (Prod.fst (pmS { r := wr,w := ww,h := wh,c := wc,x := wx,y := wy,d := wd } s (Int.toNat a)))) (5:Int)==(4:Int) then valK (4:Int) (0:Int) { r := wr,w := ww,h := wh,c := wc,x := wx,y := wy,d := wd } else (0:Int),bif Int.tmod (pmN (Prod.fst (pmS { r := wr,w := ww,h := wh,c := wc,x := wx,y := wy,d := wd } s (Int.toNat a)))) (5:Int)==(4:Int) then (0:Int) else valK (Int.tmod (pmN (Prod.fst (pmS { r := wr,w := ww,h := wh,c := wc,x := wx,y := wy,d := wd } s (Int.toNat a)))) (5:Int)) (0:Int) { r := wr,w := ww,h := wh,c := wc,x := wx,y := wy,d := wd }]=Prod.snd (pmS { r := wr,w := ww,h := wh,c := wc,x := wx,y := wy,d := wd } s (Int.toNat (c - IntKind.wrap .i64 (c - a - (1:Int))))))∧
 True)∧True)∧At (pmInv { r := wr,w := ww,h := wh,c := wc,x := wx,y := wy,d := wd } c s (c - IntKind.wrap .i64 (c - a - (1:Int)))∧Int.toNat (c - (c - IntKind.wrap .i64 (c - a - (1:Int)))) < Int.toNat (c - a)))∧True)∧True)∧
 True)∧True)∧True)∧
 (((At (askK (Int.tmod (pmN (Prod.fst (pmS { r := wr,w := ww,h := wh,c := wc,x := wx,y := wy,d := wd } s (Int.toNat a)))) (5:Int)) (0:Int) { r := wr,w := ww,h := wh,c := wc,x := wx,y := wy,d := wd }=true)∧
 ((At ((List.length (Prod.snd (pmS { r := wr,w := ww,h := wh,c := wc,x := wx,y := wy,d := wd } s (Int.toNat a)))=Int.toNat a * (3:Nat)∧
 (1:Nat) * (3:Nat)≤List.length [Int.tmod (pmN (Prod.fst (pmS { r := wr,w := ww,h := wh,c := wc,x := wx,y := wy,d := wd } s (Int.toNat a)))) (5:Int),bif Int.tmod (pmN (Prod.fst (pmS { r := wr,w := ww,h := wh,c := wc,x := wx,y := wy,d := wd } s (Int.toNat a)))) (5:Int)==(4:Int) then valK (4:Int) (0:Int) { r := wr,w := ww,h := wh,c := wc,x := wx,y := wy,d := wd } else (0:Int),bif Int.tmod (pmN (Prod.fst (pmS { r := wr,w := ww,h := wh,c := wc,x := wx,y := wy,d := wd } s (Int.toNat a)))) (5:Int)==(4:Int) then (0:Int) else valK (Int.tmod (pmN (Prod.fst (pmS { r := wr,w := ww,h := wh,c := wc,x := wx,y := wy,d := wd } s (Int.toNat a)))) (5:Int)) (0:Int) { r := wr,w := ww,h := wh,c := wc,x := wx,y := wy,d := wd }])∧
 posM (Kind.rows (3:Nat)) (1:Nat)∧Int.toNat a + (1:Nat)≤(1000000000:Nat))∧((True∧((True∧IntKind.wrap .i64 (c - a - (1:Int))=c - (c - IntKind.wrap .i64 (c - a - (1:Int))))∧((0:Nat)=(0:Nat)∧(0:Nat)=(0:Nat))∧
 ((1:Nat)=(1:Nat)∧(0:Nat)=(0:Nat))∧false=false∧((2:Nat)=(2:Nat)∧(0:Nat)=(0:Nat))∧(True∧
 pmN (Prod.fst (pmS { r := wr,w := ww,h := wh,c := wc,x := wx,y := wy,d := wd } s (Int.toNat a)))=Prod.fst (pmS { r := wr,w := ww,h := wh,c := wc,x := wx,y := wy,d := wd } s (Int.toNat (c - IntKind.wrap .i64 (c - a - (1:Int))))))∧
 True)∧((True∧wr=wr∧(True∧ww=ww)∧(True∧wh=wh)∧wc=wc∧(True∧wx=wx)∧(True∧wy=wy)∧(True∧wd=wd)∧True)∧(True∧nilB=nilB∧(True∧(0:Int)=(0:Int))∧(True∧(0:Int)=(0:Int))∧
 Value.slice none (0:Nat) (0:Nat)=Value.slice none (0:Nat) (0:Nat)∧True)∧(True∧wr=wr∧(True∧ww=ww)∧(True∧wh=wh)∧((3:Nat)=(3:Nat)∧Int.toNat a + (1:Nat)=Int.toNat (c - IntKind.wrap .i64 (c - a - (1:Int))))∧True)∧(True∧
 IntKind.i64=IntKind.i64∧
 Prod.snd (pmS { r := wr,w := ww,h := wh,c := wc,x := wx,y := wy,d := wd } s (Int.toNat a)) ++ List.take ((1:Nat) * (3:Nat)) [Int.tmod (pmN (Prod.fst (pmS { r := wr,w := ww,h := wh,c := wc,x := wx,y := wy,d := wd } s (Int.toNat a)))) (5:Int),bif Int.tmod (pmN (Prod.fst (pmS { r := wr,w := ww,h := wh,c := wc,x := wx,y := wy,d := wd } s (Int.toNat a)))) (5:Int)==(4:Int) then valK (4:Int) (0:Int) { r := wr,w := ww,h := wh,c := wc,x := wx,y := wy,d := wd } else (0:Int),bif Int.tmod (pmN (Prod.fst (pmS { r := wr,w := ww,h := wh,c := wc,x := wx,y := wy,d := wd } s (Int.toNat a)))) (5:Int)==(4:Int) then (0:Int) else valK (Int.tmod (pmN (Prod.fst (pmS { r := wr,w := ww,h := wh,c := wc,x := wx,y := wy,d := wd } s (Int.toNat a)))) (5:Int)) (0:Int) { r := wr,w := ww,h := wh,c := wc,x := wx,y := wy,d := wd }]=Prod.snd (pmS { r := wr,w := ww,h := wh,c := wc,x := wx,y := wy,d := wd } s (Int.toNat (c - IntKind.wrap .i64 (c - a - (1:Int))))))∧
 True)∧True)∧At (pmInv { r := wr,w := ww,h := wh,c := wc,x := wx,y := wy,d := wd } c s (c - IntKind.wrap .i64 (c - a - (1:Int)))∧Int.toNat (c - (c - IntKind.wrap .i64 (c - a - (1:Int)))) < Int.toNat (c - a)))∧True)∧True)∧
 True)∧True)∧(At (askK (Int.tmod (pmN (Prod.fst (pmS { r := wr,w := ww,h := wh,c := wc,x := wx,y := wy,d := wd } s (Int.toNat a)))) (5:Int)) (0:Int) { r := wr,w := ww,h := wh,c := wc,x := wx,y := wy,d := wd }=true)∧
 (((At ((List.length (Prod.snd (pmS { r := wr,w := ww,h := wh,c := wc,x := wx,y := wy,d := wd } s (Int.toNat a)))=Int.toNat a * (3:Nat)∧
 (1:Nat) * (3:Nat)≤List.length [Int.tmod (pmN (Prod.fst (pmS { r := wr,w := ww,h := wh,c := wc,x := wx,y := wy,d := wd } s (Int.toNat a)))) (5:Int),bif Int.tmod (pmN (Prod.fst (pmS { r := wr,w := ww,h := wh,c := wc,x := wx,y := wy,d := wd } s (Int.toNat a)))) (5:Int)==(4:Int) then valK (4:Int) (0:Int) { r := wr,w := ww,h := wh,c := wc,x := wx,y := wy,d := wd } else (0:Int),bif Int.tmod (pmN (Prod.fst (pmS { r := wr,w := ww,h := wh,c := wc,x := wx,y := wy,d := wd } s (Int.toNat a)))) (5:Int)==(4:Int) then (0:Int) else valK (Int.tmod (pmN (Prod.fst (pmS { r := wr,w := ww,h := wh,c := wc,x := wx,y := wy,d := wd } s (Int.toNat a)))) (5:Int)) (0:Int) { r := wr,w := ww,h := wh,c := wc,x := wx,y := wy,d := wd }])∧
 posM (Kind.rows (3:Nat)) (1:Nat)∧Int.toNat a + (1:Nat)≤(1000000000:Nat))∧((True∧((True∧IntKind.wrap .i64 (c - a - (1:Int))=c - (c - IntKind.wrap .i64 (c - a - (1:Int))))∧((0:Nat)=(0:Nat)∧(0:Nat)=(0:Nat))∧
 ((1:Nat)=(1:Nat)∧(0:Nat)=(0:Nat))∧false=false∧((2:Nat)=(2:Nat)∧(0:Nat)=(0:Nat))∧(True∧
 pmN (Prod.fst (pmS { r := wr,w := ww,h := wh,c := wc,x := wx,y := wy,d := wd } s (Int.toNat a)))=Prod.fst (pmS { r := wr,w := ww,h := wh,c := wc,x := wx,y := wy,d := wd } s (Int.toNat (c - IntKind.wrap .i64 (c - a - (1:Int))))))∧
 True)∧((True∧wr=wr∧(True∧ww=ww)∧(True∧wh=wh)∧wc=wc∧(True∧wx=wx)∧(True∧wy=wy)∧(True∧wd=wd)∧True)∧(True∧nilB=nilB∧(True∧(0:Int)=(0:Int))∧(True∧(0:Int)=(0:Int))∧
 Value.slice none (0:Nat) (0:Nat)=Value.slice none (0:Nat) (0:Nat)∧True)∧(True∧wr=wr∧(True∧ww=ww)∧(True∧wh=wh)∧((3:Nat)=(3:Nat)∧Int.toNat a + (1:Nat)=Int.toNat (c - IntKind.wrap .i64 (c - a - (1:Int))))∧True)∧(True∧
 IntKind.i64=IntKind.i64∧
 Prod.snd (pmS { r := wr,w := ww,h := wh,c := wc,x := wx,y := wy,d := wd } s (Int.toNat a)) ++ List.take ((1:Nat) * (3:Nat)) [Int.tmod (pmN (Prod.fst (pmS { r := wr,w := ww,h := wh,c := wc,x := wx,y := wy,d := wd } s (Int.toNat a)))) (5:Int),bif Int.tmod (pmN (Prod.fst (pmS { r := wr,w := ww,h := wh,c := wc,x := wx,y := wy,d := wd } s (Int.toNat a)))) (5:Int)==(4:Int) then valK (4:Int) (0:Int) { r := wr,w := ww,h := wh,c := wc,x := wx,y := wy,d := wd } else (0:Int),bif Int.tmod (pmN (Prod.fst (pmS { r := wr,w := ww,h := wh,c := wc,x := wx,y := wy,d := wd } s (Int.toNat a)))) (5:Int)==(4:Int) then (0:Int) else valK (Int.tmod (pmN (Prod.fst (pmS { r := wr,w := ww,h := wh,c := wc,x := wx,y := wy,d := wd } s (Int.toNat a)))) (5:Int)) (0:Int) { r := wr,w := ww,h := wh,c := wc,x := wx,y := wy,d := wd }]=Prod.snd (pmS { r := wr,w := ww,h := wh,c := wc,x := wx,y := wy,d := wd } s (Int.toNat (c - IntKind.wrap .i64 (c - a - (1:Int))))))∧
 True)∧True)∧At (pmInv { r := wr,w := ww,h := wh,c := wc,x := wx,y := wy,d := wd } c s (c - IntKind.wrap .i64 (c - a - (1:Int)))∧Int.toNat (c - (c - IntKind.wrap .i64 (c - a - (1:Int)))) < Int.toNat (c - a)))∧True)∧True)∧
 True)∧((At ((List.length (Prod.snd (pmS { r := wr,w := ww,h := wh,c := wc,x := wx,y := wy,d := wd } s (Int.toNat a)))=Int.toNat a * (3:Nat)∧
 (1:Nat) * (3:Nat)≤List.length [Int.tmod (pmN (Prod.fst (pmS { r := wr,w := ww,h := wh,c := wc,x := wx,y := wy,d := wd } s (Int.toNat a)))) (5:Int),bif Int.tmod (pmN (Prod.fst (pmS { r := wr,w := ww,h := wh,c := wc,x := wx,y := wy,d := wd } s (Int.toNat a)))) (5:Int)==(4:Int) then valK (4:Int) (0:Int) { r := wr,w := ww,h := wh,c := wc,x := wx,y := wy,d := wd } else (0:Int),bif Int.tmod (pmN (Prod.fst (pmS { r := wr,w := ww,h := wh,c := wc,x := wx,y := wy,d := wd } s (Int.toNat a)))) (5:Int)==(4:Int) then (0:Int) else valK (Int.tmod (pmN (Prod.fst (pmS { r := wr,w := ww,h := wh,c := wc,x := wx,y := wy,d := wd } s (Int.toNat a)))) (5:Int)) (0:Int) { r := wr,w := ww,h := wh,c := wc,x := wx,y := wy,d := wd }])∧
 posM (Kind.rows (3:Nat)) (1:Nat)∧Int.toNat a + (1:Nat)≤(1000000000:Nat))∧((True∧((True∧IntKind.wrap .i64 (c - a - (1:Int))=c - (c - IntKind.wrap .i64 (c - a - (1:Int))))∧((0:Nat)=(0:Nat)∧(0:Nat)=(0:Nat))∧
 ((1:Nat)=(1:Nat)∧(0:Nat)=(0:Nat))∧false=false∧((2:Nat)=(2:Nat)∧(0:Nat)=(0:Nat))∧(True∧
 pmN (Prod.fst (pmS { r := wr,w := ww,h := wh,c := wc,x := wx,y := wy,d := wd } s (Int.toNat a)))=Prod.fst (pmS { r := wr,w := ww,h := wh,c := wc,x := wx,y := wy,d := wd } s (Int.toNat (c - IntKind.wrap .i64 (c - a - (1:Int))))))∧
 True)∧((True∧wr=wr∧(True∧ww=ww)∧(True∧wh=wh)∧wc=wc∧(True∧wx=wx)∧(True∧wy=wy)∧(True∧wd=wd)∧True)∧(True∧nilB=nilB∧(True∧(0:Int)=(0:Int))∧(True∧(0:Int)=(0:Int))∧
 Value.slice none (0:Nat) (0:Nat)=Value.slice none (0:Nat) (0:Nat)∧True)∧(True∧wr=wr∧(True∧ww=ww)∧(True∧wh=wh)∧((3:Nat)=(3:Nat)∧Int.toNat a + (1:Nat)=Int.toNat (c - IntKind.wrap .i64 (c - a - (1:Int))))∧True)∧(True∧
 IntKind.i64=IntKind.i64∧
 Prod.snd (pmS { r := wr,w := ww,h := wh,c := wc,x := wx,y := wy,d := wd } s (Int.toNat a)) ++ List.take ((1:Nat) * (3:Nat)) [Int.tmod (pmN (Prod.fst (pmS { r := wr,w := ww,h := wh,c := wc,x := wx,y := wy,d := wd } s (Int.toNat a)))) (5:Int),bif Int.tmod (pmN (Prod.fst (pmS { r := wr,w := ww,h := wh,c := wc,x := wx,y := wy,d := wd } s (Int.toNat a)))) (5:Int)==(4:Int) then valK (4:Int) (0:Int) { r := wr,w := ww,h := wh,c := wc,x := wx,y := wy,d := wd } else (0:Int),bif Int.tmod (pmN (Prod.fst (pmS { r := wr,w := ww,h := wh,c := wc,x := wx,y := wy,d := wd } s (Int.toNat a)))) (5:Int)==(4:Int) then (0:Int) else valK (Int.tmod (pmN (Prod.fst (pmS { r := wr,w := ww,h := wh,c := wc,x := wx,y := wy,d := wd } s (Int.toNat a)))) (5:Int)) (0:Int) { r := wr,w := ww,h := wh,c := wc,x := wx,y := wy,d := wd }]=Prod.snd (pmS { r := wr,w := ww,h := wh,c := wc,x := wx,y := wy,d := wd } s (Int.toNat (c - IntKind.wrap .i64 (c - a - (1:Int))))))∧
 True)∧True)∧At (pmInv { r := wr,w := ww,h := wh,c := wc,x := wx,y := wy,d := wd } c s (c - IntKind.wrap .i64 (c - a - (1:Int)))∧Int.toNat (c - (c - IntKind.wrap .i64 (c - a - (1:Int)))) < Int.toNat (c - a)))∧True)∧True)∧
 True)∧True)∧True))∧(decide (c - a > (0:Int))=false→
 K (V.tup [V.agg [V.str wr,V.int .i64 ww,V.int .i64 wh,V.row (3:Nat) (Int.toNat a)],V.lit true]) [⟨Cells.vals [V.str wr,V.int .i64 ww,V.int .i64 wh,V.str wc,V.int .i64 wx,V.int .i64 wy,V.int .i64 wd],53,Kind.box⟩,⟨Cells.vals [V.str wr,V.int .i64 ww,V.int .i64 wh,V.row (3:Nat) (Int.toNat a)],31,Kind.box⟩,⟨Cells.vals [V.str wr,V.int .i64 ww,V.int .i64 wh,V.row (3:Nat) (Int.toNat a)],31,Kind.box⟩,⟨Cells.ints .i64 (Prod.snd (pmS { r := wr,w := ww,h := wh,c := wc,x := wx,y := wy,d := wd } s (Int.toNat a))),83,Kind.rows (3:Nat)⟩]))))
def VC_impl_MakePuzzle (wr:List UInt8)(ww:Int)(wh:Int)(wc:List UInt8)(wx:Int)(wy:Int)(wd:Int)(c:Int)(s:Int)(K:V → List Blk → Prop):Prop:=
 At True∧((!hidB { r := wr,w := ww,h := wh,c := wc,x := wx,y := wy,d := wd })=true→
 K (V.tup [V.agg [V.str ([]:List UInt8),V.int .i64 (0:Int),V.int .i64 (0:Int),V.raw (Value.slice none (0:Nat) (0:Nat))],V.lit false]) [⟨Cells.vals [V.str wr,V.int .i64 ww,V.int .i64 wh,V.str wc,V.int .i64 wx,V.int .i64 wy,V.int .i64 wd],53,Kind.box⟩,⟨Cells.vals [V.str ([]:List UInt8),V.int .i64 (0:Int),V.int .i64 (0:Int),V.raw (Value.slice none (0:Nat) (0:Nat))],31,Kind.box⟩])∧
 ((!hidB { r := wr,w := ww,h := wh,c := wc,x := wx,y := wy,d := wd })=false→At True∧((!inB c (0:Int) (6:Int))=true→
 K (V.tup [V.agg [V.str ([]:List UInt8),V.int .i64 (0:Int),V.int .i64 (0:Int),V.raw (Value.slice none (0:Nat) (0:Nat))],V.lit false]) [⟨Cells.vals [V.str wr,V.int .i64 ww,V.int .i64 wh,V.str wc,V.int .i64 wx,V.int .i64 wy,V.int .i64 wd],53,Kind.box⟩,⟨Cells.vals [V.str ([]:List UInt8),V.int .i64 (0:Int),V.int .i64 (0:Int),V.raw (Value.slice none (0:Nat) (0:Nat))],31,Kind.box⟩])∧
 ((!inB c (0:Int) (6:Int))=false→At True∧((!inB s (0:Int) (9999:Int))=true→
 K (V.tup [V.agg [V.str ([]:List UInt8),V.int .i64 (0:Int),V.int .i64 (0:Int),V.raw (Value.slice none (0:Nat) (0:Nat))],V.lit false]) [⟨Cells.vals [V.str wr,V.int .i64 ww,V.int .i64 wh,V.str wc,V.int .i64 wx,V.int .i64 wy,V.int .i64 wd],53,Kind.box⟩,⟨Cells.vals [V.str ([]:List UInt8),V.int .i64 (0:Int),V.int .i64 (0:Int),V.raw (Value.slice none (0:Nat) (0:Nat))],31,Kind.box⟩])∧
 ((!inB s (0:Int) (9999:Int))=false→(True∧(((0:Nat)=(0:Nat)∧(0:Nat)=(0:Nat))∧((1:Nat)=(1:Nat)∧(0:Nat)=(0:Nat))∧false=false∧((2:Nat)=(2:Nat)∧(0:Nat)=(0:Nat))∧((91:Nat)=(91:Nat)∧[(3:Nat),(4:Nat)]=[(3:Nat),(4:Nat)])∧(True∧
 c=c)∧(True∧(0:Int)=(0:Int))∧True)∧((True∧wr=wr∧(True∧ww=ww)∧(True∧wh=wh)∧wc=wc∧(True∧wx=wx)∧(True∧wy=wy)∧(True∧wd=wd)∧True)∧(True∧nilB=nilB∧(True∧(0:Int)=(0:Int))∧(True∧(0:Int)=(0:Int))∧
 Value.slice none (0:Nat) (0:Nat)=Value.slice none (0:Nat) (0:Nat)∧True)∧(True∧wr=wr∧(True∧ww=ww)∧(True∧wh=wh)∧((6:Nat)=(6:Nat)∧(0:Nat)=(0:Nat))∧True)∧(True∧((90:Nat)=(90:Nat)∧[(5:Nat)]=[(5:Nat)])∧True)∧(True∧wr=wr∧(True∧
 ww=ww)∧(True∧wh=wh)∧wc=wc∧(True∧wx=wx)∧(True∧wy=wy)∧(True∧wd=wd)∧True)∧(True∧(True∧s=Prod.fst (pmS { r := wr,w := ww,h := wh,c := wc,x := wx,y := wy,d := wd } s (Int.toNat (0:Int))))∧True)∧(True∧IntKind.i64=IntKind.i64∧
 nilI=Prod.snd (pmS { r := wr,w := ww,h := wh,c := wc,x := wx,y := wy,d := wd } s (Int.toNat (0:Int))))∧True)∧True)∧At (pmInv { r := wr,w := ww,h := wh,c := wc,x := wx,y := wy,d := wd } c s (0:Int))∧
 ∀(a:Int),pmInv { r := wr,w := ww,h := wh,c := wc,x := wx,y := wy,d := wd } c s a→(decide (a < c)=true→((At (goodB { r := wr,w := ww,h := wh,c := wc,x := wx,y := wy,d := wd }=true∧(1:Nat)≤List.length wc∧
 List.length wc≤(100:Nat)∧(0:Int)≤Prod.fst (pmS { r := wr,w := ww,h := wh,c := wc,x := wx,y := wy,d := wd } s (Int.toNat a))∧
 Prod.fst (pmS { r := wr,w := ww,h := wh,c := wc,x := wx,y := wy,d := wd } s (Int.toNat a))≤(10006:Int))∧
 ((At ((List.length (Prod.snd (pmS { r := wr,w := ww,h := wh,c := wc,x := wx,y := wy,d := wd } s (Int.toNat a)))=Int.toNat a * (3:Nat)∧
 (1:Nat) * (3:Nat)≤List.length [pmK (Prod.fst (pmS { r := wr,w := ww,h := wh,c := wc,x := wx,y := wy,d := wd } s (Int.toNat a))),pmX { r := wr,w := ww,h := wh,c := wc,x := wx,y := wy,d := wd } (Prod.fst (pmS { r := wr,w := ww,h := wh,c := wc,x := wx,y := wy,d := wd } s (Int.toNat a))),pmY { r := wr,w := ww,h := wh,c := wc,x := wx,y := wy,d := wd } (Prod.fst (pmS { r := wr,w := ww,h := wh,c := wc,x := wx,y := wy,d := wd } s (Int.toNat a)))])∧
 posM (Kind.rows (3:Nat)) (1:Nat)∧Int.toNat a + (1:Nat)≤(1000000000:Nat))∧((True∧(((0:Nat)=(0:Nat)∧(0:Nat)=(0:Nat))∧((1:Nat)=(1:Nat)∧(0:Nat)=(0:Nat))∧false=false∧((2:Nat)=(2:Nat)∧(0:Nat)=(0:Nat))∧((91:Nat)=(91:Nat)∧
 [(3:Nat),(4:Nat)]=[(3:Nat),(4:Nat)])∧(True∧c=c)∧(True∧IntKind.wrap .i64 (a + (1:Int))=IntKind.wrap .i64 (a + (1:Int)))∧True)∧((True∧wr=wr∧(True∧ww=ww)∧(True∧wh=wh)∧wc=wc∧(True∧wx=wx)∧(True∧wy=wy)∧(True∧wd=wd)∧True)∧
 (True∧nilB=nilB∧(True∧(0:Int)=(0:Int))∧(True∧(0:Int)=(0:Int))∧Value.slice none (0:Nat) (0:Nat)=Value.slice none (0:Nat) (0:Nat)∧True)∧(True∧wr=wr∧(True∧ww=ww)∧(True∧wh=wh)∧((6:Nat)=(6:Nat)∧
 Int.toNat a + (1:Nat)=Int.toNat (IntKind.wrap .i64 (a + (1:Int))))∧True)∧(True∧((90:Nat)=(90:Nat)∧[(5:Nat)]=[(5:Nat)])∧True)∧(True∧wr=wr∧(True∧ww=ww)∧(True∧wh=wh)∧wc=wc∧(True∧wx=wx)∧(True∧wy=wy)∧(True∧wd=wd)∧True)∧(True∧
 (True∧
 pmZ (Prod.fst (pmS { r := wr,w := ww,h := wh,c := wc,x := wx,y := wy,d := wd } s (Int.toNat a)))=Prod.fst (pmS { r := wr,w := ww,h := wh,c := wc,x := wx,y := wy,d := wd } s (Int.toNat (IntKind.wrap .i64 (a + (1:Int))))))∧
 True)∧(True∧IntKind.i64=IntKind.i64∧
 Prod.snd (pmS { r := wr,w := ww,h := wh,c := wc,x := wx,y := wy,d := wd } s (Int.toNat a)) ++ List.take ((1:Nat) * (3:Nat)) [pmK (Prod.fst (pmS { r := wr,w := ww,h := wh,c := wc,x := wx,y := wy,d := wd } s (Int.toNat a))),pmX { r := wr,w := ww,h := wh,c := wc,x := wx,y := wy,d := wd } (Prod.fst (pmS { r := wr,w := ww,h := wh,c := wc,x := wx,y := wy,d := wd } s (Int.toNat a))),pmY { r := wr,w := ww,h := wh,c := wc,x := wx,y := wy,d := wd } (Prod.fst (pmS { r := wr,w := ww,h := wh,c := wc,x := wx,y := wy,d := wd } s (Int.toNat a)))]=Prod.snd (pmS { r := wr,w := ww,h := wh,c := wc,x := wx,y := wy,d := wd } s (Int.toNat (IntKind.wrap .i64 (a + (1:Int))))))∧
 True)∧True)∧At (pmInv { r := wr,w := ww,h := wh,c := wc,x := wx,y := wy,d := wd } c s (IntKind.wrap .i64 (a + (1:Int)))∧Int.toNat (c - IntKind.wrap .i64 (a + (1:Int))) < Int.toNat (c - a)))∧True)∧True)∧True)∧True)∧
 (At (goodB { r := wr,w := ww,h := wh,c := wc,x := wx,y := wy,d := wd }=true∧(1:Nat)≤List.length wc∧List.length wc≤(100:Nat)∧
 (0:Int)≤Prod.fst (pmS { r := wr,w := ww,h := wh,c := wc,x := wx,y := wy,d := wd } s (Int.toNat a))∧Prod.fst (pmS { r := wr,w := ww,h := wh,c := wc,x := wx,y := wy,d := wd } s (Int.toNat a))≤(10006:Int))∧
 (((At ((List.length (Prod.snd (pmS { r := wr,w := ww,h := wh,c := wc,x := wx,y := wy,d := wd } s (Int.toNat a)))=Int.toNat a * (3:Nat)∧
 (1:Nat) * (3:Nat)≤List.length [pmK (Prod.fst (pmS { r := wr,w := ww,h := wh,c := wc,x := wx,y := wy,d := wd } s (Int.toNat a))),pmX { r := wr,w := ww,h := wh,c := wc,x := wx,y := wy,d := wd } (Prod.fst (pmS { r := wr,w := ww,h := wh,c := wc,x := wx,y := wy,d := wd } s (Int.toNat a))),pmY { r := wr,w := ww,h := wh,c := wc,x := wx,y := wy,d := wd } (Prod.fst (pmS { r := wr,w := ww,h := wh,c := wc,x := wx,y := wy,d := wd } s (Int.toNat a)))])∧
 posM (Kind.rows (3:Nat)) (1:Nat)∧Int.toNat a + (1:Nat)≤(1000000000:Nat))∧((True∧(((0:Nat)=(0:Nat)∧(0:Nat)=(0:Nat))∧((1:Nat)=(1:Nat)∧(0:Nat)=(0:Nat))∧false=false∧((2:Nat)=(2:Nat)∧(0:Nat)=(0:Nat))∧((91:Nat)=(91:Nat)∧
 [(3:Nat),(4:Nat)]=[(3:Nat),(4:Nat)])∧(True∧c=c)∧(True∧IntKind.wrap .i64 (a + (1:Int))=IntKind.wrap .i64 (a + (1:Int)))∧True)∧((True∧wr=wr∧(True∧ww=ww)∧(True∧wh=wh)∧wc=wc∧(True∧wx=wx)∧(True∧wy=wy)∧(True∧wd=wd)∧True)∧
 (True∧nilB=nilB∧(True∧(0:Int)=(0:Int))∧(True∧(0:Int)=(0:Int))∧Value.slice none (0:Nat) (0:Nat)=Value.slice none (0:Nat) (0:Nat)∧True)∧(True∧wr=wr∧(True∧ww=ww)∧(True∧wh=wh)∧((6:Nat)=(6:Nat)∧
 Int.toNat a + (1:Nat)=Int.toNat (IntKind.wrap .i64 (a + (1:Int))))∧True)∧(True∧((90:Nat)=(90:Nat)∧[(5:Nat)]=[(5:Nat)])∧True)∧(True∧wr=wr∧(True∧ww=ww)∧(True∧wh=wh)∧wc=wc∧(True∧wx=wx)∧(True∧wy=wy)∧(True∧wd=wd)∧True)∧(True∧
 (True∧
 pmZ (Prod.fst (pmS { r := wr,w := ww,h := wh,c := wc,x := wx,y := wy,d := wd } s (Int.toNat a)))=Prod.fst (pmS { r := wr,w := ww,h := wh,c := wc,x := wx,y := wy,d := wd } s (Int.toNat (IntKind.wrap .i64 (a + (1:Int))))))∧
 True)∧(True∧IntKind.i64=IntKind.i64∧
 Prod.snd (pmS { r := wr,w := ww,h := wh,c := wc,x := wx,y := wy,d := wd } s (Int.toNat a)) ++ List.take ((1:Nat) * (3:Nat)) [pmK (Prod.fst (pmS { r := wr,w := ww,h := wh,c := wc,x := wx,y := wy,d := wd } s (Int.toNat a))),pmX { r := wr,w := ww,h := wh,c := wc,x := wx,y := wy,d := wd } (Prod.fst (pmS { r := wr,w := ww,h := wh,c := wc,x := wx,y := wy,d := wd } s (Int.toNat a))),pmY { r := wr,w := ww,h := wh,c := wc,x := wx,y := wy,d := wd } (Prod.fst (pmS { r := wr,w := ww,h := wh,c := wc,x := wx,y := wy,d := wd } s (Int.toNat a)))]=Prod.snd (pmS { r := wr,w := ww,h := wh,c := wc,x := wx,y := wy,d := wd } s (Int.toNat (IntKind.wrap .i64 (a + (1:Int))))))∧
 True)∧True)∧At (pmInv { r := wr,w := ww,h := wh,c := wc,x := wx,y := wy,d := wd } c s (IntKind.wrap .i64 (a + (1:Int)))∧Int.toNat (c - IntKind.wrap .i64 (a + (1:Int))) < Int.toNat (c - a)))∧True)∧True)∧True)∧
 ((At ((List.length (Prod.snd (pmS { r := wr,w := ww,h := wh,c := wc,x := wx,y := wy,d := wd } s (Int.toNat a)))=Int.toNat a * (3:Nat)∧
 (1:Nat) * (3:Nat)≤List.length [pmK (Prod.fst (pmS { r := wr,w := ww,h := wh,c := wc,x := wx,y := wy,d := wd } s (Int.toNat a))),pmX { r := wr,w := ww,h := wh,c := wc,x := wx,y := wy,d := wd } (Prod.fst (pmS { r := wr,w := ww,h := wh,c := wc,x := wx,y := wy,d := wd } s (Int.toNat a))),pmY { r := wr,w := ww,h := wh,c := wc,x := wx,y := wy,d := wd } (Prod.fst (pmS { r := wr,w := ww,h := wh,c := wc,x := wx,y := wy,d := wd } s (Int.toNat a)))])∧
 posM (Kind.rows (3:Nat)) (1:Nat)∧Int.toNat a + (1:Nat)≤(1000000000:Nat))∧((True∧(((0:Nat)=(0:Nat)∧(0:Nat)=(0:Nat))∧((1:Nat)=(1:Nat)∧(0:Nat)=(0:Nat))∧false=false∧((2:Nat)=(2:Nat)∧(0:Nat)=(0:Nat))∧((91:Nat)=(91:Nat)∧
 [(3:Nat),(4:Nat)]=[(3:Nat),(4:Nat)])∧(True∧c=c)∧(True∧IntKind.wrap .i64 (a + (1:Int))=IntKind.wrap .i64 (a + (1:Int)))∧True)∧((True∧wr=wr∧(True∧ww=ww)∧(True∧wh=wh)∧wc=wc∧(True∧wx=wx)∧(True∧wy=wy)∧(True∧wd=wd)∧True)∧
 (True∧nilB=nilB∧(True∧(0:Int)=(0:Int))∧(True∧(0:Int)=(0:Int))∧Value.slice none (0:Nat) (0:Nat)=Value.slice none (0:Nat) (0:Nat)∧True)∧(True∧wr=wr∧(True∧ww=ww)∧(True∧wh=wh)∧((6:Nat)=(6:Nat)∧
 Int.toNat a + (1:Nat)=Int.toNat (IntKind.wrap .i64 (a + (1:Int))))∧True)∧(True∧((90:Nat)=(90:Nat)∧[(5:Nat)]=[(5:Nat)])∧True)∧(True∧wr=wr∧(True∧ww=ww)∧(True∧wh=wh)∧wc=wc∧(True∧wx=wx)∧(True∧wy=wy)∧(True∧wd=wd)∧True)∧(True∧
 (True∧
 pmZ (Prod.fst (pmS { r := wr,w := ww,h := wh,c := wc,x := wx,y := wy,d := wd } s (Int.toNat a)))=Prod.fst (pmS { r := wr,w := ww,h := wh,c := wc,x := wx,y := wy,d := wd } s (Int.toNat (IntKind.wrap .i64 (a + (1:Int))))))∧
 True)∧(True∧IntKind.i64=IntKind.i64∧
 Prod.snd (pmS { r := wr,w := ww,h := wh,c := wc,x := wx,y := wy,d := wd } s (Int.toNat a)) ++ List.take ((1:Nat) * (3:Nat)) [pmK (Prod.fst (pmS { r := wr,w := ww,h := wh,c := wc,x := wx,y := wy,d := wd } s (Int.toNat a))),pmX { r := wr,w := ww,h := wh,c := wc,x := wx,y := wy,d := wd } (Prod.fst (pmS { r := wr,w := ww,h := wh,c := wc,x := wx,y := wy,d := wd } s (Int.toNat a))),pmY { r := wr,w := ww,h := wh,c := wc,x := wx,y := wy,d := wd } (Prod.fst (pmS { r := wr,w := ww,h := wh,c := wc,x := wx,y := wy,d := wd } s (Int.toNat a)))]=Prod.snd (pmS { r := wr,w := ww,h := wh,c := wc,x := wx,y := wy,d := wd } s (Int.toNat (IntKind.wrap .i64 (a + (1:Int))))))∧
 True)∧True)∧At (pmInv { r := wr,w := ww,h := wh,c := wc,x := wx,y := wy,d := wd } c s (IntKind.wrap .i64 (a + (1:Int)))∧Int.toNat (c - IntKind.wrap .i64 (a + (1:Int))) < Int.toNat (c - a)))∧True)∧True)∧True)∧True)∧
 (decide (a < c)=false→
 K (V.tup [V.agg [V.str wr,V.int .i64 ww,V.int .i64 wh,V.row (6:Nat) (Int.toNat a)],V.lit true]) [⟨Cells.vals [V.str wr,V.int .i64 ww,V.int .i64 wh,V.str wc,V.int .i64 wx,V.int .i64 wy,V.int .i64 wd],53,Kind.box⟩,⟨Cells.vals [V.str wr,V.int .i64 ww,V.int .i64 wh,V.row (6:Nat) (Int.toNat a)],31,Kind.box⟩,⟨Cells.vals [V.str wr,V.int .i64 ww,V.int .i64 wh,V.row (6:Nat) (Int.toNat a)],31,Kind.box⟩,⟨Cells.vals [V.fn (90:Nat) [(5:Nat)]],(81:Nat),Kind.box⟩,⟨Cells.vals [V.str wr,V.int .i64 ww,V.int .i64 wh,V.str wc,V.int .i64 wx,V.int .i64 wy,V.int .i64 wd],53,Kind.box⟩,⟨Cells.vals [V.int .i64 (Prod.fst (pmS { r := wr,w := ww,h := wh,c := wc,x := wx,y := wy,d := wd } s (Int.toNat a)))],3,Kind.box⟩,⟨Cells.ints .i64 (Prod.snd (pmS { r := wr,w := ww,h := wh,c := wc,x := wx,y := wy,d := wd } s (Int.toNat a))),83,Kind.rows (3:Nat)⟩]))))
end Go.Vi

/- Puzzles that are made: the conditions hold. -/
namespace Go.Vi
theorem pmN_bd (z : Int) : 0 <= pmN z /\ pmN z <= 10006 := by
 unfold pmN
 omega
theorem pmK_bd (z : Int) : 0 <= pmK z /\ pmK z <= 4 := by
 unfold pmK
 omega
theorem pmZ_bd (z : Int) : 0 <= pmZ z /\ pmZ z <= 10006 := by
 have h1 := pmN_bd z
 have h2 := pmN_bd (pmN z)
 unfold pmZ
 cases pmK z == 4
 ·exact h2
 ·exact h1
theorem pmS_bd (w : Wd) {s : Int} (hs : 0 <= s /\ s <= 9999) : ∀ k, 0 <= (pmS w s k).1 /\ (pmS w s k).1 <= 10006
 | 0 => ⟨hs.1, Int.le_trans hs.2 (by decide)⟩
 | k + 1 => pmZ_bd _
theorem pmS_len (w : Wd) (s : Int) : ∀ k, (pmS w s k).2.length = k * 3
 | 0 => rfl
 | k + 1 => by
  simp only [pmS, List.length_append, pmS_len w s k, List.length_cons, List.length_nil]
  omega
theorem next_in {z : Int} (h : 0 <= z /\ z <= 10006) : Int.tmod (IntKind.wrap .i64 (IntKind.wrap .i64 (151 * z) + 2083)) 10007 = pmN z := by
 rw [wrap64_in (x := 151 * z) (by omega), wrap64_in (x := 151 * z + 2083) (by omega), Int.tmod_eq_emod_of_nonneg (by omega)]
 rfl
theorem rem_in {z m : Int} (h : 0 <= z) : Int.tmod z m = z % m := Int.tmod_eq_emod_of_nonneg h
theorem ask_of {w : Wd} {k a : Int} (hg : goodB w = true) (hk : 0 <= k /\ k <= 4) (ha : 0 <= a /\ a <= 100) (h0 : k = 0 -> a < w.c.length) : askK k a w = true := by
 unfold askK
 rw [hg, inB_eq.2 hk, inB_eq.2 ha]
 cases hz : k == 0
 ·rfl
 ·rw [decide_eq_true (h0 (by simpa using hz))]
  rfl
theorem pmA_bd {m z : Int} (hm : 1 <= m /\ m <= 100) : 0 <= pmA m z /\ pmA m z <= 100 /\ (pmK z = 0 -> pmA m z < m) := by
 have h1 := Int.emod_nonneg (pmN (pmN z)) (show m ≠ 0 by omega)
 have h2 := Int.emod_lt_of_pos (pmN (pmN z)) (show 0 < m by omega)
 unfold pmA
 cases h4 : pmK z == 4
 ·cases h0 : pmK z == 0
  ·simp only [cond_false]
   have : pmK z ≠ 0 := by simpa using h0
   omega
  ·simp only [cond_false, cond_true]
   omega
 ·simp only [cond_true]
  have : pmK z = 4 := by simpa using h4
  omega
theorem pmG_in {w : Wd} {c s : Int} (h : pmG w c s = true) : hidB w = true /\ (0 <= c /\ c <= 6) /\ (0 <= s /\ s <= 9999) := by
 unfold pmG at h
 simp only [Bool.and_eq_true] at h
 exact ⟨h.1.1, inB_eq.1 h.1.2, inB_eq.1 h.2⟩
theorem vc_spec_pzNext (z : Int) (h : 0 <= z /\ z <= 10006) : VC_spec_pzNext z (retP (.int .i64 (pmN z))) := by
 unfold VC_spec_pzNext
 rw [next_in h, retP_int]
 exact ⟨⟨by omega⟩, rfl⟩
theorem vc_spec_pzOf (k a : Int) (wr : List UInt8) (ww wh : Int) (wc : List UInt8) (wx wy wd : Int) (h : askK k a ⟨wr, ww, wh, wc, wx, wy, wd⟩ = true) : VC_spec_pzOf k a wr ww wh wc wx wy wd
  (retP (.agg [.int .i64 k, .int .i64 (bif k == 4 then valK 4 0 ⟨wr, ww, wh, wc, wx, wy, wd⟩ else a), .int .i64 (bif k == 4 then 0 else valK k a ⟨wr, ww, wh, wc, wx, wy, wd⟩)])) := by
 unfold VC_spec_pzOf
 have hb := askK_bd h
 refine ⟨fun h4 => ⟨⟨ask_of hb.1 (by omega) (by omega) (by omega)⟩, ?_⟩, fun h4 => ⟨⟨h⟩, ?_⟩⟩
 ·have : k = 4 := by simpa using h4
  subst this
  simp [retP, leV, leL, chkB, V.under, underL]
 ·simp [h4, retP, leV, leL, chkB, V.under, underL]
/-! ### ends of calls -/
theorem retG_p0 {e : TypeId} {s : List UInt8} {rest : List Blk} (hs : s = []) : retG 0 (.tup [.agg [.str [], .int .i64 0, .int .i64 0, .row 0 0], .bool false]) [⟨.ints .i64 [], e, .rows 3⟩] (.tup [.agg [.str s, .int .i64 0, .int .i64 0, .raw (.slice none 0 0)], .lit false]) rest := by
 subst hs
 unfold retG leSel leSelBy autoSel
 simp [pairsL, pairsV, idPairs, pairsIn, selOf, lookN, selMem, chkB, nodupSel, prefSel, leSt, leL, leV, nilToL, V.nilTo, isNilS, isGhost, findSel, selL, V.sel, Cells.none0, Kind.isRow, leMem, leCells, memUnder, underL, V.under]
 exact trivial
theorem retG_p3 {e : TypeId} {n : Nat} {l : List Int} {r : List UInt8} {w h : Int} {b0 b1 b2 : Blk} {rest : List Blk} : retG 0 (.tup [.agg [.str r, .int .i64 w, .int .i64 h, .row 0 n], .bool true]) [⟨.ints .i64 l, e, .rows 3⟩] (.tup [.agg [.str r, .int .i64 w, .int .i64 h, .row 3 n], .lit true]) (b0 :: b1 :: b2 :: ⟨.ints .i64 l, e, .rows 3⟩ :: rest) := by
 unfold retG leSel leSelBy autoSel
 simp [pairsL, pairsV, idPairs, pairsIn, selOf, lookN, selMem, chkB, nodupSel, hasSel, prefSel, leSt, leL, leV, nilToL, V.nilTo, isNilS, isGhost, findSel, selL, V.sel, Cells.selN, leMem, leCells, memUnder, underL, V.under]
 exact trivial
theorem retG_p6 {e : TypeId} {n : Nat} {l : List Int} {r : List UInt8} {w h : Int} {b0 b1 b2 b3 b4 b5 : Blk} {rest : List Blk} : retG 0 (.tup [.agg [.str r, .int .i64 w, .int .i64 h, .row 0 n], .bool true]) [⟨.ints .i64 l, e, .rows 3⟩] (.tup [.agg [.str r, .int .i64 w, .int .i64 h, .row 6 n], .lit true]) (b0 :: b1 :: b2 :: b3 :: b4 :: b5 :: ⟨.ints .i64 l, e, .rows 3⟩ :: rest) := by
 unfold retG leSel leSelBy autoSel
 simp [pairsL, pairsV, idPairs, pairsIn, selOf, lookN, selMem, chkB, nodupSel, hasSel, prefSel, leSt, leL, leV, nilToL, V.nilTo, isNilS, isGhost, findSel, selL, V.sel, Cells.selN, leMem, leCells, memUnder, underL, V.under]
 exact trivial
theorem pmG_no1 {w : Wd} {c s : Int} (h : hidB w = false) : pmG w c s = false := by unfold pmG; rw [h]; rfl
theorem pmG_no2 {w : Wd} {c s : Int} (h : inB c 0 6 = false) : pmG w c s = false := by unfold pmG; rw [h, Bool.and_false]; rfl
theorem pmG_no3 {w : Wd} {c s : Int} (h : inB s 0 9999 = false) : pmG w c s = false := by unfold pmG; rw [h, Bool.and_false]
theorem vc_spec_MakePuzzle (wr : List UInt8) (ww wh : Int) (wc : List UInt8) (wx wy wd c s : Int) (_ : True) : VC_spec_MakePuzzle wr ww wh wc wx wy wd c s
  (retG 0 (.tup [.agg [.str (pmR ⟨wr, ww, wh, wc, wx, wy, wd⟩ c s), .int .i64 (pmW ⟨wr, ww, wh, wc, wx, wy, wd⟩ c s), .int .i64 (pmH ⟨wr, ww, wh, wc, wx, wy, wd⟩ c s), .row 0 (pmL ⟨wr, ww, wh, wc, wx, wy, wd⟩ c s)], .bool (pmG ⟨wr, ww, wh, wc, wx, wy, wd⟩ c s)]) [⟨.ints .i64 (pmB ⟨wr, ww, wh, wc, wx, wy, wd⟩ c s), 83, .rows 3⟩]) := by
 unfold VC_spec_MakePuzzle pmR pmW pmH pmL pmB
 refine ⟨⟨trivial⟩, fun h1 => ?_, fun h1 => ⟨⟨trivial⟩, fun h2 => ?_, fun h2 => ⟨⟨trivial⟩, fun h3 => ?_, fun h3 => ?_⟩⟩⟩
 ·rw [pmG_no1 (by simpa using h1)]
  exact retG_p0 rfl
 ·rw [pmG_no2 (by simpa using h2)]
  exact retG_p0 rfl
 ·rw [pmG_no3 (by simpa using h3)]
  exact retG_p0 rfl
 ·simp only [Bool.not_eq_false'] at h1 h2 h3
  have hG : pmG ⟨wr, ww, wh, wc, wx, wy, wd⟩ c s = true := by unfold pmG; rw [h1, h2, h3]; rfl
  rw [hG]
  obtain ⟨_, hcc, hss⟩ := pmG_in hG
  obtain ⟨hg, _, _, _, c1, c9, _⟩ := hid_bd h1
  simp only at c1 c9
  have e0 : c - c = 0 := by omega
  rw [e0]
  refine ⟨by simp [pmS], ⟨hG, Int.le_refl _, hcc.1⟩, fun a ha => ⟨fun hc => ?_, fun hc => ?_⟩⟩
  ·have hc := of_decide_eq_true hc
   obtain ⟨_, a1, a2⟩ := ha
   have hz := pmS_bd ⟨wr, ww, wh, wc, wx, wy, wd⟩ hss a.toNat
   have hl := pmS_len ⟨wr, ww, wh, wc, wx, wy, wd⟩ s a.toNat
   rw [wrap64_in (x := c - a - 1) (by omega), show c - (c - a - 1) = a + 1 by omega, show (a + 1).toNat = a.toNat + 1 by omega]
   have hi : pmInv ⟨wr, ww, wh, wc, wx, wy, wd⟩ c s (a + 1) /\ (c - (a + 1)).toNat < (c - a).toNat := ⟨⟨hG, by omega, by omega⟩, by omega⟩
   simp only [pmS]
   generalize (pmS ⟨wr, ww, wh, wc, wx, wy, wd⟩ s a.toNat).1 = z at hz ⊢
   generalize (pmS ⟨wr, ww, wh, wc, wx, wy, wd⟩ s a.toNat).2 = L at hl ⊢
   have n1 := pmN_bd z
   have n2 := pmN_bd (pmN z)
   have k1 := pmK_bd z
   have hA := pmA_bd (m := (wc.length : Int)) (z := z) (by omega)
   have hask : askK (pmK z) (pmA (wc.length : Int) z) ⟨wr, ww, wh, wc, wx, wy, wd⟩ = true := ask_of hg k1 ⟨hA.1, hA.2.1⟩ hA.2.2
   simp only [rem_in n1.1, rem_in n2.1, show pmN z % 5 = pmK z from rfl]
   refine ⟨⟨hz⟩, ⟨by decide⟩, fun h4 => ⟨⟨n1⟩, ⟨by decide⟩, fun h0 => ⟨⟨by omega⟩, ?_⟩, fun h0 => ?_⟩, fun h4 => ?_⟩
   ·have e4 : (pmK z == 4) = false := by rw [beq_eq_false_iff_ne]; have := of_decide_eq_true h4; omega
    have eA : pmA (wc.length : Int) z = pmN (pmN z) % (wc.length : Int) := by unfold pmA; rw [e4, h0]; rfl
    rw [eA] at hask
    simp [at_iff, pmZ, pmX, pmY, eA, hask, hl, posM, e4, hi]
    omega
   ·have e4 : (pmK z == 4) = false := by rw [beq_eq_false_iff_ne]; have := of_decide_eq_true h4; omega
    have eA : pmA (wc.length : Int) z = pmN (pmN z) % 51 := by unfold pmA; rw [e4, h0]; rfl
    rw [eA] at hask
    simp [at_iff, pmZ, pmX, pmY, eA, hask, hl, posM, e4, hi]
    omega
   ·have e4 : (pmK z == 4) = true := by rw [beq_iff_eq]; have := of_decide_eq_false h4; omega
    have eA : pmA (wc.length : Int) z = 0 := by unfold pmA; rw [e4]; rfl
    rw [eA] at hask
    simp [at_iff, pmZ, pmX, pmY, eA, hask, hl, posM, e4, hi]
    omega
  ·have hc := of_decide_eq_false hc
   obtain ⟨_, a1, a2⟩ := ha
   rw [show a = c by omega]
   exact retG_p3
theorem retG_pmz {e : TypeId} {x z : Int} {rest : List Blk} : retG 1 (.int .i64 x) [⟨.vals [.int .i64 z], e, .box⟩] (.int .i64 x) (⟨.vals [.int .i64 z], e, .box⟩ :: rest) := by
 unfold retG leSel leSelBy autoSel
 simp [pairsL, pairsV, idPairs, pairsIn, selOf, lookN, selMem, chkB, nodupSel, hasSel, prefSel, leSt, leL, leV, nilToL, V.nilTo, selL, V.sel, Cells.selN, leMem, leCells, memUnder, underL, V.under]
theorem retG_cm {e0 e1 e2 : TypeId} {f : FuncId} {k x y z : Int} {wr wc : List UInt8} {ww wh wx wy wd : Int} {rest : List Blk} :
  retG 3 (.agg [.int .i64 k, .int .i64 x, .int .i64 y]) [⟨.vals [.fn f [2]], e0, .box⟩, ⟨.vals [.str wr, .int .i64 ww, .int .i64 wh, .str wc, .int .i64 wx, .int .i64 wy, .int .i64 wd], e1, .box⟩, ⟨.vals [.int .i64 z], e2, .box⟩]
   (.agg [.int .i64 k, .int .i64 x, .int .i64 y]) (⟨.vals [.fn f [2]], e0, .box⟩ :: ⟨.vals [.str wr, .int .i64 ww, .int .i64 wh, .str wc, .int .i64 wx, .int .i64 wy, .int .i64 wd], e1, .box⟩ :: ⟨.vals [.int .i64 z], e2, .box⟩ :: rest) := by
 unfold retG leSel leSelBy autoSel
 simp [pairsL, pairsV, idPairs, pairsIn, selOf, lookN, selMem, chkB, nodupSel, hasSel, prefSel, leSt, leL, leV, nilToL, V.nilTo, findSel, selL, V.sel, selCaps, Cells.selN, leMem, leCells, memUnder, underL, V.under]
 exact trivial
theorem vc_impl_clueMaker_1 (c z : Int) (h : 0 <= z /\ z <= 10006 /\ 1 <= c /\ c <= 1000) : VC_impl_clueMaker_1 c z (retG 1 (.int .i64 (pmN z % c)) [⟨.vals [.int .i64 (pmN z)], 3, .box⟩]) := by
 unfold VC_impl_clueMaker_1
 rw [Int.mul_comm z 151, next_in ⟨h.1, h.2.1⟩, rem_in (pmN_bd z).1]
 exact ⟨⟨by decide⟩, ⟨by omega⟩, retG_pmz⟩
theorem vc_impl_clueMaker_2 (wr : List UInt8) (ww wh : Int) (wc : List UInt8) (wx wy wd z : Int) (h : goodB ⟨wr, ww, wh, wc, wx, wy, wd⟩ = true /\ 1 <= wc.length /\ wc.length <= 100 /\ 0 <= z /\ z <= 10006) : VC_impl_clueMaker_2 wr ww wh wc wx wy wd z
  (retG 3 (.agg [.int .i64 (pmK z), .int .i64 (pmX ⟨wr, ww, wh, wc, wx, wy, wd⟩ z), .int .i64 (pmY ⟨wr, ww, wh, wc, wx, wy, wd⟩ z)]) [⟨.vals [.fn 90 [2]], 81, .box⟩, ⟨.vals [.str wr, .int .i64 ww, .int .i64 wh, .str wc, .int .i64 wx, .int .i64 wy, .int .i64 wd], 53, .box⟩, ⟨.vals [.int .i64 (pmZ z)], 3, .box⟩]) := by
 unfold VC_impl_clueMaker_2 pmX pmY pmZ
 obtain ⟨hg, l1, l2, z1, z2⟩ := h
 have n1 := pmN_bd z
 have k1 := pmK_bd z
 have hA := pmA_bd (m := (wc.length : Int)) (z := z) (by omega)
 have hask : askK (pmK z) (pmA (wc.length : Int) z) ⟨wr, ww, wh, wc, wx, wy, wd⟩ = true := ask_of hg k1 ⟨hA.1, hA.2.1⟩ hA.2.2
 simp only [show pmN z % 5 = pmK z from rfl]
 have hl : 1 <= (wc.length : Int) /\ (wc.length : Int) <= 1000 := by omega
 refine ⟨⟨by omega⟩, fun h0 => ?_, fun h0 => ⟨fun h4 => ?_, fun h4 => ?_⟩⟩
 ·have e4 : (pmK z == 4) = false := by
   have : pmK z = 0 := by simpa using h0
   rw [this]; rfl
  have eA : pmA (wc.length : Int) z = pmN (pmN z) % (wc.length : Int) := by unfold pmA; rw [e4, h0]; rfl
  rw [eA] at hask
  simp only [eA, e4, cond_false, at_iff, n1, hl, hask, retG_cm, and_true]
 ·have eA : pmA (wc.length : Int) z = 0 := by unfold pmA; rw [h4]; rfl
  rw [eA] at hask
  simp only [eA, h4, cond_true, at_iff, hask, retG_cm, and_true]
 ·have eA : pmA (wc.length : Int) z = pmN (pmN z) % 51 := by unfold pmA; rw [h4, h0]; rfl
  rw [eA] at hask
  simp only [eA, h4, cond_false, at_iff, n1, hask, retG_cm, and_true, show (1 : Int) <= 51 by decide, show (51 : Int) <= 1000 by decide]
theorem vc_impl_MakePuzzle (wr : List UInt8) (ww wh : Int) (wc : List UInt8) (wx wy wd c s : Int) (_ : True) : VC_impl_MakePuzzle wr ww wh wc wx wy wd c s
  (retG 0 (.tup [.agg [.str (pmR ⟨wr, ww, wh, wc, wx, wy, wd⟩ c s), .int .i64 (pmW ⟨wr, ww, wh, wc, wx, wy, wd⟩ c s), .int .i64 (pmH ⟨wr, ww, wh, wc, wx, wy, wd⟩ c s), .row 0 (pmL ⟨wr, ww, wh, wc, wx, wy, wd⟩ c s)], .bool (pmG ⟨wr, ww, wh, wc, wx, wy, wd⟩ c s)]) [⟨.ints .i64 (pmB ⟨wr, ww, wh, wc, wx, wy, wd⟩ c s), 83, .rows 3⟩]) := by
 unfold VC_impl_MakePuzzle pmR pmW pmH pmL pmB
 refine ⟨⟨trivial⟩, fun h1 => ?_, fun h1 => ⟨⟨trivial⟩, fun h2 => ?_, fun h2 => ⟨⟨trivial⟩, fun h3 => ?_, fun h3 => ?_⟩⟩⟩
 ·rw [pmG_no1 (by simpa using h1)]
  exact retG_p0 rfl
 ·rw [pmG_no2 (by simpa using h2)]
  exact retG_p0 rfl
 ·rw [pmG_no3 (by simpa using h3)]
  exact retG_p0 rfl
 ·simp only [Bool.not_eq_false'] at h1 h2 h3
  have hG : pmG ⟨wr, ww, wh, wc, wx, wy, wd⟩ c s = true := by unfold pmG; rw [h1, h2, h3]; rfl
  rw [hG]
  obtain ⟨_, hcc, hss⟩ := pmG_in hG
  obtain ⟨hg, _, _, _, c1, c9, _⟩ := hid_bd h1
  simp only at c1 c9
  refine ⟨by simp [pmS], ⟨hG, Int.le_refl _, hcc.1⟩, fun a ha => ⟨fun hc => ?_, fun hc => ?_⟩⟩
  ·have hc := of_decide_eq_true hc
   obtain ⟨_, a1, a2⟩ := ha
   have hz := pmS_bd ⟨wr, ww, wh, wc, wx, wy, wd⟩ hss a.toNat
   have hl := pmS_len ⟨wr, ww, wh, wc, wx, wy, wd⟩ s a.toNat
   have hi : pmInv ⟨wr, ww, wh, wc, wx, wy, wd⟩ c s (a + 1) /\ (c - (a + 1)).toNat < (c - a).toNat := ⟨⟨hG, by omega, by omega⟩, by omega⟩
   rw [wrap64_in (x := a + 1) (by omega), show (a + 1).toNat = a.toNat + 1 by omega]
   simp only [pmS]
   generalize (pmS ⟨wr, ww, wh, wc, wx, wy, wd⟩ s a.toNat).1 = z at hz ⊢
   generalize (pmS ⟨wr, ww, wh, wc, wx, wy, wd⟩ s a.toNat).2 = L at hl ⊢
   have hle : wc.length <= 100 := by omega
   simp [at_iff, hg, hz, hl, posM, hi, hle, c1]
   omega
  ·have hc := of_decide_eq_false hc
   obtain ⟨_, a1, a2⟩ := ha
   rw [show a = c by omega]
   exact retG_p6
end Go.Vi
