import Derived.Test.YtickpjdnncpnmaaDoorW9Pf
/- Steps. -/
namespace Go.Vi
def turnI (b : Int) : Int := bif b == 82 then 1 else bif b == 85 then 2 else bif b == 76 then 3 else 0
def dirX (d : Int) : Int := bif d == 0 then 0 else bif d == 1 then 1 else bif d == 2 then 0 else -1
def dirY (d : Int) : Int := bif d == 0 then -1 else bif d == 1 then 0 else bif d == 2 then 1 else 0
def boxB (w : Wd) : Bool := inB w.w 1 9 && inB w.h 1 9 && inB w.x 0 (w.w - 1) && inB w.y 0 (w.h - 1)
def signAt (w : Wd) (c : Int) : Int := (w.r.getD c.toNat 0).toNat
def trnW (w : Wd) (q : Int) : Wd := { w with d := (w.d + q) % 4 }
def movW (w : Wd) (k : Int) : Wd := { w with x := (w.x + k * dirX w.d) % w.w, y := (w.y + k * dirY w.d) % w.h }
def pntW (w : Wd) (x y k : Int) : Wd := { w with c := paintC w x y k }
def setW (w : Wd) (k : Int) : Wd := pntW w w.x w.y k
def stepW (w : Wd) : Wd := movW (setW (trnW w (turnI (signAt w (colAt w w.x w.y)))) ((colAt w w.x w.y + 1) % w.r.length)) 1
def iterW (f : Wd -> Wd) : Nat -> Wd -> Wd
 | 0, w => w
 | n + 1, w => iterW f n (f w)
def wdL (w : Wd) : List V := [.str w.r, .int .i64 w.w, .int .i64 w.h, .str w.c, .int .i64 w.x, .int .i64 w.y, .int .i64 w.d]
end Go.Vi

/- Closed forms of the functions of this chapter. -/
namespace Go.Vi
set_option linter.unusedVariables false
def F_spec_l1Mod : FSpec := fun args m =>
 match args, m with
 | [.int .i64 n, .int .i64 m], [] => some (1 <= m /\ m <= 1000 /\ -1000000 <= n /\ n <= 1000000, .int .i64 (n % m))
 | _, _ => none
def F_spec_woTurn : FSpec := fun args m =>
 match args, m with
 | [.int .u8 b], [] => some (True, .int .i64 (turnI b))
 | _, _ => none
def F_impl_quarters : FSpec := fun args m =>
 match args, m with
 | [.int .u8 b], [] => some (True, .int .i64 (turnI b))
 | _, _ => none
def F_impl_direction : FSpec := fun args m =>
 match args, m with
 | [.int .i64 d], [] => some (True, .tup [.int .i64 (dirX d), .int .i64 (dirY d)])
 | _, _ => none
def F_impl_board_sign : FSpec := fun args m =>
 match args, m with
 | [.agg [.str wr, .int .i64 ww, .int .i64 wh, .str wc, .int .i64 wx, .int .i64 wy, .int .i64 wd]], [] => some (goodB ⟨wr, ww, wh, wc, wx, wy, wd⟩ = true, .int .u8 (signAt ⟨wr, ww, wh, wc, wx, wy, wd⟩ (colAt ⟨wr, ww, wh, wc, wx, wy, wd⟩ wx wy)))
 | _, _ => none
def F_impl_board_painted : FSpec := fun args m =>
 match args, m with
 | [.agg [.str wr, .int .i64 ww, .int .i64 wh, .str wc, .int .i64 wx, .int .i64 wy, .int .i64 wd], .int .i64 x, .int .i64 y, .int .i64 k], [] => some (goodB ⟨wr, ww, wh, wc, wx, wy, wd⟩ = true /\ hasB ⟨wr, ww, wh, wc, wx, wy, wd⟩ x y = true /\ 0 <= k /\ k <= 9, wdV (pntW ⟨wr, ww, wh, wc, wx, wy, wd⟩ x y k))
 | _, _ => none
def F_impl_board_turned : FSpec := fun args m =>
 match args, m with
 | [.agg [.str wr, .int .i64 ww, .int .i64 wh, .str wc, .int .i64 wx, .int .i64 wy, .int .i64 wd], .int .i64 q], [] => some (0 <= wd /\ wd <= 3 /\ 0 <= q /\ q <= 4, wdV (trnW ⟨wr, ww, wh, wc, wx, wy, wd⟩ q))
 | _, _ => none
def F_impl_board_moved : FSpec := fun args m =>
 match args, m with
 | [.agg [.str wr, .int .i64 ww, .int .i64 wh, .str wc, .int .i64 wx, .int .i64 wy, .int .i64 wd], .int .i64 k], [] => some (boxB ⟨wr, ww, wh, wc, wx, wy, wd⟩ = true /\ (k = 1 \/ k = -1), wdV (movW ⟨wr, ww, wh, wc, wx, wy, wd⟩ k))
 | _, _ => none
def F_spec_woPaint : GSpec := fun args m =>
 match args, m with
 | [.ptr 0 0, .int .i64 x, .int .i64 y, .int .i64 k], [⟨.vals [.str wr, .int .i64 ww, .int .i64 wh, .str wc, .int .i64 wx, .int .i64 wy, .int .i64 wd], e, .box⟩] => some (goodB ⟨wr, ww, wh, wc, wx, wy, wd⟩ = true /\ hasB ⟨wr, ww, wh, wc, wx, wy, wd⟩ x y = true /\ 0 <= k /\ k <= 9, .tup [], [⟨.vals (wdL (pntW ⟨wr, ww, wh, wc, wx, wy, wd⟩ x y k)), e, .box⟩])
 | _, _ => none
def F_spec_woGo : GSpec := fun args m =>
 match args, m with
 | [.ptr 0 0, .int .i64 k], [⟨.vals [.str wr, .int .i64 ww, .int .i64 wh, .str wc, .int .i64 wx, .int .i64 wy, .int .i64 wd], e, .box⟩] => some (boxB ⟨wr, ww, wh, wc, wx, wy, wd⟩ = true /\ (k = 1 \/ k = -1), .tup [], [⟨.vals (wdL (movW ⟨wr, ww, wh, wc, wx, wy, wd⟩ k)), e, .box⟩])
 | _, _ => none
def F_spec_woStep : FSpec := fun args m =>
 match args, m with
 | [.agg [.str wr, .int .i64 ww, .int .i64 wh, .str wc, .int .i64 wx, .int .i64 wy, .int .i64 wd]], [] => some (goodB ⟨wr, ww, wh, wc, wx, wy, wd⟩ = true, wdV (stepW ⟨wr, ww, wh, wc, wx, wy, wd⟩))
 | _, _ => none
def F_impl_board_forth : FSpec := fun args m =>
 match args, m with
 | [.agg [.str wr, .int .i64 ww, .int .i64 wh, .str wc, .int .i64 wx, .int .i64 wy, .int .i64 wd]], [] => some (goodB ⟨wr, ww, wh, wc, wx, wy, wd⟩ = true, wdV (stepW ⟨wr, ww, wh, wc, wx, wy, wd⟩))
 | _, _ => none
end Go.Vi

/- The conditions, reckoned out by program: texts alone. -/
namespace Go.Vi
set_option linter.unusedVariables false
def VC_spec_l1Mod (n:Int)(m:Int)(K:V → Prop):Prop:=
 At (m ≠ (0:Int))∧At (m ≠ (0:Int))∧K (V.int .i64 (Int.tmod (IntKind.wrap .i64 (Int.tmod n m + m)) m))
def VC_spec_woTurn (b:Int)(K:V → Prop):Prop:=
 ((b==(82:Int))=true→K (V.int .i64 (1:Int)))∧((b==(82:Int))=false→((b==(85:Int))=true→K (V.int .i64 (2:Int)))∧((b==(85:Int))=false→((b==(76:Int))=true→K (V.int .i64 (3:Int)))∧((b==(76:Int))=false→K (V.int .i64 (0:Int)))))
def VC_impl_quarters (b:Int)(K:V → Prop):Prop:=
 ((b==(82:Int))=true→K (V.int .i64 (1:Int)))∧((b==(82:Int))=false→((b==(85:Int))=true→K (V.int .i64 (2:Int)))∧((b==(85:Int))=false→((b==(76:Int))=true→K (V.int .i64 (3:Int)))∧((b==(76:Int))=false→K (V.int .i64 (0:Int)))))
def VC_impl_direction (d:Int)(K:V → Prop):Prop:=
 ((d==(0:Int))=true→K (V.tup [V.int .i64 (0:Int),V.int .i64 (-1:Int)]))∧((d==(0:Int))=false→((d==(1:Int))=true→K (V.tup [V.int .i64 (1:Int),V.int .i64 (0:Int)]))∧((d==(1:Int))=false→((d==(2:Int))=true→
 K (V.tup [V.int .i64 (0:Int),V.int .i64 (1:Int)]))∧((d==(2:Int))=false→K (V.tup [V.int .i64 (-1:Int),V.int .i64 (0:Int)]))))
def VC_impl_board_sign (wr:List UInt8)(ww:Int)(wh:Int)(wc:List UInt8)(wx:Int)(wy:Int)(wd:Int)(K:V → Prop):Prop:=
 True∧At (goodB { r := wr,w := ww,h := wh,c := wc,x := wx,y := wy,d := wd }=true∧hasB { r := wr,w := ww,h := wh,c := wc,x := wx,y := wy,d := wd } wx wy=true)∧
 At ((0:Int)≤colAt { r := wr,w := ww,h := wh,c := wc,x := wx,y := wy,d := wd } wx wy∧colAt { r := wr,w := ww,h := wh,c := wc,x := wx,y := wy,d := wd } wx wy < (↑(List.length wr):Int))∧
 K (V.int .u8 (↑(UInt8.toNat (List.getD wr (Int.toNat (colAt { r := wr,w := ww,h := wh,c := wc,x := wx,y := wy,d := wd } wx wy)) (0:UInt8))):Int))
def VC_impl_board_painted (wr:List UInt8)(ww:Int)(wh:Int)(wc:List UInt8)(wx:Int)(wy:Int)(wd:Int)(x:Int)(y:Int)(k:Int)(K:V → Prop):Prop:=
 True∧At ((0:Int)≤IntKind.wrap .i64 (IntKind.wrap .i64 (y * ww) + x)∧IntKind.wrap .i64 (IntKind.wrap .i64 (y * ww) + x)≤(↑(List.length wc):Int))∧At ((0:Int)≤k∧k≤(9:Int))∧
 At (List.length (List.take (Int.toNat (IntKind.wrap .i64 (IntKind.wrap .i64 (y * ww) + x))) wc) + List.length (num1 k)≤(9223372036854775807:Nat))∧
 At ((0:Int)≤IntKind.wrap .i64 (IntKind.wrap .i64 (IntKind.wrap .i64 (y * ww) + x) + (1:Int))∧IntKind.wrap .i64 (IntKind.wrap .i64 (IntKind.wrap .i64 (y * ww) + x) + (1:Int))≤(↑(List.length wc):Int))∧
 At (List.length (List.take (Int.toNat (IntKind.wrap .i64 (IntKind.wrap .i64 (y * ww) + x))) wc ++ num1 k) + List.length (List.drop (Int.toNat (IntKind.wrap .i64 (IntKind.wrap .i64 (IntKind.wrap .i64 (y * ww) + x) + (1:Int)))) wc)≤(9223372036854775807:Nat))∧
 K (V.agg [V.str wr,V.int .i64 ww,V.int .i64 wh,V.str (List.take (Int.toNat (IntKind.wrap .i64 (IntKind.wrap .i64 (y * ww) + x))) wc ++ num1 k ++ List.drop (Int.toNat (IntKind.wrap .i64 (IntKind.wrap .i64 (IntKind.wrap .i64 (y * ww) + x) + (1:Int)))) wc),V.int .i64 wx,V.int .i64 wy,V.int .i64 wd])
def VC_impl_board_turned (wr:List UInt8)(ww:Int)(wh:Int)(wc:List UInt8)(wx:Int)(wy:Int)(wd:Int)(q:Int)(K:V → Prop):Prop:=
 At ((4:Int) ≠ (0:Int))∧K (V.agg [V.str wr,V.int .i64 ww,V.int .i64 wh,V.str wc,V.int .i64 wx,V.int .i64 wy,V.int .i64 (Int.tmod (IntKind.wrap .i64 (wd + q)) (4:Int))])
def VC_impl_board_moved (wr:List UInt8)(ww:Int)(wh:Int)(wc:List UInt8)(wx:Int)(wy:Int)(wd:Int)(k:Int)(K:V → Prop):Prop:=
 At True∧At (ww ≠ (0:Int))∧At (wh ≠ (0:Int))∧
 K (V.agg [V.str wr,V.int .i64 ww,V.int .i64 wh,V.str wc,V.int .i64 (Int.tmod (IntKind.wrap .i64 (IntKind.wrap .i64 (wx + IntKind.wrap .i64 (k * dirX wd)) + ww)) ww),V.int .i64 (Int.tmod (IntKind.wrap .i64 (IntKind.wrap .i64 (wy + IntKind.wrap .i64 (k * dirY wd)) + wh)) wh),V.int .i64 wd])
def VC_spec_woPaint (x:Int)(y:Int)(k:Int)(wr:List UInt8)(ww:Int)(wh:Int)(wc:List UInt8)(wx:Int)(wy:Int)(wd:Int)(e:TypeId)(K:V → List Blk → Prop):Prop:=
 True∧At ((0:Int)≤IntKind.wrap .i64 (IntKind.wrap .i64 (y * ww) + x)∧IntKind.wrap .i64 (IntKind.wrap .i64 (y * ww) + x)≤(↑(List.length wc):Int))∧At ((0:Int)≤k∧k≤(9:Int))∧
 At (List.length (List.take (Int.toNat (IntKind.wrap .i64 (IntKind.wrap .i64 (y * ww) + x))) wc) + List.length (num1 k)≤(9223372036854775807:Nat))∧
 At ((0:Int)≤IntKind.wrap .i64 (IntKind.wrap .i64 (IntKind.wrap .i64 (y * ww) + x) + (1:Int))∧IntKind.wrap .i64 (IntKind.wrap .i64 (IntKind.wrap .i64 (y * ww) + x) + (1:Int))≤(↑(List.length wc):Int))∧
 At (List.length (List.take (Int.toNat (IntKind.wrap .i64 (IntKind.wrap .i64 (y * ww) + x))) wc ++ num1 k) + List.length (List.drop (Int.toNat (IntKind.wrap .i64 (IntKind.wrap .i64 (IntKind.wrap .i64 (y * ww) + x) + (1:Int)))) wc)≤(9223372036854775807:Nat))∧
 K (V.tup []) [⟨Cells.vals [V.str wr,V.int .i64 ww,V.int .i64 wh,V.str (List.take (Int.toNat (IntKind.wrap .i64 (IntKind.wrap .i64 (y * ww) + x))) wc ++ num1 k ++ List.drop (Int.toNat (IntKind.wrap .i64 (IntKind.wrap .i64 (IntKind.wrap .i64 (y * ww) + x) + (1:Int)))) wc),V.int .i64 wx,V.int .i64 wy,V.int .i64 wd],e,Kind.box⟩]
def VC_spec_woGo (k:Int)(wr:List UInt8)(ww:Int)(wh:Int)(wc:List UInt8)(wx:Int)(wy:Int)(wd:Int)(e:TypeId)(K:V → List Blk → Prop):Prop:=
 ((wd==(0:Int))=true→True∧At ((1:Int)≤wh∧wh≤(1000:Int)∧(-1000000:Int)≤IntKind.wrap .i64 (wy - k)∧IntKind.wrap .i64 (wy - k)≤(1000000:Int))∧
 K (V.tup []) [⟨Cells.vals [V.str wr,V.int .i64 ww,V.int .i64 wh,V.str wc,V.int .i64 wx,V.int .i64 (IntKind.wrap .i64 (wy - k) % wh),V.int .i64 wd],e,Kind.box⟩])∧((wd==(0:Int))=false→((wd==(1:Int))=true→True∧
 At ((1:Int)≤ww∧ww≤(1000:Int)∧(-1000000:Int)≤IntKind.wrap .i64 (wx + k)∧IntKind.wrap .i64 (wx + k)≤(1000000:Int))∧
 K (V.tup []) [⟨Cells.vals [V.str wr,V.int .i64 ww,V.int .i64 wh,V.str wc,V.int .i64 (IntKind.wrap .i64 (wx + k) % ww),V.int .i64 wy,V.int .i64 wd],e,Kind.box⟩])∧((wd==(1:Int))=false→((wd==(2:Int))=true→True∧
 At ((1:Int)≤wh∧wh≤(1000:Int)∧(-1000000:Int)≤IntKind.wrap .i64 (wy + k)∧IntKind.wrap .i64 (wy + k)≤(1000000:Int))∧
 K (V.tup []) [⟨Cells.vals [V.str wr,V.int .i64 ww,V.int .i64 wh,V.str wc,V.int .i64 wx,V.int .i64 (IntKind.wrap .i64 (wy + k) % wh),V.int .i64 wd],e,Kind.box⟩])∧((wd==(2:Int))=false→True∧At ((1:Int)≤ww∧ww≤(1000:Int)∧
 (-1000000:Int)≤IntKind.wrap .i64 (wx - k)∧IntKind.wrap .i64 (wx - k)≤(1000000:Int))∧
 K (V.tup []) [⟨Cells.vals [V.str wr,V.int .i64 ww,V.int .i64 wh,V.str wc,V.int .i64 (IntKind.wrap .i64 (wx - k) % ww),V.int .i64 wy,V.int .i64 wd],e,Kind.box⟩])))
def VC_spec_woStep (wr:List UInt8)(ww:Int)(wh:Int)(wc:List UInt8)(wx:Int)(wy:Int)(wd:Int)(K:V → Prop):Prop:=
 At (goodB { r := wr,w := ww,h := wh,c := wc,x := wx,y := wy,d := wd }=true∧hasB { r := wr,w := ww,h := wh,c := wc,x := wx,y := wy,d := wd } wx wy=true)∧True∧
 At ((0:Int)≤colAt { r := wr,w := ww,h := wh,c := wc,x := wx,y := wy,d := wd } wx wy∧colAt { r := wr,w := ww,h := wh,c := wc,x := wx,y := wy,d := wd } wx wy < (↑(List.length wr):Int))∧At True∧At ((4:Int) ≠ (0:Int))∧True∧
 At ((↑(List.length wr):Int) ≠ (0:Int))∧
 At (goodB { r := wr,w := ww,h := wh,c := wc,x := wx,y := wy,d := Int.tmod (IntKind.wrap .i64 (wd + turnI (↑(UInt8.toNat (List.getD wr (Int.toNat (colAt { r := wr,w := ww,h := wh,c := wc,x := wx,y := wy,d := wd } wx wy)) (0:UInt8))):Int))) (4:Int) }=true∧
 hasB { r := wr,w := ww,h := wh,c := wc,x := wx,y := wy,d := Int.tmod (IntKind.wrap .i64 (wd + turnI (↑(UInt8.toNat (List.getD wr (Int.toNat (colAt { r := wr,w := ww,h := wh,c := wc,x := wx,y := wy,d := wd } wx wy)) (0:UInt8))):Int))) (4:Int) } wx wy=true∧
 (0:Int)≤Int.tmod (IntKind.wrap .i64 (colAt { r := wr,w := ww,h := wh,c := wc,x := wx,y := wy,d := wd } wx wy + (1:Int))) (↑(List.length wr):Int)∧
 Int.tmod (IntKind.wrap .i64 (colAt { r := wr,w := ww,h := wh,c := wc,x := wx,y := wy,d := wd } wx wy + (1:Int))) (↑(List.length wr):Int)≤(9:Int))∧
 At (boxB (pntW { r := wr,w := ww,h := wh,c := wc,x := wx,y := wy,d := Int.tmod (IntKind.wrap .i64 (wd + turnI (↑(UInt8.toNat (List.getD wr (Int.toNat (colAt { r := wr,w := ww,h := wh,c := wc,x := wx,y := wy,d := wd } wx wy)) (0:UInt8))):Int))) (4:Int) } wx wy (Int.tmod (IntKind.wrap .i64 (colAt { r := wr,w := ww,h := wh,c := wc,x := wx,y := wy,d := wd } wx wy + (1:Int))) (↑(List.length wr):Int)))=true∧
 ((1:Int)=(1:Int)∨(1:Int)=(-1:Int)))∧
 K (V.agg [V.str (Wd.r (movW (pntW { r := wr,w := ww,h := wh,c := wc,x := wx,y := wy,d := Int.tmod (IntKind.wrap .i64 (wd + turnI (↑(UInt8.toNat (List.getD wr (Int.toNat (colAt { r := wr,w := ww,h := wh,c := wc,x := wx,y := wy,d := wd } wx wy)) (0:UInt8))):Int))) (4:Int) } wx wy (Int.tmod (IntKind.wrap .i64 (colAt { r := wr,w := ww,h := wh,c := wc,x := wx,y := wy,d := wd } wx wy + (1:Int))) (↑(List.length wr):Int))) (1:Int))),V.int .i64 (Wd.w (movW (pntW { r := wr,w := ww,h := wh,c := wc,x := wx,y := wy,d := Int.tmod (IntKind.wrap .i64 (wd + turnI (↑(UInt8.toNat (List.getD wr (Int.toNat (colAt { r := wr,w := ww,h := wh,c := wc,x := wx,y := wy,d := wd } wx wy)) (0:UInt8))):Int))) (4:Int) } wx wy (Int.tmod (IntKind.wrap .i64 (colAt { r := wr,w := ww,h := wh,c := wc,x := wx,y := wy,d := wd } wx wy + (1:Int))) (↑(List.length wr):Int))) (1:Int))),V.int .i64 (Wd.h (movW (pntW { r := wr,w := ww,h := wh,c := wc,x := wx,y := wy,d := Int.tmod (IntKind.wrap .i64 (wd + turnI (↑(UInt8.toNat (List.getD wr (Int.toNat (colAt { r := wr,w := ww,h := wh,c := wc,x := wx,y := wy,d := wd } wx wy)) (0:UInt8))):Int))) (4:Int) } wx wy (Int.tmod (IntKind.wrap .i64 (colAt { r := wr,w := ww,h := wh,c := wc,x := wx,y := wy,d := wd } wx wy + (1:Int))) (↑(List.length wr):Int))) (1:Int))),V.str (Wd.c (movW (pntW { r := wr,w := ww,h := wh,c := wc,x := wx,y := wy,d := Int.tmod (IntKind.wrap .i64 (wd + turnI (↑(UInt8.toNat (List.getD wr (Int.toNat (colAt { r := wr,w := ww,h := wh,c := wc,x := wx,y := wy,d := wd } wx wy)) (0:UInt8))):Int))) (4:Int) } wx wy (Int.tmod (IntKind.wrap .i64 (colAt { r := wr,w := ww,h := wh,c := wc,x := wx,y := wy,d := wd } wx wy + (1:Int))) (↑(List.length wr):Int))) (1:Int))),V.int .i64 (Wd.x (movW (pntW { r := wr,w := ww,h := wh,c := wc,x := wx,y := wy,d := Int.tmod (IntKind.wrap .i64 (wd + turnI (↑(UInt8.toNat (List.getD wr (Int.toNat (colAt { r := wr,w := ww,h := wh,c := wc,x := wx,y := wy,d := wd } wx wy)) (0:UInt8))):Int))) (4:Int) } wx wy (Int.tmod (IntKind.wrap .i64 (colAt { r := wr,w := ww,h := wh,c := wc,x := wx,y := wy,d := wd } wx wy + (1:Int))) (↑(List.length wr):Int))) (1:Int))),V.int .i64 (Wd.y (movW (pntW { r := wr,w := ww,h := wh,c := wc,x := wx,y := wy,d := Int.tmod (IntKind.wrap .i64 (wd + turnI (↑(UInt8.toNat (List.getD wr (Int.toNat (colAt { r := wr,w := ww,h := wh,c := wc,x := wx,y := wy,d := wd } wx wy)) (0:UInt8))):Int))) (4:Int) } wx wy (Int.tmod (IntKind.wrap .i64 (colAt { r := wr,w := ww,h := wh,c := wc,x := wx,y := wy,d := wd } wx wy + (1:Int))) (↑(List.length wr):Int))) (1:Int))),V.int .i64 (Wd.d (movW (pntW { r := wr,w := ww,h := wh,c := wc,x := wx,y := wy,d := Int.tmod (IntKind.wrap .i64 (wd + turnI (↑(UInt8.toNat (List.getD wr (Int.toNat (colAt { r := wr,w := ww,h := wh,c := wc,x := wx,y := wy,d := wd } wx wy)) (0:UInt8))):Int))) (4:Int) } wx wy (Int.tmod (IntKind.wrap .i64 (colAt { r := wr,w := ww,h := wh,c := wc,x := wx,y := wy,d := wd } wx wy + (1:Int))) (↑(List.length wr):Int))) (1:Int)))])
def VC_impl_board_forth (wr:List UInt8)(ww:Int)(wh:Int)(wc:List UInt8)(wx:Int)(wy:Int)(wd:Int)(K:V → Prop):Prop:=
 At (goodB { r := wr,w := ww,h := wh,c := wc,x := wx,y := wy,d := wd }=true∧hasB { r := wr,w := ww,h := wh,c := wc,x := wx,y := wy,d := wd } wx wy=true)∧At ((↑(List.length wr):Int) ≠ (0:Int))∧True∧
 At (goodB { r := wr,w := ww,h := wh,c := wc,x := wx,y := wy,d := wd }=true)∧At True∧At ((0:Int)≤wd∧wd≤(3:Int)∧
 (0:Int)≤turnI (signAt { r := wr,w := ww,h := wh,c := wc,x := wx,y := wy,d := wd } (colAt { r := wr,w := ww,h := wh,c := wc,x := wx,y := wy,d := wd } wx wy))∧
 turnI (signAt { r := wr,w := ww,h := wh,c := wc,x := wx,y := wy,d := wd } (colAt { r := wr,w := ww,h := wh,c := wc,x := wx,y := wy,d := wd } wx wy))≤(4:Int))∧
 At (goodB (trnW { r := wr,w := ww,h := wh,c := wc,x := wx,y := wy,d := wd } (turnI (signAt { r := wr,w := ww,h := wh,c := wc,x := wx,y := wy,d := wd } (colAt { r := wr,w := ww,h := wh,c := wc,x := wx,y := wy,d := wd } wx wy))))=true∧
 hasB (trnW { r := wr,w := ww,h := wh,c := wc,x := wx,y := wy,d := wd } (turnI (signAt { r := wr,w := ww,h := wh,c := wc,x := wx,y := wy,d := wd } (colAt { r := wr,w := ww,h := wh,c := wc,x := wx,y := wy,d := wd } wx wy)))) wx wy=true∧
 (0:Int)≤Int.tmod (IntKind.wrap .i64 (colAt { r := wr,w := ww,h := wh,c := wc,x := wx,y := wy,d := wd } wx wy + (1:Int))) (↑(List.length wr):Int)∧
 Int.tmod (IntKind.wrap .i64 (colAt { r := wr,w := ww,h := wh,c := wc,x := wx,y := wy,d := wd } wx wy + (1:Int))) (↑(List.length wr):Int)≤(9:Int))∧
 At (boxB (pntW (trnW { r := wr,w := ww,h := wh,c := wc,x := wx,y := wy,d := wd } (turnI (signAt { r := wr,w := ww,h := wh,c := wc,x := wx,y := wy,d := wd } (colAt { r := wr,w := ww,h := wh,c := wc,x := wx,y := wy,d := wd } wx wy)))) wx wy (Int.tmod (IntKind.wrap .i64 (colAt { r := wr,w := ww,h := wh,c := wc,x := wx,y := wy,d := wd } wx wy + (1:Int))) (↑(List.length wr):Int)))=true∧
 ((1:Int)=(1:Int)∨(1:Int)=(-1:Int)))∧
 K (V.agg [V.str (Wd.r (movW (pntW (trnW { r := wr,w := ww,h := wh,c := wc,x := wx,y := wy,d := wd } (turnI (signAt { r := wr,w := ww,h := wh,c := wc,x := wx,y := wy,d := wd } (colAt { r := wr,w := ww,h := wh,c := wc,x := wx,y := wy,d := wd } wx wy)))) wx wy (Int.tmod (IntKind.wrap .i64 (colAt { r := wr,w := ww,h := wh,c := wc,x := wx,y := wy,d := wd } wx wy + (1:Int))) (↑(List.length wr):Int))) (1:Int))),V.int .i64 (Wd.w (movW (pntW (trnW { r := wr,w := ww,h := wh,c := wc,x := wx,y := wy,d := wd } (turnI (signAt { r := wr,w := ww,h := wh,c := wc,x := wx,y := wy,d := wd } (colAt { r := wr,w := ww,h := wh,c := wc,x := wx,y := wy,d := wd } wx wy)))) wx wy (Int.tmod (IntKind.wrap .i64 (colAt { r := wr,w := ww,h := wh,c := wc,x := wx,y := wy,d := wd } wx wy + (1:Int))) (↑(List.length wr):Int))) (1:Int))),V.int .i64 (Wd.h (movW (pntW (trnW { r := wr,w := ww,h := wh,c := wc,x := wx,y := wy,d := wd } (turnI (signAt { r := wr,w := ww,h := wh,c := wc,x := wx,y := wy,d := wd } (colAt { r := wr,w := ww,h := wh,c := wc,x := wx,y := wy,d := wd } wx wy)))) wx wy (Int.tmod (IntKind.wrap .i64 (colAt { r := wr,w := ww,h := wh,c := wc,x := wx,y := wy,d := wd } wx wy + (1:Int))) (↑(List.length wr):Int))) (1:Int))),V.str (Wd.c (movW (pntW (trnW { r := wr,w := ww,h := wh,c := wc,x := wx,y := wy,d := wd } (turnI (signAt { r := wr,w := ww,h := wh,c := wc,x := wx,y := wy,d := wd } (colAt { r := wr,w := ww,h := wh,c := wc,x := wx,y := wy,d := wd } wx wy)))) wx wy (Int.tmod (IntKind.wrap .i64 (colAt { r := wr,w := ww,h := wh,c := wc,x := wx,y := wy,d := wd } wx wy + (1:Int))) (↑(List.length wr):Int))) (1:Int))),V.int .i64 (Wd.x (movW (pntW (trnW { r := wr,w := ww,h := wh,c := wc,x := wx,y := wy,d := wd } (turnI (signAt { r := wr,w := ww,h := wh,c := wc,x := wx,y := wy,d := wd } (colAt { r := wr,w := ww,h := wh,c := wc,x := wx,y := wy,d := wd } wx wy)))) wx wy (Int.tmod (IntKind.wrap .i64 (colAt { r := wr,w := ww,h := wh,c := wc,x := wx,y := wy,d := wd } wx wy + (1:Int))) (↑(List.length wr):Int))) (1:Int))),V.int .i64 (Wd.y (movW (pntW (trnW { r := wr,w := ww,h := wh,c := wc,x := wx,y := wy,d := wd } (turnI (signAt { r := wr,w := ww,h := wh,c := wc,x := wx,y := wy,d := wd } (colAt { r := wr,w := ww,h := wh,c := wc,x := wx,y := wy,d := wd } wx wy)))) wx wy (Int.tmod (IntKind.wrap .i64 (colAt { r := wr,w := ww,h := wh,c := wc,x := wx,y := wy,d := wd } wx wy + (1:Int))) (↑(List.length wr):Int))) (1:Int))),V.int .i64 (Wd.d (movW (pntW (trnW { r := wr,w := ww,h := wh,c := wc,x := wx,y := wy,d := wd } (turnI (signAt { r := wr,w := ww,h := wh,c := wc,x := wx,y := wy,d := wd } (colAt { r := wr,w := ww,h := wh,c := wc,x := wx,y := wy,d := wd } wx wy)))) wx wy (Int.tmod (IntKind.wrap .i64 (colAt { r := wr,w := ww,h := wh,c := wc,x := wx,y := wy,d := wd } wx wy + (1:Int))) (↑(List.length wr):Int))) (1:Int)))])
end Go.Vi

/- The conditions of steps hold. -/
namespace Go.Vi
theorem tmod_emod {a b : Int} (ha : 0 <= a) : Int.tmod a b = a % b := Int.tmod_eq_emod_of_nonneg ha
theorem tmod_emod_self (n m : Int) : Int.tmod n m % m = n % m := by
 rw [Int.tmod_def, Int.sub_mul_emod_self_left]
theorem tmod_bd {n m : Int} (hm : 1 <= m) : -m < Int.tmod n m /\ Int.tmod n m < m := by
 rcases Int.le_total 0 n with h | h
 ·rw [tmod_emod h]
  have := Int.emod_nonneg n (b := m) (by omega)
  have := Int.emod_lt_of_pos n (b := m) (by omega)
  omega
 ·have e : Int.tmod n m = - Int.tmod (-n) m := by rw [Int.neg_tmod, Int.neg_neg]
  rw [e, tmod_emod (by omega)]
  have := Int.emod_nonneg (-n) (b := m) (by omega)
  have := Int.emod_lt_of_pos (-n) (b := m) (by omega)
  omega
theorem emod_bd (n : Int) {m : Int} (hm : 1 <= m) : 0 <= n % m /\ n % m <= m - 1 := by
 have := Int.emod_nonneg n (b := m) (by omega)
 have := Int.emod_lt_of_pos n (b := m) (by omega)
 omega
theorem vc_spec_l1Mod (n m : Int) (h : 1 <= m /\ m <= 1000 /\ -1000000 <= n /\ n <= 1000000) : VC_spec_l1Mod n m (retP (.int .i64 (n % m))) := by
 unfold VC_spec_l1Mod
 have hb := tmod_bd (n := n) h.1
 refine ⟨⟨by omega⟩, ⟨by omega⟩, ?_⟩
 rw [retP_int, wrap64_in (by omega), tmod_emod (by omega), Int.add_emod_right, tmod_emod_self]
theorem vc_spec_woTurn (b : Int) (_ : True) : VC_spec_woTurn b (retP (.int .i64 (turnI b))) := by
 unfold VC_spec_woTurn turnI
 refine ⟨fun h => ?_, fun h => ⟨fun h1 => ?_, fun h1 => ⟨fun h2 => ?_, fun h2 => ?_⟩⟩⟩ <;> simp only [*, cond_true, cond_false, retP_int]
theorem vc_impl_quarters (b : Int) (_ : True) : VC_impl_quarters b (retP (.int .i64 (turnI b))) := by
 unfold VC_impl_quarters turnI
 refine ⟨fun h => ?_, fun h => ⟨fun h1 => ?_, fun h1 => ⟨fun h2 => ?_, fun h2 => ?_⟩⟩⟩ <;> simp only [*, cond_true, cond_false, retP_int]
theorem vc_impl_direction (d : Int) (_ : True) : VC_impl_direction d (retP (.tup [.int .i64 (dirX d), .int .i64 (dirY d)])) := by
 unfold VC_impl_direction dirX dirY
 refine ⟨fun h => ?_, fun h => ⟨fun h1 => ?_, fun h1 => ⟨fun h2 => ?_, fun h2 => ?_⟩⟩⟩ <;> (simp only [*, cond_true, cond_false]; simp [retP, leV, leL, chkB, V.under, underL])
theorem good_has {w : Wd} (h : goodB w = true) : hasB w w.x w.y = true := by
 obtain ⟨_, _, h3, h4, _⟩ := good_bd h
 unfold hasB
 rw [inB_eq.2 h3, inB_eq.2 h4]; rfl
theorem good_box {w : Wd} (h : goodB w = true) : boxB w = true := by
 obtain ⟨h1, h2, h3, h4, _⟩ := good_bd h
 unfold boxB
 rw [inB_eq.2 h1, inB_eq.2 h2, inB_eq.2 h3, inB_eq.2 h4]; rfl
theorem colAt_bd {w : Wd} (h : goodB w = true) {x y : Int} (hc : hasB w x y = true) : 0 <= colAt w x y /\ colAt w x y < (w.r.length : Int) /\ colAt w x y <= 5 /\ (1 : Int) <= w.r.length /\ (w.r.length : Int) <= 6 := by
 have h1 := cell_bd h hc
 have h2 := col_bd h (i := cellIx w x y) (by unfold cellIx; omega)
 have h3 := good_bd h
 unfold colAt
 omega
theorem vc_impl_board_sign (wr : List UInt8) (ww wh : Int) (wc : List UInt8) (wx wy wd : Int) (h : goodB ⟨wr, ww, wh, wc, wx, wy, wd⟩ = true) : VC_impl_board_sign wr ww wh wc wx wy wd
  (retP (.int .u8 (signAt ⟨wr, ww, wh, wc, wx, wy, wd⟩ (colAt ⟨wr, ww, wh, wc, wx, wy, wd⟩ wx wy)))) := by
 unfold VC_impl_board_sign
 have hh := good_has h
 have hc := colAt_bd h hh
 simp only at hh hc
 refine ⟨trivial, ⟨h, hh⟩, ⟨hc.1, hc.2.1⟩, ?_⟩
 rw [retP_int]; rfl
theorem paint_facts2 {w : Wd} {x y : Int} (hg : goodB w = true) (hh : hasB w x y = true) :
  IntKind.wrap .i64 (y * w.w) = y * w.w /\ IntKind.wrap .i64 (y * w.w + x) = y * w.w + x /\ IntKind.wrap .i64 (y * w.w + x + 1) = y * w.w + x + 1 /\ 0 <= y * w.w + x /\ y * w.w + x + 1 <= (w.c.length : Int) /\ w.c.length <= 81 /\ (y * w.w + x + 1).toNat = (y * w.w + x).toNat + 1 := by
 have hc := cell_bd hg hh
 have hb := good_nine hg
 refine ⟨wrap64_in (by omega), wrap64_in (by omega), wrap64_in (by omega), by omega, by omega, by omega, by omega⟩
theorem vc_impl_board_painted (wr : List UInt8) (ww wh : Int) (wc : List UInt8) (wx wy wd x y k : Int) (h : goodB ⟨wr, ww, wh, wc, wx, wy, wd⟩ = true /\ hasB ⟨wr, ww, wh, wc, wx, wy, wd⟩ x y = true /\ 0 <= k /\ k <= 9) : VC_impl_board_painted wr ww wh wc wx wy wd x y k
  (retP (wdV (pntW ⟨wr, ww, wh, wc, wx, wy, wd⟩ x y k))) := by
 obtain ⟨hg, hh, hk⟩ := h
 obtain ⟨e1, e2, e3, f1, f2, f5, f6⟩ := paint_facts2 hg hh
 simp only at e1 e2 e3 f1 f2 f5 f6
 unfold VC_impl_board_painted
 rw [e1, e2, e3, f6]
 simp only [at_iff, List.length_append, num1_len, List.length_take, List.length_drop, true_and]
 refine ⟨⟨by omega, by omega⟩, ⟨by omega, by omega⟩, by omega, ⟨by omega, by omega⟩, by omega, ?_⟩
 simp [wdV, pntW, paintC, cellIx, retP, leV, leL, chkB, V.under, underL]
theorem vc_impl_board_turned (wr : List UInt8) (ww wh : Int) (wc : List UInt8) (wx wy wd q : Int) (h : 0 <= wd /\ wd <= 3 /\ 0 <= q /\ q <= 4) : VC_impl_board_turned wr ww wh wc wx wy wd q
  (retP (wdV (trnW ⟨wr, ww, wh, wc, wx, wy, wd⟩ q))) := by
 unfold VC_impl_board_turned
 rw [wrap64_in (by omega), tmod_emod (by omega)]
 simp [wdV, trnW, retP, leV, leL, chkB, V.under, underL, at_iff]
theorem box_bd {w : Wd} (h : boxB w = true) : (1 <= w.w /\ w.w <= 9) /\ (1 <= w.h /\ w.h <= 9) /\ (0 <= w.x /\ w.x <= w.w - 1) /\ (0 <= w.y /\ w.y <= w.h - 1) := by
 unfold boxB at h
 simp only [Bool.and_eq_true, inB_eq] at h
 omega
theorem dir_bd (d : Int) : (-1 <= dirX d /\ dirX d <= 1) /\ (-1 <= dirY d /\ dirY d <= 1) := by
 unfold dirX dirY
 cases d == 0 <;> cases d == 1 <;> cases d == 2 <;> simp
theorem kdir {k e : Int} (hk : k = 1 \/ k = -1) (he : -1 <= e /\ e <= 1) : -1 <= k * e /\ k * e <= 1 := by
 rcases hk with rfl | rfl <;> omega
theorem go_one {x m t : Int} (h : 0 <= x /\ x <= m - 1) (ht : -1 <= t /\ t <= 1) (hm : 1 <= m /\ m <= 9) : Int.tmod (IntKind.wrap .i64 (IntKind.wrap .i64 (x + IntKind.wrap .i64 t) + m)) m = (x + t) % m := by
 rw [wrap64_in (x := t) (by omega), wrap64_in (x := x + t) (by omega), wrap64_in (by omega), tmod_emod (by omega), Int.add_emod_right]
theorem vc_impl_board_moved (wr : List UInt8) (ww wh : Int) (wc : List UInt8) (wx wy wd k : Int) (h : boxB ⟨wr, ww, wh, wc, wx, wy, wd⟩ = true /\ (k = 1 \/ k = -1)) : VC_impl_board_moved wr ww wh wc wx wy wd k
  (retP (wdV (movW ⟨wr, ww, wh, wc, wx, wy, wd⟩ k))) := by
 obtain ⟨h, hk⟩ := h
 obtain ⟨h1, h2, h3, h4⟩ := box_bd h
 simp only at h1 h2 h3 h4
 obtain ⟨d1, d2⟩ := dir_bd wd
 unfold VC_impl_board_moved
 rw [go_one h3 (kdir hk d1) h1, go_one h4 (kdir hk d2) h2]
 refine ⟨⟨trivial⟩, ⟨by omega⟩, ⟨by omega⟩, ?_⟩
 simp [wdV, movW, retP, leV, leL, chkB, V.under, underL]
theorem retG_one {us vs : List V} {e : TypeId} (h : leL (selL (fun n => findSel n [some 0] 0) us) vs) (hu : underL 1 vs = true) (hn : nilToL (isGhost [some 0]) (selL (fun n => findSel n [some 0] 0) us) vs = selL (fun n => findSel n [some 0] 0) us) : retG 1 (.tup []) [⟨.vals vs, e, .box⟩] (.tup []) [⟨.vals us, e, .box⟩] := by
 unfold retG leSel leSelBy autoSel
 simp [pairsL, pairsV, idPairs, pairsIn, selOf, lookN, selMem, chkB, nodupSel, hasSel, prefSel, leSt, leL, leV, nilToL, V.nilTo, selL, V.sel, Cells.selN, leMem, leCells, memUnder, underL, V.under, hu, hn, h]
theorem retG_wd {u w : Wd} {e : TypeId} (h : u = w) : retG 1 (.tup []) [⟨.vals (wdL w), e, .box⟩] (.tup []) [⟨.vals (wdL u), e, .box⟩] := by
 subst h
 exact retG_one (by simp [wdL, selL, V.sel, leL, leV, chkB]) rfl rfl
theorem vc_spec_woPaint (x y k : Int) (wr : List UInt8) (ww wh : Int) (wc : List UInt8) (wx wy wd : Int) (e : TypeId) (h : goodB ⟨wr, ww, wh, wc, wx, wy, wd⟩ = true /\ hasB ⟨wr, ww, wh, wc, wx, wy, wd⟩ x y = true /\ 0 <= k /\ k <= 9) : VC_spec_woPaint x y k wr ww wh wc wx wy wd e
  (retG 1 (.tup []) [⟨.vals (wdL (pntW ⟨wr, ww, wh, wc, wx, wy, wd⟩ x y k)), e, .box⟩]) := by
 obtain ⟨hg, hh, hk⟩ := h
 obtain ⟨e1, e2, e3, f1, f2, f5, f6⟩ := paint_facts2 hg hh
 simp only at e1 e2 e3 f1 f2 f5 f6
 unfold VC_spec_woPaint
 rw [e1, e2, e3, f6]
 simp only [at_iff, List.length_append, num1_len, List.length_take, List.length_drop, true_and]
 refine ⟨⟨by omega, by omega⟩, ⟨by omega, by omega⟩, by omega, ⟨by omega, by omega⟩, by omega, ?_⟩
 exact retG_wd (u := ⟨wr, ww, wh, wc.take (y * ww + x).toNat ++ num1 k ++ wc.drop ((y * ww + x).toNat + 1), wx, wy, wd⟩) rfl
theorem vc_spec_woGo (k : Int) (wr : List UInt8) (ww wh : Int) (wc : List UInt8) (wx wy wd : Int) (e : TypeId) (h : boxB ⟨wr, ww, wh, wc, wx, wy, wd⟩ = true /\ (k = 1 \/ k = -1)) : VC_spec_woGo k wr ww wh wc wx wy wd e
  (retG 1 (.tup []) [⟨.vals (wdL (movW ⟨wr, ww, wh, wc, wx, wy, wd⟩ k)), e, .box⟩]) := by
 obtain ⟨h, hk⟩ := h
 obtain ⟨h1, h2, h3, h4⟩ := box_bd h
 simp only at h1 h2 h3 h4
 have hkb : -1 <= k /\ k <= 1 := by omega
 have ex : wx % ww = wx := Int.emod_eq_of_lt h3.1 (by omega)
 have ey : wy % wh = wy := Int.emod_eq_of_lt h4.1 (by omega)
 unfold VC_spec_woGo
 rw [wrap64_in (x := wy - k) (by omega), wrap64_in (x := wx + k) (by omega), wrap64_in (x := wy + k) (by omega), wrap64_in (x := wx - k) (by omega)]
 refine ⟨fun c0 => ⟨trivial, ⟨by omega⟩, ?_⟩, fun c0 => ⟨fun c1 => ⟨trivial, ⟨by omega⟩, ?_⟩, fun c1 => ⟨fun c2 => ⟨trivial, ⟨by omega⟩, ?_⟩, fun c2 => ⟨trivial, ⟨by omega⟩, ?_⟩⟩⟩⟩
 ·refine retG_wd (u := ⟨wr, ww, wh, wc, wx, (wy - k) % wh, wd⟩) ?_
  simp [movW, dirX, dirY, c0, ex, Int.sub_eq_add_neg]
 ·refine retG_wd (u := ⟨wr, ww, wh, wc, (wx + k) % ww, wy, wd⟩) ?_
  simp [movW, dirX, dirY, c0, c1, ey]
 ·refine retG_wd (u := ⟨wr, ww, wh, wc, wx, (wy + k) % wh, wd⟩) ?_
  simp [movW, dirX, dirY, c0, c1, c2, ex]
 ·refine retG_wd (u := ⟨wr, ww, wh, wc, (wx - k) % ww, wy, wd⟩) ?_
  simp [movW, dirX, dirY, c0, c1, c2, ey, Int.sub_eq_add_neg]
theorem retP_wd {u w : Wd} (h : u = w) : retP (wdV w) (wdV u) := by
 subst h
 simp [wdV, retP, leV, leL, chkB, V.under, underL]
theorem good_iff {w : Wd} : goodB w = true ↔ (ruleB w.r = true /\ inB w.w 1 9 = true /\ inB w.h 1 9 = true /\ (w.c.length : Int) = w.w * w.h /\ colsB w.c w.r.length = true /\ inB w.x 0 (w.w - 1) = true /\ inB w.y 0 (w.h - 1) = true /\ inB w.d 0 3 = true) := by
 unfold goodB
 simp only [Bool.and_eq_true, beq_iff_eq, and_assoc]
theorem turn_bd (b : Int) : 0 <= turnI b /\ turnI b <= 3 := by
 unfold turnI
 cases b == 82 <;> cases b == 85 <;> cases b == 76 <;> simp
theorem good_trn {w : Wd} (h : goodB w = true) (q : Int) : goodB (trnW w q) = true := by
 rw [good_iff] at h ⊢
 obtain ⟨h1, h2, h3, h4, h5, h6, h7, _⟩ := h
 have := emod_bd (w.d + q) (m := 4) (by omega)
 exact ⟨h1, h2, h3, h4, h5, h6, h7, inB_eq.2 (by simp only [trnW]; omega)⟩
theorem good_mov {w : Wd} (h : goodB w = true) (k : Int) : goodB (movW w k) = true := by
 have hb := good_bd h
 rw [good_iff] at h ⊢
 obtain ⟨h1, h2, h3, h4, h5, _, _, h8⟩ := h
 exact ⟨h1, h2, h3, h4, h5, inB_eq.2 (emod_bd _ hb.1.1), inB_eq.2 (emod_bd _ hb.2.1.1), h8⟩
theorem colsB_pnt {c : List UInt8} {n k : Int} {i : Nat} (h : colsB c n = true) (hk : 0 <= k /\ k <= n - 1) (h9 : k <= 9) : colsB (c.take i ++ num1 k ++ c.drop (i + 1)) n = true := by
 unfold colsB at h ⊢
 rw [List.all_eq_true] at h
 simp only [List.all_append, Bool.and_eq_true, List.all_eq_true]
 refine ⟨⟨fun d hd => h d (List.mem_of_mem_take hd), fun d hd => ?_⟩, fun d hd => h d (List.mem_of_mem_drop hd)⟩
 simp only [num1, List.mem_singleton] at hd
 subst hd
 rw [inB_eq, UInt8.toNat_ofNat']
 omega
theorem pnt_len {w : Wd} (hg : goodB w = true) {x y : Int} (hh : hasB w x y = true) (k : Int) : (paintC w x y k).length = w.c.length := by
 have := cell_bd hg hh
 simp only [paintC, List.length_append, List.length_take, List.length_drop, num1_len, cellIx]
 omega
theorem good_pnt {w : Wd} (hg : goodB w = true) {x y k : Int} (hh : hasB w x y = true) (hk : 0 <= k /\ k <= (w.r.length : Int) - 1) : goodB (pntW w x y k) = true := by
 have hb := good_bd hg
 have hl := pnt_len hg hh k
 have hg' := good_iff.1 hg
 rw [good_iff]
 obtain ⟨h1, h2, h3, h4, h5, h6, h7, h8⟩ := hg'
 exact ⟨h1, h2, h3, by simp only [pntW, hl]; exact h4, colsB_pnt h5 hk (by omega), h6, h7, h8⟩
theorem good_step {w : Wd} (h : goodB w = true) : goodB (stepW w) = true := by
 have hc := colAt_bd h (good_has h)
 have hb := emod_bd (colAt w w.x w.y + 1) (m := w.r.length) (by omega)
 exact good_mov (good_pnt (good_trn h _) (good_has (good_trn h _)) hb) _
theorem wrap_next {c l : Int} (hc : 0 <= c /\ c <= 5) : Int.tmod (IntKind.wrap .i64 (c + 1)) l = (c + 1) % l := by
 rw [wrap64_in (by omega), tmod_emod (by omega)]
theorem vc_impl_board_forth (wr : List UInt8) (ww wh : Int) (wc : List UInt8) (wx wy wd : Int) (h : goodB ⟨wr, ww, wh, wc, wx, wy, wd⟩ = true) : VC_impl_board_forth wr ww wh wc wx wy wd (retP (wdV (stepW ⟨wr, ww, wh, wc, wx, wy, wd⟩))) := by
 unfold VC_impl_board_forth
 have hh := good_has h
 have hc := colAt_bd h hh
 have hb := good_bd h
 simp only at hh hc hb
 have hT := turn_bd (signAt ⟨wr, ww, wh, wc, wx, wy, wd⟩ (colAt ⟨wr, ww, wh, wc, wx, wy, wd⟩ wx wy))
 rw [wrap_next (by omega)]
 have hn := emod_bd (colAt ⟨wr, ww, wh, wc, wx, wy, wd⟩ wx wy + 1) (m := wr.length) (by omega)
 have ht := good_trn h (turnI (signAt ⟨wr, ww, wh, wc, wx, wy, wd⟩ (colAt ⟨wr, ww, wh, wc, wx, wy, wd⟩ wx wy)))
 have hth := good_has ht
 refine ⟨⟨h, hh⟩, ⟨by omega⟩, trivial, ⟨h⟩, ⟨trivial⟩, ⟨by omega⟩, ⟨ht, hth, by omega⟩, ⟨good_box (good_pnt ht hth hn), .inl rfl⟩, ?_⟩
 exact retP_wd rfl
theorem vc_spec_woStep (wr : List UInt8) (ww wh : Int) (wc : List UInt8) (wx wy wd : Int) (h : goodB ⟨wr, ww, wh, wc, wx, wy, wd⟩ = true) : VC_spec_woStep wr ww wh wc wx wy wd (retP (wdV (stepW ⟨wr, ww, wh, wc, wx, wy, wd⟩))) := by
 unfold VC_spec_woStep
 have hh := good_has h
 have hc := colAt_bd h hh
 have hb := good_bd h
 simp only at hh hc hb
 have hT := turn_bd (signAt ⟨wr, ww, wh, wc, wx, wy, wd⟩ (colAt ⟨wr, ww, wh, wc, wx, wy, wd⟩ wx wy))
 have eT : Int.tmod (IntKind.wrap .i64 (wd + turnI ((wr.getD (colAt ⟨wr, ww, wh, wc, wx, wy, wd⟩ wx wy).toNat 0).toNat : Int))) 4 = (wd + turnI (signAt ⟨wr, ww, wh, wc, wx, wy, wd⟩ (colAt ⟨wr, ww, wh, wc, wx, wy, wd⟩ wx wy))) % 4 := by
  unfold signAt at hT ⊢
  simp only at hT ⊢
  rw [wrap64_in (by omega), tmod_emod (by omega)]
 rw [wrap_next (by omega), eT]
 have hn := emod_bd (colAt ⟨wr, ww, wh, wc, wx, wy, wd⟩ wx wy + 1) (m := wr.length) (by omega)
 have ht := good_trn h (turnI (signAt ⟨wr, ww, wh, wc, wx, wy, wd⟩ (colAt ⟨wr, ww, wh, wc, wx, wy, wd⟩ wx wy)))
 have hth := good_has ht
 refine ⟨⟨h, hh⟩, trivial, ⟨by omega⟩, ⟨trivial⟩, ⟨by omega⟩, trivial, ⟨by omega⟩, ⟨ht, hth, by omega⟩, ⟨good_box (good_pnt ht hth hn), .inl rfl⟩, ?_⟩
 exact retP_wd rfl
theorem iterW_out (f : Wd -> Wd) : ∀ (n : Nat) (w : Wd), iterW f (n + 1) w = f (iterW f n w)
 | 0, _ => rfl
 | n + 1, w => iterW_out f n (f w)
theorem iterW_add (f : Wd -> Wd) : ∀ (a b : Nat) (w : Wd), iterW f (a + b) w = iterW f b (iterW f a w)
 | 0, b, w => by rw [Nat.zero_add]; rfl
 | a + 1, b, w => by rw [Nat.add_right_comm]; exact iterW_add f a b (f w)
theorem iterW_turns (f : Wd -> Wd) {m : Nat} {w : Wd} (h : iterW f m w = w) : ∀ q : Nat, iterW f (m * q) w = w
 | 0 => rfl
 | q + 1 => by rw [Nat.mul_add, Nat.mul_one, iterW_add, iterW_turns f h q, h]
theorem iterW_mod (f : Wd -> Wd) {m : Nat} {w : Wd} (h : iterW f m w = w) (n : Nat) : iterW f (n % m) w = iterW f n w := by
 conv => rhs; rw [<- Nat.div_add_mod n m, iterW_add, iterW_turns f h]
end Go.Vi
