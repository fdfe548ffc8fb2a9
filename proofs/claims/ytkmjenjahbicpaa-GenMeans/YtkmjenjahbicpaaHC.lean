import Derived.Test.YtkmjenjahbicpaaZQ
import Derived.OwnWalk
set_option linter.unusedVariables false
set_option linter.unusedSimpArgs false
set_option maxHeartbeats 1000000
namespace Go.Proofs.Ytkmjenjahbicpaa.Ho
open Go.RowKit
structure Fm where
 s:Array UInt8
 most:Int
 n:Nat
def yV(op:Int):Fm:=
 if op=1 then⟨#[110],65,2⟩
 else if op=2 then⟨#[100],0,2⟩
 else if op=3 then⟨#[100,97],0,1⟩
 else if op=4 then⟨#[97,110],65,1⟩
 else if op=5 then⟨#[100,97,98,99],0,1⟩
 else if op=6 then⟨#[100,110],12,1⟩
 else if op=7 then⟨#[97,110],12,1⟩
 else if op=8 then⟨#[100,110],2048,1⟩
 else if op=9 then⟨#[97,110],2048,1⟩
 else if op=10 then⟨#[110],65,2⟩
 else if op=11 then⟨#[97,110],65,2⟩
 else if op=12 then⟨#[100,110],65,3⟩
 else if op=13 then⟨#[100,97,110],65,2⟩
 else if op=14 then⟨#[110],65,2⟩
 else if op=15 then⟨#[110],65,2⟩
 else if 16≤op∧op≤31 then⟨#[100,97,98],0,1⟩
 else if 32≤op∧op≤38 then⟨#[100,97],0,1⟩
 else if 48≤op∧op≤60 then⟨#[100,97,98,99],0,1⟩
 else if 64≤op∧op≤79 then⟨#[100,97],0,1⟩
 else if 80≤op∧op≤84 then⟨#[100,97,110],65,2⟩
 else if 88≤op∧op≤90 then⟨#[100,97,110],65,2⟩
 else if op=96 then⟨#[97,110],65,2⟩
 else if op=97 then⟨#[100],0,1⟩
 else⟨#[],0,0⟩
abbrev zAW(f:Fm):Value:=.tuple #[.string ⟨f.s⟩,.int .i64 f.most,.int .i64 f.n]
set_option maxRecDepth 100000
theorem zTq(w:World):Calls Try.prog 61 #[.int .i64 1] w fun e w'=>e=.returned (zAW ⟨#[110],65,2⟩)∧w=w':=by
 go_enter Try.func61,Try.ntmps61;go_wp2;go_ret3;exact⟨rfl,rfl⟩
theorem zTr(w:World):Calls Try.prog 61 #[.int .i64 2] w fun e w'=>e=.returned (zAW ⟨#[100],0,2⟩)∧w=w':=by
 go_enter Try.func61,Try.ntmps61;go_wp2;go_ret3;exact⟨rfl,rfl⟩
theorem zTs(w:World):Calls Try.prog 61 #[.int .i64 3] w fun e w'=>e=.returned (zAW ⟨#[100,97],0,1⟩)∧w=w':=by
 go_enter Try.func61,Try.ntmps61;go_wp2;go_ret3;exact⟨rfl,rfl⟩
theorem zTt(w:World):Calls Try.prog 61 #[.int .i64 4] w fun e w'=>e=.returned (zAW ⟨#[97,110],65,1⟩)∧w=w':=by
 go_enter Try.func61,Try.ntmps61;go_wp2;go_ret3;exact⟨rfl,rfl⟩
theorem zTu(w:World):Calls Try.prog 61 #[.int .i64 5] w fun e w'=>e=.returned (zAW ⟨#[100,97,98,99],0,1⟩)∧w=w':=by
 go_enter Try.func61,Try.ntmps61;go_wp2;go_ret3;exact⟨rfl,rfl⟩
theorem zTv(w:World):Calls Try.prog 61 #[.int .i64 6] w fun e w'=>e=.returned (zAW ⟨#[100,110],12,1⟩)∧w=w':=by
 go_enter Try.func61,Try.ntmps61;go_wp2;go_ret3;exact⟨rfl,rfl⟩
theorem zTw(w:World):Calls Try.prog 61 #[.int .i64 7] w fun e w'=>e=.returned (zAW ⟨#[97,110],12,1⟩)∧w=w':=by
 go_enter Try.func61,Try.ntmps61;go_wp2;go_ret3;exact⟨rfl,rfl⟩
theorem zTx(w:World):Calls Try.prog 61 #[.int .i64 8] w fun e w'=>e=.returned (zAW ⟨#[100,110],2048,1⟩)∧w=w':=by
 go_enter Try.func61,Try.ntmps61;go_wp2;go_ret3;exact⟨rfl,rfl⟩
theorem zTy(w:World):Calls Try.prog 61 #[.int .i64 9] w fun e w'=>e=.returned (zAW ⟨#[97,110],2048,1⟩)∧w=w':=by
 go_enter Try.func61,Try.ntmps61;go_wp2;go_ret3;exact⟨rfl,rfl⟩
theorem zTz(w:World):Calls Try.prog 61 #[.int .i64 10] w fun e w'=>e=.returned (zAW ⟨#[110],65,2⟩)∧w=w':=by
 go_enter Try.func61,Try.ntmps61;go_wp2;go_ret3;exact⟨rfl,rfl⟩
theorem zRF(w:World):Calls Try.prog 61 #[.int .i64 11] w fun e w'=>e=.returned (zAW ⟨#[97,110],65,2⟩)∧w=w':=by
 go_enter Try.func61,Try.ntmps61;go_wp2;go_ret3;exact⟨rfl,rfl⟩
theorem zRG(w:World):Calls Try.prog 61 #[.int .i64 12] w fun e w'=>e=.returned (zAW ⟨#[100,110],65,3⟩)∧w=w':=by
 go_enter Try.func61,Try.ntmps61;go_wp2;go_ret3;exact⟨rfl,rfl⟩
theorem zRH(w:World):Calls Try.prog 61 #[.int .i64 13] w fun e w'=>e=.returned (zAW ⟨#[100,97,110],65,2⟩)∧w=w':=by
 go_enter Try.func61,Try.ntmps61;go_wp2;go_ret3;exact⟨rfl,rfl⟩
theorem zRI(w:World):Calls Try.prog 61 #[.int .i64 14] w fun e w'=>e=.returned (zAW ⟨#[110],65,2⟩)∧w=w':=by
 go_enter Try.func61,Try.ntmps61;go_wp2;go_ret3;exact⟨rfl,rfl⟩
theorem zRJ(w:World):Calls Try.prog 61 #[.int .i64 15] w fun e w'=>e=.returned (zAW ⟨#[110],65,2⟩)∧w=w':=by
 go_enter Try.func61,Try.ntmps61;go_wp2;go_ret3;exact⟨rfl,rfl⟩
theorem zRK(op:Int)(h0:16≤op)(h1:op≤31)(w:World):Calls Try.prog 61 #[.int .i64 op] w fun e w'=>e=.returned (zAW ⟨#[100,97,98],0,1⟩)∧w=w':=by
 have q1:(op==1)=false:=by simp;omega
 have q10:(op==10)=false:=by simp;omega
 have q14:(op==14)=false:=by simp;omega
 have q15:(op==15)=false:=by simp;omega
 have q2:(op==2)=false:=by simp;omega
 have q3:(op==3)=false:=by simp;omega
 have q4:(op==4)=false:=by simp;omega
 have q5:(op==5)=false:=by simp;omega
 have q6:(op==6)=false:=by simp;omega
 have q7:(op==7)=false:=by simp;omega
 have q8:(op==8)=false:=by simp;omega
 have q9:(op==9)=false:=by simp;omega
 have q11:(op==11)=false:=by simp;omega
 have q96:(op==96)=false:=by simp;omega
 have q12:(op==12)=false:=by simp;omega
 have q13:(op==13)=false:=by simp;omega
 have q97:(op==97)=false:=by simp;omega
 have g48:¬48≤op:=aO
 have g16:16≤op:=aO
 have g32:¬32≤op:=aO
 have g64:¬64≤op:=aO
 have g80:¬80≤op:=aO
 have g88:¬88≤op:=aO
 have l60:op≤60:=aO
 have l31:op≤31:=aO
 have l38:op≤38:=aO
 have l79:op≤79:=aO
 have l84:op≤84:=aO
 have l90:op≤90:=aO
 go_enter Try.func61,Try.ntmps61;go_wp2;go_ret3;exact⟨rfl,rfl⟩
theorem zRL(op:Int)(h0:32≤op)(h1:op≤38)(w:World):Calls Try.prog 61 #[.int .i64 op] w fun e w'=>e=.returned (zAW ⟨#[100,97],0,1⟩)∧w=w':=by
 have q1:(op==1)=false:=by simp;omega
 have q10:(op==10)=false:=by simp;omega
 have q14:(op==14)=false:=by simp;omega
 have q15:(op==15)=false:=by simp;omega
 have q2:(op==2)=false:=by simp;omega
 have q3:(op==3)=false:=by simp;omega
 have q4:(op==4)=false:=by simp;omega
 have q5:(op==5)=false:=by simp;omega
 have q6:(op==6)=false:=by simp;omega
 have q7:(op==7)=false:=by simp;omega
 have q8:(op==8)=false:=by simp;omega
 have q9:(op==9)=false:=by simp;omega
 have q11:(op==11)=false:=by simp;omega
 have q96:(op==96)=false:=by simp;omega
 have q12:(op==12)=false:=by simp;omega
 have q13:(op==13)=false:=by simp;omega
 have q97:(op==97)=false:=by simp;omega
 have g48:¬48≤op:=aO
 have g16:16≤op:=aO
 have g32:32≤op:=aO
 have g64:¬64≤op:=aO
 have g80:¬80≤op:=aO
 have g88:¬88≤op:=aO
 have l60:op≤60:=aO
 have l31:¬op≤31:=aO
 have l38:op≤38:=aO
 have l79:op≤79:=aO
 have l84:op≤84:=aO
 have l90:op≤90:=aO
 go_enter Try.func61,Try.ntmps61;go_wp2;go_ret3;exact⟨rfl,rfl⟩
theorem zRM(op:Int)(h0:48≤op)(h1:op≤60)(w:World):Calls Try.prog 61 #[.int .i64 op] w fun e w'=>e=.returned (zAW ⟨#[100,97,98,99],0,1⟩)∧w=w':=by
 have q1:(op==1)=false:=by simp;omega
 have q10:(op==10)=false:=by simp;omega
 have q14:(op==14)=false:=by simp;omega
 have q15:(op==15)=false:=by simp;omega
 have q2:(op==2)=false:=by simp;omega
 have q3:(op==3)=false:=by simp;omega
 have q4:(op==4)=false:=by simp;omega
 have q5:(op==5)=false:=by simp;omega
 have q6:(op==6)=false:=by simp;omega
 have q7:(op==7)=false:=by simp;omega
 have q8:(op==8)=false:=by simp;omega
 have q9:(op==9)=false:=by simp;omega
 have q11:(op==11)=false:=by simp;omega
 have q96:(op==96)=false:=by simp;omega
 have q12:(op==12)=false:=by simp;omega
 have q13:(op==13)=false:=by simp;omega
 have q97:(op==97)=false:=by simp;omega
 have g48:48≤op:=aO
 have g16:16≤op:=aO
 have g32:32≤op:=aO
 have g64:¬64≤op:=aO
 have g80:¬80≤op:=aO
 have g88:¬88≤op:=aO
 have l60:op≤60:=aO
 have l31:¬op≤31:=aO
 have l38:¬op≤38:=aO
 have l79:op≤79:=aO
 have l84:op≤84:=aO
 have l90:op≤90:=aO
 go_enter Try.func61,Try.ntmps61;go_wp2;go_ret3;exact⟨rfl,rfl⟩
theorem zRN(op:Int)(h0:64≤op)(h1:op≤79)(w:World):Calls Try.prog 61 #[.int .i64 op] w fun e w'=>e=.returned (zAW ⟨#[100,97],0,1⟩)∧w=w':=by
 have q1:(op==1)=false:=by simp;omega
 have q10:(op==10)=false:=by simp;omega
 have q14:(op==14)=false:=by simp;omega
 have q15:(op==15)=false:=by simp;omega
 have q2:(op==2)=false:=by simp;omega
 have q3:(op==3)=false:=by simp;omega
 have q4:(op==4)=false:=by simp;omega
 have q5:(op==5)=false:=by simp;omega
 have q6:(op==6)=false:=by simp;omega
 have q7:(op==7)=false:=by simp;omega
 have q8:(op==8)=false:=by simp;omega
 have q9:(op==9)=false:=by simp;omega
 have q11:(op==11)=false:=by simp;omega
 have q96:(op==96)=false:=by simp;omega
 have q12:(op==12)=false:=by simp;omega
 have q13:(op==13)=false:=by simp;omega
 have q97:(op==97)=false:=by simp;omega
 have g48:48≤op:=aO
 have g16:16≤op:=aO
 have g32:32≤op:=aO
 have g64:64≤op:=aO
 have g80:¬80≤op:=aO
 have g88:¬88≤op:=aO
 have l60:¬op≤60:=aO
 have l31:¬op≤31:=aO
 have l38:¬op≤38:=aO
 have l79:op≤79:=aO
 have l84:op≤84:=aO
 have l90:op≤90:=aO
 go_enter Try.func61,Try.ntmps61;go_wp2;go_ret3;exact⟨rfl,rfl⟩
theorem zRO(op:Int)(h0:80≤op)(h1:op≤84)(w:World):Calls Try.prog 61 #[.int .i64 op] w fun e w'=>e=.returned (zAW ⟨#[100,97,110],65,2⟩)∧w=w':=by
 have q1:(op==1)=false:=by simp;omega
 have q10:(op==10)=false:=by simp;omega
 have q14:(op==14)=false:=by simp;omega
 have q15:(op==15)=false:=by simp;omega
 have q2:(op==2)=false:=by simp;omega
 have q3:(op==3)=false:=by simp;omega
 have q4:(op==4)=false:=by simp;omega
 have q5:(op==5)=false:=by simp;omega
 have q6:(op==6)=false:=by simp;omega
 have q7:(op==7)=false:=by simp;omega
 have q8:(op==8)=false:=by simp;omega
 have q9:(op==9)=false:=by simp;omega
 have q11:(op==11)=false:=by simp;omega
 have q96:(op==96)=false:=by simp;omega
 have q12:(op==12)=false:=by simp;omega
 have q13:(op==13)=false:=by simp;omega
 have q97:(op==97)=false:=by simp;omega
 have g48:48≤op:=aO
 have g16:16≤op:=aO
 have g32:32≤op:=aO
 have g64:64≤op:=aO
 have g80:80≤op:=aO
 have g88:¬88≤op:=aO
 have l60:¬op≤60:=aO
 have l31:¬op≤31:=aO
 have l38:¬op≤38:=aO
 have l79:¬op≤79:=aO
 have l84:op≤84:=aO
 have l90:op≤90:=aO
 go_enter Try.func61,Try.ntmps61;go_wp2;go_ret3;exact⟨rfl,rfl⟩
theorem zRP(op:Int)(h0:88≤op)(h1:op≤90)(w:World):Calls Try.prog 61 #[.int .i64 op] w fun e w'=>e=.returned (zAW ⟨#[100,97,110],65,2⟩)∧w=w':=by
 have q1:(op==1)=false:=by simp;omega
 have q10:(op==10)=false:=by simp;omega
 have q14:(op==14)=false:=by simp;omega
 have q15:(op==15)=false:=by simp;omega
 have q2:(op==2)=false:=by simp;omega
 have q3:(op==3)=false:=by simp;omega
 have q4:(op==4)=false:=by simp;omega
 have q5:(op==5)=false:=by simp;omega
 have q6:(op==6)=false:=by simp;omega
 have q7:(op==7)=false:=by simp;omega
 have q8:(op==8)=false:=by simp;omega
 have q9:(op==9)=false:=by simp;omega
 have q11:(op==11)=false:=by simp;omega
 have q96:(op==96)=false:=by simp;omega
 have q12:(op==12)=false:=by simp;omega
 have q13:(op==13)=false:=by simp;omega
 have q97:(op==97)=false:=by simp;omega
 have g48:48≤op:=aO
 have g16:16≤op:=aO
 have g32:32≤op:=aO
 have g64:64≤op:=aO
 have g80:80≤op:=aO
 have g88:88≤op:=aO
 have l60:¬op≤60:=aO
 have l31:¬op≤31:=aO
 have l38:¬op≤38:=aO
 have l79:¬op≤79:=aO
 have l84:¬op≤84:=aO
 have l90:op≤90:=aO
 go_enter Try.func61,Try.ntmps61;go_wp2;go_ret3;exact⟨rfl,rfl⟩
theorem zRQ(w:World):Calls Try.prog 61 #[.int .i64 96] w fun e w'=>e=.returned (zAW ⟨#[97,110],65,2⟩)∧w=w':=by
 go_enter Try.func61,Try.ntmps61;go_wp2;go_ret3;exact⟨rfl,rfl⟩
theorem zRR(w:World):Calls Try.prog 61 #[.int .i64 97] w fun e w'=>e=.returned (zAW ⟨#[100],0,1⟩)∧w=w':=by
 go_enter Try.func61,Try.ntmps61;go_wp2;go_ret3;exact⟨rfl,rfl⟩
theorem zRS(op:Int)  (h1:op≤0)(w:World):Calls Try.prog 61 #[.int .i64 op] w fun e w'=>e=.returned (zAW ⟨#[],0,0⟩)∧w=w':=by
 have q1:(op==1)=false:=by simp;omega
 have q10:(op==10)=false:=by simp;omega
 have q14:(op==14)=false:=by simp;omega
 have q15:(op==15)=false:=by simp;omega
 have q2:(op==2)=false:=by simp;omega
 have q3:(op==3)=false:=by simp;omega
 have q4:(op==4)=false:=by simp;omega
 have q5:(op==5)=false:=by simp;omega
 have q6:(op==6)=false:=by simp;omega
 have q7:(op==7)=false:=by simp;omega
 have q8:(op==8)=false:=by simp;omega
 have q9:(op==9)=false:=by simp;omega
 have q11:(op==11)=false:=by simp;omega
 have q96:(op==96)=false:=by simp;omega
 have q12:(op==12)=false:=by simp;omega
 have q13:(op==13)=false:=by simp;omega
 have q97:(op==97)=false:=by simp;omega
 have g48:¬48≤op:=aO
 have g16:¬16≤op:=aO
 have g32:¬32≤op:=aO
 have g64:¬64≤op:=aO
 have g80:¬80≤op:=aO
 have g88:¬88≤op:=aO
 have l60:op≤60:=aO
 have l31:op≤31:=aO
 have l38:op≤38:=aO
 have l79:op≤79:=aO
 have l84:op≤84:=aO
 have l90:op≤90:=aO
 clear h1
 go_enter Try.func61,Try.ntmps61;go_wp2;go_ret3;exact⟨rfl,rfl⟩
theorem zRT(op:Int)(h0:39≤op)(h1:op≤47)(w:World):Calls Try.prog 61 #[.int .i64 op] w fun e w'=>e=.returned (zAW ⟨#[],0,0⟩)∧w=w':=by
 have q1:(op==1)=false:=by simp;omega
 have q10:(op==10)=false:=by simp;omega
 have q14:(op==14)=false:=by simp;omega
 have q15:(op==15)=false:=by simp;omega
 have q2:(op==2)=false:=by simp;omega
 have q3:(op==3)=false:=by simp;omega
 have q4:(op==4)=false:=by simp;omega
 have q5:(op==5)=false:=by simp;omega
 have q6:(op==6)=false:=by simp;omega
 have q7:(op==7)=false:=by simp;omega
 have q8:(op==8)=false:=by simp;omega
 have q9:(op==9)=false:=by simp;omega
 have q11:(op==11)=false:=by simp;omega
 have q96:(op==96)=false:=by simp;omega
 have q12:(op==12)=false:=by simp;omega
 have q13:(op==13)=false:=by simp;omega
 have q97:(op==97)=false:=by simp;omega
 have g48:¬48≤op:=aO
 have g16:16≤op:=aO
 have g32:32≤op:=aO
 have g64:¬64≤op:=aO
 have g80:¬80≤op:=aO
 have g88:¬88≤op:=aO
 have l60:op≤60:=aO
 have l31:¬op≤31:=aO
 have l38:¬op≤38:=aO
 have l79:op≤79:=aO
 have l84:op≤84:=aO
 have l90:op≤90:=aO
 clear h0
 clear h1
 go_enter Try.func61,Try.ntmps61;go_wp2;go_ret3;exact⟨rfl,rfl⟩
theorem zRU(op:Int)(h0:61≤op)(h1:op≤63)(w:World):Calls Try.prog 61 #[.int .i64 op] w fun e w'=>e=.returned (zAW ⟨#[],0,0⟩)∧w=w':=by
 have q1:(op==1)=false:=by simp;omega
 have q10:(op==10)=false:=by simp;omega
 have q14:(op==14)=false:=by simp;omega
 have q15:(op==15)=false:=by simp;omega
 have q2:(op==2)=false:=by simp;omega
 have q3:(op==3)=false:=by simp;omega
 have q4:(op==4)=false:=by simp;omega
 have q5:(op==5)=false:=by simp;omega
 have q6:(op==6)=false:=by simp;omega
 have q7:(op==7)=false:=by simp;omega
 have q8:(op==8)=false:=by simp;omega
 have q9:(op==9)=false:=by simp;omega
 have q11:(op==11)=false:=by simp;omega
 have q96:(op==96)=false:=by simp;omega
 have q12:(op==12)=false:=by simp;omega
 have q13:(op==13)=false:=by simp;omega
 have q97:(op==97)=false:=by simp;omega
 have g48:48≤op:=aO
 have g16:16≤op:=aO
 have g32:32≤op:=aO
 have g64:¬64≤op:=aO
 have g80:¬80≤op:=aO
 have g88:¬88≤op:=aO
 have l60:¬op≤60:=aO
 have l31:¬op≤31:=aO
 have l38:¬op≤38:=aO
 have l79:op≤79:=aO
 have l84:op≤84:=aO
 have l90:op≤90:=aO
 clear h0
 clear h1
 go_enter Try.func61,Try.ntmps61;go_wp2;go_ret3;exact⟨rfl,rfl⟩
theorem zRV(op:Int)(h0:85≤op)(h1:op≤87)(w:World):Calls Try.prog 61 #[.int .i64 op] w fun e w'=>e=.returned (zAW ⟨#[],0,0⟩)∧w=w':=by
 have q1:(op==1)=false:=by simp;omega
 have q10:(op==10)=false:=by simp;omega
 have q14:(op==14)=false:=by simp;omega
 have q15:(op==15)=false:=by simp;omega
 have q2:(op==2)=false:=by simp;omega
 have q3:(op==3)=false:=by simp;omega
 have q4:(op==4)=false:=by simp;omega
 have q5:(op==5)=false:=by simp;omega
 have q6:(op==6)=false:=by simp;omega
 have q7:(op==7)=false:=by simp;omega
 have q8:(op==8)=false:=by simp;omega
 have q9:(op==9)=false:=by simp;omega
 have q11:(op==11)=false:=by simp;omega
 have q96:(op==96)=false:=by simp;omega
 have q12:(op==12)=false:=by simp;omega
 have q13:(op==13)=false:=by simp;omega
 have q97:(op==97)=false:=by simp;omega
 have g48:48≤op:=aO
 have g16:16≤op:=aO
 have g32:32≤op:=aO
 have g64:64≤op:=aO
 have g80:80≤op:=aO
 have g88:¬88≤op:=aO
 have l60:¬op≤60:=aO
 have l31:¬op≤31:=aO
 have l38:¬op≤38:=aO
 have l79:¬op≤79:=aO
 have l84:¬op≤84:=aO
 have l90:op≤90:=aO
 clear h0
 clear h1
 go_enter Try.func61,Try.ntmps61;go_wp2;go_ret3;exact⟨rfl,rfl⟩
theorem zRW(op:Int)(h0:91≤op)(h1:op≤95)(w:World):Calls Try.prog 61 #[.int .i64 op] w fun e w'=>e=.returned (zAW ⟨#[],0,0⟩)∧w=w':=by
 have q1:(op==1)=false:=by simp;omega
 have q10:(op==10)=false:=by simp;omega
 have q14:(op==14)=false:=by simp;omega
 have q15:(op==15)=false:=by simp;omega
 have q2:(op==2)=false:=by simp;omega
 have q3:(op==3)=false:=by simp;omega
 have q4:(op==4)=false:=by simp;omega
 have q5:(op==5)=false:=by simp;omega
 have q6:(op==6)=false:=by simp;omega
 have q7:(op==7)=false:=by simp;omega
 have q8:(op==8)=false:=by simp;omega
 have q9:(op==9)=false:=by simp;omega
 have q11:(op==11)=false:=by simp;omega
 have q96:(op==96)=false:=by simp;omega
 have q12:(op==12)=false:=by simp;omega
 have q13:(op==13)=false:=by simp;omega
 have q97:(op==97)=false:=by simp;omega
 have g48:48≤op:=aO
 have g16:16≤op:=aO
 have g32:32≤op:=aO
 have g64:64≤op:=aO
 have g80:80≤op:=aO
 have g88:88≤op:=aO
 have l60:¬op≤60:=aO
 have l31:¬op≤31:=aO
 have l38:¬op≤38:=aO
 have l79:¬op≤79:=aO
 have l84:¬op≤84:=aO
 have l90:¬op≤90:=aO
 clear h0
 clear h1
 go_enter Try.func61,Try.ntmps61;go_wp2;go_ret3;exact⟨rfl,rfl⟩
theorem zRX(op:Int)(h0:98≤op)  (w:World):Calls Try.prog 61 #[.int .i64 op] w fun e w'=>e=.returned (zAW ⟨#[],0,0⟩)∧w=w':=by
 have q1:(op==1)=false:=by simp;omega
 have q10:(op==10)=false:=by simp;omega
 have q14:(op==14)=false:=by simp;omega
 have q15:(op==15)=false:=by simp;omega
 have q2:(op==2)=false:=by simp;omega
 have q3:(op==3)=false:=by simp;omega
 have q4:(op==4)=false:=by simp;omega
 have q5:(op==5)=false:=by simp;omega
 have q6:(op==6)=false:=by simp;omega
 have q7:(op==7)=false:=by simp;omega
 have q8:(op==8)=false:=by simp;omega
 have q9:(op==9)=false:=by simp;omega
 have q11:(op==11)=false:=by simp;omega
 have q96:(op==96)=false:=by simp;omega
 have q12:(op==12)=false:=by simp;omega
 have q13:(op==13)=false:=by simp;omega
 have q97:(op==97)=false:=by simp;omega
 have g48:48≤op:=aO
 have g16:16≤op:=aO
 have g32:32≤op:=aO
 have g64:64≤op:=aO
 have g80:80≤op:=aO
 have g88:88≤op:=aO
 have l60:¬op≤60:=aO
 have l31:¬op≤31:=aO
 have l38:¬op≤38:=aO
 have l79:¬op≤79:=aO
 have l84:¬op≤84:=aO
 have l90:¬op≤90:=aO
 clear h0
 go_enter Try.func61,Try.ntmps61;go_wp2;go_ret3;exact⟨rfl,rfl⟩
theorem yJ(op:Int)(w:World):Calls Try.prog 61 #[.int .i64 op] w fun e w'=>e=.returned (zAW (yV op))∧w=w':=by
 rcases(by omega:op≤0∨op=1∨op=2∨op=3∨op=4∨op=5∨op=6∨op=7∨op=8∨op=9∨op=10∨op=11∨op=12∨op=13∨op=14∨op=15∨(16≤op∧op≤31)∨(32≤op∧op≤38)∨(39≤op∧op≤47)∨(48≤op∧op≤60)∨(61≤op∧op≤63)∨(64≤op∧op≤79)∨(80≤op∧op≤84)∨(85≤op∧op≤87)∨(88≤op∧op≤90)∨(91≤op∧op≤95)∨op=96∨op=97∨98≤op) with h|rfl|rfl|rfl|rfl|rfl|rfl|rfl|rfl|rfl|rfl|rfl|rfl|rfl|rfl|rfl|⟨h,h1⟩|⟨h,h1⟩|⟨h,h1⟩|⟨h,h1⟩|⟨h,h1⟩|⟨h,h1⟩|⟨h,h1⟩|⟨h,h1⟩|⟨h,h1⟩|⟨h,h1⟩|rfl|rfl|h
 ·rw[show yV op=⟨#[],0,0⟩ from by unfold yV;repeat(first|rw[if_pos aO]|rw[if_neg aO])];exact zRS op h w
 ·exact zTq w
 ·exact zTr w
 ·exact zTs w
 ·exact zTt w
 ·exact zTu w
 ·exact zTv w
 ·exact zTw w
 ·exact zTx w
 ·exact zTy w
 ·exact zTz w
 ·exact zRF w
 ·exact zRG w
 ·exact zRH w
 ·exact zRI w
 ·exact zRJ w
 ·rw[show yV op=⟨#[100,97,98],0,1⟩ from by unfold yV;repeat(first|rw[if_pos aO]|rw[if_neg aO])];exact zRK op h h1 w
 ·rw[show yV op=⟨#[100,97],0,1⟩ from by unfold yV;repeat(first|rw[if_pos aO]|rw[if_neg aO])];exact zRL op h h1 w
 ·rw[show yV op=⟨#[],0,0⟩ from by unfold yV;repeat(first|rw[if_pos aO]|rw[if_neg aO])];exact zRT op h h1 w
 ·rw[show yV op=⟨#[100,97,98,99],0,1⟩ from by unfold yV;repeat(first|rw[if_pos aO]|rw[if_neg aO])];exact zRM op h h1 w
 ·rw[show yV op=⟨#[],0,0⟩ from by unfold yV;repeat(first|rw[if_pos aO]|rw[if_neg aO])];exact zRU op h h1 w
 ·rw[show yV op=⟨#[100,97],0,1⟩ from by unfold yV;repeat(first|rw[if_pos aO]|rw[if_neg aO])];exact zRN op h h1 w
 ·rw[show yV op=⟨#[100,97,110],65,2⟩ from by unfold yV;repeat(first|rw[if_pos aO]|rw[if_neg aO])];exact zRO op h h1 w
 ·rw[show yV op=⟨#[],0,0⟩ from by unfold yV;repeat(first|rw[if_pos aO]|rw[if_neg aO])];exact zRV op h h1 w
 ·rw[show yV op=⟨#[100,97,110],65,2⟩ from by unfold yV;repeat(first|rw[if_pos aO]|rw[if_neg aO])];exact zRP op h h1 w
 ·rw[show yV op=⟨#[],0,0⟩ from by unfold yV;repeat(first|rw[if_pos aO]|rw[if_neg aO])];exact zRW op h h1 w
 ·exact zRQ w
 ·exact zRR w
 ·rw[show yV op=⟨#[],0,0⟩ from by unfold yV;repeat(first|rw[if_pos aO]|rw[if_neg aO])];exact zRX op h w
end Go.Proofs.Ytkmjenjahbicpaa.Ho
