import Derived.Test.YthcpipfmicbnmaaGreatZQ
import Derived.OwnWalk
import Derived.Below
import Derived.Deep.RegionHeld3
import Derived.Deep.CutBlock
set_option linter.unusedVariables false
set_option linter.unusedSimpArgs false
set_option maxHeartbeats 1000000
namespace Go.Proofs.YthcpipfmicbnmaaGreat.Ho
open Go.RowKit
structure Fm where
 s:Array UInt8
 most:Int
 n:Nat
def yQ(op:Int):Fm:=
 if op=1 then⟨#[110],65,2⟩
 else if op=2 then⟨#[100],0,2⟩
 else if op=3 then⟨#[100,97],0,1⟩
 else if op=4 then⟨#[97,110],65,1⟩
 else if op=5 then⟨#[100,97,98,99],0,1⟩
 else if op=6 then⟨#[100,110],12,1⟩
 else if op=7 then⟨#[97,110],12,1⟩
 else if op=8 then⟨#[100,110],2048,1⟩
 else if op=9 then⟨#[97,110],2048,1⟩
 else if op=10 then⟨#[110],65,2⟩
 else if op=11 then⟨#[97,110],65,2⟩
 else if op=12 then⟨#[100,110],65,3⟩
 else if op=13 then⟨#[100,97,110],65,2⟩
 else if op=14 then⟨#[110],65,2⟩
 else if op=15 then⟨#[110],65,2⟩
 else if 16≤op∧op≤31 then⟨#[100,97,98],0,1⟩
 else if 32≤op∧op≤38 then⟨#[100,97],0,1⟩
 else if 48≤op∧op≤60 then⟨#[100,97,98,99],0,1⟩
 else if 64≤op∧op≤79 then⟨#[100,97],0,1⟩
 else if 80≤op∧op≤84 then⟨#[100,97,110],65,2⟩
 else if 88≤op∧op≤90 then⟨#[100,97,110],65,2⟩
 else if op=96 then⟨#[97,110],65,2⟩
 else if op=97 then⟨#[100],0,1⟩
 else⟨#[],0,0⟩
abbrev zAk(f:Fm):Value:=.tuple #[.string ⟨f.s⟩,.int .i64 f.most,.int .i64 f.n]
set_option maxRecDepth 100000
theorem zPW(w:World):Calls Tryz.prog 35 #[.int .i64 1] w fun e w'=>e=.returned (zAk ⟨#[110],65,2⟩)∧w=w':=by
 go_enter Tryz.func35,Tryz.ntmps35;go_wp2;go_ret3;exact⟨rfl,rfl⟩
theorem zPX(w:World):Calls Tryz.prog 35 #[.int .i64 2] w fun e w'=>e=.returned (zAk ⟨#[100],0,2⟩)∧w=w':=by
 go_enter Tryz.func35,Tryz.ntmps35;go_wp2;go_ret3;exact⟨rfl,rfl⟩
theorem zPY(w:World):Calls Tryz.prog 35 #[.int .i64 3] w fun e w'=>e=.returned (zAk ⟨#[100,97],0,1⟩)∧w=w':=by
 go_enter Tryz.func35,Tryz.ntmps35;go_wp2;go_ret3;exact⟨rfl,rfl⟩
theorem zPZ(w:World):Calls Tryz.prog 35 #[.int .i64 4] w fun e w'=>e=.returned (zAk ⟨#[97,110],65,1⟩)∧w=w':=by
 go_enter Tryz.func35,Tryz.ntmps35;go_wp2;go_ret3;exact⟨rfl,rfl⟩
theorem zP0(w:World):Calls Tryz.prog 35 #[.int .i64 5] w fun e w'=>e=.returned (zAk ⟨#[100,97,98,99],0,1⟩)∧w=w':=by
 go_enter Tryz.func35,Tryz.ntmps35;go_wp2;go_ret3;exact⟨rfl,rfl⟩
theorem zP1(w:World):Calls Tryz.prog 35 #[.int .i64 6] w fun e w'=>e=.returned (zAk ⟨#[100,110],12,1⟩)∧w=w':=by
 go_enter Tryz.func35,Tryz.ntmps35;go_wp2;go_ret3;exact⟨rfl,rfl⟩
theorem zP2(w:World):Calls Tryz.prog 35 #[.int .i64 7] w fun e w'=>e=.returned (zAk ⟨#[97,110],12,1⟩)∧w=w':=by
 go_enter Tryz.func35,Tryz.ntmps35;go_wp2;go_ret3;exact⟨rfl,rfl⟩
theorem zP3(w:World):Calls Tryz.prog 35 #[.int .i64 8] w fun e w'=>e=.returned (zAk ⟨#[100,110],2048,1⟩)∧w=w':=by
 go_enter Tryz.func35,Tryz.ntmps35;go_wp2;go_ret3;exact⟨rfl,rfl⟩
theorem zP4(w:World):Calls Tryz.prog 35 #[.int .i64 9] w fun e w'=>e=.returned (zAk ⟨#[97,110],2048,1⟩)∧w=w':=by
 go_enter Tryz.func35,Tryz.ntmps35;go_wp2;go_ret3;exact⟨rfl,rfl⟩
theorem zP5(w:World):Calls Tryz.prog 35 #[.int .i64 10] w fun e w'=>e=.returned (zAk ⟨#[110],65,2⟩)∧w=w':=by
 go_enter Tryz.func35,Tryz.ntmps35;go_wp2;go_ret3;exact⟨rfl,rfl⟩
theorem zOa(w:World):Calls Tryz.prog 35 #[.int .i64 11] w fun e w'=>e=.returned (zAk ⟨#[97,110],65,2⟩)∧w=w':=by
 go_enter Tryz.func35,Tryz.ntmps35;go_wp2;go_ret3;exact⟨rfl,rfl⟩
theorem zOb(w:World):Calls Tryz.prog 35 #[.int .i64 12] w fun e w'=>e=.returned (zAk ⟨#[100,110],65,3⟩)∧w=w':=by
 go_enter Tryz.func35,Tryz.ntmps35;go_wp2;go_ret3;exact⟨rfl,rfl⟩
theorem zOc(w:World):Calls Tryz.prog 35 #[.int .i64 13] w fun e w'=>e=.returned (zAk ⟨#[100,97,110],65,2⟩)∧w=w':=by
 go_enter Tryz.func35,Tryz.ntmps35;go_wp2;go_ret3;exact⟨rfl,rfl⟩
theorem zOd(w:World):Calls Tryz.prog 35 #[.int .i64 14] w fun e w'=>e=.returned (zAk ⟨#[110],65,2⟩)∧w=w':=by
 go_enter Tryz.func35,Tryz.ntmps35;go_wp2;go_ret3;exact⟨rfl,rfl⟩
theorem zOe(w:World):Calls Tryz.prog 35 #[.int .i64 15] w fun e w'=>e=.returned (zAk ⟨#[110],65,2⟩)∧w=w':=by
 go_enter Tryz.func35,Tryz.ntmps35;go_wp2;go_ret3;exact⟨rfl,rfl⟩
theorem zOf(op:Int)(h0:16≤op)(h1:op≤31)(w:World):Calls Tryz.prog 35 #[.int .i64 op] w fun e w'=>e=.returned (zAk ⟨#[100,97,98],0,1⟩)∧w=w':=by
 have q1:(op==1)=false:=by simp;omega
 have q10:(op==10)=false:=by simp;omega
 have q14:(op==14)=false:=by simp;omega
 have q15:(op==15)=false:=by simp;omega
 have q2:(op==2)=false:=by simp;omega
 have q3:(op==3)=false:=by simp;omega
 have q4:(op==4)=false:=by simp;omega
 have q5:(op==5)=false:=by simp;omega
 have q6:(op==6)=false:=by simp;omega
 have q7:(op==7)=false:=by simp;omega
 have q8:(op==8)=false:=by simp;omega
 have q9:(op==9)=false:=by simp;omega
 have q11:(op==11)=false:=by simp;omega
 have q96:(op==96)=false:=by simp;omega
 have q12:(op==12)=false:=by simp;omega
 have q13:(op==13)=false:=by simp;omega
 have q97:(op==97)=false:=by simp;omega
 have g48:¬48≤op:=aO
 have g16:16≤op:=aO
 have g32:¬32≤op:=aO
 have g64:¬64≤op:=aO
 have g80:¬80≤op:=aO
 have g88:¬88≤op:=aO
 have l60:op≤60:=aO
 have l31:op≤31:=aO
 have l38:op≤38:=aO
 have l79:op≤79:=aO
 have l84:op≤84:=aO
 have l90:op≤90:=aO
 go_enter Tryz.func35,Tryz.ntmps35;go_wp2;go_ret3;exact⟨rfl,rfl⟩
theorem zOg(op:Int)(h0:32≤op)(h1:op≤38)(w:World):Calls Tryz.prog 35 #[.int .i64 op] w fun e w'=>e=.returned (zAk ⟨#[100,97],0,1⟩)∧w=w':=by
 have q1:(op==1)=false:=by simp;omega
 have q10:(op==10)=false:=by simp;omega
 have q14:(op==14)=false:=by simp;omega
 have q15:(op==15)=false:=by simp;omega
 have q2:(op==2)=false:=by simp;omega
 have q3:(op==3)=false:=by simp;omega
 have q4:(op==4)=false:=by simp;omega
 have q5:(op==5)=false:=by simp;omega
 have q6:(op==6)=false:=by simp;omega
 have q7:(op==7)=false:=by simp;omega
 have q8:(op==8)=false:=by simp;omega
 have q9:(op==9)=false:=by simp;omega
 have q11:(op==11)=false:=by simp;omega
 have q96:(op==96)=false:=by simp;omega
 have q12:(op==12)=false:=by simp;omega
 have q13:(op==13)=false:=by simp;omega
 have q97:(op==97)=false:=by simp;omega
 have g48:¬48≤op:=aO
 have g16:16≤op:=aO
 have g32:32≤op:=aO
 have g64:¬64≤op:=aO
 have g80:¬80≤op:=aO
 have g88:¬88≤op:=aO
 have l60:op≤60:=aO
 have l31:¬op≤31:=aO
 have l38:op≤38:=aO
 have l79:op≤79:=aO
 have l84:op≤84:=aO
 have l90:op≤90:=aO
 go_enter Tryz.func35,Tryz.ntmps35;go_wp2;go_ret3;exact⟨rfl,rfl⟩
theorem zOh(op:Int)(h0:48≤op)(h1:op≤60)(w:World):Calls Tryz.prog 35 #[.int .i64 op] w fun e w'=>e=.returned (zAk ⟨#[100,97,98,99],0,1⟩)∧w=w':=by
 have q1:(op==1)=false:=by simp;omega
 have q10:(op==10)=false:=by simp;omega
 have q14:(op==14)=false:=by simp;omega
 have q15:(op==15)=false:=by simp;omega
 have q2:(op==2)=false:=by simp;omega
 have q3:(op==3)=false:=by simp;omega
 have q4:(op==4)=false:=by simp;omega
 have q5:(op==5)=false:=by simp;omega
 have q6:(op==6)=false:=by simp;omega
 have q7:(op==7)=false:=by simp;omega
 have q8:(op==8)=false:=by simp;omega
 have q9:(op==9)=false:=by simp;omega
 have q11:(op==11)=false:=by simp;omega
 have q96:(op==96)=false:=by simp;omega
 have q12:(op==12)=false:=by simp;omega
 have q13:(op==13)=false:=by simp;omega
 have q97:(op==97)=false:=by simp;omega
 have g48:48≤op:=aO
 have g16:16≤op:=aO
 have g32:32≤op:=aO
 have g64:¬64≤op:=aO
 have g80:¬80≤op:=aO
 have g88:¬88≤op:=aO
 have l60:op≤60:=aO
 have l31:¬op≤31:=aO
 have l38:¬op≤38:=aO
 have l79:op≤79:=aO
 have l84:op≤84:=aO
 have l90:op≤90:=aO
 go_enter Tryz.func35,Tryz.ntmps35;go_wp2;go_ret3;exact⟨rfl,rfl⟩
theorem zOi(op:Int)(h0:64≤op)(h1:op≤79)(w:World):Calls Tryz.prog 35 #[.int .i64 op] w fun e w'=>e=.returned (zAk ⟨#[100,97],0,1⟩)∧w=w':=by
 have q1:(op==1)=false:=by simp;omega
 have q10:(op==10)=false:=by simp;omega
 have q14:(op==14)=false:=by simp;omega
 have q15:(op==15)=false:=by simp;omega
 have q2:(op==2)=false:=by simp;omega
 have q3:(op==3)=false:=by simp;omega
 have q4:(op==4)=false:=by simp;omega
 have q5:(op==5)=false:=by simp;omega
 have q6:(op==6)=false:=by simp;omega
 have q7:(op==7)=false:=by simp;omega
 have q8:(op==8)=false:=by simp;omega
 have q9:(op==9)=false:=by simp;omega
 have q11:(op==11)=false:=by simp;omega
 have q96:(op==96)=false:=by simp;omega
 have q12:(op==12)=false:=by simp;omega
 have q13:(op==13)=false:=by simp;omega
 have q97:(op==97)=false:=by simp;omega
 have g48:48≤op:=aO
 have g16:16≤op:=aO
 have g32:32≤op:=aO
 have g64:64≤op:=aO
 have g80:¬80≤op:=aO
 have g88:¬88≤op:=aO
 have l60:¬op≤60:=aO
 have l31:¬op≤31:=aO
 have l38:¬op≤38:=aO
 have l79:op≤79:=aO
 have l84:op≤84:=aO
 have l90:op≤90:=aO
 go_enter Tryz.func35,Tryz.ntmps35;go_wp2;go_ret3;exact⟨rfl,rfl⟩
theorem zOj(op:Int)(h0:80≤op)(h1:op≤84)(w:World):Calls Tryz.prog 35 #[.int .i64 op] w fun e w'=>e=.returned (zAk ⟨#[100,97,110],65,2⟩)∧w=w':=by
 have q1:(op==1)=false:=by simp;omega
 have q10:(op==10)=false:=by simp;omega
 have q14:(op==14)=false:=by simp;omega
 have q15:(op==15)=false:=by simp;omega
 have q2:(op==2)=false:=by simp;omega
 have q3:(op==3)=false:=by simp;omega
 have q4:(op==4)=false:=by simp;omega
 have q5:(op==5)=false:=by simp;omega
 have q6:(op==6)=false:=by simp;omega
 have q7:(op==7)=false:=by simp;omega
 have q8:(op==8)=false:=by simp;omega
 have q9:(op==9)=false:=by simp;omega
 have q11:(op==11)=false:=by simp;omega
 have q96:(op==96)=false:=by simp;omega
 have q12:(op==12)=false:=by simp;omega
 have q13:(op==13)=false:=by simp;omega
 have q97:(op==97)=false:=by simp;omega
 have g48:48≤op:=aO
 have g16:16≤op:=aO
 have g32:32≤op:=aO
 have g64:64≤op:=aO
 have g80:80≤op:=aO
 have g88:¬88≤op:=aO
 have l60:¬op≤60:=aO
 have l31:¬op≤31:=aO
 have l38:¬op≤38:=aO
 have l79:¬op≤79:=aO
 have l84:op≤84:=aO
 have l90:op≤90:=aO
 go_enter Tryz.func35,Tryz.ntmps35;go_wp2;go_ret3;exact⟨rfl,rfl⟩
theorem zOk(op:Int)(h0:88≤op)(h1:op≤90)(w:World):Calls Tryz.prog 35 #[.int .i64 op] w fun e w'=>e=.returned (zAk ⟨#[100,97,110],65,2⟩)∧w=w':=by
 have q1:(op==1)=false:=by simp;omega
 have q10:(op==10)=false:=by simp;omega
 have q14:(op==14)=false:=by simp;omega
 have q15:(op==15)=false:=by simp;omega
 have q2:(op==2)=false:=by simp;omega
 have q3:(op==3)=false:=by simp;omega
 have q4:(op==4)=false:=by simp;omega
 have q5:(op==5)=false:=by simp;omega
 have q6:(op==6)=false:=by simp;omega
 have q7:(op==7)=false:=by simp;omega
 have q8:(op==8)=false:=by simp;omega
 have q9:(op==9)=false:=by simp;omega
 have q11:(op==11)=false:=by simp;omega
 have q96:(op==96)=false:=by simp;omega
 have q12:(op==12)=false:=by simp;omega
 have q13:(op==13)=false:=by simp;omega
 have q97:(op==97)=false:=by simp;omega
 have g48:48≤op:=aO
 have g16:16≤op:=aO
 have g32:32≤op:=aO
 have g64:64≤op:=aO
 have g80:80≤op:=aO
 have g88:88≤op:=aO
 have l60:¬op≤60:=aO
 have l31:¬op≤31:=aO
 have l38:¬op≤38:=aO
 have l79:¬op≤79:=aO
 have l84:¬op≤84:=aO
 have l90:op≤90:=aO
 go_enter Tryz.func35,Tryz.ntmps35;go_wp2;go_ret3;exact⟨rfl,rfl⟩
theorem zOl(w:World):Calls Tryz.prog 35 #[.int .i64 96] w fun e w'=>e=.returned (zAk ⟨#[97,110],65,2⟩)∧w=w':=by
 go_enter Tryz.func35,Tryz.ntmps35;go_wp2;go_ret3;exact⟨rfl,rfl⟩
theorem zOm(w:World):Calls Tryz.prog 35 #[.int .i64 97] w fun e w'=>e=.returned (zAk ⟨#[100],0,1⟩)∧w=w':=by
 go_enter Tryz.func35,Tryz.ntmps35;go_wp2;go_ret3;exact⟨rfl,rfl⟩
theorem zOn(op:Int)  (h1:op≤0)(w:World):Calls Tryz.prog 35 #[.int .i64 op] w fun e w'=>e=.returned (zAk ⟨#[],0,0⟩)∧w=w':=by
 have q1:(op==1)=false:=by simp;omega
 have q10:(op==10)=false:=by simp;omega
 have q14:(op==14)=false:=by simp;omega
 have q15:(op==15)=false:=by simp;omega
 have q2:(op==2)=false:=by simp;omega
 have q3:(op==3)=false:=by simp;omega
 have q4:(op==4)=false:=by simp;omega
 have q5:(op==5)=false:=by simp;omega
 have q6:(op==6)=false:=by simp;omega
 have q7:(op==7)=false:=by simp;omega
 have q8:(op==8)=false:=by simp;omega
 have q9:(op==9)=false:=by simp;omega
 have q11:(op==11)=false:=by simp;omega
 have q96:(op==96)=false:=by simp;omega
 have q12:(op==12)=false:=by simp;omega
 have q13:(op==13)=false:=by simp;omega
 have q97:(op==97)=false:=by simp;omega
 have g48:¬48≤op:=aO
 have g16:¬16≤op:=aO
 have g32:¬32≤op:=aO
 have g64:¬64≤op:=aO
 have g80:¬80≤op:=aO
 have g88:¬88≤op:=aO
 have l60:op≤60:=aO
 have l31:op≤31:=aO
 have l38:op≤38:=aO
 have l79:op≤79:=aO
 have l84:op≤84:=aO
 have l90:op≤90:=aO
 clear h1
 go_enter Tryz.func35,Tryz.ntmps35;go_wp2;go_ret3;exact⟨rfl,rfl⟩
theorem zOo(op:Int)(h0:39≤op)(h1:op≤47)(w:World):Calls Tryz.prog 35 #[.int .i64 op] w fun e w'=>e=.returned (zAk ⟨#[],0,0⟩)∧w=w':=by
 have q1:(op==1)=false:=by simp;omega
 have q10:(op==10)=false:=by simp;omega
 have q14:(op==14)=false:=by simp;omega
 have q15:(op==15)=false:=by simp;omega
 have q2:(op==2)=false:=by simp;omega
 have q3:(op==3)=false:=by simp;omega
 have q4:(op==4)=false:=by simp;omega
 have q5:(op==5)=false:=by simp;omega
 have q6:(op==6)=false:=by simp;omega
 have q7:(op==7)=false:=by simp;omega
 have q8:(op==8)=false:=by simp;omega
 have q9:(op==9)=false:=by simp;omega
 have q11:(op==11)=false:=by simp;omega
 have q96:(op==96)=false:=by simp;omega
 have q12:(op==12)=false:=by simp;omega
 have q13:(op==13)=false:=by simp;omega
 have q97:(op==97)=false:=by simp;omega
 have g48:¬48≤op:=aO
 have g16:16≤op:=aO
 have g32:32≤op:=aO
 have g64:¬64≤op:=aO
 have g80:¬80≤op:=aO
 have g88:¬88≤op:=aO
 have l60:op≤60:=aO
 have l31:¬op≤31:=aO
 have l38:¬op≤38:=aO
 have l79:op≤79:=aO
 have l84:op≤84:=aO
 have l90:op≤90:=aO
 clear h0
 clear h1
 go_enter Tryz.func35,Tryz.ntmps35;go_wp2;go_ret3;exact⟨rfl,rfl⟩
theorem zOp(op:Int)(h0:61≤op)(h1:op≤63)(w:World):Calls Tryz.prog 35 #[.int .i64 op] w fun e w'=>e=.returned (zAk ⟨#[],0,0⟩)∧w=w':=by
 have q1:(op==1)=false:=by simp;omega
 have q10:(op==10)=false:=by simp;omega
 have q14:(op==14)=false:=by simp;omega
 have q15:(op==15)=false:=by simp;omega
 have q2:(op==2)=false:=by simp;omega
 have q3:(op==3)=false:=by simp;omega
 have q4:(op==4)=false:=by simp;omega
 have q5:(op==5)=false:=by simp;omega
 have q6:(op==6)=false:=by simp;omega
 have q7:(op==7)=false:=by simp;omega
 have q8:(op==8)=false:=by simp;omega
 have q9:(op==9)=false:=by simp;omega
 have q11:(op==11)=false:=by simp;omega
 have q96:(op==96)=false:=by simp;omega
 have q12:(op==12)=false:=by simp;omega
 have q13:(op==13)=false:=by simp;omega
 have q97:(op==97)=false:=by simp;omega
 have g48:48≤op:=aO
 have g16:16≤op:=aO
 have g32:32≤op:=aO
 have g64:¬64≤op:=aO
 have g80:¬80≤op:=aO
 have g88:¬88≤op:=aO
 have l60:¬op≤60:=aO
 have l31:¬op≤31:=aO
 have l38:¬op≤38:=aO
 have l79:op≤79:=aO
 have l84:op≤84:=aO
 have l90:op≤90:=aO
 clear h0
 clear h1
 go_enter Tryz.func35,Tryz.ntmps35;go_wp2;go_ret3;exact⟨rfl,rfl⟩
theorem zOq(op:Int)(h0:85≤op)(h1:op≤87)(w:World):Calls Tryz.prog 35 #[.int .i64 op] w fun e w'=>e=.returned (zAk ⟨#[],0,0⟩)∧w=w':=by
 have q1:(op==1)=false:=by simp;omega
 have q10:(op==10)=false:=by simp;omega
 have q14:(op==14)=false:=by simp;omega
 have q15:(op==15)=false:=by simp;omega
 have q2:(op==2)=false:=by simp;omega
 have q3:(op==3)=false:=by simp;omega
 have q4:(op==4)=false:=by simp;omega
 have q5:(op==5)=false:=by simp;omega
 have q6:(op==6)=false:=by simp;omega
 have q7:(op==7)=false:=by simp;omega
 have q8:(op==8)=false:=by simp;omega
 have q9:(op==9)=false:=by simp;omega
 have q11:(op==11)=false:=by simp;omega
 have q96:(op==96)=false:=by simp;omega
 have q12:(op==12)=false:=by simp;omega
 have q13:(op==13)=false:=by simp;omega
 have q97:(op==97)=false:=by simp;omega
 have g48:48≤op:=aO
 have g16:16≤op:=aO
 have g32:32≤op:=aO
 have g64:64≤op:=aO
 have g80:80≤op:=aO
 have g88:¬88≤op:=aO
 have l60:¬op≤60:=aO
 have l31:¬op≤31:=aO
 have l38:¬op≤38:=aO
 have l79:¬op≤79:=aO
 have l84:¬op≤84:=aO
 have l90:op≤90:=aO
 clear h0
 clear h1
 go_enter Tryz.func35,Tryz.ntmps35;go_wp2;go_ret3;exact⟨rfl,rfl⟩
theorem zOr(op:Int)(h0:91≤op)(h1:op≤95)(w:World):Calls Tryz.prog 35 #[.int .i64 op] w fun e w'=>e=.returned (zAk ⟨#[],0,0⟩)∧w=w':=by
 have q1:(op==1)=false:=by simp;omega
 have q10:(op==10)=false:=by simp;omega
 have q14:(op==14)=false:=by simp;omega
 have q15:(op==15)=false:=by simp;omega
 have q2:(op==2)=false:=by simp;omega
 have q3:(op==3)=false:=by simp;omega
 have q4:(op==4)=false:=by simp;omega
 have q5:(op==5)=false:=by simp;omega
 have q6:(op==6)=false:=by simp;omega
 have q7:(op==7)=false:=by simp;omega
 have q8:(op==8)=false:=by simp;omega
 have q9:(op==9)=false:=by simp;omega
 have q11:(op==11)=false:=by simp;omega
 have q96:(op==96)=false:=by simp;omega
 have q12:(op==12)=false:=by simp;omega
 have q13:(op==13)=false:=by simp;omega
 have q97:(op==97)=false:=by simp;omega
 have g48:48≤op:=aO
 have g16:16≤op:=aO
 have g32:32≤op:=aO
 have g64:64≤op:=aO
 have g80:80≤op:=aO
 have g88:88≤op:=aO
 have l60:¬op≤60:=aO
 have l31:¬op≤31:=aO
 have l38:¬op≤38:=aO
 have l79:¬op≤79:=aO
 have l84:¬op≤84:=aO
 have l90:¬op≤90:=aO
 clear h0
 clear h1
 go_enter Tryz.func35,Tryz.ntmps35;go_wp2;go_ret3;exact⟨rfl,rfl⟩
theorem zOs(op:Int)(h0:98≤op)  (w:World):Calls Tryz.prog 35 #[.int .i64 op] w fun e w'=>e=.returned (zAk ⟨#[],0,0⟩)∧w=w':=by
 have q1:(op==1)=false:=by simp;omega
 have q10:(op==10)=false:=by simp;omega
 have q14:(op==14)=false:=by simp;omega
 have q15:(op==15)=false:=by simp;omega
 have q2:(op==2)=false:=by simp;omega
 have q3:(op==3)=false:=by simp;omega
 have q4:(op==4)=false:=by simp;omega
 have q5:(op==5)=false:=by simp;omega
 have q6:(op==6)=false:=by simp;omega
 have q7:(op==7)=false:=by simp;omega
 have q8:(op==8)=false:=by simp;omega
 have q9:(op==9)=false:=by simp;omega
 have q11:(op==11)=false:=by simp;omega
 have q96:(op==96)=false:=by simp;omega
 have q12:(op==12)=false:=by simp;omega
 have q13:(op==13)=false:=by simp;omega
 have q97:(op==97)=false:=by simp;omega
 have g48:48≤op:=aO
 have g16:16≤op:=aO
 have g32:32≤op:=aO
 have g64:64≤op:=aO
 have g80:80≤op:=aO
 have g88:88≤op:=aO
 have l60:¬op≤60:=aO
 have l31:¬op≤31:=aO
 have l38:¬op≤38:=aO
 have l79:¬op≤79:=aO
 have l84:¬op≤84:=aO
 have l90:¬op≤90:=aO
 clear h0
 go_enter Tryz.func35,Tryz.ntmps35;go_wp2;go_ret3;exact⟨rfl,rfl⟩
theorem yH(op:Int)(w:World):Calls Tryz.prog 35 #[.int .i64 op] w fun e w'=>e=.returned (zAk (yQ op))∧w=w':=by
 rcases(by omega:op≤0∨op=1∨op=2∨op=3∨op=4∨op=5∨op=6∨op=7∨op=8∨op=9∨op=10∨op=11∨op=12∨op=13∨op=14∨op=15∨(16≤op∧op≤31)∨(32≤op∧op≤38)∨(39≤op∧op≤47)∨(48≤op∧op≤60)∨(61≤op∧op≤63)∨(64≤op∧op≤79)∨(80≤op∧op≤84)∨(85≤op∧op≤87)∨(88≤op∧op≤90)∨(91≤op∧op≤95)∨op=96∨op=97∨98≤op) with h|rfl|rfl|rfl|rfl|rfl|rfl|rfl|rfl|rfl|rfl|rfl|rfl|rfl|rfl|rfl|⟨h,h1⟩|⟨h,h1⟩|⟨h,h1⟩|⟨h,h1⟩|⟨h,h1⟩|⟨h,h1⟩|⟨h,h1⟩|⟨h,h1⟩|⟨h,h1⟩|⟨h,h1⟩|rfl|rfl|h
 ·rw[show yQ op=⟨#[],0,0⟩ from by unfold yQ;repeat(first|rw[if_pos aO]|rw[if_neg aO])];exact zOn op h w
 ·exact zPW w
 ·exact zPX w
 ·exact zPY w
 ·exact zPZ w
 ·exact zP0 w
 ·exact zP1 w
 ·exact zP2 w
 ·exact zP3 w
 ·exact zP4 w
 ·exact zP5 w
 ·exact zOa w
 ·exact zOb w
 ·exact zOc w
 ·exact zOd w
 ·exact zOe w
 ·rw[show yQ op=⟨#[100,97,98],0,1⟩ from by unfold yQ;repeat(first|rw[if_pos aO]|rw[if_neg aO])];exact zOf op h h1 w
 ·rw[show yQ op=⟨#[100,97],0,1⟩ from by unfold yQ;repeat(first|rw[if_pos aO]|rw[if_neg aO])];exact zOg op h h1 w
 ·rw[show yQ op=⟨#[],0,0⟩ from by unfold yQ;repeat(first|rw[if_pos aO]|rw[if_neg aO])];exact zOo op h h1 w
 ·rw[show yQ op=⟨#[100,97,98,99],0,1⟩ from by unfold yQ;repeat(first|rw[if_pos aO]|rw[if_neg aO])];exact zOh op h h1 w
 ·rw[show yQ op=⟨#[],0,0⟩ from by unfold yQ;repeat(first|rw[if_pos aO]|rw[if_neg aO])];exact zOp op h h1 w
 ·rw[show yQ op=⟨#[100,97],0,1⟩ from by unfold yQ;repeat(first|rw[if_pos aO]|rw[if_neg aO])];exact zOi op h h1 w
 ·rw[show yQ op=⟨#[100,97,110],65,2⟩ from by unfold yQ;repeat(first|rw[if_pos aO]|rw[if_neg aO])];exact zOj op h h1 w
 ·rw[show yQ op=⟨#[],0,0⟩ from by unfold yQ;repeat(first|rw[if_pos aO]|rw[if_neg aO])];exact zOq op h h1 w
 ·rw[show yQ op=⟨#[100,97,110],65,2⟩ from by unfold yQ;repeat(first|rw[if_pos aO]|rw[if_neg aO])];exact zOk op h h1 w
 ·rw[show yQ op=⟨#[],0,0⟩ from by unfold yQ;repeat(first|rw[if_pos aO]|rw[if_neg aO])];exact zOr op h h1 w
 ·exact zOl w
 ·exact zOm w
 ·rw[show yQ op=⟨#[],0,0⟩ from by unfold yQ;repeat(first|rw[if_pos aO]|rw[if_neg aO])];exact zOs op h w
theorem zA{w:World}{X:Nat}{A:Array Value}{T:TypeId}(h:w.heap[X]?=some (.cells A T))(o:Nat):w.cell? ⟨X,o,none⟩=A[o]?:=cell_of_row _ _ o _ _ (0,0) h
theorem zD{w:World}{X:Nat}{A:Array Value}{T:TypeId}(h:w.heap[X]?=some (.cells A T))(o:Nat):w.frozen? ⟨X,o,none⟩=false:=frozen_of_row _ _ o _ _ h
theorem zE{w:World}{X:Nat}{A:Array Value}{T:TypeId}(h:w.heap[X]?=some (.cells A T)):X < w.heap.size:=by
 rcases Nat.lt_or_ge X w.heap.size with g|g
 ·exact g
 ·rw[Array.getElem?_eq_none g] at h;cases h
theorem zZ{w:World}{X o:Nat}{A:Array Value}{T:TypeId}(h:w.heap[X]?=some (.cells A T))(v:Value):(w.setCell ⟨X,o,none⟩ v).heap[X]?=some (.cells (A.setIfInBounds o v) T):=heap_setCell_same w X o A T v h
theorem yP{w:World}{X Y o:Nat}(hne:Y≠X)(v:Value):(w.setCell ⟨X,o,none⟩ v).heap[Y]?=w.heap[Y]?:=Below.heap_setCell w ⟨X,o,none⟩ v Y hne
structure zI(S:List Nat)(w w':World):Prop where
 os:w'.os=w.os
 tape:w'.tape=w.tape
 output:w'.output=w.output
 size:w.heap.size≤w'.heap.size
 block:∀ k,k < w.heap.size→k∉S→w'.heap[k]?=w.heap[k]?
theorem zI.refl(S:List Nat)(w:World):zI S w w:=⟨rfl,rfl,rfl,Nat.le_refl _,fun _ _ _=>rfl⟩
theorem zI.trans{S:List Nat}{a b c:World}(h:zI S a b)(k:zI S b c):zI S a c:=
 ⟨k.os.trans h.os,k.tape.trans h.tape,k.output.trans h.output,Nat.le_trans h.size k.size,fun i hi hs=>(k.block i (Nat.lt_of_lt_of_le hi h.size) hs).trans (h.block i hi hs)⟩
theorem zI.mono{S S':List Nat}{w w':World}(h:zI S w w')(hs:∀ k∈S,k∈S'):zI S' w w':=
 ⟨h.os,h.tape,h.output,h.size,fun k hk hn=>h.block k hk (fun hm=>hn (hs k hm))⟩
theorem zI.of_below{w w':World}(S:List Nat)(h:Below w.heap.size w w'):zI S w w':=
 ⟨h.os,h.tape,h.output,h.size,fun k hk _=>h.block k hk⟩
theorem zI.below{S:List Nat}{w w':World}{n:Nat}(h:zI S w w')(hn:n≤w.heap.size)(hS:∀ k∈S,n≤k):Below n w w':=
 ⟨h.os,h.tape,h.output,h.size,fun k hk=>h.block k aO (fun hm=>by have:=hS k hm;omega)⟩
theorem zI.set{S:List Nat}{a b:World}(h:zI S a b){B:Nat}(hB:B∈S)(o:Nat)(v:Value):zI S a (b.setCell ⟨B,o,none⟩ v):=
 h.trans ⟨rfl,rfl,rfl,by simp,fun k _ hs=>Below.heap_setCell b ⟨B,o,none⟩ v k (fun e=>hs (e▸hB))⟩
theorem zI.drew{S:List Nat}{a b:World}(h:zI S a b):zI S a b.drew:=h.trans (zI.of_below _ aB.drew)
theorem zI.alloc{S:List Nat}{a b:World}(h:zI S a b)(o:Obj):zI S a (b.alloc o):=h.trans (zI.of_below _ (aB.alloc aL _))
theorem zI.keep{S:List Nat}{w w':World}(h:zI S w w'){k:Nat}{A:Array Value}{T:TypeId}(hb:w.heap[k]?=some (.cells A T))(hs:k∉S):w'.heap[k]?=some (.cells A T):=(h.block k (zE hb) hs).trans hb
theorem zC6(w:World):Calls Tryz.prog 43 #[.int .i64 8] w fun e w'=>e=.returned (.int .u32 255)∧w=w':=by
 go_enter Tryz.func43,Tryz.ntmps43;go_wp2;go_ret;exact⟨rfl,rfl⟩
theorem zC1(x:Nat)(hx:x < 4294967296):bits .and .u32 (x:Int) 255=((x%256:Nat):Int):=by
 rw[show(255:Int)=((255:Nat):Int) from rfl,Go.u32_and_nat _ _ hx aD]
 exact congrArg _ (Nat.and_two_pow_sub_one_eq_mod x 8)
theorem zGN(w:World):Calls Tryz.prog 43 #[.int .i64 4] w fun e w'=>e=.returned (.int .u32 15)∧w=w':=by
 go_enter Tryz.func43,Tryz.ntmps43;go_wp2;go_ret;exact⟨rfl,rfl⟩
theorem zGK(x:Nat)(hx:x < 4294967296):bits .and .u32 (x:Int) 15=((x%16:Nat):Int):=by
 rw[show(15:Int)=((15:Nat):Int) from rfl,Go.u32_and_nat _ _ hx aD]
 exact congrArg _ (Nat.and_two_pow_sub_one_eq_mod x 4)
theorem zNs(w:World):Calls Tryz.prog 43 #[.int .i64 16] w fun e w'=>e=.returned (.int .u32 65535)∧w=w':=by
 go_enter Tryz.func43,Tryz.ntmps43;go_wp2;go_ret;exact⟨rfl,rfl⟩
theorem zMZ(x:Nat)(hx:x < 4294967296):bits .and .u32 (x:Int) 65535=((x%65536:Nat):Int):=by
 rw[show(65535:Int)=((65535:Nat):Int) from rfl,Go.u32_and_nat _ _ hx aD]
 exact congrArg _ (Nat.and_two_pow_sub_one_eq_mod x 16)
theorem zDM:∀ (a b:Nat),a &&& b=0→a ||| b=a+b:=by
 intro a
 induction a using Nat.strongRecOn with
 | ind a ih=>
  intro b h
  by_cases h0:a=0
  ·subst h0;simp
  ·have hd:a / 2 &&& b / 2=0:=by rw[← Nat.and_div_two,h]
   have hr:=ih (a / 2) aO (b / 2) hd
   have hm:(a ||| b) / 2=a / 2 ||| b / 2:=Nat.or_div_two
   have h2:(a &&& b)%2=0:=by rw[h]
   have e:(a ||| b)%2=(a%2+b%2):=by
    have t0:(a &&& b).testBit 0=false:=by rw[h];simp
    have t1:(a ||| b).testBit 0=(a.testBit 0 || b.testBit 0):=Nat.testBit_or _ _ _
    rw[Nat.testBit_and] at t0
    simp only[Nat.testBit_zero] at t0 t1
    have:=Nat.mod_two_eq_zero_or_one (a ||| b)
    have:=Nat.mod_two_eq_zero_or_one a
    have:=Nat.mod_two_eq_zero_or_one b
    rcases Nat.mod_two_eq_zero_or_one a with ha|ha<;>rcases Nat.mod_two_eq_zero_or_one b with hb|hb<;>rcases Nat.mod_two_eq_zero_or_one (a ||| b) with hc|hc<;>rw[ha,hb] at t0 t1<;>rw[hc] at t1<;>first|(exact absurd t0 aD)|(exact absurd t1 aD)|omega
   omega
theorem zAu(a b:Nat)(ha:a < 4294967296)(h:a &&& b=b):a &&& (4294967295 - b)=a - b:=by
 have hb:b≤a:=by rw[← h];exact Nat.and_le_left
 have hx:a ^^^ b=a - b:=by
  have h2:(a ^^^ b) &&& b=0:=by
   apply Nat.eq_of_testBit_eq
   intro i
   have:=congrArg (fun n=>n.testBit i) h
   simp only[Nat.testBit_and] at this
   rw[Nat.testBit_and,Nat.testBit_xor,Nat.zero_testBit]
   revert this;cases a.testBit i<;>cases b.testBit i<;>simp
  have h3:=zDM (a ^^^ b) b h2
  have h4:(a ^^^ b) ||| b=a:=by
   apply Nat.eq_of_testBit_eq
   intro i
   have:=congrArg (fun n=>n.testBit i) h
   simp only[Nat.testBit_and] at this
   rw[Nat.testBit_or,Nat.testBit_xor]
   revert this;cases a.testBit i<;>cases b.testBit i<;>simp
  omega
 rw[← hx]
 apply Nat.eq_of_testBit_eq
 intro i
 have hab:=congrArg (fun n=>n.testBit i) h
 simp only[Nat.testBit_and] at hab
 rw[Nat.testBit_and,Nat.testBit_xor,show(4294967295:Nat) - b=2 ^ 32 - (b+1) by omega,Nat.testBit_two_pow_sub_succ aO]
 by_cases hi:i < 32
 ·revert hab;simp only[hi,decide_true,Bool.true_and];cases a.testBit i<;>cases b.testBit i<;>simp
 ·have e1:a.testBit i=false:=Nat.testBit_lt_two_pow (Nat.lt_of_lt_of_le (show a < 2 ^ 32 by simpa using ha) (Nat.pow_le_pow_right aD aO))
  have e2:b.testBit i=false:=Nat.testBit_lt_two_pow (Nat.lt_of_lt_of_le (show b < 2 ^ 32 by omega) (Nat.pow_le_pow_right aD aO))
  simp[e1,e2]
theorem zA7(v l b:Nat):v &&& (v / 2 ^ l%2 ^ b*2 ^ l)=v / 2 ^ l%2 ^ b*2 ^ l:=by
 apply Nat.eq_of_testBit_eq
 intro i
 rw[Nat.testBit_and,Nat.mul_comm,Nat.testBit_two_pow_mul]
 by_cases hi:l≤i
 ·rw[Nat.testBit_mod_two_pow,Nat.testBit_div_two_pow]
  rw[show i - l+l=i by omega]
  simp[hi]
 ·simp[hi]
def zP(c:Bool)(l b v:Nat):Nat:=if c then v / l%b else 0
def rst(c:Bool)(l b v:Nat):Nat:=if c then v - v / l%b*l else v
theorem zC9(c:Bool)(l b v:Nat)(h:v < 4294967296):rst c l b v < 4294967296:=by unfold rst;split<;>omega
theorem zFV(B:Nat)(v:Nat)(w:World)(hB:w.heap[B]?=some (.cells #[.int .u32 v] 23))(hv:v < 4294967296) :
  Calls Tryz.prog 59 #[.int .i64 0,.int .i64 8,.pointer (some ⟨B,0,none⟩)] w fun e w'=>e=.returned (.int .i64 (zP true 1 256 v))∧w'.heap[B]?=some (.cells #[.int .u32 (rst true 1 256 v)] 23)∧zI [B] w w':=by
 have c0:w.cell? ⟨B,0,none⟩=some (.int .u32 v):=zA hB 0
 have f0:w.frozen? ⟨B,0,none⟩=false:=zD hB 0
 have lB:=zE hB
 have v0:(0:Int)≤v:=aO
 have v1:(v:Int) < 4294967296:=aO
 have hm:bits .and .u32 ((v:Int)) 255=((v / 1%256:Nat):Int):=by
  have:=zC1 (v / 1) aO
  simpa using this
 have hn:bits .andNot .u32 (v:Int) (IntKind.u32.wrap (((v / 1%256:Nat):Int)))=((v - v / 1%256*1:Nat):Int):=by
  rw[show IntKind.u32.wrap (((v / 1%256:Nat):Int))=((v / 1%256*1:Nat):Int) from by rw[IntWalk.u32_in _ aO];omega]
  rw[Go.u32_andNot_nat _ _ hv aO,zAu _ _ hv (zA7 v 0 8)]
 generalize hx:v / 1%256=x at *
 have x0:(0:Int)≤x:=aO
 have x1:(x:Int) < 256:=aO
 go_enter Tryz.func59,Tryz.ntmps59
 go_wp2_with (fail)
 go_region_held3 (fun W'=>W'.cell? ⟨B,0,none⟩=some (.int .u32 v)) ((simp[go_sem,c0];done)) ((go_at_call 43;refine(zC6 _).mono ?_;rintro e w1 ⟨rfl,rfl⟩))
 try rw[hm]
 go_wp2
 go_region_with (fail)
 try rw[hn]
 go_wp2
 go_ret
 exact⟨by rw[zP,if_pos rfl,hx];rfl,by rw[rst,if_pos rfl,hx];first|exact zZ (o:=0) hB _|(rw[Nat.mul_one];exact zZ (o:=0) hB _),(((zI.refl [B] w).set aS _ _).drew).drew⟩
theorem zL6(B:Nat)(v:Nat)(w:World)(hB:w.heap[B]?=some (.cells #[.int .u32 v] 23))(hv:v < 4294967296) :
  Calls Tryz.prog 59 #[.int .i64 8,.int .i64 4,.pointer (some ⟨B,0,none⟩)] w fun e w'=>e=.returned (.int .i64 (zP true 256 16 v))∧w'.heap[B]?=some (.cells #[.int .u32 (rst true 256 16 v)] 23)∧zI [B] w w':=by
 have c0:w.cell? ⟨B,0,none⟩=some (.int .u32 v):=zA hB 0
 have f0:w.frozen? ⟨B,0,none⟩=false:=zD hB 0
 have lB:=zE hB
 have v0:(0:Int)≤v:=aO
 have v1:(v:Int) < 4294967296:=aO
 have hm:bits .and .u32 ((v:Int) / 256) 15=((v / 256%16:Nat):Int):=by
  have:=zGK (v / 256) aO
  simpa using this
 have hn:bits .andNot .u32 (v:Int) (IntKind.u32.wrap (((v / 256%16:Nat):Int)*256))=((v - v / 256%16*256:Nat):Int):=by
  rw[show IntKind.u32.wrap (((v / 256%16:Nat):Int)*256)=((v / 256%16*256:Nat):Int) from by rw[IntWalk.u32_in _ aO];omega]
  rw[Go.u32_andNot_nat _ _ hv aO,zAu _ _ hv (zA7 v 8 4)]
 generalize hx:v / 256%16=x at *
 have x0:(0:Int)≤x:=aO
 have x1:(x:Int) < 16:=aO
 go_enter Tryz.func59,Tryz.ntmps59
 go_wp2_with (fail)
 go_region_held3 (fun W'=>W'.cell? ⟨B,0,none⟩=some (.int .u32 v)) ((simp[go_sem,c0];done)) ((go_at_call 43;refine(zGN _).mono ?_;rintro e w1 ⟨rfl,rfl⟩))
 try rw[hm]
 go_wp2
 go_region_with (fail)
 try rw[hn]
 go_wp2
 go_ret
 exact⟨by rw[zP,if_pos rfl,hx];rfl,by rw[rst,if_pos rfl,hx];first|exact zZ (o:=0) hB _|(rw[Nat.mul_one];exact zZ (o:=0) hB _),(((zI.refl [B] w).set aS _ _).drew).drew⟩
theorem zKv(B:Nat)(v:Nat)(w:World)(hB:w.heap[B]?=some (.cells #[.int .u32 v] 23))(hv:v < 4294967296) :
  Calls Tryz.prog 59 #[.int .i64 12,.int .i64 4,.pointer (some ⟨B,0,none⟩)] w fun e w'=>e=.returned (.int .i64 (zP true 4096 16 v))∧w'.heap[B]?=some (.cells #[.int .u32 (rst true 4096 16 v)] 23)∧zI [B] w w':=by
 have c0:w.cell? ⟨B,0,none⟩=some (.int .u32 v):=zA hB 0
 have f0:w.frozen? ⟨B,0,none⟩=false:=zD hB 0
 have lB:=zE hB
 have v0:(0:Int)≤v:=aO
 have v1:(v:Int) < 4294967296:=aO
 have hm:bits .and .u32 ((v:Int) / 4096) 15=((v / 4096%16:Nat):Int):=by
  have:=zGK (v / 4096) aO
  simpa using this
 have hn:bits .andNot .u32 (v:Int) (IntKind.u32.wrap (((v / 4096%16:Nat):Int)*4096))=((v - v / 4096%16*4096:Nat):Int):=by
  rw[show IntKind.u32.wrap (((v / 4096%16:Nat):Int)*4096)=((v / 4096%16*4096:Nat):Int) from by rw[IntWalk.u32_in _ aO];omega]
  rw[Go.u32_andNot_nat _ _ hv aO,zAu _ _ hv (zA7 v 12 4)]
 generalize hx:v / 4096%16=x at *
 have x0:(0:Int)≤x:=aO
 have x1:(x:Int) < 16:=aO
 go_enter Tryz.func59,Tryz.ntmps59
 go_wp2_with (fail)
 go_region_held3 (fun W'=>W'.cell? ⟨B,0,none⟩=some (.int .u32 v)) ((simp[go_sem,c0];done)) ((go_at_call 43;refine(zGN _).mono ?_;rintro e w1 ⟨rfl,rfl⟩))
 try rw[hm]
 go_wp2
 go_region_with (fail)
 try rw[hn]
 go_wp2
 go_ret
 exact⟨by rw[zP,if_pos rfl,hx];rfl,by rw[rst,if_pos rfl,hx];first|exact zZ (o:=0) hB _|(rw[Nat.mul_one];exact zZ (o:=0) hB _),(((zI.refl [B] w).set aS _ _).drew).drew⟩
theorem zKw(B:Nat)(v:Nat)(w:World)(hB:w.heap[B]?=some (.cells #[.int .u32 v] 23))(hv:v < 4294967296) :
  Calls Tryz.prog 59 #[.int .i64 16,.int .i64 4,.pointer (some ⟨B,0,none⟩)] w fun e w'=>e=.returned (.int .i64 (zP true 65536 16 v))∧w'.heap[B]?=some (.cells #[.int .u32 (rst true 65536 16 v)] 23)∧zI [B] w w':=by
 have c0:w.cell? ⟨B,0,none⟩=some (.int .u32 v):=zA hB 0
 have f0:w.frozen? ⟨B,0,none⟩=false:=zD hB 0
 have lB:=zE hB
 have v0:(0:Int)≤v:=aO
 have v1:(v:Int) < 4294967296:=aO
 have hm:bits .and .u32 ((v:Int) / 65536) 15=((v / 65536%16:Nat):Int):=by
  have:=zGK (v / 65536) aO
  simpa using this
 have hn:bits .andNot .u32 (v:Int) (IntKind.u32.wrap (((v / 65536%16:Nat):Int)*65536))=((v - v / 65536%16*65536:Nat):Int):=by
  rw[show IntKind.u32.wrap (((v / 65536%16:Nat):Int)*65536)=((v / 65536%16*65536:Nat):Int) from by rw[IntWalk.u32_in _ aO];omega]
  rw[Go.u32_andNot_nat _ _ hv aO,zAu _ _ hv (zA7 v 16 4)]
 generalize hx:v / 65536%16=x at *
 have x0:(0:Int)≤x:=aO
 have x1:(x:Int) < 16:=aO
 go_enter Tryz.func59,Tryz.ntmps59
 go_wp2_with (fail)
 go_region_held3 (fun W'=>W'.cell? ⟨B,0,none⟩=some (.int .u32 v)) ((simp[go_sem,c0];done)) ((go_at_call 43;refine(zGN _).mono ?_;rintro e w1 ⟨rfl,rfl⟩))
 try rw[hm]
 go_wp2
 go_region_with (fail)
 try rw[hn]
 go_wp2
 go_ret
 exact⟨by rw[zP,if_pos rfl,hx];rfl,by rw[rst,if_pos rfl,hx];first|exact zZ (o:=0) hB _|(rw[Nat.mul_one];exact zZ (o:=0) hB _),(((zI.refl [B] w).set aS _ _).drew).drew⟩
theorem zKx(B:Nat)(v:Nat)(w:World)(hB:w.heap[B]?=some (.cells #[.int .u32 v] 23))(hv:v < 4294967296) :
  Calls Tryz.prog 59 #[.int .i64 20,.int .i64 4,.pointer (some ⟨B,0,none⟩)] w fun e w'=>e=.returned (.int .i64 (zP true 1048576 16 v))∧w'.heap[B]?=some (.cells #[.int .u32 (rst true 1048576 16 v)] 23)∧zI [B] w w':=by
 have c0:w.cell? ⟨B,0,none⟩=some (.int .u32 v):=zA hB 0
 have f0:w.frozen? ⟨B,0,none⟩=false:=zD hB 0
 have lB:=zE hB
 have v0:(0:Int)≤v:=aO
 have v1:(v:Int) < 4294967296:=aO
 have hm:bits .and .u32 ((v:Int) / 1048576) 15=((v / 1048576%16:Nat):Int):=by
  have:=zGK (v / 1048576) aO
  simpa using this
 have hn:bits .andNot .u32 (v:Int) (IntKind.u32.wrap (((v / 1048576%16:Nat):Int)*1048576))=((v - v / 1048576%16*1048576:Nat):Int):=by
  rw[show IntKind.u32.wrap (((v / 1048576%16:Nat):Int)*1048576)=((v / 1048576%16*1048576:Nat):Int) from by rw[IntWalk.u32_in _ aO];omega]
  rw[Go.u32_andNot_nat _ _ hv aO,zAu _ _ hv (zA7 v 20 4)]
 generalize hx:v / 1048576%16=x at *
 have x0:(0:Int)≤x:=aO
 have x1:(x:Int) < 16:=aO
 go_enter Tryz.func59,Tryz.ntmps59
 go_wp2_with (fail)
 go_region_held3 (fun W'=>W'.cell? ⟨B,0,none⟩=some (.int .u32 v)) ((simp[go_sem,c0];done)) ((go_at_call 43;refine(zGN _).mono ?_;rintro e w1 ⟨rfl,rfl⟩))
 try rw[hm]
 go_wp2
 go_region_with (fail)
 try rw[hn]
 go_wp2
 go_ret
 exact⟨by rw[zP,if_pos rfl,hx];rfl,by rw[rst,if_pos rfl,hx];first|exact zZ (o:=0) hB _|(rw[Nat.mul_one];exact zZ (o:=0) hB _),(((zI.refl [B] w).set aS _ _).drew).drew⟩
theorem zIM(B:Nat)(v:Nat)(w:World)(hB:w.heap[B]?=some (.cells #[.int .u32 v] 23))(hv:v < 4294967296) :
  Calls Tryz.prog 59 #[.int .i64 16,.int .i64 16,.pointer (some ⟨B,0,none⟩)] w fun e w'=>e=.returned (.int .i64 (zP true 65536 65536 v))∧w'.heap[B]?=some (.cells #[.int .u32 (rst true 65536 65536 v)] 23)∧zI [B] w w':=by
 have c0:w.cell? ⟨B,0,none⟩=some (.int .u32 v):=zA hB 0
 have f0:w.frozen? ⟨B,0,none⟩=false:=zD hB 0
 have lB:=zE hB
 have v0:(0:Int)≤v:=aO
 have v1:(v:Int) < 4294967296:=aO
 have hm:bits .and .u32 ((v:Int) / 65536) 65535=((v / 65536%65536:Nat):Int):=by
  have:=zMZ (v / 65536) aO
  simpa using this
 have hn:bits .andNot .u32 (v:Int) (IntKind.u32.wrap (((v / 65536%65536:Nat):Int)*65536))=((v - v / 65536%65536*65536:Nat):Int):=by
  rw[show IntKind.u32.wrap (((v / 65536%65536:Nat):Int)*65536)=((v / 65536%65536*65536:Nat):Int) from by rw[IntWalk.u32_in _ aO];omega]
  rw[Go.u32_andNot_nat _ _ hv aO,zAu _ _ hv (zA7 v 16 16)]
 generalize hx:v / 65536%65536=x at *
 have x0:(0:Int)≤x:=aO
 have x1:(x:Int) < 65536:=aO
 go_enter Tryz.func59,Tryz.ntmps59
 go_wp2_with (fail)
 go_region_held3 (fun W'=>W'.cell? ⟨B,0,none⟩=some (.int .u32 v)) ((simp[go_sem,c0];done)) ((go_at_call 43;refine(zNs _).mono ?_;rintro e w1 ⟨rfl,rfl⟩))
 try rw[hm]
 go_wp2
 go_region_with (fail)
 try rw[hn]
 go_wp2
 go_ret
 exact⟨by rw[zP,if_pos rfl,hx];rfl,by rw[rst,if_pos rfl,hx];first|exact zZ (o:=0) hB _|(rw[Nat.mul_one];exact zZ (o:=0) hB _),(((zI.refl [B] w).set aS _ _).drew).drew⟩
structure FW(w:World)(BI BC R I:Nat)(v:Nat)(h:Int):Prop where
 bi:w.heap[BI]?=some (.cells #[.pointer (some ⟨I,0,none⟩)] 103)
 bc:w.heap[BC]?=some (.cells #[.func (Fn.func 59) #[] #[.pointer (some ⟨R,0,none⟩)]] 129)
 br:w.heap[R]?=some (.cells #[.int .u32 v] 23)
 ch:w.cell? ⟨I,11,none⟩=some (.int .u16 h)
 lI:I < w.heap.size
theorem zEk(BI BC R I v:Nat)(h:Int)(c:Bool)(w:World)(hW:FW w BI BC R I v h)(hv:v < 4294967296)(hc:bits .and .u16 h 448=0↔c=false) :
  Calls Tryz.prog 60 #[.int .u16 448,.int .i64 8,.int .i64 4,.pointer (some ⟨BI,0,none⟩),.pointer (some ⟨BC,0,none⟩)] w fun e w'=>e=.returned (.int .i64 (zP c 256 16 v))∧w'.heap[R]?=some (.cells #[.int .u32 (rst c 256 16 v)] 23)∧zI [R] w w':=by
 have c0:w.cell? ⟨BI,0,none⟩=some (.pointer (some ⟨I,0,none⟩)):=zA hW.bi 0
 have c1:w.cell? ⟨BC,0,none⟩=some (.func (Fn.func 59) #[] #[.pointer (some ⟨R,0,none⟩)]):=zA hW.bc 0
 have c2:=hW.ch
 have l0:=zE hW.bi
 have l1:=zE hW.bc
 have l2:=hW.lI
 have HB:Hid _:=hW.br
 have HV:Hid _:=hv
 cases c
 ·have hz:=hc.2 rfl
  clear hW hv hc
  go_enter Tryz.func60,Tryz.ntmps60
  go_wp2_with (fail)
  go_ret
  exact⟨rfl,HB.out,zI.refl _ _⟩
 ·have hz:(bits .and .u16 h 448==0)=false:=by
   cases hh:(bits .and .u16 h 448==0) with
   | false=>rfl
   | true=>exact absurd (hc.1 (by simpa using hh)) aS
  clear hW hv hc
  go_enter Tryz.func60,Tryz.ntmps60
  go_wp2_with (go_at_call 59;refine(zL6 R v _ HB.out HV.out).mono ?_;rintro e w1 ⟨rfl,hb1,hc1⟩)
  go_ret
  exact⟨rfl,hb1,hc1⟩
theorem zEh(BI BC R I v:Nat)(h:Int)(c:Bool)(w:World)(hW:FW w BI BC R I v h)(hv:v < 4294967296)(hc:bits .and .u16 h 1=0↔c=false) :
  Calls Tryz.prog 60 #[.int .u16 1,.int .i64 12,.int .i64 4,.pointer (some ⟨BI,0,none⟩),.pointer (some ⟨BC,0,none⟩)] w fun e w'=>e=.returned (.int .i64 (zP c 4096 16 v))∧w'.heap[R]?=some (.cells #[.int .u32 (rst c 4096 16 v)] 23)∧zI [R] w w':=by
 have c0:w.cell? ⟨BI,0,none⟩=some (.pointer (some ⟨I,0,none⟩)):=zA hW.bi 0
 have c1:w.cell? ⟨BC,0,none⟩=some (.func (Fn.func 59) #[] #[.pointer (some ⟨R,0,none⟩)]):=zA hW.bc 0
 have c2:=hW.ch
 have l0:=zE hW.bi
 have l1:=zE hW.bc
 have l2:=hW.lI
 have HB:Hid _:=hW.br
 have HV:Hid _:=hv
 cases c
 ·have hz:=hc.2 rfl
  clear hW hv hc
  go_enter Tryz.func60,Tryz.ntmps60
  go_wp2_with (fail)
  go_ret
  exact⟨rfl,HB.out,zI.refl _ _⟩
 ·have hz:(bits .and .u16 h 1==0)=false:=by
   cases hh:(bits .and .u16 h 1==0) with
   | false=>rfl
   | true=>exact absurd (hc.1 (by simpa using hh)) aS
  clear hW hv hc
  go_enter Tryz.func60,Tryz.ntmps60
  go_wp2_with (go_at_call 59;refine(zKv R v _ HB.out HV.out).mono ?_;rintro e w1 ⟨rfl,hb1,hc1⟩)
  go_ret
  exact⟨rfl,hb1,hc1⟩
theorem zEi(BI BC R I v:Nat)(h:Int)(c:Bool)(w:World)(hW:FW w BI BC R I v h)(hv:v < 4294967296)(hc:bits .and .u16 h 2=0↔c=false) :
  Calls Tryz.prog 60 #[.int .u16 2,.int .i64 16,.int .i64 4,.pointer (some ⟨BI,0,none⟩),.pointer (some ⟨BC,0,none⟩)] w fun e w'=>e=.returned (.int .i64 (zP c 65536 16 v))∧w'.heap[R]?=some (.cells #[.int .u32 (rst c 65536 16 v)] 23)∧zI [R] w w':=by
 have c0:w.cell? ⟨BI,0,none⟩=some (.pointer (some ⟨I,0,none⟩)):=zA hW.bi 0
 have c1:w.cell? ⟨BC,0,none⟩=some (.func (Fn.func 59) #[] #[.pointer (some ⟨R,0,none⟩)]):=zA hW.bc 0
 have c2:=hW.ch
 have l0:=zE hW.bi
 have l1:=zE hW.bc
 have l2:=hW.lI
 have HB:Hid _:=hW.br
 have HV:Hid _:=hv
 cases c
 ·have hz:=hc.2 rfl
  clear hW hv hc
  go_enter Tryz.func60,Tryz.ntmps60
  go_wp2_with (fail)
  go_ret
  exact⟨rfl,HB.out,zI.refl _ _⟩
 ·have hz:(bits .and .u16 h 2==0)=false:=by
   cases hh:(bits .and .u16 h 2==0) with
   | false=>rfl
   | true=>exact absurd (hc.1 (by simpa using hh)) aS
  clear hW hv hc
  go_enter Tryz.func60,Tryz.ntmps60
  go_wp2_with (go_at_call 59;refine(zKw R v _ HB.out HV.out).mono ?_;rintro e w1 ⟨rfl,hb1,hc1⟩)
  go_ret
  exact⟨rfl,hb1,hc1⟩
theorem zEj(BI BC R I v:Nat)(h:Int)(c:Bool)(w:World)(hW:FW w BI BC R I v h)(hv:v < 4294967296)(hc:bits .and .u16 h 4=0↔c=false) :
  Calls Tryz.prog 60 #[.int .u16 4,.int .i64 20,.int .i64 4,.pointer (some ⟨BI,0,none⟩),.pointer (some ⟨BC,0,none⟩)] w fun e w'=>e=.returned (.int .i64 (zP c 1048576 16 v))∧w'.heap[R]?=some (.cells #[.int .u32 (rst c 1048576 16 v)] 23)∧zI [R] w w':=by
 have c0:w.cell? ⟨BI,0,none⟩=some (.pointer (some ⟨I,0,none⟩)):=zA hW.bi 0
 have c1:w.cell? ⟨BC,0,none⟩=some (.func (Fn.func 59) #[] #[.pointer (some ⟨R,0,none⟩)]):=zA hW.bc 0
 have c2:=hW.ch
 have l0:=zE hW.bi
 have l1:=zE hW.bc
 have l2:=hW.lI
 have HB:Hid _:=hW.br
 have HV:Hid _:=hv
 cases c
 ·have hz:=hc.2 rfl
  clear hW hv hc
  go_enter Tryz.func60,Tryz.ntmps60
  go_wp2_with (fail)
  go_ret
  exact⟨rfl,HB.out,zI.refl _ _⟩
 ·have hz:(bits .and .u16 h 4==0)=false:=by
   cases hh:(bits .and .u16 h 4==0) with
   | false=>rfl
   | true=>exact absurd (hc.1 (by simpa using hh)) aS
  clear hW hv hc
  go_enter Tryz.func60,Tryz.ntmps60
  go_wp2_with (go_at_call 59;refine(zKx R v _ HB.out HV.out).mono ?_;rintro e w1 ⟨rfl,hb1,hc1⟩)
  go_ret
  exact⟨rfl,hb1,hc1⟩
theorem zEl(BI BC R I v:Nat)(h:Int)(c:Bool)(w:World)(hW:FW w BI BC R I v h)(hv:v < 4294967296)(hc:bits .and .u16 h 8=0↔c=false) :
  Calls Tryz.prog 60 #[.int .u16 8,.int .i64 16,.int .i64 16,.pointer (some ⟨BI,0,none⟩),.pointer (some ⟨BC,0,none⟩)] w fun e w'=>e=.returned (.int .i64 (zP c 65536 65536 v))∧w'.heap[R]?=some (.cells #[.int .u32 (rst c 65536 65536 v)] 23)∧zI [R] w w':=by
 have c0:w.cell? ⟨BI,0,none⟩=some (.pointer (some ⟨I,0,none⟩)):=zA hW.bi 0
 have c1:w.cell? ⟨BC,0,none⟩=some (.func (Fn.func 59) #[] #[.pointer (some ⟨R,0,none⟩)]):=zA hW.bc 0
 have c2:=hW.ch
 have l0:=zE hW.bi
 have l1:=zE hW.bc
 have l2:=hW.lI
 have HB:Hid _:=hW.br
 have HV:Hid _:=hv
 cases c
 ·have hz:=hc.2 rfl
  clear hW hv hc
  go_enter Tryz.func60,Tryz.ntmps60
  go_wp2_with (fail)
  go_ret
  exact⟨rfl,HB.out,zI.refl _ _⟩
 ·have hz:(bits .and .u16 h 8==0)=false:=by
   cases hh:(bits .and .u16 h 8==0) with
   | false=>rfl
   | true=>exact absurd (hc.1 (by simpa using hh)) aS
  clear hW hv hc
  go_enter Tryz.func60,Tryz.ntmps60
  go_wp2_with (go_at_call 59;refine(zIM R v _ HB.out HV.out).mono ?_;rintro e w1 ⟨rfl,hb1,hc1⟩)
  go_ret
  exact⟨rfl,hb1,hc1⟩
end Go.Proofs.YthcpipfmicbnmaaGreat.Ho
