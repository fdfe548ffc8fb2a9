import Derived.Test.YthcpipfmicbnmaaGreatWJ04
set_option linter.unusedVariables false
set_option linter.unusedSimpArgs false
set_option maxHeartbeats 2000000
namespace Go.Proofs.YthcpipfmicbnmaaGreat.Va.Fl
open Go.RowKit
set_option maxRecDepth 100000
theorem holds0(f:Nat)(w:World)(hf:f < 4294967296):Calls Tryz.prog 77 #[.int .i64 0,.int .u32 f] w fun e w'=>e=.returned (.bool (zO 0 f))∧Below w.heap.size w w':=by
 have hf0:(0:Int)≤f:=aO
 have hf1:(f:Int) < 4294967296:=aO
 obtain⟨z,hz⟩:∃ z,((f:Int)%2==1)=z:=⟨_,rfl⟩
 obtain⟨n,hn⟩:∃ z,((f:Int) / 2%2==1)=z:=⟨_,rfl⟩
 obtain⟨y,hy⟩:∃ z,((f:Int) / 4%2==1)=z:=⟨_,rfl⟩
 obtain⟨v,hv⟩:∃ z,((f:Int) / 8%2==1)=z:=⟨_,rfl⟩
 have HE:Hid (zO 0 f=zH 0 z n y v):=show _=_ by unfold zO;rw[hz,hn,hy,hv]
 rw[HE.out]
 clear HE
 cases z<;>cases y
 all_goals
  go_enter Tryz.func77,Tryz.ntmps77
  go_wp2
  go_ret
  exact⟨by cases n<;>cases v<;>rfl,aB.alloc aL _⟩
theorem zMw(f:Nat)(w:World)(hf:f < 4294967296):Calls Tryz.prog 77 #[.int .i64 1,.int .u32 f] w fun e w'=>e=.returned (.bool (zO 1 f))∧Below w.heap.size w w':=by
 have hf0:(0:Int)≤f:=aO
 have hf1:(f:Int) < 4294967296:=aO
 obtain⟨z,hz⟩:∃ z,((f:Int)%2==1)=z:=⟨_,rfl⟩
 obtain⟨n,hn⟩:∃ z,((f:Int) / 2%2==1)=z:=⟨_,rfl⟩
 obtain⟨y,hy⟩:∃ z,((f:Int) / 4%2==1)=z:=⟨_,rfl⟩
 obtain⟨v,hv⟩:∃ z,((f:Int) / 8%2==1)=z:=⟨_,rfl⟩
 have HE:Hid (zO 1 f=zH 1 z n y v):=show _=_ by unfold zO;rw[hz,hn,hy,hv]
 rw[HE.out]
 clear HE
 cases z<;>cases y
 all_goals
  go_enter Tryz.func77,Tryz.ntmps77
  go_wp2
  go_ret
  exact⟨by cases n<;>cases v<;>rfl,aB.alloc aL _⟩
theorem zMx(f:Nat)(w:World)(hf:f < 4294967296):Calls Tryz.prog 77 #[.int .i64 2,.int .u32 f] w fun e w'=>e=.returned (.bool (zO 2 f))∧Below w.heap.size w w':=by
 have hf0:(0:Int)≤f:=aO
 have hf1:(f:Int) < 4294967296:=aO
 obtain⟨z,hz⟩:∃ z,((f:Int)%2==1)=z:=⟨_,rfl⟩
 obtain⟨n,hn⟩:∃ z,((f:Int) / 2%2==1)=z:=⟨_,rfl⟩
 obtain⟨y,hy⟩:∃ z,((f:Int) / 4%2==1)=z:=⟨_,rfl⟩
 obtain⟨v,hv⟩:∃ z,((f:Int) / 8%2==1)=z:=⟨_,rfl⟩
 have HE:Hid (zO 2 f=zH 2 z n y v):=show _=_ by unfold zO;rw[hz,hn,hy,hv]
 rw[HE.out]
 clear HE
 cases z<;>cases y
 all_goals
  go_enter Tryz.func77,Tryz.ntmps77
  go_wp2
  go_ret
  exact⟨by cases n<;>cases v<;>rfl,aB.alloc aL _⟩
theorem zMy(f:Nat)(w:World)(hf:f < 4294967296):Calls Tryz.prog 77 #[.int .i64 3,.int .u32 f] w fun e w'=>e=.returned (.bool (zO 3 f))∧Below w.heap.size w w':=by
 have hf0:(0:Int)≤f:=aO
 have hf1:(f:Int) < 4294967296:=aO
 obtain⟨z,hz⟩:∃ z,((f:Int)%2==1)=z:=⟨_,rfl⟩
 obtain⟨n,hn⟩:∃ z,((f:Int) / 2%2==1)=z:=⟨_,rfl⟩
 obtain⟨y,hy⟩:∃ z,((f:Int) / 4%2==1)=z:=⟨_,rfl⟩
 obtain⟨v,hv⟩:∃ z,((f:Int) / 8%2==1)=z:=⟨_,rfl⟩
 have HE:Hid (zO 3 f=zH 3 z n y v):=show _=_ by unfold zO;rw[hz,hn,hy,hv]
 rw[HE.out]
 clear HE
 cases z<;>cases y
 all_goals
  go_enter Tryz.func77,Tryz.ntmps77
  go_wp2
  go_ret
  exact⟨by cases n<;>cases v<;>rfl,aB.alloc aL _⟩
theorem zMz(f:Nat)(w:World)(hf:f < 4294967296):Calls Tryz.prog 77 #[.int .i64 4,.int .u32 f] w fun e w'=>e=.returned (.bool (zO 4 f))∧Below w.heap.size w w':=by
 have hf0:(0:Int)≤f:=aO
 have hf1:(f:Int) < 4294967296:=aO
 obtain⟨z,hz⟩:∃ z,((f:Int)%2==1)=z:=⟨_,rfl⟩
 obtain⟨n,hn⟩:∃ z,((f:Int) / 2%2==1)=z:=⟨_,rfl⟩
 obtain⟨y,hy⟩:∃ z,((f:Int) / 4%2==1)=z:=⟨_,rfl⟩
 obtain⟨v,hv⟩:∃ z,((f:Int) / 8%2==1)=z:=⟨_,rfl⟩
 have HE:Hid (zO 4 f=zH 4 z n y v):=show _=_ by unfold zO;rw[hz,hn,hy,hv]
 rw[HE.out]
 clear HE
 cases z<;>cases y
 all_goals
  go_enter Tryz.func77,Tryz.ntmps77
  go_wp2
  go_ret
  exact⟨by cases n<;>cases v<;>rfl,aB.alloc aL _⟩
theorem zMA(f:Nat)(w:World)(hf:f < 4294967296):Calls Tryz.prog 77 #[.int .i64 5,.int .u32 f] w fun e w'=>e=.returned (.bool (zO 5 f))∧Below w.heap.size w w':=by
 have hf0:(0:Int)≤f:=aO
 have hf1:(f:Int) < 4294967296:=aO
 obtain⟨z,hz⟩:∃ z,((f:Int)%2==1)=z:=⟨_,rfl⟩
 obtain⟨n,hn⟩:∃ z,((f:Int) / 2%2==1)=z:=⟨_,rfl⟩
 obtain⟨y,hy⟩:∃ z,((f:Int) / 4%2==1)=z:=⟨_,rfl⟩
 obtain⟨v,hv⟩:∃ z,((f:Int) / 8%2==1)=z:=⟨_,rfl⟩
 have HE:Hid (zO 5 f=zH 5 z n y v):=show _=_ by unfold zO;rw[hz,hn,hy,hv]
 rw[HE.out]
 clear HE
 cases z<;>cases y
 all_goals
  go_enter Tryz.func77,Tryz.ntmps77
  go_wp2
  go_ret
  exact⟨by cases n<;>cases v<;>rfl,aB.alloc aL _⟩
theorem zMB(f:Nat)(w:World)(hf:f < 4294967296):Calls Tryz.prog 77 #[.int .i64 6,.int .u32 f] w fun e w'=>e=.returned (.bool (zO 6 f))∧Below w.heap.size w w':=by
 have hf0:(0:Int)≤f:=aO
 have hf1:(f:Int) < 4294967296:=aO
 obtain⟨z,hz⟩:∃ z,((f:Int)%2==1)=z:=⟨_,rfl⟩
 obtain⟨n,hn⟩:∃ z,((f:Int) / 2%2==1)=z:=⟨_,rfl⟩
 obtain⟨y,hy⟩:∃ z,((f:Int) / 4%2==1)=z:=⟨_,rfl⟩
 obtain⟨v,hv⟩:∃ z,((f:Int) / 8%2==1)=z:=⟨_,rfl⟩
 have HE:Hid (zO 6 f=zH 6 z n y v):=show _=_ by unfold zO;rw[hz,hn,hy,hv]
 rw[HE.out]
 clear HE
 cases z<;>cases y
 all_goals
  go_enter Tryz.func77,Tryz.ntmps77
  go_wp2
  go_ret
  exact⟨by cases n<;>cases v<;>rfl,aB.alloc aL _⟩
theorem zMC(f:Nat)(w:World)(hf:f < 4294967296):Calls Tryz.prog 77 #[.int .i64 7,.int .u32 f] w fun e w'=>e=.returned (.bool (zO 7 f))∧Below w.heap.size w w':=by
 have hf0:(0:Int)≤f:=aO
 have hf1:(f:Int) < 4294967296:=aO
 obtain⟨z,hz⟩:∃ z,((f:Int)%2==1)=z:=⟨_,rfl⟩
 obtain⟨n,hn⟩:∃ z,((f:Int) / 2%2==1)=z:=⟨_,rfl⟩
 obtain⟨y,hy⟩:∃ z,((f:Int) / 4%2==1)=z:=⟨_,rfl⟩
 obtain⟨v,hv⟩:∃ z,((f:Int) / 8%2==1)=z:=⟨_,rfl⟩
 have HE:Hid (zO 7 f=zH 7 z n y v):=show _=_ by unfold zO;rw[hz,hn,hy,hv]
 rw[HE.out]
 clear HE
 cases z<;>cases y
 all_goals
  go_enter Tryz.func77,Tryz.ntmps77
  go_wp2
  go_ret
  exact⟨by cases n<;>cases v<;>rfl,aB.alloc aL _⟩
end Go.Proofs.YthcpipfmicbnmaaGreat.Va.Fl
