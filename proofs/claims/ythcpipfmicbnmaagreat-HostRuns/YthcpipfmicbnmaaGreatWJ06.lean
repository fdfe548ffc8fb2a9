import Derived.Test.YthcpipfmicbnmaaGreatWJ04
set_option linter.unusedVariables false
set_option linter.unusedSimpArgs false
set_option maxHeartbeats 2000000
namespace Go.Proofs.YthcpipfmicbnmaaGreat.Va.Fl
open Go.RowKit
set_option maxRecDepth 100000
theorem zMD(f:Nat)(w:World)(hf:f < 4294967296):Calls Tryz.prog 77 #[.int .i64 8,.int .u32 f] w fun e w'=>e=.returned (.bool (zO 8 f))∧Below w.heap.size w w':=by
 have hf0:(0:Int)≤f:=aO
 have hf1:(f:Int) < 4294967296:=aO
 obtain⟨z,hz⟩:∃ z,((f:Int)%2==1)=z:=⟨_,rfl⟩
 obtain⟨n,hn⟩:∃ z,((f:Int) / 2%2==1)=z:=⟨_,rfl⟩
 obtain⟨y,hy⟩:∃ z,((f:Int) / 4%2==1)=z:=⟨_,rfl⟩
 obtain⟨v,hv⟩:∃ z,((f:Int) / 8%2==1)=z:=⟨_,rfl⟩
 have HE:Hid (zO 8 f=zH 8 z n y v):=show _=_ by unfold zO;rw[hz,hn,hy,hv]
 rw[HE.out]
 clear HE
 cases z<;>cases y
 all_goals
  go_enter Tryz.func77,Tryz.ntmps77
  go_wp2
  go_ret
  exact⟨by cases n<;>cases v<;>rfl,aB.alloc aL _⟩
theorem zME(f:Nat)(w:World)(hf:f < 4294967296):Calls Tryz.prog 77 #[.int .i64 9,.int .u32 f] w fun e w'=>e=.returned (.bool (zO 9 f))∧Below w.heap.size w w':=by
 have hf0:(0:Int)≤f:=aO
 have hf1:(f:Int) < 4294967296:=aO
 obtain⟨z,hz⟩:∃ z,((f:Int)%2==1)=z:=⟨_,rfl⟩
 obtain⟨n,hn⟩:∃ z,((f:Int) / 2%2==1)=z:=⟨_,rfl⟩
 obtain⟨y,hy⟩:∃ z,((f:Int) / 4%2==1)=z:=⟨_,rfl⟩
 obtain⟨v,hv⟩:∃ z,((f:Int) / 8%2==1)=z:=⟨_,rfl⟩
 have HE:Hid (zO 9 f=zH 9 z n y v):=show _=_ by unfold zO;rw[hz,hn,hy,hv]
 rw[HE.out]
 clear HE
 cases z<;>cases y
 all_goals
  go_enter Tryz.func77,Tryz.ntmps77
  go_wp2
  go_ret
  exact⟨by cases n<;>cases v<;>rfl,aB.alloc aL _⟩
theorem zKT(f:Nat)(w:World)(hf:f < 4294967296):Calls Tryz.prog 77 #[.int .i64 10,.int .u32 f] w fun e w'=>e=.returned (.bool (zO 10 f))∧Below w.heap.size w w':=by
 have hf0:(0:Int)≤f:=aO
 have hf1:(f:Int) < 4294967296:=aO
 obtain⟨z,hz⟩:∃ z,((f:Int)%2==1)=z:=⟨_,rfl⟩
 obtain⟨n,hn⟩:∃ z,((f:Int) / 2%2==1)=z:=⟨_,rfl⟩
 obtain⟨y,hy⟩:∃ z,((f:Int) / 4%2==1)=z:=⟨_,rfl⟩
 obtain⟨v,hv⟩:∃ z,((f:Int) / 8%2==1)=z:=⟨_,rfl⟩
 have HE:Hid (zO 10 f=zH 10 z n y v):=show _=_ by unfold zO;rw[hz,hn,hy,hv]
 rw[HE.out]
 clear HE
 cases z<;>cases y
 all_goals
  go_enter Tryz.func77,Tryz.ntmps77
  go_wp2
  go_ret
  exact⟨by cases n<;>cases v<;>rfl,aB.alloc aL _⟩
theorem holds11(f:Nat)(w:World)(hf:f < 4294967296):Calls Tryz.prog 77 #[.int .i64 11,.int .u32 f] w fun e w'=>e=.returned (.bool (zO 11 f))∧Below w.heap.size w w':=by
 have hf0:(0:Int)≤f:=aO
 have hf1:(f:Int) < 4294967296:=aO
 obtain⟨z,hz⟩:∃ z,((f:Int)%2==1)=z:=⟨_,rfl⟩
 obtain⟨n,hn⟩:∃ z,((f:Int) / 2%2==1)=z:=⟨_,rfl⟩
 obtain⟨y,hy⟩:∃ z,((f:Int) / 4%2==1)=z:=⟨_,rfl⟩
 obtain⟨v,hv⟩:∃ z,((f:Int) / 8%2==1)=z:=⟨_,rfl⟩
 have HE:Hid (zO 11 f=zH 11 z n y v):=show _=_ by unfold zO;rw[hz,hn,hy,hv]
 rw[HE.out]
 clear HE
 cases z<;>cases y
 all_goals
  go_enter Tryz.func77,Tryz.ntmps77
  go_wp2
  go_ret
  exact⟨by cases n<;>cases v<;>rfl,aB.alloc aL _⟩
theorem zKU(f:Nat)(w:World)(hf:f < 4294967296):Calls Tryz.prog 77 #[.int .i64 12,.int .u32 f] w fun e w'=>e=.returned (.bool (zO 12 f))∧Below w.heap.size w w':=by
 have hf0:(0:Int)≤f:=aO
 have hf1:(f:Int) < 4294967296:=aO
 obtain⟨z,hz⟩:∃ z,((f:Int)%2==1)=z:=⟨_,rfl⟩
 obtain⟨n,hn⟩:∃ z,((f:Int) / 2%2==1)=z:=⟨_,rfl⟩
 obtain⟨y,hy⟩:∃ z,((f:Int) / 4%2==1)=z:=⟨_,rfl⟩
 obtain⟨v,hv⟩:∃ z,((f:Int) / 8%2==1)=z:=⟨_,rfl⟩
 have HE:Hid (zO 12 f=zH 12 z n y v):=show _=_ by unfold zO;rw[hz,hn,hy,hv]
 rw[HE.out]
 clear HE
 cases z<;>cases y
 all_goals
  go_enter Tryz.func77,Tryz.ntmps77
  go_wp2
  go_ret
  exact⟨by cases n<;>cases v<;>rfl,aB.alloc aL _⟩
theorem zKV(f:Nat)(w:World)(hf:f < 4294967296):Calls Tryz.prog 77 #[.int .i64 13,.int .u32 f] w fun e w'=>e=.returned (.bool (zO 13 f))∧Below w.heap.size w w':=by
 have hf0:(0:Int)≤f:=aO
 have hf1:(f:Int) < 4294967296:=aO
 obtain⟨z,hz⟩:∃ z,((f:Int)%2==1)=z:=⟨_,rfl⟩
 obtain⟨n,hn⟩:∃ z,((f:Int) / 2%2==1)=z:=⟨_,rfl⟩
 obtain⟨y,hy⟩:∃ z,((f:Int) / 4%2==1)=z:=⟨_,rfl⟩
 obtain⟨v,hv⟩:∃ z,((f:Int) / 8%2==1)=z:=⟨_,rfl⟩
 have HE:Hid (zO 13 f=zH 13 z n y v):=show _=_ by unfold zO;rw[hz,hn,hy,hv]
 rw[HE.out]
 clear HE
 cases z<;>cases y
 all_goals
  go_enter Tryz.func77,Tryz.ntmps77
  go_wp2
  go_ret
  exact⟨by cases n<;>cases v<;>rfl,aB.alloc aL _⟩
theorem zKW(f:Nat)(w:World)(hf:f < 4294967296):Calls Tryz.prog 77 #[.int .i64 14,.int .u32 f] w fun e w'=>e=.returned (.bool (zO 14 f))∧Below w.heap.size w w':=by
 have hf0:(0:Int)≤f:=aO
 have hf1:(f:Int) < 4294967296:=aO
 obtain⟨z,hz⟩:∃ z,((f:Int)%2==1)=z:=⟨_,rfl⟩
 obtain⟨n,hn⟩:∃ z,((f:Int) / 2%2==1)=z:=⟨_,rfl⟩
 obtain⟨y,hy⟩:∃ z,((f:Int) / 4%2==1)=z:=⟨_,rfl⟩
 obtain⟨v,hv⟩:∃ z,((f:Int) / 8%2==1)=z:=⟨_,rfl⟩
 have HE:Hid (zO 14 f=zH 14 z n y v):=show _=_ by unfold zO;rw[hz,hn,hy,hv]
 rw[HE.out]
 clear HE
 cases z<;>cases y
 all_goals
  go_enter Tryz.func77,Tryz.ntmps77
  go_wp2
  go_ret
  exact⟨by cases n<;>cases v<;>rfl,aB.alloc aL _⟩
theorem zKX(f:Nat)(w:World)(hf:f < 4294967296):Calls Tryz.prog 77 #[.int .i64 15,.int .u32 f] w fun e w'=>e=.returned (.bool (zO 15 f))∧Below w.heap.size w w':=by
 have hf0:(0:Int)≤f:=aO
 have hf1:(f:Int) < 4294967296:=aO
 obtain⟨z,hz⟩:∃ z,((f:Int)%2==1)=z:=⟨_,rfl⟩
 obtain⟨n,hn⟩:∃ z,((f:Int) / 2%2==1)=z:=⟨_,rfl⟩
 obtain⟨y,hy⟩:∃ z,((f:Int) / 4%2==1)=z:=⟨_,rfl⟩
 obtain⟨v,hv⟩:∃ z,((f:Int) / 8%2==1)=z:=⟨_,rfl⟩
 have HE:Hid (zO 15 f=zH 15 z n y v):=show _=_ by unfold zO;rw[hz,hn,hy,hv]
 rw[HE.out]
 clear HE
 cases z<;>cases y
 all_goals
  go_enter Tryz.func77,Tryz.ntmps77
  go_wp2
  go_ret
  exact⟨by cases n<;>cases v<;>rfl,aB.alloc aL _⟩
end Go.Proofs.YthcpipfmicbnmaaGreat.Va.Fl
