import Derived.Test.YtkmjenjahbicpaaVJ04
set_option linter.unusedVariables false
set_option linter.unusedSimpArgs false
set_option maxHeartbeats 2000000
namespace Go.Proofs.Ytkmjenjahbicpaa.Va.Fl
open Go.RowKit
set_option maxRecDepth 100000
theorem holds0(f:Nat)(w:World)(hf:f < 4294967296):Calls Try.prog 60 #[.int .i64 0,.int .u32 f] w fun e w'=>e=.returned (.bool (zZ 0 f))∧Below w.heap.size w w':=by
 have hf0:(0:Int)≤f:=aO
 have hf1:(f:Int) < 4294967296:=aO
 obtain⟨z,hz⟩:∃ z,((f:Int)%2==1)=z:=⟨_,rfl⟩
 obtain⟨n,hn⟩:∃ z,((f:Int) / 2%2==1)=z:=⟨_,rfl⟩
 obtain⟨y,hy⟩:∃ z,((f:Int) / 4%2==1)=z:=⟨_,rfl⟩
 obtain⟨v,hv⟩:∃ z,((f:Int) / 8%2==1)=z:=⟨_,rfl⟩
 have HE:Hid (zZ 0 f=zAh 0 z n y v):=show _=_ by unfold zZ;rw[hz,hn,hy,hv]
 rw[HE.out]
 clear HE
 cases z<;>cases y
 all_goals
  go_enter Try.func60,Try.ntmps60
  go_wp2
  go_ret
  exact⟨by cases n<;>cases v<;>rfl,aB.alloc aL _⟩
theorem zP2(f:Nat)(w:World)(hf:f < 4294967296):Calls Try.prog 60 #[.int .i64 1,.int .u32 f] w fun e w'=>e=.returned (.bool (zZ 1 f))∧Below w.heap.size w w':=by
 have hf0:(0:Int)≤f:=aO
 have hf1:(f:Int) < 4294967296:=aO
 obtain⟨z,hz⟩:∃ z,((f:Int)%2==1)=z:=⟨_,rfl⟩
 obtain⟨n,hn⟩:∃ z,((f:Int) / 2%2==1)=z:=⟨_,rfl⟩
 obtain⟨y,hy⟩:∃ z,((f:Int) / 4%2==1)=z:=⟨_,rfl⟩
 obtain⟨v,hv⟩:∃ z,((f:Int) / 8%2==1)=z:=⟨_,rfl⟩
 have HE:Hid (zZ 1 f=zAh 1 z n y v):=show _=_ by unfold zZ;rw[hz,hn,hy,hv]
 rw[HE.out]
 clear HE
 cases z<;>cases y
 all_goals
  go_enter Try.func60,Try.ntmps60
  go_wp2
  go_ret
  exact⟨by cases n<;>cases v<;>rfl,aB.alloc aL _⟩
theorem zP3(f:Nat)(w:World)(hf:f < 4294967296):Calls Try.prog 60 #[.int .i64 2,.int .u32 f] w fun e w'=>e=.returned (.bool (zZ 2 f))∧Below w.heap.size w w':=by
 have hf0:(0:Int)≤f:=aO
 have hf1:(f:Int) < 4294967296:=aO
 obtain⟨z,hz⟩:∃ z,((f:Int)%2==1)=z:=⟨_,rfl⟩
 obtain⟨n,hn⟩:∃ z,((f:Int) / 2%2==1)=z:=⟨_,rfl⟩
 obtain⟨y,hy⟩:∃ z,((f:Int) / 4%2==1)=z:=⟨_,rfl⟩
 obtain⟨v,hv⟩:∃ z,((f:Int) / 8%2==1)=z:=⟨_,rfl⟩
 have HE:Hid (zZ 2 f=zAh 2 z n y v):=show _=_ by unfold zZ;rw[hz,hn,hy,hv]
 rw[HE.out]
 clear HE
 cases z<;>cases y
 all_goals
  go_enter Try.func60,Try.ntmps60
  go_wp2
  go_ret
  exact⟨by cases n<;>cases v<;>rfl,aB.alloc aL _⟩
theorem zP4(f:Nat)(w:World)(hf:f < 4294967296):Calls Try.prog 60 #[.int .i64 3,.int .u32 f] w fun e w'=>e=.returned (.bool (zZ 3 f))∧Below w.heap.size w w':=by
 have hf0:(0:Int)≤f:=aO
 have hf1:(f:Int) < 4294967296:=aO
 obtain⟨z,hz⟩:∃ z,((f:Int)%2==1)=z:=⟨_,rfl⟩
 obtain⟨n,hn⟩:∃ z,((f:Int) / 2%2==1)=z:=⟨_,rfl⟩
 obtain⟨y,hy⟩:∃ z,((f:Int) / 4%2==1)=z:=⟨_,rfl⟩
 obtain⟨v,hv⟩:∃ z,((f:Int) / 8%2==1)=z:=⟨_,rfl⟩
 have HE:Hid (zZ 3 f=zAh 3 z n y v):=show _=_ by unfold zZ;rw[hz,hn,hy,hv]
 rw[HE.out]
 clear HE
 cases z<;>cases y
 all_goals
  go_enter Try.func60,Try.ntmps60
  go_wp2
  go_ret
  exact⟨by cases n<;>cases v<;>rfl,aB.alloc aL _⟩
theorem zP5(f:Nat)(w:World)(hf:f < 4294967296):Calls Try.prog 60 #[.int .i64 4,.int .u32 f] w fun e w'=>e=.returned (.bool (zZ 4 f))∧Below w.heap.size w w':=by
 have hf0:(0:Int)≤f:=aO
 have hf1:(f:Int) < 4294967296:=aO
 obtain⟨z,hz⟩:∃ z,((f:Int)%2==1)=z:=⟨_,rfl⟩
 obtain⟨n,hn⟩:∃ z,((f:Int) / 2%2==1)=z:=⟨_,rfl⟩
 obtain⟨y,hy⟩:∃ z,((f:Int) / 4%2==1)=z:=⟨_,rfl⟩
 obtain⟨v,hv⟩:∃ z,((f:Int) / 8%2==1)=z:=⟨_,rfl⟩
 have HE:Hid (zZ 4 f=zAh 4 z n y v):=show _=_ by unfold zZ;rw[hz,hn,hy,hv]
 rw[HE.out]
 clear HE
 cases z<;>cases y
 all_goals
  go_enter Try.func60,Try.ntmps60
  go_wp2
  go_ret
  exact⟨by cases n<;>cases v<;>rfl,aB.alloc aL _⟩
theorem zP6(f:Nat)(w:World)(hf:f < 4294967296):Calls Try.prog 60 #[.int .i64 5,.int .u32 f] w fun e w'=>e=.returned (.bool (zZ 5 f))∧Below w.heap.size w w':=by
 have hf0:(0:Int)≤f:=aO
 have hf1:(f:Int) < 4294967296:=aO
 obtain⟨z,hz⟩:∃ z,((f:Int)%2==1)=z:=⟨_,rfl⟩
 obtain⟨n,hn⟩:∃ z,((f:Int) / 2%2==1)=z:=⟨_,rfl⟩
 obtain⟨y,hy⟩:∃ z,((f:Int) / 4%2==1)=z:=⟨_,rfl⟩
 obtain⟨v,hv⟩:∃ z,((f:Int) / 8%2==1)=z:=⟨_,rfl⟩
 have HE:Hid (zZ 5 f=zAh 5 z n y v):=show _=_ by unfold zZ;rw[hz,hn,hy,hv]
 rw[HE.out]
 clear HE
 cases z<;>cases y
 all_goals
  go_enter Try.func60,Try.ntmps60
  go_wp2
  go_ret
  exact⟨by cases n<;>cases v<;>rfl,aB.alloc aL _⟩
theorem zP7(f:Nat)(w:World)(hf:f < 4294967296):Calls Try.prog 60 #[.int .i64 6,.int .u32 f] w fun e w'=>e=.returned (.bool (zZ 6 f))∧Below w.heap.size w w':=by
 have hf0:(0:Int)≤f:=aO
 have hf1:(f:Int) < 4294967296:=aO
 obtain⟨z,hz⟩:∃ z,((f:Int)%2==1)=z:=⟨_,rfl⟩
 obtain⟨n,hn⟩:∃ z,((f:Int) / 2%2==1)=z:=⟨_,rfl⟩
 obtain⟨y,hy⟩:∃ z,((f:Int) / 4%2==1)=z:=⟨_,rfl⟩
 obtain⟨v,hv⟩:∃ z,((f:Int) / 8%2==1)=z:=⟨_,rfl⟩
 have HE:Hid (zZ 6 f=zAh 6 z n y v):=show _=_ by unfold zZ;rw[hz,hn,hy,hv]
 rw[HE.out]
 clear HE
 cases z<;>cases y
 all_goals
  go_enter Try.func60,Try.ntmps60
  go_wp2
  go_ret
  exact⟨by cases n<;>cases v<;>rfl,aB.alloc aL _⟩
theorem zP8(f:Nat)(w:World)(hf:f < 4294967296):Calls Try.prog 60 #[.int .i64 7,.int .u32 f] w fun e w'=>e=.returned (.bool (zZ 7 f))∧Below w.heap.size w w':=by
 have hf0:(0:Int)≤f:=aO
 have hf1:(f:Int) < 4294967296:=aO
 obtain⟨z,hz⟩:∃ z,((f:Int)%2==1)=z:=⟨_,rfl⟩
 obtain⟨n,hn⟩:∃ z,((f:Int) / 2%2==1)=z:=⟨_,rfl⟩
 obtain⟨y,hy⟩:∃ z,((f:Int) / 4%2==1)=z:=⟨_,rfl⟩
 obtain⟨v,hv⟩:∃ z,((f:Int) / 8%2==1)=z:=⟨_,rfl⟩
 have HE:Hid (zZ 7 f=zAh 7 z n y v):=show _=_ by unfold zZ;rw[hz,hn,hy,hv]
 rw[HE.out]
 clear HE
 cases z<;>cases y
 all_goals
  go_enter Try.func60,Try.ntmps60
  go_wp2
  go_ret
  exact⟨by cases n<;>cases v<;>rfl,aB.alloc aL _⟩
end Go.Proofs.Ytkmjenjahbicpaa.Va.Fl
