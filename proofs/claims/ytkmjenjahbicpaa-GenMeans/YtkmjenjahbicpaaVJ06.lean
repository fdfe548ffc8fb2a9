import Derived.Test.YtkmjenjahbicpaaVJ04
set_option linter.unusedVariables false
set_option linter.unusedSimpArgs false
set_option maxHeartbeats 2000000
namespace Go.Proofs.Ytkmjenjahbicpaa.Va.Fl
open Go.RowKit
set_option maxRecDepth 100000
theorem zP9(f:Nat)(w:World)(hf:f < 4294967296):Calls Try.prog 60 #[.int .i64 8,.int .u32 f] w fun e w'=>e=.returned (.bool (zZ 8 f))∧Below w.heap.size w w':=by
 have hf0:(0:Int)≤f:=aO
 have hf1:(f:Int) < 4294967296:=aO
 obtain⟨z,hz⟩:∃ z,((f:Int)%2==1)=z:=⟨_,rfl⟩
 obtain⟨n,hn⟩:∃ z,((f:Int) / 2%2==1)=z:=⟨_,rfl⟩
 obtain⟨y,hy⟩:∃ z,((f:Int) / 4%2==1)=z:=⟨_,rfl⟩
 obtain⟨v,hv⟩:∃ z,((f:Int) / 8%2==1)=z:=⟨_,rfl⟩
 have HE:Hid (zZ 8 f=zAh 8 z n y v):=show _=_ by unfold zZ;rw[hz,hn,hy,hv]
 rw[HE.out]
 clear HE
 cases z<;>cases y
 all_goals
  go_enter Try.func60,Try.ntmps60
  go_wp2
  go_ret
  exact⟨by cases n<;>cases v<;>rfl,aB.alloc aL _⟩
theorem zQa(f:Nat)(w:World)(hf:f < 4294967296):Calls Try.prog 60 #[.int .i64 9,.int .u32 f] w fun e w'=>e=.returned (.bool (zZ 9 f))∧Below w.heap.size w w':=by
 have hf0:(0:Int)≤f:=aO
 have hf1:(f:Int) < 4294967296:=aO
 obtain⟨z,hz⟩:∃ z,((f:Int)%2==1)=z:=⟨_,rfl⟩
 obtain⟨n,hn⟩:∃ z,((f:Int) / 2%2==1)=z:=⟨_,rfl⟩
 obtain⟨y,hy⟩:∃ z,((f:Int) / 4%2==1)=z:=⟨_,rfl⟩
 obtain⟨v,hv⟩:∃ z,((f:Int) / 8%2==1)=z:=⟨_,rfl⟩
 have HE:Hid (zZ 9 f=zAh 9 z n y v):=show _=_ by unfold zZ;rw[hz,hn,hy,hv]
 rw[HE.out]
 clear HE
 cases z<;>cases y
 all_goals
  go_enter Try.func60,Try.ntmps60
  go_wp2
  go_ret
  exact⟨by cases n<;>cases v<;>rfl,aB.alloc aL _⟩
theorem zNB(f:Nat)(w:World)(hf:f < 4294967296):Calls Try.prog 60 #[.int .i64 10,.int .u32 f] w fun e w'=>e=.returned (.bool (zZ 10 f))∧Below w.heap.size w w':=by
 have hf0:(0:Int)≤f:=aO
 have hf1:(f:Int) < 4294967296:=aO
 obtain⟨z,hz⟩:∃ z,((f:Int)%2==1)=z:=⟨_,rfl⟩
 obtain⟨n,hn⟩:∃ z,((f:Int) / 2%2==1)=z:=⟨_,rfl⟩
 obtain⟨y,hy⟩:∃ z,((f:Int) / 4%2==1)=z:=⟨_,rfl⟩
 obtain⟨v,hv⟩:∃ z,((f:Int) / 8%2==1)=z:=⟨_,rfl⟩
 have HE:Hid (zZ 10 f=zAh 10 z n y v):=show _=_ by unfold zZ;rw[hz,hn,hy,hv]
 rw[HE.out]
 clear HE
 cases z<;>cases y
 all_goals
  go_enter Try.func60,Try.ntmps60
  go_wp2
  go_ret
  exact⟨by cases n<;>cases v<;>rfl,aB.alloc aL _⟩
theorem holds11(f:Nat)(w:World)(hf:f < 4294967296):Calls Try.prog 60 #[.int .i64 11,.int .u32 f] w fun e w'=>e=.returned (.bool (zZ 11 f))∧Below w.heap.size w w':=by
 have hf0:(0:Int)≤f:=aO
 have hf1:(f:Int) < 4294967296:=aO
 obtain⟨z,hz⟩:∃ z,((f:Int)%2==1)=z:=⟨_,rfl⟩
 obtain⟨n,hn⟩:∃ z,((f:Int) / 2%2==1)=z:=⟨_,rfl⟩
 obtain⟨y,hy⟩:∃ z,((f:Int) / 4%2==1)=z:=⟨_,rfl⟩
 obtain⟨v,hv⟩:∃ z,((f:Int) / 8%2==1)=z:=⟨_,rfl⟩
 have HE:Hid (zZ 11 f=zAh 11 z n y v):=show _=_ by unfold zZ;rw[hz,hn,hy,hv]
 rw[HE.out]
 clear HE
 cases z<;>cases y
 all_goals
  go_enter Try.func60,Try.ntmps60
  go_wp2
  go_ret
  exact⟨by cases n<;>cases v<;>rfl,aB.alloc aL _⟩
theorem zNC(f:Nat)(w:World)(hf:f < 4294967296):Calls Try.prog 60 #[.int .i64 12,.int .u32 f] w fun e w'=>e=.returned (.bool (zZ 12 f))∧Below w.heap.size w w':=by
 have hf0:(0:Int)≤f:=aO
 have hf1:(f:Int) < 4294967296:=aO
 obtain⟨z,hz⟩:∃ z,((f:Int)%2==1)=z:=⟨_,rfl⟩
 obtain⟨n,hn⟩:∃ z,((f:Int) / 2%2==1)=z:=⟨_,rfl⟩
 obtain⟨y,hy⟩:∃ z,((f:Int) / 4%2==1)=z:=⟨_,rfl⟩
 obtain⟨v,hv⟩:∃ z,((f:Int) / 8%2==1)=z:=⟨_,rfl⟩
 have HE:Hid (zZ 12 f=zAh 12 z n y v):=show _=_ by unfold zZ;rw[hz,hn,hy,hv]
 rw[HE.out]
 clear HE
 cases z<;>cases y
 all_goals
  go_enter Try.func60,Try.ntmps60
  go_wp2
  go_ret
  exact⟨by cases n<;>cases v<;>rfl,aB.alloc aL _⟩
theorem zND(f:Nat)(w:World)(hf:f < 4294967296):Calls Try.prog 60 #[.int .i64 13,.int .u32 f] w fun e w'=>e=.returned (.bool (zZ 13 f))∧Below w.heap.size w w':=by
 have hf0:(0:Int)≤f:=aO
 have hf1:(f:Int) < 4294967296:=aO
 obtain⟨z,hz⟩:∃ z,((f:Int)%2==1)=z:=⟨_,rfl⟩
 obtain⟨n,hn⟩:∃ z,((f:Int) / 2%2==1)=z:=⟨_,rfl⟩
 obtain⟨y,hy⟩:∃ z,((f:Int) / 4%2==1)=z:=⟨_,rfl⟩
 obtain⟨v,hv⟩:∃ z,((f:Int) / 8%2==1)=z:=⟨_,rfl⟩
 have HE:Hid (zZ 13 f=zAh 13 z n y v):=show _=_ by unfold zZ;rw[hz,hn,hy,hv]
 rw[HE.out]
 clear HE
 cases z<;>cases y
 all_goals
  go_enter Try.func60,Try.ntmps60
  go_wp2
  go_ret
  exact⟨by cases n<;>cases v<;>rfl,aB.alloc aL _⟩
theorem zNE(f:Nat)(w:World)(hf:f < 4294967296):Calls Try.prog 60 #[.int .i64 14,.int .u32 f] w fun e w'=>e=.returned (.bool (zZ 14 f))∧Below w.heap.size w w':=by
 have hf0:(0:Int)≤f:=aO
 have hf1:(f:Int) < 4294967296:=aO
 obtain⟨z,hz⟩:∃ z,((f:Int)%2==1)=z:=⟨_,rfl⟩
 obtain⟨n,hn⟩:∃ z,((f:Int) / 2%2==1)=z:=⟨_,rfl⟩
 obtain⟨y,hy⟩:∃ z,((f:Int) / 4%2==1)=z:=⟨_,rfl⟩
 obtain⟨v,hv⟩:∃ z,((f:Int) / 8%2==1)=z:=⟨_,rfl⟩
 have HE:Hid (zZ 14 f=zAh 14 z n y v):=show _=_ by unfold zZ;rw[hz,hn,hy,hv]
 rw[HE.out]
 clear HE
 cases z<;>cases y
 all_goals
  go_enter Try.func60,Try.ntmps60
  go_wp2
  go_ret
  exact⟨by cases n<;>cases v<;>rfl,aB.alloc aL _⟩
theorem zNF(f:Nat)(w:World)(hf:f < 4294967296):Calls Try.prog 60 #[.int .i64 15,.int .u32 f] w fun e w'=>e=.returned (.bool (zZ 15 f))∧Below w.heap.size w w':=by
 have hf0:(0:Int)≤f:=aO
 have hf1:(f:Int) < 4294967296:=aO
 obtain⟨z,hz⟩:∃ z,((f:Int)%2==1)=z:=⟨_,rfl⟩
 obtain⟨n,hn⟩:∃ z,((f:Int) / 2%2==1)=z:=⟨_,rfl⟩
 obtain⟨y,hy⟩:∃ z,((f:Int) / 4%2==1)=z:=⟨_,rfl⟩
 obtain⟨v,hv⟩:∃ z,((f:Int) / 8%2==1)=z:=⟨_,rfl⟩
 have HE:Hid (zZ 15 f=zAh 15 z n y v):=show _=_ by unfold zZ;rw[hz,hn,hy,hv]
 rw[HE.out]
 clear HE
 cases z<;>cases y
 all_goals
  go_enter Try.func60,Try.ntmps60
  go_wp2
  go_ret
  exact⟨by cases n<;>cases v<;>rfl,aB.alloc aL _⟩
end Go.Proofs.Ytkmjenjahbicpaa.Va.Fl
