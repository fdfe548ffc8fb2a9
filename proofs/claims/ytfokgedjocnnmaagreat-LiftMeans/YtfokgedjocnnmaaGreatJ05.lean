import Derived.Test.YtfokgedjocnnmaaGreatJ04
set_option linter.unusedVariables false
set_option linter.unusedSimpArgs false
set_option maxHeartbeats 2000000
namespace Go.Proofs.YtfokgedjocnnmaaGreat.Fl
open Go.RowKit
set_option maxRecDepth 100000
theorem holds0(f:Nat)(w:World)(hf:f < 4294967296):Calls Tryz.prog 63 #[.int .i64 0,.int .u32 f] w fun e w'=>e=.returned (.bool (holdsF 0 f))∧Below w.heap.size w w':=by
 have hf0:(0:Int)≤f:=zo
 have hf1:(f:Int) < 4294967296:=zo
 obtain⟨z,hz⟩:∃ z,((f:Int)%2==1)=z:=⟨_,rfl⟩
 obtain⟨n,hn⟩:∃ z,((f:Int) / 2%2==1)=z:=⟨_,rfl⟩
 obtain⟨y,hy⟩:∃ z,((f:Int) / 4%2==1)=z:=⟨_,rfl⟩
 obtain⟨v,hv⟩:∃ z,((f:Int) / 8%2==1)=z:=⟨_,rfl⟩
 have HE:Hid (holdsF 0 f=holdsZ 0 z n y v):=show _=_ by unfold holdsF;rw[hz,hn,hy,hv]
 rw[HE.out]
 clear HE
 cases z<;>cases y
 all_goals
  go_enter Tryz.func63,Tryz.ntmps63
  go_wp2
  go_ret
  exact⟨by cases n<;>cases v<;>rfl,(Below.refl _ _).alloc (Nat.le_refl _) _⟩
theorem holds1(f:Nat)(w:World)(hf:f < 4294967296):Calls Tryz.prog 63 #[.int .i64 1,.int .u32 f] w fun e w'=>e=.returned (.bool (holdsF 1 f))∧Below w.heap.size w w':=by
 have hf0:(0:Int)≤f:=zo
 have hf1:(f:Int) < 4294967296:=zo
 obtain⟨z,hz⟩:∃ z,((f:Int)%2==1)=z:=⟨_,rfl⟩
 obtain⟨n,hn⟩:∃ z,((f:Int) / 2%2==1)=z:=⟨_,rfl⟩
 obtain⟨y,hy⟩:∃ z,((f:Int) / 4%2==1)=z:=⟨_,rfl⟩
 obtain⟨v,hv⟩:∃ z,((f:Int) / 8%2==1)=z:=⟨_,rfl⟩
 have HE:Hid (holdsF 1 f=holdsZ 1 z n y v):=show _=_ by unfold holdsF;rw[hz,hn,hy,hv]
 rw[HE.out]
 clear HE
 cases z<;>cases y
 all_goals
  go_enter Tryz.func63,Tryz.ntmps63
  go_wp2
  go_ret
  exact⟨by cases n<;>cases v<;>rfl,(Below.refl _ _).alloc (Nat.le_refl _) _⟩
theorem holds2(f:Nat)(w:World)(hf:f < 4294967296):Calls Tryz.prog 63 #[.int .i64 2,.int .u32 f] w fun e w'=>e=.returned (.bool (holdsF 2 f))∧Below w.heap.size w w':=by
 have hf0:(0:Int)≤f:=zo
 have hf1:(f:Int) < 4294967296:=zo
 obtain⟨z,hz⟩:∃ z,((f:Int)%2==1)=z:=⟨_,rfl⟩
 obtain⟨n,hn⟩:∃ z,((f:Int) / 2%2==1)=z:=⟨_,rfl⟩
 obtain⟨y,hy⟩:∃ z,((f:Int) / 4%2==1)=z:=⟨_,rfl⟩
 obtain⟨v,hv⟩:∃ z,((f:Int) / 8%2==1)=z:=⟨_,rfl⟩
 have HE:Hid (holdsF 2 f=holdsZ 2 z n y v):=show _=_ by unfold holdsF;rw[hz,hn,hy,hv]
 rw[HE.out]
 clear HE
 cases z<;>cases y
 all_goals
  go_enter Tryz.func63,Tryz.ntmps63
  go_wp2
  go_ret
  exact⟨by cases n<;>cases v<;>rfl,(Below.refl _ _).alloc (Nat.le_refl _) _⟩
theorem holds3(f:Nat)(w:World)(hf:f < 4294967296):Calls Tryz.prog 63 #[.int .i64 3,.int .u32 f] w fun e w'=>e=.returned (.bool (holdsF 3 f))∧Below w.heap.size w w':=by
 have hf0:(0:Int)≤f:=zo
 have hf1:(f:Int) < 4294967296:=zo
 obtain⟨z,hz⟩:∃ z,((f:Int)%2==1)=z:=⟨_,rfl⟩
 obtain⟨n,hn⟩:∃ z,((f:Int) / 2%2==1)=z:=⟨_,rfl⟩
 obtain⟨y,hy⟩:∃ z,((f:Int) / 4%2==1)=z:=⟨_,rfl⟩
 obtain⟨v,hv⟩:∃ z,((f:Int) / 8%2==1)=z:=⟨_,rfl⟩
 have HE:Hid (holdsF 3 f=holdsZ 3 z n y v):=show _=_ by unfold holdsF;rw[hz,hn,hy,hv]
 rw[HE.out]
 clear HE
 cases z<;>cases y
 all_goals
  go_enter Tryz.func63,Tryz.ntmps63
  go_wp2
  go_ret
  exact⟨by cases n<;>cases v<;>rfl,(Below.refl _ _).alloc (Nat.le_refl _) _⟩
theorem holds4(f:Nat)(w:World)(hf:f < 4294967296):Calls Tryz.prog 63 #[.int .i64 4,.int .u32 f] w fun e w'=>e=.returned (.bool (holdsF 4 f))∧Below w.heap.size w w':=by
 have hf0:(0:Int)≤f:=zo
 have hf1:(f:Int) < 4294967296:=zo
 obtain⟨z,hz⟩:∃ z,((f:Int)%2==1)=z:=⟨_,rfl⟩
 obtain⟨n,hn⟩:∃ z,((f:Int) / 2%2==1)=z:=⟨_,rfl⟩
 obtain⟨y,hy⟩:∃ z,((f:Int) / 4%2==1)=z:=⟨_,rfl⟩
 obtain⟨v,hv⟩:∃ z,((f:Int) / 8%2==1)=z:=⟨_,rfl⟩
 have HE:Hid (holdsF 4 f=holdsZ 4 z n y v):=show _=_ by unfold holdsF;rw[hz,hn,hy,hv]
 rw[HE.out]
 clear HE
 cases z<;>cases y
 all_goals
  go_enter Tryz.func63,Tryz.ntmps63
  go_wp2
  go_ret
  exact⟨by cases n<;>cases v<;>rfl,(Below.refl _ _).alloc (Nat.le_refl _) _⟩
theorem holds5(f:Nat)(w:World)(hf:f < 4294967296):Calls Tryz.prog 63 #[.int .i64 5,.int .u32 f] w fun e w'=>e=.returned (.bool (holdsF 5 f))∧Below w.heap.size w w':=by
 have hf0:(0:Int)≤f:=zo
 have hf1:(f:Int) < 4294967296:=zo
 obtain⟨z,hz⟩:∃ z,((f:Int)%2==1)=z:=⟨_,rfl⟩
 obtain⟨n,hn⟩:∃ z,((f:Int) / 2%2==1)=z:=⟨_,rfl⟩
 obtain⟨y,hy⟩:∃ z,((f:Int) / 4%2==1)=z:=⟨_,rfl⟩
 obtain⟨v,hv⟩:∃ z,((f:Int) / 8%2==1)=z:=⟨_,rfl⟩
 have HE:Hid (holdsF 5 f=holdsZ 5 z n y v):=show _=_ by unfold holdsF;rw[hz,hn,hy,hv]
 rw[HE.out]
 clear HE
 cases z<;>cases y
 all_goals
  go_enter Tryz.func63,Tryz.ntmps63
  go_wp2
  go_ret
  exact⟨by cases n<;>cases v<;>rfl,(Below.refl _ _).alloc (Nat.le_refl _) _⟩
theorem holds6(f:Nat)(w:World)(hf:f < 4294967296):Calls Tryz.prog 63 #[.int .i64 6,.int .u32 f] w fun e w'=>e=.returned (.bool (holdsF 6 f))∧Below w.heap.size w w':=by
 have hf0:(0:Int)≤f:=zo
 have hf1:(f:Int) < 4294967296:=zo
 obtain⟨z,hz⟩:∃ z,((f:Int)%2==1)=z:=⟨_,rfl⟩
 obtain⟨n,hn⟩:∃ z,((f:Int) / 2%2==1)=z:=⟨_,rfl⟩
 obtain⟨y,hy⟩:∃ z,((f:Int) / 4%2==1)=z:=⟨_,rfl⟩
 obtain⟨v,hv⟩:∃ z,((f:Int) / 8%2==1)=z:=⟨_,rfl⟩
 have HE:Hid (holdsF 6 f=holdsZ 6 z n y v):=show _=_ by unfold holdsF;rw[hz,hn,hy,hv]
 rw[HE.out]
 clear HE
 cases z<;>cases y
 all_goals
  go_enter Tryz.func63,Tryz.ntmps63
  go_wp2
  go_ret
  exact⟨by cases n<;>cases v<;>rfl,(Below.refl _ _).alloc (Nat.le_refl _) _⟩
theorem holds7(f:Nat)(w:World)(hf:f < 4294967296):Calls Tryz.prog 63 #[.int .i64 7,.int .u32 f] w fun e w'=>e=.returned (.bool (holdsF 7 f))∧Below w.heap.size w w':=by
 have hf0:(0:Int)≤f:=zo
 have hf1:(f:Int) < 4294967296:=zo
 obtain⟨z,hz⟩:∃ z,((f:Int)%2==1)=z:=⟨_,rfl⟩
 obtain⟨n,hn⟩:∃ z,((f:Int) / 2%2==1)=z:=⟨_,rfl⟩
 obtain⟨y,hy⟩:∃ z,((f:Int) / 4%2==1)=z:=⟨_,rfl⟩
 obtain⟨v,hv⟩:∃ z,((f:Int) / 8%2==1)=z:=⟨_,rfl⟩
 have HE:Hid (holdsF 7 f=holdsZ 7 z n y v):=show _=_ by unfold holdsF;rw[hz,hn,hy,hv]
 rw[HE.out]
 clear HE
 cases z<;>cases y
 all_goals
  go_enter Tryz.func63,Tryz.ntmps63
  go_wp2
  go_ret
  exact⟨by cases n<;>cases v<;>rfl,(Below.refl _ _).alloc (Nat.le_refl _) _⟩
end Go.Proofs.YtfokgedjocnnmaaGreat.Fl
