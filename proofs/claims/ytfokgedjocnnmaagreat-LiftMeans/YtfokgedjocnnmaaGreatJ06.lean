import Derived.Test.YtfokgedjocnnmaaGreatJ04
set_option linter.unusedVariables false
set_option linter.unusedSimpArgs false
set_option maxHeartbeats 2000000
namespace Go.Proofs.YtfokgedjocnnmaaGreat.Fl
open Go.RowKit
set_option maxRecDepth 100000
theorem holds8(f:Nat)(w:World)(hf:f < 4294967296):Calls Tryz.prog 63 #[.int .i64 8,.int .u32 f] w fun e w'=>e=.returned (.bool (holdsF 8 f))∧Below w.heap.size w w':=by
 have hf0:(0:Int)≤f:=zo
 have hf1:(f:Int) < 4294967296:=zo
 obtain⟨z,hz⟩:∃ z,((f:Int)%2==1)=z:=⟨_,rfl⟩
 obtain⟨n,hn⟩:∃ z,((f:Int) / 2%2==1)=z:=⟨_,rfl⟩
 obtain⟨y,hy⟩:∃ z,((f:Int) / 4%2==1)=z:=⟨_,rfl⟩
 obtain⟨v,hv⟩:∃ z,((f:Int) / 8%2==1)=z:=⟨_,rfl⟩
 have HE:Hid (holdsF 8 f=holdsZ 8 z n y v):=show _=_ by unfold holdsF;rw[hz,hn,hy,hv]
 rw[HE.out]
 clear HE
 cases z<;>cases y
 all_goals
  go_enter Tryz.func63,Tryz.ntmps63
  go_wp2
  go_ret
  exact⟨by cases n<;>cases v<;>rfl,(Below.refl _ _).alloc (Nat.le_refl _) _⟩
theorem holds9(f:Nat)(w:World)(hf:f < 4294967296):Calls Tryz.prog 63 #[.int .i64 9,.int .u32 f] w fun e w'=>e=.returned (.bool (holdsF 9 f))∧Below w.heap.size w w':=by
 have hf0:(0:Int)≤f:=zo
 have hf1:(f:Int) < 4294967296:=zo
 obtain⟨z,hz⟩:∃ z,((f:Int)%2==1)=z:=⟨_,rfl⟩
 obtain⟨n,hn⟩:∃ z,((f:Int) / 2%2==1)=z:=⟨_,rfl⟩
 obtain⟨y,hy⟩:∃ z,((f:Int) / 4%2==1)=z:=⟨_,rfl⟩
 obtain⟨v,hv⟩:∃ z,((f:Int) / 8%2==1)=z:=⟨_,rfl⟩
 have HE:Hid (holdsF 9 f=holdsZ 9 z n y v):=show _=_ by unfold holdsF;rw[hz,hn,hy,hv]
 rw[HE.out]
 clear HE
 cases z<;>cases y
 all_goals
  go_enter Tryz.func63,Tryz.ntmps63
  go_wp2
  go_ret
  exact⟨by cases n<;>cases v<;>rfl,(Below.refl _ _).alloc (Nat.le_refl _) _⟩
theorem holds10(f:Nat)(w:World)(hf:f < 4294967296):Calls Tryz.prog 63 #[.int .i64 10,.int .u32 f] w fun e w'=>e=.returned (.bool (holdsF 10 f))∧Below w.heap.size w w':=by
 have hf0:(0:Int)≤f:=zo
 have hf1:(f:Int) < 4294967296:=zo
 obtain⟨z,hz⟩:∃ z,((f:Int)%2==1)=z:=⟨_,rfl⟩
 obtain⟨n,hn⟩:∃ z,((f:Int) / 2%2==1)=z:=⟨_,rfl⟩
 obtain⟨y,hy⟩:∃ z,((f:Int) / 4%2==1)=z:=⟨_,rfl⟩
 obtain⟨v,hv⟩:∃ z,((f:Int) / 8%2==1)=z:=⟨_,rfl⟩
 have HE:Hid (holdsF 10 f=holdsZ 10 z n y v):=show _=_ by unfold holdsF;rw[hz,hn,hy,hv]
 rw[HE.out]
 clear HE
 cases z<;>cases y
 all_goals
  go_enter Tryz.func63,Tryz.ntmps63
  go_wp2
  go_ret
  exact⟨by cases n<;>cases v<;>rfl,(Below.refl _ _).alloc (Nat.le_refl _) _⟩
theorem holds11(f:Nat)(w:World)(hf:f < 4294967296):Calls Tryz.prog 63 #[.int .i64 11,.int .u32 f] w fun e w'=>e=.returned (.bool (holdsF 11 f))∧Below w.heap.size w w':=by
 have hf0:(0:Int)≤f:=zo
 have hf1:(f:Int) < 4294967296:=zo
 obtain⟨z,hz⟩:∃ z,((f:Int)%2==1)=z:=⟨_,rfl⟩
 obtain⟨n,hn⟩:∃ z,((f:Int) / 2%2==1)=z:=⟨_,rfl⟩
 obtain⟨y,hy⟩:∃ z,((f:Int) / 4%2==1)=z:=⟨_,rfl⟩
 obtain⟨v,hv⟩:∃ z,((f:Int) / 8%2==1)=z:=⟨_,rfl⟩
 have HE:Hid (holdsF 11 f=holdsZ 11 z n y v):=show _=_ by unfold holdsF;rw[hz,hn,hy,hv]
 rw[HE.out]
 clear HE
 cases z<;>cases y
 all_goals
  go_enter Tryz.func63,Tryz.ntmps63
  go_wp2
  go_ret
  exact⟨by cases n<;>cases v<;>rfl,(Below.refl _ _).alloc (Nat.le_refl _) _⟩
theorem holds12(f:Nat)(w:World)(hf:f < 4294967296):Calls Tryz.prog 63 #[.int .i64 12,.int .u32 f] w fun e w'=>e=.returned (.bool (holdsF 12 f))∧Below w.heap.size w w':=by
 have hf0:(0:Int)≤f:=zo
 have hf1:(f:Int) < 4294967296:=zo
 obtain⟨z,hz⟩:∃ z,((f:Int)%2==1)=z:=⟨_,rfl⟩
 obtain⟨n,hn⟩:∃ z,((f:Int) / 2%2==1)=z:=⟨_,rfl⟩
 obtain⟨y,hy⟩:∃ z,((f:Int) / 4%2==1)=z:=⟨_,rfl⟩
 obtain⟨v,hv⟩:∃ z,((f:Int) / 8%2==1)=z:=⟨_,rfl⟩
 have HE:Hid (holdsF 12 f=holdsZ 12 z n y v):=show _=_ by unfold holdsF;rw[hz,hn,hy,hv]
 rw[HE.out]
 clear HE
 cases z<;>cases y
 all_goals
  go_enter Tryz.func63,Tryz.ntmps63
  go_wp2
  go_ret
  exact⟨by cases n<;>cases v<;>rfl,(Below.refl _ _).alloc (Nat.le_refl _) _⟩
theorem holds13(f:Nat)(w:World)(hf:f < 4294967296):Calls Tryz.prog 63 #[.int .i64 13,.int .u32 f] w fun e w'=>e=.returned (.bool (holdsF 13 f))∧Below w.heap.size w w':=by
 have hf0:(0:Int)≤f:=zo
 have hf1:(f:Int) < 4294967296:=zo
 obtain⟨z,hz⟩:∃ z,((f:Int)%2==1)=z:=⟨_,rfl⟩
 obtain⟨n,hn⟩:∃ z,((f:Int) / 2%2==1)=z:=⟨_,rfl⟩
 obtain⟨y,hy⟩:∃ z,((f:Int) / 4%2==1)=z:=⟨_,rfl⟩
 obtain⟨v,hv⟩:∃ z,((f:Int) / 8%2==1)=z:=⟨_,rfl⟩
 have HE:Hid (holdsF 13 f=holdsZ 13 z n y v):=show _=_ by unfold holdsF;rw[hz,hn,hy,hv]
 rw[HE.out]
 clear HE
 cases z<;>cases y
 all_goals
  go_enter Tryz.func63,Tryz.ntmps63
  go_wp2
  go_ret
  exact⟨by cases n<;>cases v<;>rfl,(Below.refl _ _).alloc (Nat.le_refl _) _⟩
theorem holds14(f:Nat)(w:World)(hf:f < 4294967296):Calls Tryz.prog 63 #[.int .i64 14,.int .u32 f] w fun e w'=>e=.returned (.bool (holdsF 14 f))∧Below w.heap.size w w':=by
 have hf0:(0:Int)≤f:=zo
 have hf1:(f:Int) < 4294967296:=zo
 obtain⟨z,hz⟩:∃ z,((f:Int)%2==1)=z:=⟨_,rfl⟩
 obtain⟨n,hn⟩:∃ z,((f:Int) / 2%2==1)=z:=⟨_,rfl⟩
 obtain⟨y,hy⟩:∃ z,((f:Int) / 4%2==1)=z:=⟨_,rfl⟩
 obtain⟨v,hv⟩:∃ z,((f:Int) / 8%2==1)=z:=⟨_,rfl⟩
 have HE:Hid (holdsF 14 f=holdsZ 14 z n y v):=show _=_ by unfold holdsF;rw[hz,hn,hy,hv]
 rw[HE.out]
 clear HE
 cases z<;>cases y
 all_goals
  go_enter Tryz.func63,Tryz.ntmps63
  go_wp2
  go_ret
  exact⟨by cases n<;>cases v<;>rfl,(Below.refl _ _).alloc (Nat.le_refl _) _⟩
theorem holds15(f:Nat)(w:World)(hf:f < 4294967296):Calls Tryz.prog 63 #[.int .i64 15,.int .u32 f] w fun e w'=>e=.returned (.bool (holdsF 15 f))∧Below w.heap.size w w':=by
 have hf0:(0:Int)≤f:=zo
 have hf1:(f:Int) < 4294967296:=zo
 obtain⟨z,hz⟩:∃ z,((f:Int)%2==1)=z:=⟨_,rfl⟩
 obtain⟨n,hn⟩:∃ z,((f:Int) / 2%2==1)=z:=⟨_,rfl⟩
 obtain⟨y,hy⟩:∃ z,((f:Int) / 4%2==1)=z:=⟨_,rfl⟩
 obtain⟨v,hv⟩:∃ z,((f:Int) / 8%2==1)=z:=⟨_,rfl⟩
 have HE:Hid (holdsF 15 f=holdsZ 15 z n y v):=show _=_ by unfold holdsF;rw[hz,hn,hy,hv]
 rw[HE.out]
 clear HE
 cases z<;>cases y
 all_goals
  go_enter Tryz.func63,Tryz.ntmps63
  go_wp2
  go_ret
  exact⟨by cases n<;>cases v<;>rfl,(Below.refl _ _).alloc (Nat.le_refl _) _⟩
end Go.Proofs.YtfokgedjocnnmaaGreat.Fl
