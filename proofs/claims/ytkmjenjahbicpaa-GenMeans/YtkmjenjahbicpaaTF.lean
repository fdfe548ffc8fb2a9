import Derived.Test.YtkmjenjahbicpaaWBO
set_option linter.unusedVariables false
set_option linter.unusedSimpArgs false
set_option maxHeartbeats 16000000
namespace Go.Proofs.Ytkmjenjahbicpaa.Ho
open Go.RowKit
set_option maxRecDepth 100000
theorem zIn(regs:Int):∃ (t:Int) (rg:Nat),regs.tmod 14=t∧t < 14∧-14 < t∧3+t%14=(rg:Int)∧3≤rg∧rg≤16:=by
 have t1:regs.tmod 14 < 14:=Int.tmod_lt_of_pos regs (show(0:Int) < 14 by omega)
 have t2 : -14 < regs.tmod 14:=Int.lt_tmod_of_pos regs (show(0:Int) < 14 by omega)
 exact⟨_,(3+regs.tmod 14%14).toNat,rfl,t1,t2,by omega,by omega,by omega⟩
theorem GA1.start{W w0:World}{X:Nat}{k:Va.RB}{m:Va.MS}{o1 o2:Obj}{bp:Option Addr}{n:Nat}{f:Nat→zL}(hO:vN W bp n f)(hB:Va.BS ((W.alloc o1).alloc o2) w0 X k m m):GA1 W w0 k m [(W.heap.size+1,o2),(W.heap.size,o1)] bp n f:=
 ⟨hB.rm,(kp0 W o1 o2).below hB.bel,(hO.below (w2b W o1 o2) aL).below hB.bel aL,(w2b W o1 o2).trans (hB.bel.mono zq19),fun x hx=>by have:=hB.far x (aM _ hx);simp at this;omega⟩
theorem zPH(pc:Nat)(count bytes:Int)(bp pp mp:Option Addr)(n cap plen pcap mlen mcap:Nat)(f:Nat→zL)(c:Nat→Nat)(regs:Int)(W:World)(hO:vN W bp n f)(hby:n*56≤140737488355328)(hp:Va.zDG W pp plen)(hm:Va.Marks W mp mlen)(hz:(yH count bytes n f).1≠0) :
  Calls Try.prog 3 #[.agg #[.int .u32 pc,.int .i64 count,.int .i64 bytes,.slice bp n cap],.int .i64 regs,Va.cxV c,.slice pp plen pcap,.slice mp mlen mcap] W fun e w'=>e=.returned (.bool true)∧Below W.heap.size W w':=by
 have HO:Hid (vN W bp n f):=hO
 have HN:Hid (n < 9223372036854775807):=by show n < _;omega
 obtain⟨⟨e1,e2⟩,HE⟩:∃ E,Hid (yH count bytes n f=E):=⟨_,rfl⟩
 have he1:e1≠0:=by have:=hz;rw[HE.out] at this;exact this
 have d1:(e1==0)=false:=by simpa using he1
 have d2:(e1 !=0)=true:=by simpa using he1
 have HPs:Hid _:=hp
 have HMs:Hid _:=hm
 obtain⟨t,rg,ht,t1,t2,hrg,hr3,hr16⟩:=zIn regs
 have HR3:Hid _:=hr3
 have HR16:Hid _:=hr16
 clear hp hm hr3 hr16
 clear hO hby hz he1
 go_enter Try.func3,Try.ntmps3
 go_upto_region 5 with first
  | (go_at_call 4;refine(Va.zGh pp mp plen pcap mlen mcap _ (zDP HPs.out (w2b W _ _)) (zDO HMs.out (w2b W _ _))).mono ?_;rintro e w0 ⟨X,k,m,rfl,hB0,hT0⟩;have H0:Hid (GA1 W w0 k m [(W.heap.size+1,.cells (Va.cxA c) 27),(W.heap.size,.cells #[.int .u32 pc,.int .i64 count,.int .i64 bytes,.slice bp n cap] 25)] bp n f):=GA1.start HO.out hB0;have HT0:Hid (Va.zAi m=false):=untold hT0;have HMO:Hid m.Ok:=hB0.ok1;clear hB0 hT0)
 have b0:w0.cell? ⟨W.heap.size,0,none⟩=some (.int .u32 pc):=zA (H0.out.kp.k _ (aM _ aC)) 0
 have b1:w0.cell? ⟨W.heap.size,1,none⟩=some (.int .i64 count):=zA (H0.out.kp.k _ (aM _ aC)) 1
 have b2:w0.cell? ⟨W.heap.size,2,none⟩=some (.int .i64 bytes):=zA (H0.out.kp.k _ (aM _ aC)) 2
 have b3:w0.cell? ⟨W.heap.size,3,none⟩=some (.slice bp n cap):=zA (H0.out.kp.k _ (aM _ aC)) 3
 have bl:W.heap.size < w0.heap.size:=H0.out.kp.lt (aM _ aC)
 go_wp2_with (go_at_call 5;refine(zEP pc count bytes bp n cap f _ H0.out.o HN.out).mono ?_;rintro e w1 ⟨rfl,h1⟩;rw[HE.out];have H1:Hid _:=H0.out.below h1;clear h1)
 go_ret
 exact⟨rfl,H1.out.bel⟩
theorem zNa(pc:Nat)(count bytes:Int)( pp mp:Option Addr)(n cap plen pcap mlen mcap:Nat)(f:Nat→zL)(c:Nat→Nat)(regs:Int)(W:World)(ob off:Nat)(hO:vN W (some ⟨ob,off,none⟩) n f)(hby:n*56≤140737488355328)(hcap:n≤cap)(hkf:∀ j,j < n→(f j).k < 4294967296)(hpc:pc < 4294967296)(hcx:Va.zC3 c)(hp:Va.zDG W pp plen)(hm:Va.Marks W mp mlen)(hz:(yH count bytes n f).1=0) :
  Calls Try.prog 3 #[.agg #[.int .u32 pc,.int .i64 count,.int .i64 bytes,.slice (some ⟨ob,off,none⟩) n cap],.int .i64 regs,Va.cxV c,.slice pp plen pcap,.slice mp mlen mcap] W fun e w'=>e=.returned (.bool true)∧Below W.heap.size W w':=by
 have HO:Hid (vN W (some ⟨ob,off,none⟩) n f):=hO
 have HKF:Hid _:=hkf
 have HPC:Hid _:=hpc
 have HCX:Hid (Va.zC3 c):=hcx
 have HCAP:Hid (n≤cap):=hcap
 have HN:Hid (n < 9223372036854775807):=by show n < _;omega
 have HZ:Hid ((yH count bytes n f).1=0):=hz
 obtain⟨e2,HE⟩:∃ e2,Hid (yH count bytes n f=(0,e2)):=⟨(yH count bytes n f).2,by show _=_;rw[← hz]⟩
 obtain⟨hB,hW,c0,c1⟩:=zGZ count bytes n f hz hkf
 have HBK:Hid (uX n f):=hB
 have HC0:Hid _:=c0
 have HC1:Hid _:=c1
 have HN0:Hid (0 < n):=hB.n1
 have HNB:Hid (∀ b o,(some ⟨ob,off,none⟩:Option Addr)=some ⟨b,o,none⟩→b < W.heap.size):=show ∀ b o,_→_ from fun b o e=>by
  obtain⟨b',o',e',hb,-⟩:=hO hB.n1
  cases e;cases e';exact hb
 have HPs:Hid _:=hp
 have HMs:Hid _:=hm
 obtain⟨t,rg,ht,t1,t2,hrg,hr3,hr16⟩:=zIn regs
 have HR3:Hid _:=hr3
 have HR16:Hid _:=hr16
 clear hp hm hr3 hr16
 have HLA:=fun (m:Va.MS)=>zSd count bytes n f hz hkf rg pc HR3.out HR16.out hpc c m
 have HL:Hid _:=HLA
 have hcm:=(Va.zEI count bytes n f hz)
 have HCG:Hid _:=hcm
 have HCL:Hid _:=Va.zHl count bytes n f hz
 clear hO hby hcap hkf hpc hcx hz hB hW c0 c1 HLA hcm
 go_enter Try.func3,Try.ntmps3
 go_upto_region 5 with first
  | (go_at_call 4;refine(Va.zGh pp mp plen pcap mlen mcap _ (zDP HPs.out (w2b W _ _)) (zDO HMs.out (w2b W _ _))).mono ?_;rintro e w0 ⟨X,k,m,rfl,hB0,hT0⟩;have H0:Hid (GA1 W w0 k m [(W.heap.size+1,.cells (Va.cxA c) 27),(W.heap.size,.cells #[.int .u32 pc,.int .i64 count,.int .i64 bytes,.slice (some ⟨ob,off,none⟩) n cap] 25)] (some ⟨ob,off,none⟩) n f):=GA1.start HO.out hB0;have HT0:Hid (Va.zAi m=false):=untold hT0;have HMO:Hid m.Ok:=hB0.ok1;clear hB0 hT0)
 obtain⟨l,hl,h2l,hle,hlt,de,dx,dn,j,ex,h',g0,hj,hr2,hA,ec,em,hEX⟩:=HL.out m
 obtain⟨R,HR⟩:∃ R,Hid (Va.zBx f n 0 ⟨c,m,fun _=>0⟩=R):=⟨_,rfl⟩
 rw[HR.out] at hr2 ec em hEX
 have HLE:Hid _:=hl
 have H2L:Hid _:=h2l
 have HLL:Hid _:=hle
 have HLT:Hid _:=hlt
 have HDE:Hid _:=de
 have HDX:Hid _:=dx
 have HDN:Hid _:=dn
 have HJ:Hid (j < n):=hj
 have HR2:Hid _:=hr2
 have HAH:Hid (zEZ _ _ _ _ _ _):=hA
 have HEC:Hid _:=ec
 have HEM:Hid _:=em
 have HEX:Hid _:=hEX
 clear hl h2l hle hlt de dx dn hj hr2 hA ec em hEX HL
 have b0:w0.cell? ⟨W.heap.size,0,none⟩=some (.int .u32 pc):=zA (H0.out.kp.k _ (aM _ aC)) 0
 have b1:w0.cell? ⟨W.heap.size,1,none⟩=some (.int .i64 count):=zA (H0.out.kp.k _ (aM _ aC)) 1
 have b2:w0.cell? ⟨W.heap.size,2,none⟩=some (.int .i64 bytes):=zA (H0.out.kp.k _ (aM _ aC)) 2
 have b3:w0.cell? ⟨W.heap.size,3,none⟩=some (.slice (some ⟨ob,off,none⟩) n cap):=zA (H0.out.kp.k _ (aM _ aC)) 3
 have bl:W.heap.size < w0.heap.size:=H0.out.kp.lt (aM _ aC)
 go_upto_region 8 with (go_at_call 5;refine(zEP pc count bytes (some ⟨ob,off,none⟩) n cap f _ H0.out.o HN.out).mono ?_;rintro e w1 ⟨rfl,h1⟩;rw[HE.out];have H1:Hid _:=H0.out.below h1;clear h1 b0 b1 b2 b3 bl;have b0:w1.cell? ⟨W.heap.size,0,none⟩=some (.int .u32 pc):=zA (H1.out.kp.k _ (aM _ aC)) 0;have b1:w1.cell? ⟨W.heap.size,1,none⟩=some (.int .i64 count):=zA (H1.out.kp.k _ (aM _ aC)) 1;have b2:w1.cell? ⟨W.heap.size,2,none⟩=some (.int .i64 bytes):=zA (H1.out.kp.k _ (aM _ aC)) 2;have b3:w1.cell? ⟨W.heap.size,3,none⟩=some (.slice (some ⟨ob,off,none⟩) n cap):=zA (H1.out.kp.k _ (aM _ aC)) 3;have bl:W.heap.size < w1.heap.size:=H1.out.kp.lt (aM _ aC))
 go_upto_region 11 with (go_at_call 6;refine(zMV pc count bytes (some ⟨ob,off,none⟩) n cap f rg _ H1.out.o (fun b o e=>Nat.lt_of_lt_of_le (HNB.out b o e) H1.out.bel.size) HCAP.out HBK.out HZ.out HR3.out HR16.out HPC.out).mono ?_;rintro e w2 ⟨sv,rfl,hown,h2⟩;rw[HLE.out] at hown;obtain⟨g,cp,rfl,hgb,hgl,hwd⟩:=zQE H2L.out HLT.out HLL.out hown;have H2:Hid _:=H1.out.below h2;have HWD:Hid (Wds w2 _ _ _ _):=hwd;have HGL:Hid (g < w2.heap.size):=hgl;have HGK:Hid (g∉k.all):=(show g∉k.all from fun e=>by have h5:=H1.out.rm.lt g (aM _ e);omega);clear hown hgb hgl hwd h2 b0 b1 b2 b3 bl)
 clear H0 H1
 go_upto_region 12 with (go_at_call 7;refine(Va.zJH k m _ H2.out.rm).mono ?_;rintro e w3 ⟨k',rfl,hR3,hB3,hF3⟩;have H3:Hid (GA2 W w3 k k' m m [(W.heap.size+1,.cells (Va.cxA c) 27),(W.heap.size,.cells #[.int .u32 pc,.int .i64 count,.int .i64 bytes,.slice (some ⟨ob,off,none⟩) n cap] 25)] (some ⟨ob,off,none⟩) n f g cp l):=H2.out.copy HNB.out HWD.out HGL.out HGK.out hR3 hB3 hF3;clear hR3 hB3 hF3;have b0:w3.cell? ⟨W.heap.size,0,none⟩=some (.int .u32 pc):=zA (H3.out.kp.k _ (aM _ aC)) 0;have b1:w3.cell? ⟨W.heap.size,1,none⟩=some (.int .i64 count):=zA (H3.out.kp.k _ (aM _ aC)) 1;have b2:w3.cell? ⟨W.heap.size,2,none⟩=some (.int .i64 bytes):=zA (H3.out.kp.k _ (aM _ aC)) 2;have b3:w3.cell? ⟨W.heap.size,3,none⟩=some (.slice (some ⟨ob,off,none⟩) n cap):=zA (H3.out.kp.k _ (aM _ aC)) 3;have bl:W.heap.size < w3.heap.size:=H3.out.kp.lt (aM _ aC);have c0:w3.cell? ⟨(W.heap.size+1),0,none⟩=some (.int .u32 (c 0)):=zA (H3.out.kp.k _ aC) 0;have c1:w3.cell? ⟨(W.heap.size+1),1,none⟩=some (.int .u32 (c 1)):=zA (H3.out.kp.k _ aC) 1;have c2:w3.cell? ⟨(W.heap.size+1),2,none⟩=some (.int .u32 (c 2)):=zA (H3.out.kp.k _ aC) 2;have c3:w3.cell? ⟨(W.heap.size+1),3,none⟩=some (.int .u32 (c 3)):=zA (H3.out.kp.k _ aC) 3;have c4:w3.cell? ⟨(W.heap.size+1),4,none⟩=some (.int .u32 (c 4)):=zA (H3.out.kp.k _ aC) 4;have c5:w3.cell? ⟨(W.heap.size+1),5,none⟩=some (.int .u32 (c 5)):=zA (H3.out.kp.k _ aC) 5;have c6:w3.cell? ⟨(W.heap.size+1),6,none⟩=some (.int .u32 (c 6)):=zA (H3.out.kp.k _ aC) 6;have c7:w3.cell? ⟨(W.heap.size+1),7,none⟩=some (.int .u32 (c 7)):=zA (H3.out.kp.k _ aC) 7;have c8:w3.cell? ⟨(W.heap.size+1),8,none⟩=some (.int .u32 (c 8)):=zA (H3.out.kp.k _ aC) 8;have c9:w3.cell? ⟨(W.heap.size+1),9,none⟩=some (.int .u32 (c 9)):=zA (H3.out.kp.k _ aC) 9;have c10:w3.cell? ⟨(W.heap.size+1),10,none⟩=some (.int .u32 (c 10)):=zA (H3.out.kp.k _ aC) 10;have c11:w3.cell? ⟨(W.heap.size+1),11,none⟩=some (.int .u32 (c 11)):=zA (H3.out.kp.k _ aC) 11;have cl:(W.heap.size+1) < w3.heap.size:=H3.out.kp.lt aC)
 clear H2 HWD HGL HGK
 have HLV:Hid (Calls Try.prog 8 #[.agg #[.int .u32 pc,.int .i64 count,.int .i64 bytes,.slice (some ⟨ob,off,none⟩) n cap],Va.cxV c,.pointer (some ⟨k.y,0,none⟩)] w3 fun e w'=>e=.returned (.tuple #[Va.cxV h'.c,.agg #[.int .i64 ex.sk,.int .u32 ex.arg,.int .u32 ex.pc,.int .i64 ex.n],.int .i64 (j:Int)])∧GA2 W w' k k' h'.m m [(W.heap.size+1,.cells (Va.cxA c) 27),(W.heap.size,.cells #[.int .u32 pc,.int .i64 count,.int .i64 bytes,.slice (some ⟨ob,off,none⟩) n cap] 25)] (some ⟨ob,off,none⟩) n f g cp l):=by
  show Calls _ _ _ _ _
  refine(Va.zHK pc count bytes (some ⟨ob,off,none⟩) n cap f k c m w3 H3.out.o (fun b o e hm=>by have h1:=H3.out.nb b o e;have h2:=H3.out.f1 _ (aM _ hm);omega) (fun j hj=>⟨HCG.out.2.2 j hj,HKF.out j hj⟩) HCL.out HCG.out.1 HCG.out.2.1 ⟨HCX.out,HMO.out,fun _=>by show 0 < 4294967296;decide⟩ H3.out.rm).mono ?_
  rintro e w' ⟨rfl,hR,hC⟩
  rw[HR.out] at hR ⊢
  rw[HEM.out]
  refine⟨?_,H3.out.ev1 hR hC⟩
  rw[HEC.out,HR2.out,HEX.out.sk,HEX.out.a,HEX.out.pc,HEX.out.n]
 go_upto_region 13 with (go_at_call 8;refine HLV.out.mono ?_;rintro e w4 ⟨rfl,h4⟩;have h5:=h4.two (.cells (Va.cxA h'.c) 27) (.cells #[.int .i64 ex.sk,.int .u32 ex.arg,.int .u32 ex.pc,.int .i64 ex.n] 44);have H5:Hid _:=h5;clear h4 h5 b0 b1 b2 b3 bl c0 c1 c2 c3 c4 c5 c6 c7 c8 c9 c10 c11 cl)
 clear H3 HLV
 generalize w4.heap.size=D at *
 refine zI (fun W'=>GA2 W W' k k' h'.m m ((D+1,.cells #[.int .i64 ex.sk,.int .u32 ex.arg,.int .u32 ex.pc,.int .i64 ex.n] 44) :: (D,.cells (Va.cxA h'.c) 27) :: [(W.heap.size+1,.cells (Va.cxA c) 27),(W.heap.size,.cells #[.int .u32 pc,.int .i64 count,.int .i64 bytes,.slice (some ⟨ob,off,none⟩) n cap] 25)]) (some ⟨ob,off,none⟩) n f g cp l) H5.out ?_
 clear H5
 intro w5 h5
 have H5:Hid _:=h5
 have b0:w5.cell? ⟨W.heap.size,0,none⟩=some (.int .u32 pc):=zA (h5.kp.k _ (aM _ (aM _ (aM _ aC)))) 0
 have b1:w5.cell? ⟨W.heap.size,1,none⟩=some (.int .i64 count):=zA (h5.kp.k _ (aM _ (aM _ (aM _ aC)))) 1
 have b2:w5.cell? ⟨W.heap.size,2,none⟩=some (.int .i64 bytes):=zA (h5.kp.k _ (aM _ (aM _ (aM _ aC)))) 2
 have b3:w5.cell? ⟨W.heap.size,3,none⟩=some (.slice (some ⟨ob,off,none⟩) n cap):=zA (h5.kp.k _ (aM _ (aM _ (aM _ aC)))) 3
 have bl:W.heap.size < w5.heap.size:=h5.kp.lt (aM _ (aM _ (aM _ aC)))
 have c0:w5.cell? ⟨(W.heap.size+1),0,none⟩=some (.int .u32 (c 0)):=zA (h5.kp.k _ (aM _ (aM _ aC))) 0
 have c1:w5.cell? ⟨(W.heap.size+1),1,none⟩=some (.int .u32 (c 1)):=zA (h5.kp.k _ (aM _ (aM _ aC))) 1
 have c2:w5.cell? ⟨(W.heap.size+1),2,none⟩=some (.int .u32 (c 2)):=zA (h5.kp.k _ (aM _ (aM _ aC))) 2
 have c3:w5.cell? ⟨(W.heap.size+1),3,none⟩=some (.int .u32 (c 3)):=zA (h5.kp.k _ (aM _ (aM _ aC))) 3
 have c4:w5.cell? ⟨(W.heap.size+1),4,none⟩=some (.int .u32 (c 4)):=zA (h5.kp.k _ (aM _ (aM _ aC))) 4
 have c5:w5.cell? ⟨(W.heap.size+1),5,none⟩=some (.int .u32 (c 5)):=zA (h5.kp.k _ (aM _ (aM _ aC))) 5
 have c6:w5.cell? ⟨(W.heap.size+1),6,none⟩=some (.int .u32 (c 6)):=zA (h5.kp.k _ (aM _ (aM _ aC))) 6
 have c7:w5.cell? ⟨(W.heap.size+1),7,none⟩=some (.int .u32 (c 7)):=zA (h5.kp.k _ (aM _ (aM _ aC))) 7
 have c8:w5.cell? ⟨(W.heap.size+1),8,none⟩=some (.int .u32 (c 8)):=zA (h5.kp.k _ (aM _ (aM _ aC))) 8
 have c9:w5.cell? ⟨(W.heap.size+1),9,none⟩=some (.int .u32 (c 9)):=zA (h5.kp.k _ (aM _ (aM _ aC))) 9
 have c10:w5.cell? ⟨(W.heap.size+1),10,none⟩=some (.int .u32 (c 10)):=zA (h5.kp.k _ (aM _ (aM _ aC))) 10
 have c11:w5.cell? ⟨(W.heap.size+1),11,none⟩=some (.int .u32 (c 11)):=zA (h5.kp.k _ (aM _ (aM _ aC))) 11
 have cl:(W.heap.size+1) < w5.heap.size:=h5.kp.lt (aM _ (aM _ aC))
 clear h5
 go_upto_region 14 with (go_at_call 9;refine(zDd (some ⟨g,0,none⟩) cp c k' m count _ l ex h' pc g0 H5.out.wd H5.out.rm' HMO.out HCX.out HT0.out HC0.out HC1.out ⟨g,0,rfl,zTe H5.out.wd H2L.out,H5.out.g2⟩ (zQ8 HLT.out) HDE.out HDX.out HDN.out HAH.out).mono ?_;rintro e w6 ⟨⟨at',rfl⟩,hR6,hC6⟩;have h7:=(H5.out.ev2 hR6 (vC hC6)).two (.cells (Va.cxA h'.c) 27) (.cells (lfC (km ex.kind) ex.sk ex.arg ex.pc ex.n at') 48);have H7:Hid _:=h7;clear hR6 hC6 h7 b0 b1 b2 b3 bl c0 c1 c2 c3 c4 c5 c6 c7 c8 c9 c10 c11 cl)
 clear H5
 generalize w6.heap.size=E at *
 refine zI (fun W'=>GA2 W W' k k' h'.m h'.m ((E+1,.cells (lfC (km ex.kind) ex.sk ex.arg ex.pc ex.n at') 48) :: (E,.cells (Va.cxA h'.c) 27) :: ((D+1,.cells #[.int .i64 ex.sk,.int .u32 ex.arg,.int .u32 ex.pc,.int .i64 ex.n] 44) :: (D,.cells (Va.cxA h'.c) 27) :: [(W.heap.size+1,.cells (Va.cxA c) 27),(W.heap.size,.cells #[.int .u32 pc,.int .i64 count,.int .i64 bytes,.slice (some ⟨ob,off,none⟩) n cap] 25)])) (some ⟨ob,off,none⟩) n f g cp l) H7.out ?_
 clear H7
 intro w7 h7
 have H7:Hid _:=h7
 have b0:w7.cell? ⟨W.heap.size,0,none⟩=some (.int .u32 pc):=zA (h7.kp.k _ (aM _ (aM _ (aM _ (aM _ (aM _ aC)))))) 0
 have b1:w7.cell? ⟨W.heap.size,1,none⟩=some (.int .i64 count):=zA (h7.kp.k _ (aM _ (aM _ (aM _ (aM _ (aM _ aC)))))) 1
 have b2:w7.cell? ⟨W.heap.size,2,none⟩=some (.int .i64 bytes):=zA (h7.kp.k _ (aM _ (aM _ (aM _ (aM _ (aM _ aC)))))) 2
 have b3:w7.cell? ⟨W.heap.size,3,none⟩=some (.slice (some ⟨ob,off,none⟩) n cap):=zA (h7.kp.k _ (aM _ (aM _ (aM _ (aM _ (aM _ aC)))))) 3
 have bl:W.heap.size < w7.heap.size:=h7.kp.lt (aM _ (aM _ (aM _ (aM _ (aM _ aC)))))
 have c0:w7.cell? ⟨D,0,none⟩=some (.int .u32 (h'.c 0)):=zA (h7.kp.k _ (aM _ (aM _ (aM _ aC)))) 0
 have c1:w7.cell? ⟨D,1,none⟩=some (.int .u32 (h'.c 1)):=zA (h7.kp.k _ (aM _ (aM _ (aM _ aC)))) 1
 have c2:w7.cell? ⟨D,2,none⟩=some (.int .u32 (h'.c 2)):=zA (h7.kp.k _ (aM _ (aM _ (aM _ aC)))) 2
 have c3:w7.cell? ⟨D,3,none⟩=some (.int .u32 (h'.c 3)):=zA (h7.kp.k _ (aM _ (aM _ (aM _ aC)))) 3
 have c4:w7.cell? ⟨D,4,none⟩=some (.int .u32 (h'.c 4)):=zA (h7.kp.k _ (aM _ (aM _ (aM _ aC)))) 4
 have c5:w7.cell? ⟨D,5,none⟩=some (.int .u32 (h'.c 5)):=zA (h7.kp.k _ (aM _ (aM _ (aM _ aC)))) 5
 have c6:w7.cell? ⟨D,6,none⟩=some (.int .u32 (h'.c 6)):=zA (h7.kp.k _ (aM _ (aM _ (aM _ aC)))) 6
 have c7:w7.cell? ⟨D,7,none⟩=some (.int .u32 (h'.c 7)):=zA (h7.kp.k _ (aM _ (aM _ (aM _ aC)))) 7
 have c8:w7.cell? ⟨D,8,none⟩=some (.int .u32 (h'.c 8)):=zA (h7.kp.k _ (aM _ (aM _ (aM _ aC)))) 8
 have c9:w7.cell? ⟨D,9,none⟩=some (.int .u32 (h'.c 9)):=zA (h7.kp.k _ (aM _ (aM _ (aM _ aC)))) 9
 have c10:w7.cell? ⟨D,10,none⟩=some (.int .u32 (h'.c 10)):=zA (h7.kp.k _ (aM _ (aM _ (aM _ aC)))) 10
 have c11:w7.cell? ⟨D,11,none⟩=some (.int .u32 (h'.c 11)):=zA (h7.kp.k _ (aM _ (aM _ (aM _ aC)))) 11
 have cl:D < w7.heap.size:=h7.kp.lt (aM _ (aM _ (aM _ aC)))
 have d0:w7.cell? ⟨E,0,none⟩=some (.int .u32 (h'.c 0)):=zA (h7.kp.k _ (aM _ aC)) 0
 have d1:w7.cell? ⟨E,1,none⟩=some (.int .u32 (h'.c 1)):=zA (h7.kp.k _ (aM _ aC)) 1
 have d2:w7.cell? ⟨E,2,none⟩=some (.int .u32 (h'.c 2)):=zA (h7.kp.k _ (aM _ aC)) 2
 have d3:w7.cell? ⟨E,3,none⟩=some (.int .u32 (h'.c 3)):=zA (h7.kp.k _ (aM _ aC)) 3
 have d4:w7.cell? ⟨E,4,none⟩=some (.int .u32 (h'.c 4)):=zA (h7.kp.k _ (aM _ aC)) 4
 have d5:w7.cell? ⟨E,5,none⟩=some (.int .u32 (h'.c 5)):=zA (h7.kp.k _ (aM _ aC)) 5
 have d6:w7.cell? ⟨E,6,none⟩=some (.int .u32 (h'.c 6)):=zA (h7.kp.k _ (aM _ aC)) 6
 have d7:w7.cell? ⟨E,7,none⟩=some (.int .u32 (h'.c 7)):=zA (h7.kp.k _ (aM _ aC)) 7
 have d8:w7.cell? ⟨E,8,none⟩=some (.int .u32 (h'.c 8)):=zA (h7.kp.k _ (aM _ aC)) 8
 have d9:w7.cell? ⟨E,9,none⟩=some (.int .u32 (h'.c 9)):=zA (h7.kp.k _ (aM _ aC)) 9
 have d10:w7.cell? ⟨E,10,none⟩=some (.int .u32 (h'.c 10)):=zA (h7.kp.k _ (aM _ aC)) 10
 have d11:w7.cell? ⟨E,11,none⟩=some (.int .u32 (h'.c 11)):=zA (h7.kp.k _ (aM _ aC)) 11
 have dl:E < w7.heap.size:=h7.kp.lt (aM _ aC)
 have x0:w7.cell? ⟨(D+1),0,none⟩=some (.int .i64 ex.sk):=zA (h7.kp.k _ (aM _ (aM _ aC))) 0
 have x1:w7.cell? ⟨(D+1),1,none⟩=some (.int .u32 ex.arg):=zA (h7.kp.k _ (aM _ (aM _ aC))) 1
 have x2:w7.cell? ⟨(D+1),2,none⟩=some (.int .u32 ex.pc):=zA (h7.kp.k _ (aM _ (aM _ aC))) 2
 have x3:w7.cell? ⟨(D+1),3,none⟩=some (.int .i64 ex.n):=zA (h7.kp.k _ (aM _ (aM _ aC))) 3
 have xl:(D+1) < w7.heap.size:=h7.kp.lt (aM _ (aM _ aC))
 have y0:w7.cell? ⟨(E+1),0,none⟩=some (.int .i64 (km ex.kind)):=zA (h7.kp.k _ aC) 0
 have y1:w7.cell? ⟨(E+1),1,none⟩=some (.int .i64 ex.sk):=zA (h7.kp.k _ aC) 1
 have y2:w7.cell? ⟨(E+1),2,none⟩=some (.int .u32 ex.arg):=zA (h7.kp.k _ aC) 2
 have y3:w7.cell? ⟨(E+1),3,none⟩=some (.int .u32 ex.pc):=zA (h7.kp.k _ aC) 3
 have y4:w7.cell? ⟨(E+1),4,none⟩=some (.int .i64 ex.n):=zA (h7.kp.k _ aC) 4
 have y5:w7.cell? ⟨(E+1),5,none⟩=some (.int .i64 at'):=zA (h7.kp.k _ aC) 5
 have yl:(E+1) < w7.heap.size:=h7.kp.lt aC
 obtain⟨ob',off',eo,lob,hat⟩:=h7.o HN0.out
 cases eo
 have ok:=(hat j HJ.out).c0
 have j0:(0:Int)≤(j:Int):=aO
 have j1:(j:Int) < (n:Int):=by have:=HJ.out;omega
 have EQ:=fun w=>zRn (h'.c 0) (h'.c 1) (h'.c 2) (h'.c 3) (h'.c 4) (h'.c 5) (h'.c 6) (h'.c 7) (h'.c 8) (h'.c 9) (h'.c 10) (h'.c 11) w
 clear h7 hat
 have HSM:Hid (Calls Try.prog 10 #[.pointer (some ⟨k.y,0,none⟩),.pointer (some ⟨k'.y,0,none⟩)] w7 fun e w'=>e=.returned (.bool true)∧Below w7.heap.size w7 w'):=zJV k k' _ _ w7 H7.out.rm H7.out.rm' rfl
 have hEX:=HEX.out
 rcases Decidable.em (ex.sk=0) with hs|hs
 ·have s1:(ex.sk==0)=true:=by simp[hs]
  have s2:(ex.sk !=0)=false:=by simp[hs]
  rcases Decidable.em ((f j).kind=16) with h16|h16
  ·have hkm:km ex.kind=2:=by rw[hEX.k,if_neg (by rw[← hEX.sk];simpa using hs),if_pos h16];decide
   have k1:((f j).kind==16)=true:=by simp[h16]
   rw[hkm] at y0
   clear hEX hs h16 hkm
   go_wp2_with (go_at_call 10;refine HSM.out.mono ?_;rintro e w8 ⟨rfl,h8⟩;have H8:Hid _:=h8;clear h8)
   go_ret
   exact⟨rfl,H7.out.bel.trans (H8.out.mono H7.out.bel.size)⟩
  ·have hkm:km ex.kind=1:=by rw[hEX.k,if_neg (by rw[← hEX.sk];simpa using hs),if_neg h16];decide
   have k1:((f j).kind==16)=false:=by simp[h16]
   rw[hkm] at y0
   clear hEX hs h16 hkm
   go_wp2_with (go_at_call 10;refine HSM.out.mono ?_;rintro e w8 ⟨rfl,h8⟩;have H8:Hid _:=h8;clear h8)
   go_ret
   exact⟨rfl,H7.out.bel.trans (H8.out.mono H7.out.bel.size)⟩
 ·have s1:(ex.sk==0)=false:=by simpa using hs
  have s2:(ex.sk !=0)=true:=by simpa using hs
  have h16:(f j).kind≠16:=fun e=>hs (by rw[hEX.sk];exact hEX.z e)
  have hkm:km ex.kind=3:=by rw[hEX.k,if_pos (by rw[← hEX.sk];exact hs)];decide
  have k1:((f j).kind==16)=false:=by simp[h16]
  rw[hkm] at y0
  clear hEX hs h16 hkm
  go_wp2_with (go_at_call 10;refine HSM.out.mono ?_;rintro e w8 ⟨rfl,h8⟩;have H8:Hid _:=h8;clear h8)
  go_ret
  exact⟨rfl,H7.out.bel.trans (H8.out.mono H7.out.bel.size)⟩
theorem zNb(pc:Nat)(count bytes:Int)(bp pp mp:Option Addr)(n cap plen pcap mlen mcap:Nat)(f:Nat→zL)(c:Nat→Nat)(regs:Int)(W:World)(hO:vN W bp n f)(hby:n*56≤140737488355328)(hcap:n≤cap)(hkf:∀ j,j < n→(f j).k < 4294967296)(hpc:pc < 4294967296)(hcx:Va.zC3 c)(hp:Va.zDG W pp plen)(hm:Va.Marks W mp mlen) :
  Calls Try.prog 3 #[.agg #[.int .u32 pc,.int .i64 count,.int .i64 bytes,.slice bp n cap],.int .i64 regs,Va.cxV c,.slice pp plen pcap,.slice mp mlen mcap] W fun e w'=>e=.returned (.bool true)∧Below W.heap.size W w':=by
 by_cases hz:(yH count bytes n f).1=0
 ·obtain⟨ob,off,rfl,-,-⟩:=hO (zGk count bytes n f hz).1
  exact zNa pc count bytes pp mp n cap plen pcap mlen mcap f c regs W ob off hO hby hcap hkf hpc hcx hp hm hz
 ·exact zPH pc count bytes bp pp mp n cap plen pcap mlen mcap f c regs W hO hby hp hm hz
end Go.Proofs.Ytkmjenjahbicpaa.Ho
