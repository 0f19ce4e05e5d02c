import Derived.Deep.Cut
import Derived.Handy
import Derived.Test.YtcgjliflnnklnaaGreatRwUez
import Derived.Test.YtcgjliflnnklnaaGreatJ20
import Derived.Test.YtcgjliflnnklnaaGreatJ05
namespace Go.Proofs.YtcgjliflnnklnaaGreat
open Go.RowKit Tryz
set_option maxRecDepth 100000
set_option maxHeartbeats 20000000
theorem VH(op md:BA)(hop:op∈lR)(hmd:md=b2 122 112\/md=b3 122 112 120\/md=b3 122 112 121)(r:RG)(hr:RgR r)(b cap:Nat)(h:List Int)(hl:h.length<=100)(h3:1<=h.length)(w:World)(H:HdAt w b h):Calls prog 96 #[cdV op md,r.val,hdV b h cap] w fun e w'=>e=.returned (zV op md r h).val/\Bq w w':=by
 have no:=zdi hop;have KD:=fun w=>vV op md w
 have hk:zY op=114:=by unfold lR at hop;simp only [List.mem_cons,List.not_mem_nil,or_false] at hop;rcases hop with rfl|rfl|rfl|rfl|rfl|rfl|rfl|rfl|rfl|rfl|rfl|rfl<;>rfl
 rw [hk] at KD;obtain ⟨m,hm⟩:∃m,h.length=m+1:=⟨h.length-1,by omega⟩
 have e:zV op md r h=xA op {r with PC:=(r.PC+2)%65536} (hd h m):=by
  have nb:md≠(b3 105 109 112)/\md≠(b3 97 99 99)/\md≠(b3 114 101 108)/\vg md=2:=by rcases hmd with rfl|rfl|rfl<;>decide
  rw [vt op md r h (jy no) nb.1 nb.2.1 nb.2.2.1,if_neg (by rw [hk];decide),if_neg (by rw [hk];decide),show h.length-1=m from by omega,nb.2.2.2]
 rw [e];clear e hk;have l1:=H.lt;have cv:=H.c m zza;obtain ⟨b0,b1⟩:=H.r m zza;have LD:=fun w=>zaV op hop _ (hd h m) (hr.withPC (r.PC+2)) b0 b1 w
 obtain ⟨A,X,Y,S,P,PC,cyc,jam⟩:=r;have c0:0<=PC/\PC<65536:=hr.pc;generalize hd h m=hv at*;dsimp only at LD⊢;generalize xA op _ hv=R at*;obtain ⟨A',X',Y',S',P',PC',cyc',jam'⟩:=R;have z0:=zK no.1;have z1:=zK no.2.1;have z2:=zK no.2.2.1;have AM:=vN op false (jA no);clear no hop H hr;unfold cdV hdV RG.val at*;dsimp only at LD⊢;generalize h.length=n at*;have hz:IntKind.i64.wrap ((n:Int)-1)=(m:Int):=by rw [IntKind.wrap_i64];omega
 have hz2:wrap64 ((n:Int)-1)=(m:Int):=by simp only [wrap64];omega
 have hz4:(m:Int)<(n:Int):=by omega
 have hz5:m<n:=by omega
 clear hm;rcases hmd with rfl|rfl|rfl
 all_goals
  try unfold b3 at*
  try unfold b2 at*
  go_enter func96,ntmps96;go_wp2_with (first|(go_at_call 151;refine (AM _ _ _ zzc).mono ?_;rintro e w1 ⟨rfl,rfl⟩)|with_reducible refine c16 ?_|(go_at_call 157;refine (KD _).mono ?_;rintro e w1 ⟨rfl,o1,o2,o3,rfl⟩));generalize hW:World.alloc _ _=W;have lt9:w.heap.size+1+1<W.heap.size:=by rw [<-hW];simp only [World.size_alloc];omega
  have lt8:w.heap.size+1<W.heap.size:=by omega
  have lt7:w.heap.size<W.heap.size:=by omega
  have hB:Bq w W:=by rw [<-hW];go_grown
  have i0:W.cell? (Aq w.heap.size 0)=some (Zq op):=by rw [<-hW];clear hW;go_cell
  have j0:W.cell? ⟨w.heap.size+1,0,none⟩=some (Iq A):=by rw [<-hW];clear hW;go_cell
  have j1:W.cell? ⟨w.heap.size+1,1,none⟩=some (Iq X):=by rw [<-hW];clear hW;go_cell
  have j2:W.cell? ⟨w.heap.size+1,2,none⟩=some (Iq Y):=by rw [<-hW];clear hW;go_cell
  have j3:W.cell? ⟨w.heap.size+1,3,none⟩=some (Iq S):=by rw [<-hW];clear hW;go_cell
  have j4:W.cell? ⟨w.heap.size+1,4,none⟩=some (Iq P):=by rw [<-hW];clear hW;go_cell
  first|(have j5:W.cell? ⟨w.heap.size+1,5,none⟩=some (Iq ((PC+2)%65536)):=(by rw [<-hW];clear hW;go_cell))|(have j5:W.cell? ⟨w.heap.size+1,5,none⟩=some (Iq ((PC+3)%65536)):=(by rw [<-hW];clear hW;go_cell))|(have j5:W.cell? ⟨w.heap.size+1,5,none⟩=some (Iq ((PC+1)%65536)):=(by rw [<-hW];clear hW;go_cell))
  have j6:W.cell? ⟨w.heap.size+1,6,none⟩=some (Iq cyc):=by rw [<-hW];clear hW;go_cell
  have j7:W.cell? ⟨w.heap.size+1,7,none⟩=some (Tq jam):=by rw [<-hW];clear hW;go_cell
  have jf:∀o,W.frozen? ⟨w.heap.size+1,o,none⟩=false:=by intro o;rw [<-hW];clear hW;go_cell
  have k0:W.cell? ⟨w.heap.size+1+1,0,none⟩=some (Iq 0):=by rw [<-hW];clear hW;go_cell
  have k1:W.cell? ⟨w.heap.size+1+1,1,none⟩=some (Iq 0):=by rw [<-hW];clear hW;go_cell
  have k2:W.cell? ⟨w.heap.size+1+1,2,none⟩=some (Iq 0):=by rw [<-hW];clear hW;go_cell
  have k3:W.cell? ⟨w.heap.size+1+1,3,none⟩=some (Iq 0):=by rw [<-hW];clear hW;go_cell
  have k4:W.cell? ⟨w.heap.size+1+1,4,none⟩=some (Iq 0):=by rw [<-hW];clear hW;go_cell
  have k5:W.cell? ⟨w.heap.size+1+1,5,none⟩=some (Iq 0):=by rw [<-hW];clear hW;go_cell
  have k6:W.cell? ⟨w.heap.size+1+1,6,none⟩=some (Iq 0):=by rw [<-hW];clear hW;go_cell
  have k7:W.cell? ⟨w.heap.size+1+1,7,none⟩=some (Tq false):=by rw [<-hW];clear hW;go_cell
  have kf:∀o,W.frozen? ⟨w.heap.size+1+1,o,none⟩=false:=by intro o;rw [<-hW];clear hW;go_cell
  have cW:W.cell? (Aq b m)=some (Iq hv):=(hB.cell (p:=(Aq b m)) l1).trans cv;have l2:b<W.heap.size:=by omega
  clear cv;have n1:b≠w.heap.size+1+1:=by omega
  have n2:w.heap.size+1+1≠b:=by omega
  have n3:w.heap.size≠w.heap.size+1+1:=by omega
  have n4:w.heap.size+1+1≠w.heap.size:=by omega
  clear hW;go_region_held3 (fun w'=>w'.cell? (Aq b m)=some (Iq hv)/\w'.cell? (Aq w.heap.size 0)=some (Zq op)/\w'.cell? ⟨w.heap.size+1,0,none⟩=some (Iq A)/\w'.cell? ⟨w.heap.size+1,1,none⟩=some (Iq X)/\w'.cell? ⟨w.heap.size+1,2,none⟩=some (Iq Y)/\w'.cell? ⟨w.heap.size+1,3,none⟩=some (Iq S)/\w'.cell? ⟨w.heap.size+1,4,none⟩=some (Iq P)/\w'.cell? ⟨w.heap.size+1,5,none⟩=some (Iq ((PC+2)%65536))/\w'.cell? ⟨w.heap.size+1,6,none⟩=some (Iq cyc)/\w'.cell? ⟨w.heap.size+1,7,none⟩=some (Tq jam)) (go_keep) (first|(go_at_call 158;refine (LD _).mono ?_;rintro e w1 ⟨rfl,hb⟩;obtain ⟨ca,fa,sz1,bl⟩:=jL hb;have s0:=(ca _ m l2).trans cW;have s1:=(ca _ 0 lt7).trans i0;have s2:=(ca _ 0 lt8).trans j0;have s3:=(ca _ 1 lt8).trans j1;have s4:=(ca _ 2 lt8).trans j2;have s5:=(ca _ 3 lt8).trans j3;have s6:=(ca _ 4 lt8).trans j4;have s7:=(ca _ 5 lt8).trans j5;have s8:=(ca _ 6 lt8).trans j6;have s9:=(ca _ 7 lt8).trans j7;have q0:=(ca _ 0 lt9).trans k0;have q1:=(ca _ 1 lt9).trans k1;have q2:=(ca _ 2 lt9).trans k2;have q3:=(ca _ 3 lt9).trans k3;have q4:=(ca _ 4 lt9).trans k4;have q5:=(ca _ 5 lt9).trans k5;have q6:=(ca _ 6 lt9).trans k6;have q7:=(ca _ 7 lt9).trans k7;have qf:=fun o=>(fa _ o lt9).trans (kf o);have hC:=hB.trans (bl.mono hB.size);have lt6:=Nat.lt_of_lt_of_le lt9 sz1;clear hb ca fa bl));all_goals (try (go_wp2_with fail))
  all_goals refine bodyPost_ret (v:=RG.val ⟨A',X',Y',S',P',PC',cyc',jam'⟩) (by simp [results,results96,go_sem,RG.val,q0,q1,q2,q3,q4,q5,q6,q7]) rfl ⟨rfl,by go_grown⟩
theorem zfP(op:BA)(hop:op∈lB)(r:RG)(hr:RgR r)(b cap:Nat)(h:List Int)(hl:h.length<=100)(h3:2<=h.length)(w:World)(H:HdAt w b h):Calls prog 96 #[cdV op (b3 114 101 108),r.val,hdV b h cap] w fun e w'=>e=.returned (zV op (b3 114 101 108) r h).val/\Bq w w':=by
 have no:=zl0 hop;rw [show zV op (b3 114 101 108) r h={r with PC:=if yS op r.P=true then yv r (hd h 1) else (r.PC+2)%65536} from by
  unfold zV;rw [if_neg (by rw [jy no];decide)];by_cases q:yS op r.P=true
  ·rw [if_pos q];dsimp only;rw [if_neg zzb,if_neg zzb,if_pos (.inl rfl),if_pos ⟨rfl,q⟩]
  ·rw [if_neg q];dsimp only;rw [if_neg zzb,if_neg zzb,if_pos (.inl rfl),if_neg (fun z=>q z.2)];rfl]
 have al:=yB;have sc:=yV;have l1:=H.lt;have cv:=H.c 1 zza;obtain ⟨p1,q1⟩:=H.r 1 zza;have TK:=fun w=>Jf op (b3 114 101 108) hop r.P w
 have GL:=fun w=>zkd r (hd h 1) w hr.pc.1 hr.pc.2 p1 q1
 obtain ⟨A,X,Y,S,P,PC,cyc,jam⟩:=r;have c0:0<=PC/\PC<65536:=hr.pc;dsimp only at TK GL⊢;generalize yv _ (hd h 1)=g at*;generalize hd h 1=hv at*;generalize yS op P=t at*;have z0:=zK no.1;have z1:=zK no.2.1;have z2:=zK no.2.2.1;have AM:=vN op false (jA no);clear no hop H hr;unfold cdV hdV RG.val b3 at*;dsimp only at GL⊢;generalize h.length=n at*;obtain ⟨pc,hpc⟩:∃pc,(if t=true then g else (PC+2)%65536)=pc:=⟨_,rfl⟩
 rw [hpc];have HP:=qH1 hpc;clear hpc;have hz4:(1:Int)<(n:Int):=by omega
 have hz5:1<n:=by omega
 go_enter func96,ntmps96;go_upto_region 22 with (first|(go_at_call 151;refine (AM _ _ _ zzc).mono ?_;rintro e w1 ⟨rfl,rfl⟩)|with_reducible refine c16 ?_|(go_at_call 153;refine (TK _).mono ?_;rintro e w1 ⟨rfl,o1,o2,o3,m1,rfl⟩)|(go_at_call 154;refine (GL _).mono ?_;rintro e w1 ⟨rfl,og,rfl⟩));go_cut [72] from 16 (fun s wx=>s=Tq t/\wx.cell? (Aq w.heap.size 0)=some (Zq op)/\wx.cell? (Aq w.heap.size 1)=some (Zq ⟨#[114,101,108]⟩)/\wx.cell? ⟨w.heap.size+1,0,none⟩=some (Iq A)/\wx.cell? ⟨w.heap.size+1,1,none⟩=some (Iq X)/\wx.cell? ⟨w.heap.size+1,2,none⟩=some (Iq Y)/\wx.cell? ⟨w.heap.size+1,3,none⟩=some (Iq S)/\wx.cell? ⟨w.heap.size+1,4,none⟩=some (Iq P)/\wx.cell? ⟨w.heap.size+1,5,none⟩=some (Iq ((PC+2)%65536))/\wx.cell? ⟨w.heap.size+1,6,none⟩=some (Iq cyc)/\wx.cell? ⟨w.heap.size+1,7,none⟩=some (Tq jam)/\wx.cell? ⟨w.heap.size+1+1,0,none⟩=some (Iq 0)/\wx.cell? ⟨w.heap.size+1+1,1,none⟩=some (Iq 0)/\wx.cell? ⟨w.heap.size+1+1,2,none⟩=some (Iq 0)/\wx.cell? ⟨w.heap.size+1+1,3,none⟩=some (Iq 0)/\wx.cell? ⟨w.heap.size+1+1,4,none⟩=some (Iq 0)/\wx.cell? ⟨w.heap.size+1+1,5,none⟩=some (Iq 0)/\wx.cell? ⟨w.heap.size+1+1,6,none⟩=some (Iq 0)/\wx.cell? ⟨w.heap.size+1+1,7,none⟩=some (Tq false)/\wx.cell? ⟨w.heap.size+1+1+1+1,0,none⟩=some (Iq A)/\wx.cell? ⟨w.heap.size+1+1+1+1,1,none⟩=some (Iq X)/\wx.cell? ⟨w.heap.size+1+1+1+1,2,none⟩=some (Iq Y)/\wx.cell? ⟨w.heap.size+1+1+1+1,3,none⟩=some (Iq S)/\wx.cell? ⟨w.heap.size+1+1+1+1,4,none⟩=some (Iq P)/\wx.cell? ⟨w.heap.size+1+1+1+1,5,none⟩=some (Iq PC)/\wx.cell? ⟨w.heap.size+1+1+1+1,6,none⟩=some (Iq cyc)/\wx.cell? ⟨w.heap.size+1+1+1+1,7,none⟩=some (Tq jam)/\(∀o,wx.frozen? ⟨w.heap.size+1,o,none⟩=false)/\(∀o,wx.frozen? ⟨w.heap.size+1+1,o,none⟩=false)/\Bq w wx/\w.heap.size+1+1<wx.heap.size/\w.heap.size+1+1+1+1<wx.heap.size)
 case first=>
  go_wp2_with fail;go_meet;case rel=>exact ⟨rfl,by go_cell,by go_cell,by go_cell,by go_cell,by go_cell,by go_cell,by go_cell,by go_cell,by go_cell,by go_cell,by go_cell,by go_cell,by go_cell,by go_cell,by go_cell,by go_cell,by go_cell,by go_cell,by go_cell,by go_cell,by go_cell,by go_cell,by go_cell,by go_cell,by go_cell,by go_cell,by intro o;go_cell,by intro o;go_cell,by (repeat (first|with_reducible exact Below.refl _ _|with_reducible assumption|with_reducible apply Ye|with_reducible apply YB|with_reducible apply yT|(with_reducible refine US ?_ zza))),by simp,by simp⟩
 case rest=>
  obtain ⟨rfl,I0,I1,J0,J1,J2,J3,J4,J5,J6,J7,K0,K1,K2,K3,K4,K5,K6,K7,x0,x1,x2,x3,x4,x5,x6,x7,JF,KF,hB,ltC,ltA⟩:=hcut;have cw:wc.cell? (Aq b 1)=some (Iq hv):=(hB.cell (p:=(Aq b 1)) l1).trans cv;clear al sc TK AM cv;have l2:b<wc.heap.size:=by omega
  have lt7:w.heap.size<wc.heap.size:=by omega
  have lt8:w.heap.size+1<wc.heap.size:=by omega
  have n1:b≠w.heap.size+1:=by omega
  have n2:w.heap.size+1≠w.heap.size+1+1+1+1:=by omega
  have n3:w.heap.size+1≠w.heap.size+1+1:=by omega
  have n4:w.heap.size+1≠w.heap.size:=by omega
  have n5:w.heap.size≠w.heap.size+1:=by omega
  have n6:w.heap.size+1+1≠w.heap.size+1:=by omega
  have n7:w.heap.size+1≠b:=by omega
  have n8:w.heap.size+1+1+1+1≠w.heap.size+1:=by omega
  go_upto_if 72 with fail;go_cut [] from 16 (fun wx=>wx.cell? (Aq w.heap.size 0)=some (Zq op)/\wx.cell? (Aq w.heap.size 1)=some (Zq ⟨#[114,101,108]⟩)/\wx.cell? ⟨w.heap.size+1,0,none⟩=some (Iq A)/\wx.cell? ⟨w.heap.size+1,1,none⟩=some (Iq X)/\wx.cell? ⟨w.heap.size+1,2,none⟩=some (Iq Y)/\wx.cell? ⟨w.heap.size+1,3,none⟩=some (Iq S)/\wx.cell? ⟨w.heap.size+1,4,none⟩=some (Iq P)/\wx.cell? ⟨w.heap.size+1,5,none⟩=some (Iq pc)/\wx.cell? ⟨w.heap.size+1,6,none⟩=some (Iq cyc)/\wx.cell? ⟨w.heap.size+1,7,none⟩=some (Tq jam)/\wx.cell? ⟨w.heap.size+1+1,0,none⟩=some (Iq 0)/\wx.cell? ⟨w.heap.size+1+1,1,none⟩=some (Iq 0)/\wx.cell? ⟨w.heap.size+1+1,2,none⟩=some (Iq 0)/\wx.cell? ⟨w.heap.size+1+1,3,none⟩=some (Iq 0)/\wx.cell? ⟨w.heap.size+1+1,4,none⟩=some (Iq 0)/\wx.cell? ⟨w.heap.size+1+1,5,none⟩=some (Iq 0)/\wx.cell? ⟨w.heap.size+1+1,6,none⟩=some (Iq 0)/\wx.cell? ⟨w.heap.size+1+1,7,none⟩=some (Tq false)/\(∀o,wx.frozen? ⟨w.heap.size+1+1,o,none⟩=false)/\Bq w wx/\w.heap.size+1+1<wx.heap.size)
  case first=>
   cases t
   ·obtain rfl:(PC+2)%65536=pc:=HP.out;go_wp2_with fail;go_meet;case rel=>exact ⟨I0,I1,J0,J1,J2,J3,J4,J5,J6,J7,K0,K1,K2,K3,K4,K5,K6,K7,KF,hB,ltC⟩
   ·obtain rfl:g=pc:=HP.out;clear HP;go_wp2_with fail;go_region_held3 (fun w'=>w'.cell? (Aq b 1)=some (Iq hv)/\w'.cell? ⟨w.heap.size+1+1+1+1,0,none⟩=some (Iq A)/\w'.cell? ⟨w.heap.size+1+1+1+1,1,none⟩=some (Iq X)/\w'.cell? ⟨w.heap.size+1+1+1+1,2,none⟩=some (Iq Y)/\w'.cell? ⟨w.heap.size+1+1+1+1,3,none⟩=some (Iq S)/\w'.cell? ⟨w.heap.size+1+1+1+1,4,none⟩=some (Iq P)/\w'.cell? ⟨w.heap.size+1+1+1+1,5,none⟩=some (Iq PC)/\w'.cell? ⟨w.heap.size+1+1+1+1,6,none⟩=some (Iq cyc)/\w'.cell? ⟨w.heap.size+1+1+1+1,7,none⟩=some (Tq jam)) (go_keep) (first|(go_at_call 154;refine (GL _).mono ?_;rintro e w1 ⟨rfl,og,rfl⟩))
    all_goals
     go_wp2_with fail;go_meet;case rel=>exact ⟨by go_cell,by go_cell,by go_cell,by go_cell,by go_cell,by go_cell,by go_cell,by go_cell,by go_cell,by go_cell,by go_cell,by go_cell,by go_cell,by go_cell,by go_cell,by go_cell,by go_cell,by go_cell,by intro o;go_cell,by (repeat (first|with_reducible exact Below.refl _ _|with_reducible assumption|with_reducible apply Ye|with_reducible apply YB|with_reducible apply yT|(with_reducible refine US ?_ zza))),by simp;omega⟩
  case rest=>
   clear I0 I1 KF hB ltC x0 x1 x2 x3 x4 x5 x6 x7 cw JF ltA l2 n1 n2 n3 n4 n5 n6 n7 n8 lt7 lt8 J0 J1 J2 J3 J4 J5 J6 J7 K0 K1 K2 K3 K4 K5 K6 K7;obtain ⟨I0,I1,J0,J1,J2,J3,J4,J5,J6,J7,K0,K1,K2,K3,K4,K5,K6,K7,KF,hB,ltC⟩:=hcut;have lt7:w.heap.size<wc.heap.size:=by omega
   have lt8:w.heap.size+1<wc.heap.size:=by omega
   clear GL l1 p1 q1 HP;go_wp2_with fail;refine bodyPost_ret (v:=RG.val ⟨A,X,Y,S,P,pc,cyc,jam⟩) (by simp [results,results96,go_sem,RG.val,K0,K1,K2,K3,K4,K5,K6,K7]) rfl ⟨rfl,?_⟩;repeat (first|with_reducible exact Below.refl _ _|with_reducible assumption|with_reducible apply Ye|with_reducible apply YB|with_reducible apply yT|(with_reducible refine US ?_ zza))
