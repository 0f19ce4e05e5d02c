import Derived.Test.YtcgjliflnnklnaaGreatCM1z
import Derived.Test.YtcgjliflnnklnaaGreatJ15
namespace Go.Proofs.YtcgjliflnnklnaaGreat
open Go.RowKit Tryz
set_option maxRecDepth 100000
set_option maxHeartbeats 8000000
section
variable {B:Nat} {s:PC} {w0 w:World}
theorem QX(h:Tn B s w0 w)(v f:Int)(_:0<=v)(_:v<65536)(_:0<=f)(_:f<256):RM 184 [.int .u16 v,Uq f] B w0 w (s.enter v f):=by
 have hf:=func184;have hn:=ntmps184;have hr:=results184;obtain ⟨c_pc,l_pc,u_pc⟩:=ja h.c;obtain ⟨c_s,l_s,u_s⟩:=Kfs h.c;unfold PC.enter;exact zN
theorem Y4(h:Tn B s w0 w):RM 129 [] B w0 w (s.enterByBreak):=by
 have hf:=func129;have hn:=ntmps129;have hr:=results129;obtain ⟨c_pc,l_pc,u_pc⟩:=ja h.c;obtain ⟨c_p,l_p,u_p⟩:=Kfp h.c;unfold PC.enterByBreak;exact zN
theorem Jh(h:Tn B s w0 w):RM 131 [] B w0 w (s.enterByIRQ):=by
 have hf:=func131;have hn:=ntmps131;have hr:=results131;obtain ⟨c_pc,l_pc,u_pc⟩:=ja h.c;obtain ⟨c_p,l_p,u_p⟩:=Kfp h.c;unfold PC.enterByIRQ;exact zN
theorem Ji(h:Tn B s w0 w):RM 130 [] B w0 w (s.enterByNMI):=by
 have hf:=func130;have hn:=ntmps130;have hr:=results130;obtain ⟨c_pc,l_pc,u_pc⟩:=ja h.c;obtain ⟨c_p,l_p,u_p⟩:=Kfp h.c;unfold PC.enterByNMI;exact zN
end
structure RsCells (w:World) (R:Nat) (raw:List UInt8) (inn:Bool) (tail:Nat):Prop where
 c0:w.cell? (Aq R 0)=some (Zq ⟨raw.toArray⟩)
 c1:w.cell? (Aq R 1)=some (Tq inn)
 c2:w.cell? (Aq R 2)=some (Iq (tail:Int))
 free:∀o,w.frozen? (Aq R o)=false
theorem RsCells.set0{w:World}{R:Nat}{raw:List UInt8}{inn:Bool}{tail:Nat}(h:RsCells w R raw inn tail)(raw':List UInt8):RsCells (w.setCell (Aq R 0) (Zq ⟨raw'.toArray⟩)) R raw' inn tail:=
 ⟨World.cell?_setCell_same _ _ _ h.c0,by rw [World.cell?_setCell_other _ _ _ _ (zQ _ _ _ zza)];exact h.c1,by rw [World.cell?_setCell_other _ _ _ _ (zQ _ _ _ zza)];exact h.c2,fun o=>by rw [World.frozen?_setCell];exact h.free o⟩
theorem RsCells.set1{w:World}{R:Nat}{raw:List UInt8}{inn:Bool}{tail:Nat}(h:RsCells w R raw inn tail)(inn':Bool):RsCells (w.setCell (Aq R 1) (Tq inn')) R raw inn' tail:=
 ⟨by rw [World.cell?_setCell_other _ _ _ _ (zQ _ _ _ zza)];exact h.c0,World.cell?_setCell_same _ _ _ h.c1,by rw [World.cell?_setCell_other _ _ _ _ (zQ _ _ _ zza)];exact h.c2,fun o=>by rw [World.frozen?_setCell];exact h.free o⟩
theorem RsCells.set2{w:World}{R:Nat}{raw:List UInt8}{inn:Bool}{tail:Nat}(h:RsCells w R raw inn tail)(tail':Nat):RsCells (w.setCell (Aq R 2) (Iq (tail':Int))) R raw inn tail':=
 ⟨by rw [World.cell?_setCell_other _ _ _ _ (zQ _ _ _ zza)];exact h.c0,by rw [World.cell?_setCell_other _ _ _ _ (zQ _ _ _ zza)];exact h.c1,World.cell?_setCell_same _ _ _ h.c2,fun o=>by rw [World.frozen?_setCell];exact h.free o⟩
theorem RsCells.lt{w:World}{R:Nat}{raw:List UInt8}{inn:Bool}{tail:Nat}(h:RsCells w R raw inn tail):R<w.heap.size:=World.block_lt_of_cell? w (Aq R 0) h.c0
theorem RsCells.grown{w w':World}{R:Nat}{raw:List UInt8}{inn:Bool}{tail:Nat}{row:Option Nat}(h:RsCells w R raw inn tail)(hg:w.grownBy w' row)(hne:some R≠row):RsCells w' R raw inn tail:=by
 have hb:=hg.block R h.lt hne;have hc:∀o,w'.cell? (Aq R o)=w.cell? (Aq R o):=fun o=>World.cell?_of_block (a:=(Aq R o)) hb
 have hf:∀o,w'.frozen? (Aq R o)=w.frozen? (Aq R o):=fun o=>World.frozen?_of_block (a:=(Aq R o)) hb
 exact ⟨by rw [hc];exact h.c0,by rw [hc];exact h.c1,by rw [hc];exact h.c2,fun o=>by rw [hf];exact h.free o⟩
def Xf(s:Sc):List UInt8:=if s.st=0 then [] else if s.st=1 then s.raw else if s.st=2 then s.raw++ [35] else s.raw++ [35,s.sum]
def qn(s:Sc):Nat:=if s.st=2 then 1 else if s.st=3 then 2 else 0
def rIn(s:Sc):Bool:=decide (s.st≠0)
structure RsAt (w:World) (R:Nat) (s:Sc):Prop where
 st3:s.st<=3
 len:s.raw.length<=200
 cells:RsCells w R (Xf s) (rIn s) (qn s)
structure FedR (R:Nat) (w0 w:World) (v:Value) (s:Sc) (ps:List Pk):Prop where
 own:w.ownsRow w0.heap.size 152 3 v ps.length (vZ ps)
 nil:ps=[] ->v=Nq
 sc:RsAt w R s
 grown:w0.grownBy w (some R)
 lt:R<w0.heap.size
structure FedC (R:Nat) (w0 w:World) (v:Value) (ps:List Pk) (raw:List UInt8) (inn:Bool) (tail:Nat):Prop where
 own:w.ownsRow w0.heap.size 152 3 v ps.length (vZ ps)
 nil:ps=[] ->v=Nq
 cells:RsCells w R raw inn tail
 grown:w0.grownBy w (some R)
 lt:R<w0.heap.size
section
variable {R:Nat} {w0 w:World} {v:Value} {ps:List Pk} {raw:List UInt8} {inn:Bool} {tail:Nat}
theorem FedC.ne(h:FedC R w0 w v ps raw inn tail):v.ownBlock≠some R:=fun e=>by have h1:=(h.own.lt R e).1;have h2:=h.lt;omega
theorem FedC.set{w1:World}{raw':List UInt8}{inn':Bool}{tail':Nat}(h:FedC R w0 w v ps raw inn tail)(hg:w.grownBy w1 (some R))(hc:RsCells w1 R raw' inn' tail'):FedC R w0 w1 v ps raw' inn' tail':=
 ⟨h.own.kept hg (.inr h.ne),h.nil,hc,yQ h.grown hg,h.lt⟩
theorem FedC.set0(h:FedC R w0 w v ps raw inn tail)(raw':List UInt8):FedC R w0 (w.setCell (Aq R 0) (Zq ⟨raw'.toArray⟩)) v ps raw' inn tail:=h.set (yU _ _ _ _) (h.cells.set0 raw')
theorem FedC.set1(h:FedC R w0 w v ps raw inn tail)(inn':Bool):FedC R w0 (w.setCell (Aq R 1) (Tq inn')) v ps raw inn' tail:=h.set (yU _ _ _ _) (h.cells.set1 inn')
theorem FedC.set2(h:FedC R w0 w v ps raw inn tail)(tail':Nat):FedC R w0 (w.setCell (Aq R 2) (Iq (tail':Int))) v ps raw inn tail':=h.set (yU _ _ _ _) (h.cells.set2 tail')
theorem FedC.grow{w1:World}(h:FedC R w0 w v ps raw inn tail)(hg:w.grownBy w1 none):FedC R w0 w1 v ps raw inn tail:=
 ⟨h.own.kept hg (by cases hv:v.ownBlock<;>simp),h.nil,h.cells.grown hg zzc,yQ h.grown ⟨hg.os,hg.tape,hg.output,hg.size,fun k hk _=>hg.block k hk zzc⟩,h.lt⟩
theorem FedC.append{w3:World}{p:Pk}{o:Obj}{g cap:Nat}(h:FedC R w0 w v ps raw inn tail)
  (hown:w3.ownsRow w0.heap.size 152 3 (Sq g (ps.length+1) cap) (ps.length+1) (vZ ps++p.cells)) (hg:(w.alloc o).grownBy w3 v.ownBlock):
  FedC R w0 w3 (Sq g (ps.length+1) cap) (ps++ [p]) raw inn tail:=by
 have hlt:=h.lt;have hne:some R≠v.ownBlock:=fun e=>h.ne e.symm
 have hal:RsCells (w.alloc o) R raw inn tail:=h.cells.grown (World.grownBy_alloc w o none) zzc;exact znq
end
theorem FedR.c{R:Nat}{w0 w:World}{v:Value}{s:Sc}{ps:List Pk}(h:FedR R w0 w v s ps):FedC R w0 w v ps (Xf s) (rIn s) (qn s):=⟨h.own,h.nil,h.sc.cells,h.grown,h.lt⟩
theorem FedC.r{R:Nat}{w0 w:World}{v:Value}{s:Sc}{ps:List Pk}{raw:List UInt8}{inn:Bool}{tail:Nat}(h:FedC R w0 w v ps raw inn tail)(h1:s.st<=3)(h2:s.raw.length<=200)(e1:raw=Xf s)(e2:inn=rIn s)(e3:tail=qn s):FedR R w0 w v s ps:=by
 subst e1 e2 e3;exact ⟨h.own,h.nil,⟨h1,h2,h.cells⟩,h.grown,h.lt⟩
theorem za0(w:World)(p:Pk)(t:TypeId)(n:Nat)(hn:n=w.heap.size):∀j u,p.cells[j]?=some u->(w.alloc (.cells #[Iq (p.seq:Int),Zq ⟨p.body.toArray⟩,Tq p.bad] t)).cell? (((Aq n 0):Addr).add j)=some u:=by
 subst hn;exact JU w p t
theorem zjv{w:World}{bb off c:Nat}{x:UInt8}(h:w.cell? (Aq bb off)=some (Uq (x.toNat:Int))):(convert 35 9 (.slice (some (Aq bb off)) 1 c)).run prog w=.ok (Zq ⟨#[x]⟩) w:=
 run_convert_bytes_back (P:=prog) w 35 9 5 (Aq bb off) c [x] zx zoj vj (fun j hj=>by
  have:j=0:=by simpa using hj
  subst this;rw [show ((Aq bb off):Addr).add 0=(Aq bb off) from by unfold Addr.add;split<;>simp_all];exact h)
theorem zmc{p:Prop} (q:p:=by
 subst h36;have HS:Hid (t.step 36=⟨1,[],t.sum⟩):=by show _=_;simp [Sc.step,h0]
 clear h3' H3 h0;go_wp2;go_roundw;case rel=>exact ⟨k+1,by omega,by go_num,by rw [HST.out,HS.out,HP.out];exact ((HC.out.set0 []).set1 true).r zzc zzc rfl rfl rfl⟩
 case measure=>simp [intOf];omega):p:=q
theorem GW(R bb off cap:Nat)(s:Sc)(l:List UInt8)(w:World)(hs:RsAt w R s)(hl:l.length<=140737488355328)(hcap:l.length<=cap)(hB:zy w bb off l)(hne:bb≠R)
  (hmax:(zR s l).length<=4194304):
  Calls prog 73 #[Pq R,.slice (some (Aq bb off)) l.length cap] w fun e w'=> ∃v,e=.returned v/\FedR R w w' v (yA s l) (zR s l):=by
 obtain ⟨i0,hi,hz0,hz1,hz2⟩:=info_parts zdU;have HB:=qH1 hB;have HF:Hid (FedR R w w (Nq) (yA s (l.take 0)) (zR s (l.take 0))):=⟨World.ownsRow_nil _ _ _ _,fun _=>rfl,hs,World.grownBy.refl _ _,hs.cells.lt⟩;have HM:=qH1 hmax;clear hB hs hmax;go_enter func73,ntmps73;go_wp2;go_loopw [5,6] (fun v i wr=> ∃k:Nat,k<=l.length/\i=Iq k/\FedR R w wr v (yA s (l.take k)) (zR s (l.take k))) (fun _ i _=>l.length-(intOf i).toNat);case atStart=>exact ⟨0,Nat.zero_le _,rfl,HF.out⟩
 case round=>
  obtain ⟨k,hk,rfl,hF⟩:=hrel;clear HF;by_cases hlt:k<l.length
  ·have hcell:wr.cell? ⟨bb,off+k,none⟩=some (Uq (l[k].toNat:Int)):=hF.grown.cell (HB.out k hlt) (by simpa using hne);have hconv:=fun c=>zjv (c:=c) hcell
   have HST:Hid (yA s (l.take (k+1))=(yA s (l.take k)).step l[k]):=JR s l k hlt;have hlen:(zR s (l.take k)).length<=4194304:=Nat.le_trans (Zc s l k) HM.out;have H3:Hid (zR s (l.take (k+1))=if (yA s (l.take k)).st=3 then zR s (l.take k)++ [yM (yA s (l.take k)).raw (yA s (l.take k)).sum l[k]] else zR s (l.take k)):=by
    show _=_;split
    ·exact Xj s l k hlt ‹_›
    ·exact Xi s l k hlt ‹_›
   have HF:=qH1 hF;generalize zR s (l.take k)=ps at*;generalize yA s (l.take k)=t at*;generalize l[k]=c at*;have hkc:¬cap=k:=by omega
   have h3':=HF.out.sc.st3;have hrl:=HF.out.sc.len;clear hF hcell;have HC:=qH1 HF.out.c;clear HF;rcases (show t.st=0\/t.st=1\/t.st=2\/t.st=3 from by omega) with h0|h0|h0|h0
   ·rw [show Xf t=[] from by simp [Xf,h0],show rIn t=false from by simp [rIn,h0],show qn t=0 from by simp [qn,h0]] at HC;have HP:Hid (zR s (l.take (k+1))=ps):=by show _=_;rw [H3.out,if_neg zza]
    have e0:=HC.out.cells.c0;have e1:=HC.out.cells.c1;have e2:=HC.out.cells.c2;have f0:=HC.out.cells.free 0;have f1:=HC.out.cells.free 1;by_cases h36:c=36
    ·exact zmc
    ·have HS:Hid (t.step c=t):=by show _=_;simp [Sc.step,h0,h36]
     have t1:([c]==[(36:UInt8)])=false:=by simp [h36]
     have HT:=qH1 h0;clear H3 h0;go_wp2;go_roundw;case rel=>exact ⟨k+1,by omega,by go_num,by rw [HST.out,HS.out,HP.out];exact HC.out.r h3' hrl (by simp [Xf,HT.out]) (by simp [rIn,HT.out]) (by simp [qn,HT.out])⟩
     case measure=>simp [intOf];omega
   ·rw [show Xf t=t.raw from by simp [Xf,h0],show rIn t=true from by simp [rIn,h0],show qn t=0 from by simp [qn,h0]] at HC;have HP:Hid (zR s (l.take (k+1))=ps):=by show _=_;rw [H3.out,if_neg zza]
    have e0:=HC.out.cells.c0;have e1:=HC.out.cells.c1;have e2:=HC.out.cells.c2;have f0:=HC.out.cells.free 0;have f1:=HC.out.cells.free 1;have f2:=HC.out.cells.free 2;have happ:(⟨t.raw.toArray⟩:ByteArray)++ ⟨#[c]⟩=⟨(t.raw++ [c]).toArray⟩:=xh t.raw [c];have hasz:(⟨(t.raw++ [c]).toArray⟩:ByteArray).size=t.raw.length+1:=by rw [jb];simp
    have hA0:Hid ((⟨t.raw.toArray⟩:ByteArray).size=t.raw.length):=jb _;generalize hA:(⟨t.raw.toArray⟩:ByteArray)=A at*;generalize hA':(⟨(t.raw++ [c]).toArray⟩:ByteArray)=A' at*;have HA':Hid ((⟨(t.raw++ [c]).toArray⟩:ByteArray)=A'):=hA';have hAs:A.size<=200:=by rw [hA0.out];exact hrl
    clear hA hA';by_cases h36:c=36
    ·exact zmc
    ·have t1:([c]==[(36:UInt8)])=false:=by simp [h36]
     by_cases h35:c=35
     ·subst h35;have HS:Hid (t.step 35=⟨2,t.raw,t.sum⟩):=by show _=_;simp [Sc.step,h0]
      clear h3' H3 h0;go_wp2;go_roundw;case rel=>exact ⟨k+1,by omega,by go_num,by rw [HST.out,HS.out,HP.out, <-HA'.out];exact ((HC.out.set0 (t.raw++ [35])).set2 1).r zzc hrl rfl rfl rfl⟩
      case measure=>simp [intOf];omega
     ·have t2:([c]==[(35:UInt8)])=false:=by simp [h35]
      by_cases hfull:t.raw.length=200
      ·have HS:Hid (t.step c=⟨0,t.raw,t.sum⟩):=by show _=_;simp [Sc.step,h0,h36,h35,hfull]
       have hg:(200:Int)<(t.raw.length:Int)+1:=by omega
       clear h3' H3 h0 h36 h35 hfull;go_wp2;go_roundw;case rel=>exact ⟨k+1,by omega,by go_num,by rw [HST.out,HS.out,HP.out, <-HA'.out];exact (((HC.out.set0 (t.raw++ [c])).set0 []).set1 false).r zzc hrl rfl rfl rfl⟩
       case measure=>simp [intOf];omega
      ·have HS:Hid (t.step c=⟨1,t.raw++ [c],t.sum⟩):=by show _=_;simp [Sc.step,h0,h36,h35,hfull]
       have hg:(t.raw.length:Int)+1<=200:=by omega
       clear h3' H3 h0 h36 h35 hfull;go_wp2;go_roundw;case rel=>exact ⟨k+1,by omega,by go_num,by rw [HST.out,HS.out,HP.out, <-HA'.out];exact (HC.out.set0 (t.raw++ [c])).r zzc zzd rfl rfl rfl⟩
       case measure=>simp [intOf];omega
   ·rw [show Xf t=t.raw++ [35] from by simp [Xf,h0],show rIn t=true from by simp [rIn,h0],show qn t=1 from by simp [qn,h0]] at HC;have HP:Hid (zR s (l.take (k+1))=ps):=by show _=_;rw [H3.out,if_neg zza]
    have HS:Hid (t.step c=⟨3,t.raw,c⟩):=by show _=_;simp [Sc.step,h0]
    have e0:=HC.out.cells.c0;have e1:=HC.out.cells.c1;have e2:=HC.out.cells.c2;have f0:=HC.out.cells.free 0;have f2:=HC.out.cells.free 2;have happ:(⟨(t.raw++ [35]).toArray⟩:ByteArray)++ ⟨#[c]⟩=⟨(t.raw++ [35,c]).toArray⟩:=by rw [show t.raw++ [35,c]=(t.raw++ [35])++ [c] from by simp];exact xh _ [c]
    have hA0:(⟨(t.raw++ [35]).toArray⟩:ByteArray).size<=201:=by rw [jb];simp;omega
    generalize hA:(⟨(t.raw++ [35]).toArray⟩:ByteArray)=A at*;generalize hA':(⟨(t.raw++ [35,c]).toArray⟩:ByteArray)=A' at*;have HA':Hid ((⟨(t.raw++ [35,c]).toArray⟩:ByteArray)=A'):=hA';clear hA hA' h3' H3 h0;go_wp2;go_roundw;case rel=>exact ⟨k+1,by omega,by go_num,by rw [HST.out,HS.out,HP.out, <-HA'.out];exact ((HC.out.set0 (t.raw++ [35,c])).set2 2).r zzc hrl rfl rfl rfl⟩
    case measure=>simp [intOf];omega
   ·rw [show Xf t=t.raw++ [35,t.sum] from by simp [Xf,h0],show rIn t=true from by simp [rIn,h0],show qn t=2 from by simp [qn,h0]] at HC;have HP:Hid (zR s (l.take (k+1))=ps++ [yM t.raw t.sum c]):=by show _=_;rw [H3.out,if_pos h0]
    have HS:Hid (t.step c=⟨0,t.raw,t.sum⟩):=by show _=_;simp [Sc.step,h0]
    have e0:=HC.out.cells.c0;have e1:=HC.out.cells.c1;have e2:=HC.out.cells.c2;have f0:=HC.out.cells.free 0;have f2:=HC.out.cells.free 2;have happ:(⟨(t.raw++ [35,t.sum]).toArray⟩:ByteArray)++ ⟨#[c]⟩=⟨(t.raw++ [35,t.sum,c]).toArray⟩:=by rw [show t.raw++ [35,t.sum,c]=(t.raw++ [35,t.sum])++ [c] from by simp];exact xh _ [c]
    have hA0:(⟨(t.raw++ [35,t.sum]).toArray⟩:ByteArray).size<=202:=by rw [jb];simp;omega
    generalize hA:(⟨(t.raw++ [35,t.sum]).toArray⟩:ByteArray)=A at*;generalize hA':(⟨(t.raw++ [35,t.sum,c]).toArray⟩:ByteArray)=A' at*;have HA':Hid ((⟨(t.raw++ [35,t.sum,c]).toArray⟩:ByteArray)=A'):=hA';clear hA hA' h3' H3 h0;go_wp2_with fail;have HC1:Hid (FedC R w ((wr.setCell (Aq R 0) (Zq A')).setCell (Aq R 2) (Iq 3)) u5 ps (t.raw++ [35,t.sum,c]) true 3):=by rw [<-HA'.out];exact (HC.out.set0 _).set2 3
    have hp:=Ge t.raw 35 t.sum c ((wr.setCell (Aq R 0) (Zq A')).setCell (Aq R 2) (Iq 3)) hrl;rw [HA'.out] at hp;refine hp.mono ?_;clear hp;rintro e w2 ⟨rfl,hbel⟩;have HC2:Hid (FedC R w w2 u5 ps (t.raw++ [35,t.sum,c]) true 3):=HC1.out.grow (Zd hbel none);have hws:w.heap.size<=w2.heap.size:=HC2.out.grown.size;clear HC1 HC hbel e0 e1 e2 f0 f2 happ hA0 HA';rw [Uj];go_wp2_with (first|(at_builtin;go_must (refine wpList_append_lies _ rfl (.tmp 59) (.tmp 61) 140 rfl w.heap.size 152 i0 _ 3 32 zbb hi hz0 hz1 hz2 rfl zzb u5 ps.length (vZ ps) rfl ?_ ⟨w2.heap.size+1,0,none⟩ 1 1 (Pk.cells (yM t.raw t.sum c)) rfl rfl ?_ ?_ zzb ?_ ?_ ?_ _ rfl ?_;exact (HC2.out.own.alloc _).alloc _;exact za0 _ _ _ _ zzc;exact JV _;(unfold maxLen;omega);omega;(simp;omega);intro g' cap' w3 hown' hgrow hat hlt';have HC3:Hid (FedC R w w3 (Sq g' (ps.length+1) cap') (ps++ [yM t.raw t.sum c]) (t.raw++ [35,t.sum,c]) true 3):=(HC2.out.grow (World.grownBy_alloc _ _ none)).append hown' hgrow;have k0:=HC3.out.cells.c0;have k1:=HC3.out.cells.c1;have k2:=HC3.out.cells.c2;have k3:=HC3.out.cells.free 0;have k4:=HC3.out.cells.free 1;have k5:=HC3.out.cells.free 2;clear hown' hgrow hat hlt' HC2)));go_roundw;case rel=>exact ⟨k+1,by omega,by go_num,by rw [HST.out,HS.out,HP.out];exact (((HC3.out.set0 []).set1 false).set2 0).r zzc hrl rfl rfl rfl⟩
    case measure=>simp [intOf];omega
  ·exact znx
