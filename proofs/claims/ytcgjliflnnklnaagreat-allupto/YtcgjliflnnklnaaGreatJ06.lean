import Derived.Handy
import Derived.Test.YtcgjliflnnklnaaGreatRwMz
import Derived.Test.YtcgjliflnnklnaaGreatRwNz
import Derived.Test.YtcgjliflnnklnaaGreatRwQz
import Derived.Test.YtcgjliflnnklnaaGreatRwRz
import Derived.Test.YtcgjliflnnklnaaGreatJ04
import Derived.Test.YtcgjliflnnklnaaGreatJ03
import Derived.Test.YtcgjliflnnklnaaGreatJ05
namespace Go.Proofs.YtcgjliflnnklnaaGreat
open Go.RowKit Tryz
set_option maxRecDepth 100000
set_option maxHeartbeats 4000000
theorem zlU(op:BA)(r:RG)(hr:RgR r)(b cap:Nat)(h:List Int)(h1:1<=h.length)(hl:h.length<=100)(w:World)(H:HdAt w b h):Cq 148 #[cdV op (b2 122 112),r.val,hdV b h cap] w (plV (zj op (b2 122 112) r h)) fun w'=>Bq w w':=by
 obtain ⟨A,X,Y,S,P,PC,cyc,jam⟩:=r;have x0:=hr.x;have y0:=hr.y;have c0:=hr.pc;rcases (show h.length=1\/2<=h.length from by omega) with hn|hn
 ·rw [show zj op (b2 122 112) ⟨A,X,Y,S,P,PC,cyc,jam⟩ h=(0,0,(rdR (PC+1+1-1)).1,false) from by unfold zj;rw [hn];rfl];exact zk5 op A X Y S P PC cyc jam x0 y0 c0 b cap h hn w
 ·have e:zj op (b2 122 112) ⟨A,X,Y,S,P,PC,cyc,jam⟩ h=(hd h 1,2,Act.nil,true):=by
   unfold zj;dsimp only;rw [if_neg (by rintro (q|⟨q,q2⟩)<;>first|omega|(revert q2;decide)),if_pos zzb]
  rw [e];exact zk6 op A X Y S P PC cyc jam x0 y0 c0 b cap h hn hl w H
theorem zjn(op:BA)(r:RG)(hr:RgR r)(b cap:Nat)(h:List Int)(h1:1<=h.length)(hl:h.length<=100)(w:World)(H:HdAt w b h):Cq 148 #[cdV op (b3 122 112 120),r.val,hdV b h cap] w (plV (zj op (b3 122 112 120) r h)) fun w'=>Bq w w':=by
 obtain ⟨A,X,Y,S,P,PC,cyc,jam⟩:=r;have x0:=hr.x;have y0:=hr.y;have c0:=hr.pc;rcases (show h.length=1\/h.length=2\/3<=h.length from by omega) with hn|hn|hn
 ·rw [show zj op (b3 122 112 120) ⟨A,X,Y,S,P,PC,cyc,jam⟩ h=(0,0,(rdR (PC+1+1-1)).1,false) from by unfold zj;rw [hn];rfl];exact zhI op A X Y S P PC cyc jam x0 y0 c0 b cap h hn w
 ·rw [show zj op (b3 122 112 120) ⟨A,X,Y,S,P,PC,cyc,jam⟩ h=(0,0,⟨hd h 1,false,0,false⟩,false) from by unfold zj;rw [hn];rfl];exact zhS op A X Y S P PC cyc jam x0 y0 c0 b cap h hn w H
 ·have e:zj op (b3 122 112 120) ⟨A,X,Y,S,P,PC,cyc,jam⟩ h=((hd h 1+X)%256,3,Act.nil,true):=by
   unfold zj;dsimp only;rw [if_neg (by rintro (q|⟨q,q2⟩)<;>first|omega|(revert q2;decide)),if_neg zzb,if_pos zzb,if_neg zza,show (if (b3 122 112 120)=(b3 122 112 121)\/(b3 122 112 120)=(b3 97 98 121)\/(b3 122 112 120)=(b3 105 122 121) then Y else X)=X from if_neg zzb]
  rw [e];exact zhT op A X Y S P PC cyc jam x0 y0 c0 b cap h hn hl w H
theorem zjo(op:BA)(r:RG)(hr:RgR r)(b cap:Nat)(h:List Int)(h1:1<=h.length)(hl:h.length<=100)(w:World)(H:HdAt w b h):Cq 148 #[cdV op (b3 122 112 121),r.val,hdV b h cap] w (plV (zj op (b3 122 112 121) r h)) fun w'=>Bq w w':=by
 obtain ⟨A,X,Y,S,P,PC,cyc,jam⟩:=r;have x0:=hr.x;have y0:=hr.y;have c0:=hr.pc;rcases (show h.length=1\/h.length=2\/3<=h.length from by omega) with hn|hn|hn
 ·rw [show zj op (b3 122 112 121) ⟨A,X,Y,S,P,PC,cyc,jam⟩ h=(0,0,(rdR (PC+1+1-1)).1,false) from by unfold zj;rw [hn];rfl];exact zhJ op A X Y S P PC cyc jam x0 y0 c0 b cap h hn w
 ·rw [show zj op (b3 122 112 121) ⟨A,X,Y,S,P,PC,cyc,jam⟩ h=(0,0,⟨hd h 1,false,0,false⟩,false) from by unfold zj;rw [hn];rfl];exact zhU op A X Y S P PC cyc jam x0 y0 c0 b cap h hn w H
 ·have e:zj op (b3 122 112 121) ⟨A,X,Y,S,P,PC,cyc,jam⟩ h=((hd h 1+Y)%256,3,Act.nil,true):=by
   unfold zj;dsimp only;rw [if_neg (by rintro (q|⟨q,q2⟩)<;>first|omega|(revert q2;decide)),if_neg zzb,if_pos zzb,if_neg zza,show (if (b3 122 112 121)=(b3 122 112 121)\/(b3 122 112 121)=(b3 97 98 121)\/(b3 122 112 121)=(b3 105 122 121) then Y else X)=Y from if_pos zzb]
  rw [e];exact zhV op A X Y S P PC cyc jam x0 y0 c0 b cap h hn hl w H
theorem zjp(op:BA)(r:RG)(hr:RgR r)(b cap:Nat)(h:List Int)(h1:1<=h.length)(hl:h.length<=100)(w:World)(H:HdAt w b h):Cq 148 #[cdV op (b3 97 98 115),r.val,hdV b h cap] w (plV (zj op (b3 97 98 115) r h)) fun w'=>Bq w w':=by
 obtain ⟨A,X,Y,S,P,PC,cyc,jam⟩:=r;have x0:=hr.x;have y0:=hr.y;have c0:=hr.pc;rcases (show h.length=1\/h.length=2\/3<=h.length from by omega) with hn|hn|hn
 ·rw [show zj op (b3 97 98 115) ⟨A,X,Y,S,P,PC,cyc,jam⟩ h=(0,0,(rdR (PC+1+1-1)).1,false) from by unfold zj;rw [hn];rfl];exact zhK op A X Y S P PC cyc jam x0 y0 c0 b cap h hn w
 ·rw [show zj op (b3 97 98 115) ⟨A,X,Y,S,P,PC,cyc,jam⟩ h=(0,0,(rdR (PC+1+2-1)).1,false) from by unfold zj;rw [hn];rfl];exact zhL op A X Y S P PC cyc jam x0 y0 c0 b cap h hn w
 ·have e:zj op (b3 97 98 115) ⟨A,X,Y,S,P,PC,cyc,jam⟩ h=(hd h 1+256*hd h 2,3,Act.nil,true):=by
   unfold zj;dsimp only;rw [if_neg (by rintro (q|⟨q,q2⟩)<;>first|omega|(revert q2;decide)),if_neg zzb,if_neg zzb,if_pos zzb]
  rw [e];exact zhW op A X Y S P PC cyc jam x0 y0 c0 b cap h hn hl w H
theorem zjq(op:BA)(r:RG)(hr:RgR r)(b cap:Nat)(h:List Int)(h1:1<=h.length)(hl:h.length<=100)(w:World)(H:HdAt w b h):Cq 148 #[cdV op (b3 97 98 120),r.val,hdV b h cap] w (plV (zj op (b3 97 98 120) r h)) fun w'=>Bq w w':=by
 obtain ⟨A,X,Y,S,P,PC,cyc,jam⟩:=r;have x0:=hr.x;have y0:=hr.y;have c0:=hr.pc;rcases (show h.length=1\/h.length=2\/3<=h.length from by omega) with hn|hn|hn
 ·rw [show zj op (b3 97 98 120) ⟨A,X,Y,S,P,PC,cyc,jam⟩ h=(0,0,(rdR (PC+1+1-1)).1,false) from by unfold zj;rw [hn];rfl];exact zhM op A X Y S P PC cyc jam x0 y0 c0 b cap h hn w
 ·rw [show zj op (b3 97 98 120) ⟨A,X,Y,S,P,PC,cyc,jam⟩ h=(0,0,(rdR (PC+1+2-1)).1,false) from by unfold zj;rw [hn];rfl];exact zhN op A X Y S P PC cyc jam x0 y0 c0 b cap h hn w
 ·have e:zj op (b3 97 98 120) ⟨A,X,Y,S,P,PC,cyc,jam⟩ h=zZ op (hd h 1) (hd h 2) X (h.length:Int) 3:=by
   unfold zj;dsimp only;rw [if_neg (by rintro (q|⟨q,q2⟩)<;>first|omega|(revert q2;decide)),if_neg zzb,if_neg zzb,if_neg zzb,if_pos zzb,show (if (b3 97 98 120)=(b3 122 112 121)\/(b3 97 98 120)=(b3 97 98 121)\/(b3 97 98 120)=(b3 105 122 121) then Y else X)=X from if_neg zzb]
  rw [e];exact ziE op A X Y S P PC cyc jam x0 y0 c0 b cap h hn hl w H
theorem zjr(op:BA)(r:RG)(hr:RgR r)(b cap:Nat)(h:List Int)(h1:1<=h.length)(hl:h.length<=100)(w:World)(H:HdAt w b h):Cq 148 #[cdV op (b3 97 98 121),r.val,hdV b h cap] w (plV (zj op (b3 97 98 121) r h)) fun w'=>Bq w w':=by
 obtain ⟨A,X,Y,S,P,PC,cyc,jam⟩:=r;have x0:=hr.x;have y0:=hr.y;have c0:=hr.pc;rcases (show h.length=1\/h.length=2\/3<=h.length from by omega) with hn|hn|hn
 ·rw [show zj op (b3 97 98 121) ⟨A,X,Y,S,P,PC,cyc,jam⟩ h=(0,0,(rdR (PC+1+1-1)).1,false) from by unfold zj;rw [hn];rfl];exact zhO op A X Y S P PC cyc jam x0 y0 c0 b cap h hn w
 ·rw [show zj op (b3 97 98 121) ⟨A,X,Y,S,P,PC,cyc,jam⟩ h=(0,0,(rdR (PC+1+2-1)).1,false) from by unfold zj;rw [hn];rfl];exact zhP op A X Y S P PC cyc jam x0 y0 c0 b cap h hn w
 ·have e:zj op (b3 97 98 121) ⟨A,X,Y,S,P,PC,cyc,jam⟩ h=zZ op (hd h 1) (hd h 2) Y (h.length:Int) 3:=by
   unfold zj;dsimp only;rw [if_neg (by rintro (q|⟨q,q2⟩)<;>first|omega|(revert q2;decide)),if_neg zzb,if_neg zzb,if_neg zzb,if_pos zzb,show (if (b3 97 98 121)=(b3 122 112 121)\/(b3 97 98 121)=(b3 97 98 121)\/(b3 97 98 121)=(b3 105 122 121) then Y else X)=Y from if_pos zzb]
  rw [e];exact ziF op A X Y S P PC cyc jam x0 y0 c0 b cap h hn hl w H
theorem zjs(op:BA)(r:RG)(hr:RgR r)(b cap:Nat)(h:List Int)(h1:1<=h.length)(hl:h.length<=100)(w:World)(H:HdAt w b h):Cq 148 #[cdV op (b3 105 122 120),r.val,hdV b h cap] w (plV (zj op (b3 105 122 120) r h)) fun w'=>Bq w w':=by
 obtain ⟨A,X,Y,S,P,PC,cyc,jam⟩:=r;have x0:=hr.x;have y0:=hr.y;have c0:=hr.pc;rcases (show h.length=1\/h.length=2\/h.length=3\/h.length=4\/5<=h.length from by omega) with hn|hn|hn|hn|hn
 ·rw [show zj op (b3 105 122 120) ⟨A,X,Y,S,P,PC,cyc,jam⟩ h=(0,0,(rdR (PC+1+1-1)).1,false) from by unfold zj;rw [hn];rfl];exact zhQ op A X Y S P PC cyc jam x0 y0 c0 b cap h hn w
 ·rw [show zj op (b3 105 122 120) ⟨A,X,Y,S,P,PC,cyc,jam⟩ h=(0,0,⟨(hd h 1)%256,false,0,false⟩,false) from by unfold zj;rw [hn];rfl];exact zhX op A X Y S P PC cyc jam x0 y0 c0 b cap h hn w H
 ·rw [show zj op (b3 105 122 120) ⟨A,X,Y,S,P,PC,cyc,jam⟩ h=(0,0,⟨(hd h 1+X)%256,false,0,false⟩,false) from by unfold zj;rw [hn];rfl];exact zhY op A X Y S P PC cyc jam x0 y0 c0 b cap h hn w H
 ·rw [show zj op (b3 105 122 120) ⟨A,X,Y,S,P,PC,cyc,jam⟩ h=(0,0,⟨(hd h 1+X+1)%256,false,0,false⟩,false) from by unfold zj;rw [hn];rfl];exact zhZ op A X Y S P PC cyc jam x0 y0 c0 b cap h hn w H
 ·have e:zj op (b3 105 122 120) ⟨A,X,Y,S,P,PC,cyc,jam⟩ h=(hd h 3+256*hd h 4,5,Act.nil,true):=by
   unfold zj;dsimp only;rw [if_neg (by rintro (q|⟨q,q2⟩)<;>first|omega|(revert q2;decide)),if_neg zzb,if_neg zzb,if_neg zzb,if_neg zzb,if_pos zzb,if_neg zza]
  rw [e];exact ziD op A X Y S P PC cyc jam x0 y0 c0 b cap h hn hl w H
theorem zjt(op:BA)(r:RG)(hr:RgR r)(b cap:Nat)(h:List Int)(h1:1<=h.length)(hl:h.length<=100)(w:World)(H:HdAt w b h):Cq 148 #[cdV op (b3 105 122 121),r.val,hdV b h cap] w (plV (zj op (b3 105 122 121) r h)) fun w'=>Bq w w':=by
 obtain ⟨A,X,Y,S,P,PC,cyc,jam⟩:=r;have x0:=hr.x;have y0:=hr.y;have c0:=hr.pc;rcases (show h.length=1\/h.length=2\/h.length=3\/4<=h.length from by omega) with hn|hn|hn|hn
 ·rw [show zj op (b3 105 122 121) ⟨A,X,Y,S,P,PC,cyc,jam⟩ h=(0,0,(rdR (PC+1+1-1)).1,false) from by unfold zj;rw [hn];rfl];exact zhR op A X Y S P PC cyc jam x0 y0 c0 b cap h hn w
 ·rw [show zj op (b3 105 122 121) ⟨A,X,Y,S,P,PC,cyc,jam⟩ h=(0,0,⟨(hd h 1+2-2)%256,false,0,false⟩,false) from by unfold zj;rw [hn];rfl];exact zh0 op A X Y S P PC cyc jam x0 y0 c0 b cap h hn w H
 ·rw [show zj op (b3 105 122 121) ⟨A,X,Y,S,P,PC,cyc,jam⟩ h=(0,0,⟨(hd h 1+3-2)%256,false,0,false⟩,false) from by unfold zj;rw [hn];rfl];exact zh1 op A X Y S P PC cyc jam x0 y0 c0 b cap h hn w H
 ·have e:zj op (b3 105 122 121) ⟨A,X,Y,S,P,PC,cyc,jam⟩ h=zZ op (hd h 2) (hd h 3) Y (h.length:Int) 4:=by
   unfold zj;dsimp only;rw [if_neg (by rintro (q|⟨q,q2⟩)<;>first|omega|(revert q2;decide)),if_neg zzb,if_neg zzb,if_neg zzb,if_neg zzb,if_neg zzb,if_neg zza,show (if (b3 105 122 121)=(b3 122 112 121)\/(b3 105 122 121)=(b3 97 98 121)\/(b3 105 122 121)=(b3 105 122 121) then Y else X)=Y from if_pos zzb]
  rw [e];exact ziG op A X Y S P PC cyc jam x0 y0 c0 b cap h hn hl w H
theorem zlL{op:BA}(h:op∈lW):zY op=119:=by
 unfold lW at h;simp only [List.mem_cons,List.not_mem_nil,or_false] at h;rcases h with rfl|rfl|rfl<;>rfl
theorem zlM{op:BA}(h:op∈lC):zY op=99:=by
 unfold lC at h;simp only [List.mem_cons,List.not_mem_nil,or_false] at h;rcases h with rfl|rfl|rfl|rfl|rfl|rfl<;>rfl
theorem zlN{op:BA}(h:op∈lR):zY op=114:=by
 unfold lR at h;simp only [List.mem_cons,List.not_mem_nil,or_false] at h;rcases h with rfl|rfl|rfl|rfl|rfl|rfl|rfl|rfl|rfl|rfl|rfl|rfl<;>rfl
theorem ziY(op md:BA)(hk:zY op=114)(r:RG)(b cap:Nat)(h:List Int)(a:Int)(fr:Nat)(a0:h.length<=100/\fr<=100)(w:World):Cq 149 #[cdV op md,r.val,hdV b h cap,Iq a,Iq (fr:Int)] w (zi (yD op r h a fr)) fun w'=>Bq w w':=by
 obtain ⟨A,X,Y,S,P,PC,cyc,jam⟩:=r;by_cases hn:h.length=fr
 ·rw [show yD op ⟨A,X,Y,S,P,PC,cyc,jam⟩ h a fr=rdR a from by unfold yD;dsimp only;rw [if_pos hk,if_pos zza]];exact zmS op md A X Y S P PC cyc jam b cap h a fr a0 hk hn w
 ·rw [show yD op ⟨A,X,Y,S,P,PC,cyc,jam⟩ h a fr=dnR from by unfold yD;dsimp only;rw [if_pos hk,if_neg zza]];exact zmT op md A X Y S P PC cyc jam b cap h a fr a0 hk hn w
theorem ziZ(op md:BA)(hop:op∈lW)(r:RG)(b cap:Nat)(h:List Int)(a:Int)(fr:Nat)(a0:h.length<=100/\fr<=100)(w:World):Cq 149 #[cdV op md,r.val,hdV b h cap,Iq a,Iq (fr:Int)] w (zi (yD op r h a fr)) fun w'=>Bq w w':=by
 obtain ⟨A,X,Y,S,P,PC,cyc,jam⟩:=r;have hk:=zlL hop;by_cases hn:h.length=fr
 ·rw [show yD op ⟨A,X,Y,S,P,PC,cyc,jam⟩ h a fr=wrR a (if op=(b3 83 84 65) then A else if op=(b3 83 84 88) then X else Y) from by unfold yD;dsimp only;rw [if_neg (by rw [hk];decide),if_pos hk,if_pos zza]];unfold lW at hop;simp only [List.mem_cons,List.not_mem_nil,or_false] at hop;rcases hop with rfl|rfl|rfl
  ·exact zjk md A X Y S P PC cyc jam b cap h a fr a0 hn w
  ·exact zjl md A X Y S P PC cyc jam b cap h a fr a0 hn w
  ·exact zjm md A X Y S P PC cyc jam b cap h a fr a0 hn w
 ·rw [show yD op ⟨A,X,Y,S,P,PC,cyc,jam⟩ h a fr=dnR from by unfold yD;dsimp only;rw [if_neg (by rw [hk];decide),if_pos hk,if_neg zza]];exact zmU op md A X Y S P PC cyc jam b cap h a fr a0 hk hn w
theorem zi0(op md:BA)(hop:op∈lC)(r:RG)(hr:RgR r)(b cap:Nat)(h:List Int)(a:Int)(fr:Nat)(a0:h.length<=100/\fr<=100)(w:World)(H:HdAt w b h):Cq 149 #[cdV op md,r.val,hdV b h cap,Iq a,Iq (fr:Int)] w (zi (yD op r h a fr)) fun w'=>Bq w w':=by
 obtain ⟨A,X,Y,S,P,PC,cyc,jam⟩:=r;have hk:=zlM hop;have q1:¬zY op=114:=by rw [hk];decide
 have q2:¬zY op=119:=by rw [hk];decide
 by_cases hn:h.length=fr
 ·rw [show yD op ⟨A,X,Y,S,P,PC,cyc,jam⟩ h a fr=rdR a from by unfold yD;dsimp only;rw [if_neg q1,if_neg q2,if_pos zza]];exact zmV op md A X Y S P PC cyc jam b cap h a fr a0 hk hn w
 ·by_cases hn1:h.length=fr+1
  ·rw [show yD op ⟨A,X,Y,S,P,PC,cyc,jam⟩ h a fr=wrR a (hd h fr) from by unfold yD;dsimp only;rw [if_neg q1,if_neg q2,if_neg zza,if_pos zza,Int.toNat_natCast]];exact zmX op md A X Y S P PC cyc jam b cap h a fr a0 hk hn1 w H
  ·by_cases hn2:h.length=fr+2
   ·rw [show yD op ⟨A,X,Y,S,P,PC,cyc,jam⟩ h a fr=wrR a (zF op (hd h fr) P).1 from by unfold yD;dsimp only;rw [if_neg q1,if_neg q2,if_neg zza,if_neg zza,if_pos zza,Int.toNat_natCast]];exact zmY op md A X Y S P PC cyc jam b cap h a fr a0 hk hop hr.p hn2 w H
   ·rw [show yD op ⟨A,X,Y,S,P,PC,cyc,jam⟩ h a fr=dnR from by unfold yD;dsimp only;rw [if_neg q1,if_neg q2,if_neg zza,if_neg zza,if_neg zza]];exact zmW op md A X Y S P PC cyc jam b cap h a fr a0 hk hn hn1 hn2 w
theorem Gz(B a b:Nat)(h:a≠b):((Aq B a):Addr)≠ (Aq B b):=by
 intro e;injection e with _ e;exact h e
def MV(M:Nat)(vh:Value)(t:RS):List Value:=
 [Sq M 65536 65536,Iq t.rom,Iq t.r.A,Iq t.r.X,Iq t.r.Y,Iq t.r.S,Iq t.r.P,Iq t.r.PC,Iq t.r.cyc,Tq t.r.jam,Iq t.cnt,Tq t.calls,Tq t.nmi,Tq t.due,Zq t.op,Zq t.md,vh]
structure MAt (w:World) (B M:Nat) (L:List Value) (m:Nat->Int):Prop where
 len:L.length=17
 c:∀i,i<17->w.cell? (Aq B i)=L[i]?
 fr:∀o,w.frozen? (Aq B o)=false
 m:∀i,i<65536->w.cell? (Aq M i)=some (Iq (m i))
 fm:∀o,w.frozen? (Aq M o)=false
 ne:B≠M
structure Two (B M:Nat) (w w':World):Prop where
 os:w'.os=w.os
 tape:w'.tape=w.tape
 output:w'.output=w.output
 size:w.heap.size<=w'.heap.size
 block:∀k,k<w.heap.size->k≠B->k≠M->w'.heap[k]?=w.heap[k]?
theorem Two.refl(B M:Nat)(w:World):Two B M w w:=⟨rfl,rfl,rfl,Nat.le_refl _,fun _ _ _ _=>rfl⟩
theorem Two.trans{B M:Nat}{a b c:World}(h:Two B M a b)(k:Two B M b c):Two B M a c:=
 ⟨k.os.trans h.os,k.tape.trans h.tape,k.output.trans h.output,Nat.le_trans h.size k.size,fun i h1 h2 h3=>(k.block i (Nat.lt_of_lt_of_le h1 h.size) h2 h3).trans (h.block i h1 h2 h3)⟩
theorem Two.below{B M:Nat}{a b:World}(h:Bq a b):Two B M a b:=⟨h.os,h.tape,h.output,h.size,fun k hk _ _=>h.block k hk⟩
theorem Two.set(B M:Nat)(w:World)(b o:Nat)(v:Value)(h:b=B\/b=M):Two B M w (w.setCell (Aq b o) v):=
 ⟨rfl,rfl,rfl,by simp,fun k _ h1 h2=>Below.heap_setCell _ _ _ _ (by rcases h with e|e<;>rw [e]<;>assumption)⟩
structure TM (B M:Nat) (L:List Value) (m:Nat->Int) (w0 w:World):Prop where
 c:MAt w B M L m
 g:Two B M w0 w
section
variable {B M:Nat} {L:List Value} {m:Nat->Int} {w0 w:World}
theorem MAt.lt(h:MAt w B M L m):B<w.heap.size:=World.block_lt_of_cell? w (Aq B 0) ((h.c 0 zzb).trans (List.getElem?_eq_getElem (by rw [h.len];decide)))
theorem MAt.ltM(h:MAt w B M L m):M<w.heap.size:=World.block_lt_of_cell? w (Aq M 0) (h.m 0 zzb)
theorem MAt.same{w':World}(h:MAt w B M L m)(e:w'.heap[B]?=w.heap[B]?)(e2:w'.heap[M]?=w.heap[M]?):MAt w' B M L m:=
 ⟨h.len,fun i hi=>(World.cell?_of_block (a:=(Aq B i)) e).trans (h.c i hi),fun o=>(World.frozen?_of_block (a:=(Aq B o)) e).trans (h.fr o),
  fun i hi=>(World.cell?_of_block (a:=(Aq M i)) e2).trans (h.m i hi),fun o=>(World.frozen?_of_block (a:=(Aq M o)) e2).trans (h.fm o),h.ne⟩
theorem MAt.set(h:MAt w B M L m)(i:Nat)(hi:i<17)(v:Value):MAt (w.setCell (Aq B i) v) B M (L.set i v) m:=by
 refine ⟨by simp [h.len],fun j hj=>?_,fun o=>by rw [World.frozen?_setCell];exact h.fr o,fun j hj=>?_,fun o=>by rw [World.frozen?_setCell];exact h.fm o,h.ne⟩
 ·by_cases e:i=j
  ·subst e;rw [World.cell?_setCell_same _ _ _ ((h.c i hi).trans (List.getElem?_eq_getElem (by rw [h.len];exact hi))),List.getElem?_set_self (by rw [h.len];exact hi)]
  ·rw [World.cell?_setCell_other _ _ _ _ (Gz _ _ _ (fun q=>e q)),List.getElem?_set_ne e];exact h.c j hj
 ·rw [World.cell?_of_block (a:=(Aq M j)) (Below.heap_setCell _ _ _ _ (fun e=>h.ne e.symm))];exact h.m j hj
theorem MAt.setM(h:MAt w B M L m)(i:Nat)(hi:i<65536)(v:Int):MAt (w.setCell (Aq M i) (Iq v)) B M L (vH m i v):=by
 refine ⟨h.len,fun j hj=>?_,fun o=>by rw [World.frozen?_setCell];exact h.fr o,fun j hj=>?_,fun o=>by rw [World.frozen?_setCell];exact h.fm o,h.ne⟩
 ·rw [World.cell?_of_block (a:=(Aq B j)) (Below.heap_setCell _ _ _ _ h.ne)];exact h.c j hj
 ·by_cases e:j=i
  ·subst e;rw [World.cell?_setCell_same _ _ _ (h.m j hj)];unfold vH;rw [if_pos rfl]
  ·rw [World.cell?_setCell_other _ _ _ _ (Gz _ _ _ (fun q=>e q.symm))];unfold vH;rw [if_neg e];exact h.m j hj
theorem TM.refl(h:MAt w B M L m):TM B M L m w w:=⟨h,Two.refl _ _ _⟩
theorem TM.below{w':World}(h:TM B M L m w0 w)(hb:Bq w w'):TM B M L m w0 w':=⟨h.c.same (hb.block _ h.c.lt) (hb.block _ h.c.ltM),h.g.trans (Two.below hb)⟩
theorem TM.alloc(h:TM B M L m w0 w)(o:Obj):TM B M L m w0 (w.alloc o):=h.below qBa
theorem TM.drew(h:TM B M L m w0 w):TM B M L m w0 w.drew:=h.below (Below.refl _ _).drew
theorem TM.drewN(h:TM B M L m w0 w)(n:Nat):TM B M L m w0 (w.drewN n):=⟨h.c.same rfl rfl,h.g.trans ⟨rfl,rfl,rfl,Nat.le_refl _,fun _ _ _ _=>rfl⟩⟩
theorem TM.set(h:TM B M L m w0 w){i:Nat}{v:Value}(hi:i<17):TM B M (L.set i v) m w0 (w.setCell (Aq B i) v):=⟨h.c.set i hi v,h.g.trans (Two.set _ _ _ _ _ _ (.inl rfl))⟩
theorem TM.setM(h:TM B M L m w0 w){i:Nat}{v:Int}(hi:i<65536):TM B M L (vH m i v) w0 (w.setCell (Aq M i) (Iq v)):=⟨h.c.setM i hi v,h.g.trans (Two.set _ _ _ _ _ _ (.inr rfl))⟩
theorem TM.other(h:TM B M L m w0 w){b o:Nat}{v:Value}(hb:w0.heap.size<=b)(h1:b≠B)(h2:b≠M):TM B M L m w0 (w.setCell (Aq b o) v):=
 ⟨h.c.same (Below.heap_setCell _ _ _ _ (fun e=>h1 e.symm)) (Below.heap_setCell _ _ _ _ (fun e=>h2 e.symm)),⟨h.g.os,h.g.tape,h.g.output,by simpa using h.g.size,fun k hk h3 h4=>(Below.heap_setCell _ _ _ _ (fun e:k=b=>by omega)).trans (h.g.block k hk h3 h4)⟩⟩
theorem TM.eq{L':List Value}{m':Nat->Int}(h:TM B M L m w0 w)(e:L=L')(e2:m=m'):TM B M L' m' w0 w:=e ▸ e2 ▸ h
theorem MAt.cs{vh:Value}{t:RS}(h:MAt w B M (MV M vh t) m):w.cell? (Aq B 0)=some (Sq M 65536 65536)/\w.cell? (Aq B 1)=some (Iq t.rom)/\w.cell? (Aq B 2)=some (Iq t.r.A)/\w.cell? (Aq B 3)=some (Iq t.r.X)/\w.cell? (Aq B 4)=some (Iq t.r.Y)/\w.cell? (Aq B 5)=some (Iq t.r.S)/\w.cell? (Aq B 6)=some (Iq t.r.P)/\w.cell? (Aq B 7)=some (Iq t.r.PC)/\w.cell? (Aq B 8)=some (Iq t.r.cyc)/\w.cell? (Aq B 9)=some (Tq t.r.jam)/\w.cell? (Aq B 10)=some (Iq t.cnt)/\w.cell? (Aq B 11)=some (Tq t.calls)/\w.cell? (Aq B 12)=some (Tq t.nmi)/\w.cell? (Aq B 13)=some (Tq t.due)/\w.cell? (Aq B 14)=some (Zq t.op)/\w.cell? (Aq B 15)=some (Zq t.md)/\w.cell? (Aq B 16)=some (vh):=
 ⟨h.c 0 zzb,h.c 1 zzb,h.c 2 zzb,h.c 3 zzb,h.c 4 zzb,h.c 5 zzb,h.c 6 zzb,h.c 7 zzb,h.c 8 zzb,h.c 9 zzb,h.c 10 zzb,h.c 11 zzb,h.c 12 zzb,h.c 13 zzb,h.c 14 zzb,h.c 15 zzb,h.c 16 zzb⟩
theorem TM.lt(h:TM B M L m w0 w):B<w.heap.size:=h.c.lt
end
theorem zko{p:Prop} (q:p:=by
 go_enter func67,ntmps67;go_wp2_with (go_at_call 91;refine (C _).mono ?_;rintro e w1 ⟨rfl,rfl⟩);go_returns;exact ⟨rfl,rfl⟩):p:=q
theorem zkc{B M:Nat}{vh:Value}{t:RS}{w0 w:World}(h:TM B M (MV M vh t) t.mem w0 w)(at_:Int):Cq 67 #[Pq B,Iq at_] w (Iq (t.peek (at_%65536))) fun w'=>w'=w:=by
 have lt1:=h.c.lt;have lt2:=h.c.ltM;have ne:=h.c.ne;have ne2:=h.c.ne.symm;obtain ⟨c0, -, -, -, -, -, -, -, -, -,c10,c11, -, -, -, -, -⟩:=h.c.cs;have C:=fun w=>zD at_ w
 obtain ⟨a,ha⟩:∃a,at_%65536=a:=⟨_,rfl⟩
 have h1:0<=a:=by omega
 have h2:a<65536:=by omega
 rw [ha] at C⊢;clear ha;by_cases e1:a=53248
 ·subst e1;exact zko
 ·by_cases e2:a=53249
  ·subst e2;cases hc:t.calls
   all_goals
    rw [hc] at c11;rw [show t.peek 53249=(if t.calls=true then 128 else 0) from rfl,hc];go_enter func67,ntmps67;go_wp2_with (go_at_call 91;refine (C _).mono ?_;rintro e w1 ⟨rfl,rfl⟩);go_returns;exact ⟨rfl,rfl⟩
  ·obtain ⟨n,rfl⟩:=Int.eq_ofNat_of_zero_le h1;have q1:((n:Int)==53248)=false:=by rw [beq_eq_false_iff_ne];exact e1
   have q2:((n:Int)==53249)=false:=by rw [beq_eq_false_iff_ne];exact e2
   have hm:=h.c.m n zza;rw [show t.peek (n:Int)=t.mem n from by unfold RS.peek;rw [if_neg e1,if_neg e2,Int.toNat_natCast]];clear e1 e2;exact zko
theorem zqp{B M:Nat}{vh:Value}{t:RS}{w0 w:World}(h:TM B M (MV M vh t) t.mem w0 w):Cq 66 #[Pq B] w t.r.val fun w'=>Bq w w':=by
 have lt1:=h.c.lt;have lt2:=h.c.ltM;have ne:=h.c.ne;have ne2:=h.c.ne.symm;obtain ⟨-, -,c2,c3,c4,c5,c6,c7,c8,c9, -, -, -, -, -, -, -⟩:=h.c.cs;go_enter func66,ntmps66;go_wp2_with fail;go_returns;exact ⟨rfl,by go_grown⟩
theorem zmg{p:Prop} (q:p:=by
 (repeat (first|with_reducible exact h|with_reducible apply TM.drew|with_reducible apply TM.drewN|with_reducible apply TM.alloc|((with_reducible apply TM.set);(case hi=>decide))|((with_reducible apply TM.other);(case hb=>omega);(case h1=>omega);(case h2=>omega))))):p:=q
theorem rbus{B M:Nat}{vh:Value}{t:RS}{w0 w:World}(h:TM B M (MV M vh t) t.mem w0 w)(a:Act)(a0:0<=a.addr/\a.addr<65536):Calls prog 93 #[Pq B,a.val] w fun e w'=>e=.returned (t.bus a).2.val/\TM B M (MV M vh (t.bus a).1) (t.bus a).1.mem w0 w':=by
 have lt1:=h.c.lt;have lt2:=h.c.ltM;have ne:=h.c.ne;have ne2:=h.c.ne.symm;have f10:=h.c.fr 10;have f11:=h.c.fr 11;obtain ⟨c0,c1, -, -, -, -, -, -, -, -,c10,c11, -, -, -, -, -⟩:=h.c.cs;have hsz:=h.g.size;obtain ⟨a,wr,d,ft⟩:=a;obtain ⟨h1,h2⟩:=a0;simp only at h1 h2;have PK:=fun w1 (h:TM B M (MV M vh t) t.mem w0 w1)=>zkc h a
 rw [show a%65536=a from by omega] at PK;unfold Act.val;cases wr
 ·by_cases e2:a=53249
  ·subst e2;rw [show t.bus ⟨53249,false,d,ft⟩=({t with calls:=false},⟨53249,t.peek 53249,false,ft⟩) from rfl];unfold BusI.val;generalize t.peek 53249=pv at*;go_enter func93,ntmps93;go_wp2_with (go_at_call 67;refine (PK _ ?pk).mono ?_;(case pk=>(repeat (first|with_reducible exact h|with_reducible apply TM.drew|with_reducible apply TM.drewN|with_reducible apply TM.alloc)));rintro e w1 ⟨rfl,rfl⟩);go_returns;refine ⟨rfl,?_⟩;apply TM.eq
   ·exact zmg
   ·rfl
   ·rfl
  ·have q2:(a==53249)=false:=by rw [beq_eq_false_iff_ne];exact e2
   rw [show t.bus ⟨a,false,d,ft⟩=(t,⟨a,t.peek a,false,ft⟩) from by unfold RS.bus;dsimp only;rw [if_pos rfl,if_neg e2]];unfold BusI.val;generalize t.peek a=pv at*;clear e2;go_enter func93,ntmps93;go_wp2_with (go_at_call 67;refine (PK _ ?pk).mono ?_;(case pk=>(repeat (first|with_reducible exact h|with_reducible apply TM.drew|with_reducible apply TM.drewN|with_reducible apply TM.alloc)));rintro e w1 ⟨rfl,rfl⟩);go_returns;refine ⟨rfl,?_⟩;(repeat (first|with_reducible exact h|with_reducible apply TM.drew|with_reducible apply TM.drewN|with_reducible apply TM.alloc|((with_reducible apply TM.set);(case hi=>decide))|((with_reducible apply TM.other);(case hb=>omega);(case h1=>omega);(case h2=>omega))))
 ·clear PK;by_cases e1:a=53248
  ·subst e1;rw [show t.bus ⟨53248,true,d,ft⟩=({t with cnt:=d},⟨53248,d,true,ft⟩) from rfl];unfold BusI.val;go_enter func93,ntmps93;go_wp2_with fail;go_returns;refine ⟨rfl,?_⟩;apply TM.eq
   ·exact zmg
   ·rfl
   ·rfl
  ·have q1:(a==53248)=false:=by rw [beq_eq_false_iff_ne];exact e1
   by_cases e2:a=53249
   ·subst e2;rw [show t.bus ⟨53249,true,d,ft⟩=(t,⟨53249,d,true,ft⟩) from by unfold RS.bus;dsimp only;rw [if_neg zzb,if_neg zzb,if_neg (fun q=>q.2 rfl)]];unfold BusI.val;clear e1;obtain ⟨q3,hq3⟩:∃q3:Bool,decide ((53249:Int)<t.rom)=q3:=⟨_,rfl⟩
    cases q3
    all_goals
     go_enter func93,ntmps93;go_wp2_with fail;go_quiet (fail);go_wp2_with fail;go_returns;refine ⟨rfl,?_⟩;(repeat (first|with_reducible exact h|with_reducible apply TM.drew|with_reducible apply TM.drewN|with_reducible apply TM.alloc|((with_reducible apply TM.set);(case hi=>decide))|((with_reducible apply TM.other);(case hb=>omega);(case h1=>omega);(case h2=>omega))))
   ·have q2:(a !=53249)=true:=by rw [bne_iff_ne];exact e2
    by_cases e3:a<t.rom
    ·obtain ⟨n,rfl⟩:=Int.eq_ofNat_of_zero_le h1;have hm:=h.c.m n zza;have hf:=h.c.fm n;have hn:n<65536:=by omega
     rw [show t.bus ⟨(n:Int),true,d,ft⟩=({t with mem:=vH t.mem n d},⟨n,d,true,ft⟩) from by unfold RS.bus;dsimp only;rw [if_neg zzb,if_neg e1,if_pos ⟨e3,e2⟩,Int.toNat_natCast]];unfold BusI.val;clear e1 e2;go_enter func93,ntmps93;go_wp2_with fail;go_quiet (fail);go_wp2_with fail;go_region_with fail;all_goals go_wp2_with fail
     all_goals go_returns
     all_goals refine ⟨rfl,?_⟩
     all_goals (apply TM.eq;(case h=>(repeat (first|with_reducible exact h|with_reducible apply TM.drew|with_reducible apply TM.drewN|with_reducible apply TM.alloc|((with_reducible apply TM.setM);(case hi=>exact hn))|((with_reducible apply TM.set);(case hi=>decide))|((with_reducible apply TM.other);(case hb=>omega);(case h1=>omega);(case h2=>omega)))));(case e=>rfl);(case e2=>rfl))
    ·rw [show t.bus ⟨a,true,d,ft⟩=(t,⟨a,d,true,ft⟩) from by unfold RS.bus;dsimp only;rw [if_neg zzb,if_neg e1,if_neg (fun q=>e3 q.1)]];have e4:decide (a<t.rom)=false:=decide_eq_false e3;clear e3;unfold BusI.val;clear e1 e2;go_enter func93,ntmps93;go_wp2_with fail;go_quiet (fail);go_wp2_with fail;go_returns;refine ⟨rfl,?_⟩;(repeat (first|with_reducible exact h|with_reducible apply TM.drew|with_reducible apply TM.drewN|with_reducible apply TM.alloc|((with_reducible apply TM.set);(case hi=>decide))|((with_reducible apply TM.other);(case hb=>omega);(case h1=>omega);(case h2=>omega))))
theorem zbr{α β:Type}(f g h:β->α):∀ (l:List β) (i:Nat) (e:β),l[i]?=some e->
  (l.flatMap fun c=>[f c,g c,h c])[i*3]?=some (f e)/\(l.flatMap fun c=>[f c,g c,h c])[i*3+1]?=some (g e)/\(l.flatMap fun c=>[f c,g c,h c])[i*3+2]?=some (h e)
 | [],i,e,q=>by simp at q
 |c::l,0,e,q=>by simp at q;subst q;exact ⟨rfl,rfl,rfl⟩
 |c::l,i+1,e,q=>by
  have:=zbr f g h l i e (by simpa using q);rw [List.flatMap_cons,show (i+1)*3=i*3+3 from by omega];exact this
theorem ziB(w:World)(i:Nat)(e:Nat × BA × BA)(h:yH[i]?=some e):(w.alloc ZR).cell? ⟨w.heap.size,i*3,none⟩=some (Iq (e.1:Nat))/\(w.alloc ZR).cell? ⟨w.heap.size,i*3+1,none⟩=some (Zq e.2.1)/\(w.alloc ZR).cell? ⟨w.heap.size,i*3+2,none⟩=some (Zq e.2.2):=by
 have q:=zbr (fun e:Nat × BA × BA=>Iq (e.1:Nat)) (fun e=>Zq e.2.1) (fun e=>Zq e.2.2) yH i e h;have c:∀j,(w.alloc ZR).cell? (Aq w.heap.size j)=zj5[j]?:=fun j=>(World.cell?_alloc_at _ _ _ _ rfl).trans zzc
 rw [c,c,c];exact q
theorem Yz:yH.length=151:=by kernel_rfl
theorem ziC(i:Nat)(h:i<151):∃e,yH[i]?=some e:=⟨yH[i]'(by rw [Yz];exact h),List.getElem?_eq_getElem _⟩
theorem zft{b:Int}{k:Nat}{e:Nat × BA × BA}(hk:yH[k]?=some e)(hb:(e.1:Int)=b)(hno:∀j,j<k->∀q,yH[j]?=some q->(q.1:Int)≠b):xc b=e.2:=by
 unfold xc;rw [show yH.find? (fun e=>(e.1:Int)==b)=some e from ?_];rw [List.find?_eq_some_iff_getElem];have hl:k<yH.length:=(List.getElem?_eq_some_iff.1 hk).1;refine ⟨by simpa using hb,k,hl,(List.getElem?_eq_some_iff.1 hk).2,fun j hj=>?_⟩;have:=hno j hj _ (List.getElem?_eq_getElem zza);simpa using this
theorem zcP{b:Int}(hno:∀j,j<151->∀q,yH[j]?=some q->(q.1:Int)≠b):xc b=(⟨#[]⟩,⟨#[]⟩):=by
 unfold xc;rw [show yH.find? (fun e=>(e.1:Int)==b)=none from ?_];rw [List.find?_eq_none];intro e he;obtain ⟨j,hj,rfl⟩:=List.mem_iff_getElem.1 he;rw [Yz] at hj;simpa using hno j hj _ (List.getElem?_eq_getElem _)
theorem znC(b:Int)(w:World):Cq 150 #[Iq b] w (cdV (xc b).1 (xc b).2) fun w'=>Bq w w':=by
 have HT:Hid (∀ (i:Nat) (e:Nat × BA × BA),yH[i]?=some e->((w.alloc (.cells #[Zq ⟨#[]⟩,Zq ⟨#[]⟩] 192)).alloc ZR).cell? ⟨w.heap.size+1,i*3,none⟩=some (Iq (e.1:Nat))/\((w.alloc (.cells #[Zq ⟨#[]⟩,Zq ⟨#[]⟩] 192)).alloc ZR).cell? ⟨w.heap.size+1,i*3+1,none⟩=some (Zq e.2.1)/\((w.alloc (.cells #[Zq ⟨#[]⟩,Zq ⟨#[]⟩] 192)).alloc ZR).cell? ⟨w.heap.size+1,i*3+2,none⟩=some (Zq e.2.2)):=by
  intro i e h;have:=ziB (w.alloc (.cells #[Zq ⟨#[]⟩,Zq ⟨#[]⟩] 192)) i e h;simpa using this
 have TB:=fun w=>zkU w
 generalize ZR=O at*;go_enter func150,ntmps150;go_wp2_with (go_at_call 195;refine (TB _).mono ?_;rintro e w1 ⟨rfl,rfl⟩);have hO:Hid (Bq w ((w.alloc (.cells #[Zq ⟨#[]⟩,Zq ⟨#[]⟩] 192)).alloc O)):=(by go_grown:Bq w ((w.alloc (.cells #[Zq ⟨#[]⟩,Zq ⟨#[]⟩] 192)).alloc O));go_loopw [4] (fun i wr=> ∃k:Nat,k<=151/\i=Iq k/\(∀j,j<k->∀q,yH[j]?=some q->(q.1:Int)≠b)/\wr=((w.alloc (.cells #[Zq ⟨#[]⟩,Zq ⟨#[]⟩] 192)).alloc O)) (fun i _=>151-(intOf i).toNat);case atStart=>exact ⟨0,by omega,rfl,fun j hj=>by omega,rfl⟩
 case round=>
  obtain ⟨k,hk,rfl,hno,rfl⟩:=hrel;have HNo:=qH1 hno;clear hno;by_cases hlt:k<151
  ·obtain ⟨e,he⟩:=ziC k hlt;obtain ⟨c0,c1,c2⟩:=HT.out k e he;have HE:=qH1 he;have hk1:(k:Int)<151:=by omega
   clear he;by_cases hx:(e.1:Int)=b
   ·have HR:Hid (xc b=e.2):=zft HE.out hx HNo.out;obtain ⟨x,op,md⟩:=e;simp only at hx c0 c1 c2;clear HE HNo HT TB;subst hx;go_wp2;go_region_with fail;all_goals go_wp2
    all_goals go_returns
    all_goals refine ⟨by rw [HR.out];rfl,?_⟩
    all_goals go_grown
   ·have HX:=qH1 hx;have hx2:((e.1:Int)==b)=false:=by simpa using hx
    go_wp2;go_roundw;case rel=>exact ⟨k+1,by omega,by go_num,fun j hj q hq=>by
     rcases Nat.lt_succ_iff_lt_or_eq.1 hj with h|rfl
     ·exact HNo.out j h q hq
     ·rw [HE.out] at hq;cases hq;exact HX.out,trivial⟩
    case measure=>simp [intOf];omega
  ·have e1:k=151:=by omega
   subst e1;have HR:Hid (xc b=(⟨#[]⟩,⟨#[]⟩)):=zcP HNo.out;clear HNo HT TB;go_wp2;go_returns;refine ⟨by rw [HR.out];rfl,?_⟩;go_grown
theorem zx2{p:Prop} (q:p:=by
 go_wp2_with fail;all_goals (try (go_quiet (fail)))
 all_goals (try (go_wp2_with fail))
 all_goals go_returns
 all_goals refine ⟨rfl,?_⟩
 all_goals (apply TM.eq;(case h=>(repeat (first|with_reducible exact h|with_reducible apply TM.drew|with_reducible apply TM.drewN|with_reducible apply TM.alloc|((with_reducible apply TM.set);(case hi=>decide))|((with_reducible apply TM.other);(case hb=>omega);(case h1=>omega);(case h2=>omega)))));(case e=>rfl);(case e2=>rfl))):p:=q
theorem zgu{B M:Nat}{vh:Value}{t:RS}{w0 w:World}(h:TM B M (MV M vh t) t.mem w0 w)(b:BusI)(k0:0<=t.cnt/\t.cnt<256):Cq 95 #[Pq B,b.val] w (.tuple #[]) fun w'=>TM B M (MV M vh (t.counts b)) (t.counts b).mem w0 w':=by
 have lt1:=h.c.lt;have lt2:=h.c.ltM;have ne:=h.c.ne;have ne2:=h.c.ne.symm;have hsz:=h.g.size;have f10:=h.c.fr 10;have f11:=h.c.fr 11;obtain ⟨-, -, -, -, -, -, -, -, -, -,c10,c11, -, -, -, -, -⟩:=h.c.cs;obtain ⟨a,d,wr,ft⟩:=b;obtain ⟨k1,k2⟩:=k0;unfold BusI.val;have ec:t.counts ⟨a,d,wr,ft⟩=if wr=true/\a=53248\/t.cnt=0 then t else if t.cnt-1=0 then {t with cnt:=t.cnt-1,calls:=true} else {t with cnt:=t.cnt-1}:=rfl
 rw [ec];clear ec;obtain ⟨mm,rom,r,cnt,calls,nmi,due,op,md,hh⟩:=t;simp only at k1 k2 c10 c11⊢;by_cases e1:wr=true/\a=53248
 ·rw [if_pos (.inl e1)];obtain ⟨rfl,rfl⟩:=e1;go_enter func95,ntmps95;exact zx2
 ·by_cases e2:cnt=0
  ·rw [if_pos (.inr e2)];subst e2;cases wr
   ·clear e1;go_enter func95,ntmps95;exact zx2
   ·have q1:(a==53248)=false:=by rw [beq_eq_false_iff_ne];exact fun q=>e1 ⟨rfl,q⟩
    clear e1;go_enter func95,ntmps95;exact zx2
  ·rw [if_neg (by rintro (q|q);exact e1 q;exact e2 q)];by_cases e3:cnt=1
   ·subst e3;cases wr
    ·clear e1;go_enter func95,ntmps95;exact zx2
    ·have q1:(a==53248)=false:=by rw [beq_eq_false_iff_ne];exact fun q=>e1 ⟨rfl,q⟩
     clear e1;go_enter func95,ntmps95;exact zx2
   ·rw [if_neg zza];have q2:(cnt==0)=false:=by rw [beq_eq_false_iff_ne];exact e2
    have q3:(cnt-1==0)=false:=by rw [beq_eq_false_iff_ne];omega
    clear e2 e3;cases wr
    ·clear e1;go_enter func95,ntmps95;exact zx2
    ·have q1:(a==53248)=false:=by rw [beq_eq_false_iff_ne];exact fun q=>e1 ⟨rfl,q⟩
     clear e1;go_enter func95,ntmps95;exact zx2
theorem zfD:ByteArray.toList ⟨#[]⟩=[]:=by unfold ByteArray.toList;unfold ByteArray.toList.loop;rfl
theorem GB(a:BA):(ByteArray.toList a).isEmpty=(a==⟨#[]⟩):=by
 rw [zar];by_cases e:a=⟨#[]⟩
 ·subst e;rw [zfD];rfl
 ·rw [decide_eq_false e];cases h:(ByteArray.toList a).isEmpty
  ·rfl
  ·exact absurd (zfd (a:=a) (b:=⟨#[]⟩) (by rw [List.isEmpty_iff.1 h,zfD])) e
theorem zx9{p:Prop} (q:p:=by
 clear e1;go_enter func94,ntmps94;go_wp2_with (go_at_call 150;refine (RC _).mono ?_;rintro e w1 ⟨rfl,hb⟩;have h1:=TM.below (by first|exact h|exact h.drewN _) hb;have lt3:=h1.c.lt;have hs3:=h1.g.size;have g9:=h1.c.fr 9;have g14:=h1.c.fr 14;have g15:=h1.c.fr 15;obtain ⟨-, -, -, -, -, -, -, -, -,d9, -, -, -, -,d14,d15, -⟩:=h1.c.cs;simp only at d9 d14 d15;clear hb);all_goals (try (go_quiet (fail)))
 all_goals (try (go_wp2_with (go_at_call 150;refine (RC _).mono ?_;rintro e w1 ⟨rfl,hb⟩;have h1:=TM.below (by first|exact h|exact h.drewN _) hb;have lt3:=h1.c.lt;have hs3:=h1.g.size;have g9:=h1.c.fr 9;have g14:=h1.c.fr 14;have g15:=h1.c.fr 15;obtain ⟨-, -, -, -, -, -, -, -, -,d9, -, -, -, -,d14,d15, -⟩:=h1.c.cs;simp only at d9 d14 d15;clear hb)))
 all_goals go_returns
 all_goals refine ⟨rfl,?_⟩
 all_goals (rw [GB];apply TM.eq;(case h=>(repeat (first|with_reducible exact h1|with_reducible apply TM.drew|with_reducible apply TM.drewN|with_reducible apply TM.alloc|((with_reducible apply TM.set);(case hi=>decide))|((with_reducible apply TM.other);(case hb=>omega);(case h1=>omega);(case h2=>omega)))));(case e=>rfl);(case e2=>rfl))):p:=q
theorem ziJ{B M:Nat}{vh:Value}{t:RS}{w0 w:World}(h:TM B M (MV M vh t) t.mem w0 w)(b:Int)(irq:Bool):Cq 94 #[Pq B,Iq b,Tq irq] w (.tuple #[]) fun w'=>TM B M (MV M vh (t.begins b irq)) (t.begins b irq).mem w0 w':=by
 have lt1:=h.c.lt;have lt2:=h.c.ltM;have ne:=h.c.ne;have ne2:=h.c.ne.symm;have hsz:=h.g.size;have f9:=h.c.fr 9;have f13:=h.c.fr 13;have f14:=h.c.fr 14;have f15:=h.c.fr 15;obtain ⟨-, -, -, -, -, -,c6, -, -,c9, -,c11, -,c13,c14,c15, -⟩:=h.c.cs;have ec:t.begins b irq=if t.due=true then {t with due:=false,op:=(b3 78 77 73),md:=(b3 115 101 113)} else if (irq||t.calls)=true/\zp t.r.P 4=0 then {t with op:=(b3 73 82 81),md:=(b3 115 101 113)} else {t with op:=(xc b).1,md:=(xc b).2,r:={t.r with jam:=(xc b).1==⟨#[]⟩ } }:=rfl
 rw [ec];clear ec;obtain ⟨mm,rom,⟨A,X,Y,S,P,PC,cyc,jam⟩,cnt,calls,nmi,due,op,md,hh⟩:=t;simp only at c6 c9 c11 c13 c14 c15⊢;unfold zp;cases due
 ·rw [if_neg zzb];by_cases e1:(irq||calls)=true/\bits .and .i64 P 4=0
  ·rw [if_pos e1];obtain ⟨e1,e2⟩:=e1;have q2:(bits .and .i64 P 4==0)=true:=by rw [beq_iff_eq];exact e2
   cases irq
   ·cases calls
    ·cases e1
    ·clear e1 e2;go_enter func94,ntmps94;exact zx2
   ·clear e1 e2;cases calls
    all_goals
     go_enter func94,ntmps94;go_wp2_with fail;all_goals (try (go_quiet (fail)))
     all_goals (try (go_wp2_with fail))
     all_goals go_returns
     all_goals refine ⟨rfl,?_⟩
     all_goals (apply TM.eq;(case h=>(repeat (first|with_reducible exact h|with_reducible apply TM.drew|with_reducible apply TM.drewN|with_reducible apply TM.alloc|((with_reducible apply TM.set);(case hi=>decide))|((with_reducible apply TM.other);(case hb=>omega);(case h1=>omega);(case h2=>omega)))));(case e=>rfl);(case e2=>rfl))
  ·rw [if_neg e1];have RC:=fun w=>znC b w
   generalize xc b=q at*;obtain ⟨qo,qm⟩:=q;unfold cdV at RC;simp only at RC⊢;cases irq
   ·cases calls
    ·exact zx9
    ·have q2:(bits .and .i64 P 4==0)=false:=by rw [beq_eq_false_iff_ne];exact fun q=>e1 ⟨rfl,q⟩
     exact zx9
   ·have q2:(bits .and .i64 P 4==0)=false:=by rw [beq_eq_false_iff_ne];exact fun q=>e1 ⟨rfl,q⟩
    clear e1;cases calls
    all_goals
     go_enter func94,ntmps94;go_wp2_with (go_at_call 150;refine (RC _).mono ?_;rintro e w1 ⟨rfl,hb⟩;have h1:=TM.below (by first|exact h|exact h.drewN _) hb;have lt3:=h1.c.lt;have hs3:=h1.g.size;have g9:=h1.c.fr 9;have g14:=h1.c.fr 14;have g15:=h1.c.fr 15;obtain ⟨-, -, -, -, -, -, -, -, -,d9, -, -, -, -,d14,d15, -⟩:=h1.c.cs;simp only at d9 d14 d15;clear hb);all_goals (try (go_quiet (fail)))
     all_goals (try (go_wp2_with (go_at_call 150;refine (RC _).mono ?_;rintro e w1 ⟨rfl,hb⟩;have h1:=TM.below (by first|exact h|exact h.drewN _) hb;have lt3:=h1.c.lt;have hs3:=h1.g.size;have g9:=h1.c.fr 9;have g14:=h1.c.fr 14;have g15:=h1.c.fr 15;obtain ⟨-, -, -, -, -, -, -, -, -,d9, -, -, -, -,d14,d15, -⟩:=h1.c.cs;simp only at d9 d14 d15;clear hb)))
     all_goals go_returns
     all_goals refine ⟨rfl,?_⟩
     all_goals (rw [GB];apply TM.eq;(case h=>(repeat (first|with_reducible exact h1|with_reducible apply TM.drew|with_reducible apply TM.drewN|with_reducible apply TM.alloc|((with_reducible apply TM.set);(case hi=>decide))|((with_reducible apply TM.other);(case hb=>omega);(case h1=>omega);(case h2=>omega)))));(case e=>rfl);(case e2=>rfl))
 ·rw [if_pos rfl];go_enter func94,ntmps94;exact zx2
theorem zcd(op md:BA)(hop:op∈lB)(r:RG)(hr:RgR r)(b cap:Nat)(h:List Int)(h1:1<=h.length)(hl:h.length<=100)(w:World)(H:HdAt w b h):Cq 147 #[cdV op md,r.val,hdV b h cap] w (zi (yd op r h)) fun w'=>Bq w w':=by
 obtain ⟨A,X,Y,S,P,PC,cyc,jam⟩:=r;have c0:=hr.pc;rcases (show h.length=1\/h.length=2\/h.length=3\/4<=h.length from by omega) with hn|hn|hn|hn
 ·rw [show yd op ⟨A,X,Y,S,P,PC,cyc,jam⟩ h=rdR (PC+1) from by unfold yd;rw [hn];rfl];exact br_1 op md hop A X Y S P PC cyc jam c0 b cap h hn w
 ·cases ht:yS op P
  ·have e:yd op ⟨A,X,Y,S,P,PC,cyc,jam⟩ h=dnR:=by
    unfold yd;dsimp only;rw [if_neg zza,if_neg (fun q=>by rw [ht] at q;exact absurd q.2 zzb),if_neg zza]
   rw [e];exact znU op md hop A X Y S P PC cyc jam c0 b cap h hn ht w
  ·have e:yd op ⟨A,X,Y,S,P,PC,cyc,jam⟩ h=rdR ((PC+2)%65536):=by
    unfold yd;dsimp only;rw [if_neg zza,if_pos ⟨by omega,ht⟩]
   rw [e];exact znT op md hop A X Y S P PC cyc jam c0 b cap h hn ht w
 ·by_cases hg:yv ⟨A,X,Y,S,P,PC,cyc,jam⟩ (hd h 1)/256=(PC+2)%65536/256
  ·have e:yd op ⟨A,X,Y,S,P,PC,cyc,jam⟩ h=dnR:=by
    unfold yd;dsimp only;rw [if_neg zza,if_neg zza,if_pos zza,if_neg (fun q=>q hg)]
   rw [e];exact znW op md hop A X Y S P PC cyc jam c0 b cap h hn hg w H
  ·have e:yd op ⟨A,X,Y,S,P,PC,cyc,jam⟩ h=rdR ((PC+2)%65536/256*256+yv ⟨A,X,Y,S,P,PC,cyc,jam⟩ (hd h 1)%256):=by
    unfold yd;dsimp only;rw [if_neg zza,if_neg zza,if_pos zza,if_pos hg]
   rw [e];exact znV op md hop A X Y S P PC cyc jam c0 b cap h hn hg w H
 ·have e:yd op ⟨A,X,Y,S,P,PC,cyc,jam⟩ h=dnR:=by
   unfold yd;dsimp only;rw [if_neg zza,if_neg zza,if_neg zza]
  rw [e];exact br_x op md hop A X Y S P PC cyc jam c0 b cap h hn hl w
