import Derived.Handy
import Derived.Test.YtcgjliflnnklnaaGreatJ04
namespace Go.Proofs.YtcgjliflnnklnaaGreat
open Go.RowKit Tryz
set_option maxRecDepth 100000
set_option maxHeartbeats 20000000
structure HdAt (w:World) (b:Nat) (h:List Int):Prop where
 lt:b<w.heap.size
 c:∀i,i<h.length->w.cell? (Aq b i)=some (Iq (hd h i))
 r:∀i,i<h.length->0<=hd h i/\hd h i<256
def hdV(b:Nat)(h:List Int)(cap:Nat):Value:=Sq b h.length cap
theorem zfh{p:Prop} (q:p:=by
 unfold b3 hdV;have l1:=H.lt;have l2:b≠w.heap.size:=by omega
 have l3:w.heap.size≠b:=by omega
 have hl2:(7:Int)<=(h.length:Int):=by omega
 have i5:(5:Int)<(h.length:Int):=by omega
 have j5:5<h.length:=by omega
 have c5:=H.c 5 zza;obtain ⟨p5,q5⟩:=H.r 5 zza;generalize hd h 5=h5 at*;have i6:(6:Int)<(h.length:Int):=by omega
 have j6:6<h.length:=by omega
 have c6:=H.c 6 zza;obtain ⟨p6,q6⟩:=H.r 6 zza;generalize hd h 6=h6 at*;generalize h.length=n at*;clear H;go_enter func152,ntmps152;go_wp2_with (first|with_reducible refine cNz ?_|with_reducible refine c8 ?_|with_reducible refine c16 ?_);go_region_held3 (fun w'=>w'.cell? (Aq b 5)=some (Iq h5)/\w'.cell? (Aq b 6)=some (Iq h6)) (go_keep) (first|with_reducible refine cNz ?_|with_reducible refine c8 ?_|with_reducible refine c16 ?_);all_goals go_wp2
 all_goals (have hr:=results152;exact bodyPost_ret zr rfl ⟨rfl,zg⟩)):p:=q
theorem zif(A X Y S P PC cyc:Int)(jam:Bool)(b cap:Nat)(h:List Int)(w:World)(H:HdAt w b h)(hl:h.length<=100)(s0:0<=S/\S<256)(hn:7<=h.length):Cq 152 #[Zq (b3 78 77 73),.agg #[Iq A,Iq X,Iq Y,Iq S,Iq P,Iq PC,Iq cyc,Tq jam],hdV b h cap] w (.agg #[Iq A,Iq X,Iq Y,Iq ((S-3)%256),Iq (bits .or .i64 P 4),Iq (hd h 5+256*hd h 6),Iq cyc,Tq jam]) fun w'=>Bq w w':=zfh
theorem zig(A X Y S P PC cyc:Int)(jam:Bool)(b cap:Nat)(h:List Int)(w:World)(H:HdAt w b h)(hl:h.length<=100)(s0:0<=S/\S<256)(hn:7<=h.length):Cq 152 #[Zq (b3 73 82 81),.agg #[Iq A,Iq X,Iq Y,Iq S,Iq P,Iq PC,Iq cyc,Tq jam],hdV b h cap] w (.agg #[Iq A,Iq X,Iq Y,Iq ((S-3)%256),Iq (bits .or .i64 P 4),Iq (hd h 5+256*hd h 6),Iq cyc,Tq jam]) fun w'=>Bq w w':=zfh
theorem zih(A X Y S P PC cyc:Int)(jam:Bool)(b cap:Nat)(h:List Int)(w:World)(H:HdAt w b h)(hl:h.length<=100)(s0:0<=S/\S<256)(hn:7<=h.length):Cq 152 #[Zq (b3 66 82 75),.agg #[Iq A,Iq X,Iq Y,Iq S,Iq P,Iq PC,Iq cyc,Tq jam],hdV b h cap] w (.agg #[Iq A,Iq X,Iq Y,Iq ((S-3)%256),Iq (bits .or .i64 P 4),Iq (hd h 5+256*hd h 6),Iq cyc,Tq jam]) fun w'=>Bq w w':=zfh
theorem zii(A X Y S P PC cyc:Int)(jam:Bool)(b cap:Nat)(h:List Int)(w:World)(H:HdAt w b h)(hl:h.length<=100)(s0:0<=S/\S<256)(hn:6<=h.length):Cq 152 #[Zq (b3 74 83 82),.agg #[Iq A,Iq X,Iq Y,Iq S,Iq P,Iq PC,Iq cyc,Tq jam],hdV b h cap] w (.agg #[Iq A,Iq X,Iq Y,Iq ((S-2)%256),Iq P,Iq (hd h 1+256*hd h 5),Iq cyc,Tq jam]) fun w'=>Bq w w':=by
 unfold b3 hdV;have l1:=H.lt;have l2:b≠w.heap.size:=by omega
 have l3:w.heap.size≠b:=by omega
 have hl2:(6:Int)<=(h.length:Int):=by omega
 have i1:(1:Int)<(h.length:Int):=by omega
 have j1:1<h.length:=by omega
 have c1:=H.c 1 zza;obtain ⟨p1,q1⟩:=H.r 1 zza;generalize hd h 1=h1 at*;have i5:(5:Int)<(h.length:Int):=by omega
 have j5:5<h.length:=by omega
 have c5:=H.c 5 zza;obtain ⟨p5,q5⟩:=H.r 5 zza;generalize hd h 5=h5 at*;generalize h.length=n at*;clear H;go_enter func152,ntmps152;go_wp2_with (first|with_reducible refine cNz ?_|with_reducible refine c8 ?_|with_reducible refine c16 ?_);go_region_held3 (fun w'=>w'.cell? (Aq b 1)=some (Iq h1)/\w'.cell? (Aq b 5)=some (Iq h5)) (go_keep) (first|with_reducible refine cNz ?_|with_reducible refine c8 ?_|with_reducible refine c16 ?_);all_goals go_wp2
 all_goals (have hr:=results152;exact bodyPost_ret zr rfl ⟨rfl,zg⟩)
theorem zij(A X Y S P PC cyc:Int)(jam:Bool)(b cap:Nat)(h:List Int)(w:World)(H:HdAt w b h)(hl:h.length<=100)(s0:0<=S/\S<256)(hn:6<=h.length):Cq 152 #[Zq (b3 82 84 83),.agg #[Iq A,Iq X,Iq Y,Iq S,Iq P,Iq PC,Iq cyc,Tq jam],hdV b h cap] w (.agg #[Iq A,Iq X,Iq Y,Iq ((S+2)%256),Iq P,Iq ((hd h 3+256*hd h 4+1)%65536),Iq cyc,Tq jam]) fun w'=>Bq w w':=by
 unfold b3 hdV;have l1:=H.lt;have l2:b≠w.heap.size:=by omega
 have l3:w.heap.size≠b:=by omega
 have hl2:(6:Int)<=(h.length:Int):=by omega
 have i3:(3:Int)<(h.length:Int):=by omega
 have j3:3<h.length:=by omega
 have c3:=H.c 3 zza;obtain ⟨p3,q3⟩:=H.r 3 zza;generalize hd h 3=h3 at*;have i4:(4:Int)<(h.length:Int):=by omega
 have j4:4<h.length:=by omega
 have c4:=H.c 4 zza;obtain ⟨p4,q4⟩:=H.r 4 zza;generalize hd h 4=h4 at*;generalize h.length=n at*;clear H;go_enter func152,ntmps152;go_wp2_with (first|with_reducible refine cNz ?_|with_reducible refine c8 ?_|with_reducible refine c16 ?_);go_region_held3 (fun w'=>w'.cell? (Aq b 3)=some (Iq h3)/\w'.cell? (Aq b 4)=some (Iq h4)) (go_keep) (first|with_reducible refine cNz ?_|with_reducible refine c8 ?_|with_reducible refine c16 ?_);all_goals go_wp2
 all_goals (have hr:=results152;exact bodyPost_ret zr rfl ⟨rfl,zg⟩)
theorem zik(A X Y S P PC cyc:Int)(jam:Bool)(b cap:Nat)(h:List Int)(w:World)(H:HdAt w b h)(hl:h.length<=100)(s0:0<=S/\S<256)(hn:6<=h.length):Cq 152 #[Zq (b3 82 84 73),.agg #[Iq A,Iq X,Iq Y,Iq S,Iq P,Iq PC,Iq cyc,Tq jam],hdV b h cap] w (.agg #[Iq A,Iq X,Iq Y,Iq ((S+3)%256),Iq (bits .or .i64 (bits .and .i64 (hd h 3) 207) 32),Iq (hd h 4+256*hd h 5),Iq cyc,Tq jam]) fun w'=>Bq w w':=by
 unfold b3 hdV;have l1:=H.lt;have l2:b≠w.heap.size:=by omega
 have l3:w.heap.size≠b:=by omega
 have hl2:(6:Int)<=(h.length:Int):=by omega
 have i3:(3:Int)<(h.length:Int):=by omega
 have j3:3<h.length:=by omega
 have c3:=H.c 3 zza;obtain ⟨p3,q3⟩:=H.r 3 zza;generalize hd h 3=h3 at*;have i4:(4:Int)<(h.length:Int):=by omega
 have j4:4<h.length:=by omega
 have c4:=H.c 4 zza;obtain ⟨p4,q4⟩:=H.r 4 zza;generalize hd h 4=h4 at*;have i5:(5:Int)<(h.length:Int):=by omega
 have j5:5<h.length:=by omega
 have c5:=H.c 5 zza;obtain ⟨p5,q5⟩:=H.r 5 zza;generalize hd h 5=h5 at*;generalize h.length=n at*;clear H;go_enter func152,ntmps152;go_wp2_with (first|with_reducible refine cNz ?_|with_reducible refine c8 ?_|with_reducible refine c16 ?_);all_goals (try (go_region_with (first|with_reducible refine cNz ?_|with_reducible refine c8 ?_|with_reducible refine c16 ?_)))
 all_goals (try (go_wp2_with (first|with_reducible refine cNz ?_|with_reducible refine c8 ?_|with_reducible refine c16 ?_)))
 all_goals go_wp2
 all_goals (have hr:=results152;exact bodyPost_ret zr rfl ⟨rfl,zg⟩)
theorem zj8{p:Prop} (q:p:=by
 unfold b3 hdV;have l1:=H.lt;have l2:b≠w.heap.size:=by omega
 have l3:w.heap.size≠b:=by omega
 have hl2:(4:Int)<=(h.length:Int):=by omega
 have i3:(3:Int)<(h.length:Int):=by omega
 have j3:3<h.length:=by omega
 have c3:=H.c 3 zza;obtain ⟨p3,q3⟩:=H.r 3 zza;generalize hd h 3=h3 at*;generalize h.length=n at*;clear H;go_enter func152,ntmps152;go_wp2_with (first|with_reducible refine cNz ?_|with_reducible refine c8 ?_|with_reducible refine c16 ?_);all_goals (try (go_region_with (first|with_reducible refine cNz ?_|with_reducible refine c8 ?_|with_reducible refine c16 ?_)))
 all_goals (try (go_wp2_with (first|with_reducible refine cNz ?_|with_reducible refine c8 ?_|with_reducible refine c16 ?_)))
 all_goals go_wp2
 all_goals (have hr:=results152;exact bodyPost_ret zr rfl ⟨rfl,zg⟩)):p:=q
theorem zil(A X Y S P PC cyc:Int)(jam:Bool)(b cap:Nat)(h:List Int)(w:World)(H:HdAt w b h)(hl:h.length<=100)(s0:0<=S/\S<256)(hn:4<=h.length):Cq 152 #[Zq (b3 80 76 65),.agg #[Iq A,Iq X,Iq Y,Iq S,Iq P,Iq PC,Iq cyc,Tq jam],hdV b h cap] w (.agg #[Iq (hd h 3),Iq X,Iq Y,Iq ((S+1)%256),Iq (nzR P (hd h 3)),Iq PC,Iq cyc,Tq jam]) fun w'=>Bq w w':=zj8
theorem zim(A X Y S P PC cyc:Int)(jam:Bool)(b cap:Nat)(h:List Int)(w:World)(H:HdAt w b h)(hl:h.length<=100)(s0:0<=S/\S<256)(hn:4<=h.length):Cq 152 #[Zq (b3 80 76 80),.agg #[Iq A,Iq X,Iq Y,Iq S,Iq P,Iq PC,Iq cyc,Tq jam],hdV b h cap] w (.agg #[Iq A,Iq X,Iq Y,Iq ((S+1)%256),Iq (bits .or .i64 (bits .and .i64 (hd h 3) 207) 32),Iq PC,Iq cyc,Tq jam]) fun w'=>Bq w w':=zj8
theorem znK{p:Prop} (q:p:=by
 clear H;go_enter func152,ntmps152;go_wp2_with fail;go_region_with (fail);all_goals go_wp2
 all_goals (have hr:=results152;exact bodyPost_ret zr rfl ⟨rfl,zg⟩)):p:=q
theorem zfi(A X Y S P PC cyc:Int)(jam:Bool)(b cap:Nat)(h:List Int)(w:World)(H:HdAt w b h)(hn:h.length=3):Cq 152 #[Zq (b3 74 77 80),.agg #[Iq A,Iq X,Iq Y,Iq S,Iq P,Iq PC,Iq cyc,Tq jam],hdV b h cap] w (.agg #[Iq A,Iq X,Iq Y,Iq S,Iq P,Iq (hd h 1+256*hd h 2),Iq cyc,Tq jam]) fun w'=>Bq w w':=by
 unfold b3 hdV;have l1:=H.lt;have l2:b≠w.heap.size:=by omega
 have l3:w.heap.size≠b:=by omega
 have c1:=H.c 1 zza;have c2:=H.c 2 zza;obtain ⟨p1,q1⟩:=H.r 1 zza;obtain ⟨p2,q2⟩:=H.r 2 zza;rw [hn];generalize hd h 1=ha at*;generalize hd h 2=hb at*;exact znK
theorem zfj(A X Y S P PC cyc:Int)(jam:Bool)(b cap:Nat)(h:List Int)(w:World)(H:HdAt w b h)(hn:h.length=5):Cq 152 #[Zq (b3 74 77 80),.agg #[Iq A,Iq X,Iq Y,Iq S,Iq P,Iq PC,Iq cyc,Tq jam],hdV b h cap] w (.agg #[Iq A,Iq X,Iq Y,Iq S,Iq P,Iq (hd h 3+256*hd h 4),Iq cyc,Tq jam]) fun w'=>Bq w w':=by
 unfold b3 hdV;have l1:=H.lt;have l2:b≠w.heap.size:=by omega
 have l3:w.heap.size≠b:=by omega
 have c1:=H.c 3 zza;have c2:=H.c 4 zza;obtain ⟨p1,q1⟩:=H.r 3 zza;obtain ⟨p2,q2⟩:=H.r 4 zza;rw [hn];generalize hd h 3=ha at*;generalize hd h 4=hb at*;exact znK
def lI0:List BA:=[b3 84 65 88,b3 84 65 89,b3 84 88 65,b3 84 89 65,b3 84 83 88,b3 84 88 83,b3 73 78 88,b3 73 78 89,b3 68 69 88,b3 68 69 89,b3 67 76 67,b3 83 69 67,b3 67 76 73,b3 83 69 73,b3 67 76 86,b3 67 76 68,b3 83 69 68,b3 80 72 65,b3 80 72 80,b3 78 79 80]
theorem zcH(op:BA)(hop:op∈lI0)(r:RG)(b cap:Nat)(h:List Int)(w:World):Calls prog 152 #[Zq op,r.val,hdV b h cap] w fun e w'=>e=.returned (xC op r h).val/\Bq w w':=by
 obtain ⟨A,X,Y,S,P,PC,cyc,jam⟩:=r;unfold lI0 at hop;simp only [List.mem_cons,List.not_mem_nil,or_false] at hop;rcases hop with rfl|rfl|rfl|rfl|rfl|rfl|rfl|rfl|rfl|rfl|rfl|rfl|rfl|rfl|rfl|rfl|rfl|rfl|rfl|rfl
 all_goals
  go_enter func152,ntmps152;unfold b3 RG.val hdV;go_wp2;go_returns;exact ⟨rfl,by go_grown⟩
def zcI(op:BA)(n:Nat):Prop:=
 ((op=b3 78 77 73\/op=b3 73 82 81\/op=b3 66 82 75)/\7<=n)\/((op=b3 74 83 82\/op=b3 82 84 83\/op=b3 82 84 73)/\6<=n)\/((op=b3 80 76 65\/op=b3 80 76 80)/\4<=n)\/(op=b3 74 77 80/\(n=3\/n=5))\/op∈lI0
theorem znL{p:Prop} (q:p:=by
 rcases hk with ⟨h1|h1|h1,hn⟩|⟨h1|h1|h1,hn⟩|⟨h1|h1,hn⟩|⟨h1,hn|hn⟩|h1
 ·rw [h1];exact zif A X Y S P PC cyc jam b cap h w H hl s0 hn
 ·rw [h1];exact zig A X Y S P PC cyc jam b cap h w H hl s0 hn
 ·rw [h1];exact zih A X Y S P PC cyc jam b cap h w H hl s0 hn
 ·rw [h1];exact zii A X Y S P PC cyc jam b cap h w H hl s0 hn
 ·rw [h1];exact zij A X Y S P PC cyc jam b cap h w H hl s0 hn
 ·rw [h1];exact zik A X Y S P PC cyc jam b cap h w H hl s0 hn
 ·rw [h1];exact zil A X Y S P PC cyc jam b cap h w H hl s0 hn
 ·rw [h1];exact zim A X Y S P PC cyc jam b cap h w H hl s0 hn
 ·rw [h1,show xC (b3 74 77 80) ⟨A,X,Y,S,P,PC,cyc,jam⟩ h=⟨A,X,Y,S,P,hd h 1+256*hd h 2,cyc,jam⟩ from by show RG.mk A X Y S P (hd h (h.length-2)+256*hd h (h.length-1)) cyc jam=_;rw [hn]];exact zfi A X Y S P PC cyc jam b cap h w H hn
 ·rw [h1,show xC (b3 74 77 80) ⟨A,X,Y,S,P,PC,cyc,jam⟩ h=⟨A,X,Y,S,P,hd h 3+256*hd h 4,cyc,jam⟩ from by show RG.mk A X Y S P (hd h (h.length-2)+256*hd h (h.length-1)) cyc jam=_;rw [hn]];exact zfj A X Y S P PC cyc jam b cap h w H hn
 ·exact zcH op h1 _ b cap h w):p:=q
theorem zfk(op:BA)(r:RG)(hr:RgR r)(b cap:Nat)(h:List Int)(hl:h.length<=100)(hk:zcI op h.length)(w:World)(H:HdAt w b h):Calls prog 152 #[Zq op,r.val,hdV b h cap] w fun e w'=>e=.returned (xC op r h).val/\Bq w w':=by
 obtain ⟨A,X,Y,S,P,PC,cyc,jam⟩:=r;have s0:=hr.s;exact znL
