import Derived.Test.YtcgjliflnnklnaaGreatPBz
import Derived.Test.YtcgjliflnnklnaaGreatJ12
import Derived.Test.YtcgjliflnnklnaaGreatJ01
namespace Go.Proofs.YtcgjliflnnklnaaGreat
open Go.RowKit Tryz
set_option maxRecDepth 100000
set_option maxHeartbeats 4000000
theorem zef(i:Nat)(hi:i<56)(v:Value)(hv:GP.getD i .nilFunc=v)(w:World):Cq 205 #[Uq i] w v fun w'=>Bq w w':=hv ▸ zc7 i hi w
theorem KG(i:Nat)(hi:i<23)(v:Value)(hv:GN.getD i .nilFunc=v)(w:World):Cq 83 #[Uq i] w v fun w'=>Bq w w':=hv ▸ zc6 i hi w
theorem ym{B:Nat}{s:PC}{w0 w w1:World}(h:Tn B s w0 w)(hb:Bq w w1):Tn B s w0 w1:=
 ⟨h.c.same (hb.block _ h.c.lt),⟨hb.os.trans h.g.os,hb.tape.trans h.g.tape,hb.output.trans h.g.output,Nat.le_trans h.g.size hb.size,fun k hk hne=>(hb.block k (Nat.lt_of_lt_of_le hk h.g.size)).trans (h.g.block k hk hne)⟩⟩
theorem zq{B:Nat}{s:PC}{w0 w:World}(h:Tn B s w0 w)(n:Nat)(hn:n<56)(hk:s.ins=n)(F:Nat)(hv:GP.getD n .nilFunc=.func (.func F) #[] #[])(he:∀a w,Sem.run prog (callFunc F a) w=.ok (.enter F a) w)
  (hc:∀ {w1},Tn B s w0 w1->Cq F #[Pq B] w1 (.tuple #[]) fun w'=>Tn B (s.doIns n) w0 w'):
  Cq 167 #[Pq B] w (.tuple #[]) fun w'=>Tn B (s.doIns n) w0 w':=by
 have c_ins:=h.c.cins;rw [hk] at c_ins;go_enter func167,ntmps167;go_wp2_with (go_at_call 205;refine (zef n hn _ hv _).mono ?_;rintro e w1 ⟨rfl,hb⟩;have h1:=ym h hb);refine (hc h1).mono ?_;rintro e w2 ⟨rfl,h2⟩;go_wp2;go_end0;exact ⟨rfl,h2⟩
theorem jD{B:Nat}{s:PC}{w0 w:World}(h:Tn B s w0 w):Cq 167 #[Pq B] w (.tuple #[]) fun w'=>Tn B s.perform w0 w':=by
 obtain ⟨l1,l2⟩:=h.c.rins;obtain ⟨n,hn⟩:=Int.eq_ofNat_of_zero_le l1;have e:s.perform=s.doIns n:=by unfold PC.perform;rw [hn];rfl
 rw [e];have hlt:n<56:=by omega
 clear l1 l2 e;match n,hlt,hn with
 |0,hn,hk=>exact zq h _ hn hk _ rfl (fun _ _=>by kernel_rfl) zjx
 |1,hn,hk=>exact zq h _ hn hk _ rfl (fun _ _=>by kernel_rfl) zg4
 |2,hn,hk=>exact zq h _ hn hk _ rfl (fun _ _=>by kernel_rfl) zjC
 |3,hn,hk=>exact zq h _ hn hk _ rfl (fun _ _=>by kernel_rfl) zjG
 |4,hn,hk=>exact zq h _ hn hk _ rfl (fun _ _=>by kernel_rfl) zjH
 |5,hn,hk=>exact zq h _ hn hk _ rfl (fun _ _=>by kernel_rfl) zjI
 |6,hn,hk=>exact zq h _ hn hk _ rfl (fun _ _=>by kernel_rfl) zjJ
 |7,hn,hk=>exact zq h _ hn hk _ rfl (fun _ _=>by kernel_rfl) zjK
 |8,hn,hk=>exact zq h _ hn hk _ rfl (fun _ _=>by kernel_rfl) zjL
 |9,hn,hk=>exact zq h _ hn hk _ rfl (fun _ _=>by kernel_rfl) zjM
 |10,hn,hk=>exact zq h _ hn hk _ rfl (fun _ _=>by kernel_rfl) zjN
 |11,hn,hk=>exact zq h _ hn hk _ rfl (fun _ _=>by kernel_rfl) zjw
 |12,hn,hk=>exact zq h _ hn hk _ rfl (fun _ _=>by kernel_rfl) zjQ
 |13,hn,hk=>exact zq h _ hn hk _ rfl (fun _ _=>by kernel_rfl) zhn
 |14,hn,hk=>exact zq h _ hn hk _ rfl (fun _ _=>by kernel_rfl) zhs
 |15,hn,hk=>exact zq h _ hn hk _ rfl (fun _ _=>by kernel_rfl) zhp
 |16,hn,hk=>exact zq h _ hn hk _ rfl (fun _ _=>by kernel_rfl) zhr
 |17,hn,hk=>exact zq h _ hn hk _ rfl (fun _ _=>by kernel_rfl) zjz
 |18,hn,hk=>exact zq h _ hn hk _ rfl (fun _ _=>by kernel_rfl) zjA
 |19,hn,hk=>exact zq h _ hn hk _ rfl (fun _ _=>by kernel_rfl) zjB
 |20,hn,hk=>exact zq h _ hn hk _ rfl (fun _ _=>by kernel_rfl) zg8
 |21,hn,hk=>exact zq h _ hn hk _ rfl (fun _ _=>by kernel_rfl) zha
 |22,hn,hk=>exact zq h _ hn hk _ rfl (fun _ _=>by kernel_rfl) zhc
 |23,hn,hk=>exact zq h _ hn hk _ rfl (fun _ _=>by kernel_rfl) zg6
 |24,hn,hk=>exact zq h _ hn hk _ rfl (fun _ _=>by kernel_rfl) zg7
 |25,hn,hk=>exact zq h _ hn hk _ rfl (fun _ _=>by kernel_rfl) zg9
 |26,hn,hk=>exact zq h _ hn hk _ rfl (fun _ _=>by kernel_rfl) zhb
 |27,hn,hk=>exact zq h _ hn hk _ rfl (fun _ _=>by kernel_rfl) zhj
 |28,hn,hk=>exact zq h _ hn hk _ rfl (fun _ _=>by kernel_rfl) zhk
 |29,hn,hk=>exact zq h _ hn hk _ rfl (fun _ _=>by kernel_rfl) zgV
 |30,hn,hk=>exact zq h _ hn hk _ rfl (fun _ _=>by kernel_rfl) zgW
 |31,hn,hk=>exact zq h _ hn hk _ rfl (fun _ _=>by kernel_rfl) zgX
 |32,hn,hk=>exact zq h _ hn hk _ rfl (fun _ _=>by kernel_rfl) zjD
 |33,hn,hk=>exact zq h _ hn hk _ rfl (fun _ _=>by kernel_rfl) zhm
 |34,hn,hk=>exact zq h _ hn hk _ rfl (fun _ _=>by kernel_rfl) zg5
 |35,hn,hk=>exact zq h _ hn hk _ rfl (fun _ _=>by kernel_rfl) zhh
 |36,hn,hk=>exact zq h _ hn hk _ rfl (fun _ _=>by kernel_rfl) zhi
 |37,hn,hk=>exact zq h _ hn hk _ rfl (fun _ _=>by kernel_rfl) zg3
 |38,hn,hk=>exact zq h _ hn hk _ rfl (fun _ _=>by kernel_rfl) zjO
 |39,hn,hk=>exact zq h _ hn hk _ rfl (fun _ _=>by kernel_rfl) zjE
 |40,hn,hk=>exact zq h _ hn hk _ rfl (fun _ _=>by kernel_rfl) zjF
 |41,hn,hk=>exact zq h _ hn hk _ rfl (fun _ _=>by kernel_rfl) zjP
 |42,hn,hk=>exact zq h _ hn hk _ rfl (fun _ _=>by kernel_rfl) zhl
 |43,hn,hk=>exact zq h _ hn hk _ rfl (fun _ _=>by kernel_rfl) zjy
 |44,hn,hk=>exact zq h _ hn hk _ rfl (fun _ _=>by kernel_rfl) zho
 |45,hn,hk=>exact zq h _ hn hk _ rfl (fun _ _=>by kernel_rfl) zht
 |46,hn,hk=>exact zq h _ hn hk _ rfl (fun _ _=>by kernel_rfl) zhq
 |47,hn,hk=>exact zq h _ hn hk _ rfl (fun _ _=>by kernel_rfl) zhe
 |48,hn,hk=>exact zq h _ hn hk _ rfl (fun _ _=>by kernel_rfl) zhf
 |49,hn,hk=>exact zq h _ hn hk _ rfl (fun _ _=>by kernel_rfl) zhg
 |50,hn,hk=>exact zq h _ hn hk _ rfl (fun _ _=>by kernel_rfl) zgY
 |51,hn,hk=>exact zq h _ hn hk _ rfl (fun _ _=>by kernel_rfl) zgZ
 |52,hn,hk=>exact zq h _ hn hk _ rfl (fun _ _=>by kernel_rfl) zg0
 |53,hn,hk=>exact zq h _ hn hk _ rfl (fun _ _=>by kernel_rfl) zg1
 |54,hn,hk=>exact zq h _ hn hk _ rfl (fun _ _=>by kernel_rfl) zhd
 |55,hn,hk=>exact zq h _ hn hk _ rfl (fun _ _=>by kernel_rfl) zg2
 |n+56,hlt,_=>exact absurd hlt zza
theorem vY{B:Nat}{s:PC}{w0 w:World}(h:Tn B s w0 w):Cq 108 #[Pq B] w (.tuple #[]) fun w'=>Tn B s.performLast w0 w':=by
 go_enter func108,ntmps108;go_wp2_with fail;refine (jD h).mono ?_;rintro e w1 ⟨rfl,h1⟩;go_wp2_with fail;refine (jx h1).mono ?_;rintro e w2 ⟨rfl,h2⟩;go_wp2;go_end0;exact ⟨rfl,h2⟩
theorem VM{B:Nat}{s:PC}{w0 w:World}(h:Tn B s w0 w):Cq 178 #[Pq B] w (.tuple #[]) fun w'=>Tn B s.branch w0 w':=by
 have c_ad:=h.c.cad;obtain ⟨l_ad,u_ad⟩:=h.c.rad;have c_pc:=h.c.cpc;obtain ⟨l_pc,u_pc⟩:=h.c.rpc;have f_pc:=h.c.free 65544;go_enter func178,ntmps178;go_wp2_with fail;refine (jx (h.setPc _ ⟨l_ad,u_ad⟩)).mono ?_;rintro e w2 ⟨rfl,h2⟩;go_wp2;go_end0;exact ⟨rfl,h2⟩
section
theorem zjX(x:Int):0<=zn (IntKind.u8.wrap x) 1/\zn (IntKind.u8.wrap x) 1<65536:=by have:=XG x;unfold zn;omega
variable {B:Nat} {s:PC} {w0 w:World}
theorem Vf(h:Tn B s w0 w)(d:Int)(_:0<=d)(_:d<256):RM 182 [Uq d] B w0 w (s.pushed d):=by
 have hf:=func182;have hn:=ntmps182;have hr:=results182;obtain ⟨c_s,l_s,u_s⟩:=Kfs h.c;have hK:=jJ (fun w B s=>@Kfs w B s);unfold PC.pushed;exact zN
theorem Vg(h:Tn B s w0 w):RM 183 [] B w0 w (s.pulled):=by
 have hf:=func183;have hn:=ntmps183;have hr:=results183;obtain ⟨c_s,l_s,u_s⟩:=Kfs h.c;have hK:=jJ (fun w B s=>@Kfs w B s);unfold PC.pulled;exact zN
end
def XJ:List Value:=(List.range 256).flatMap fun c=>[Uq (zw c).1,Uq (zw c).2]
theorem ze6:XJ.toArray.all (·.oneCell')=true:=all_oneCell_toArray (by
 intro v hv;simp only [XJ,List.mem_flatMap] at hv;obtain ⟨c, -,hc⟩:=hv;simp only [List.mem_cons,List.not_mem_nil,or_false] at hc;rcases hc with rfl|rfl<;>rfl)
theorem Gn{α:Type}(f g:Nat->α):∀ (n i:Nat),i<n->((List.range n).flatMap fun c=>[f c,g c])[i*2]?=some (f i)/\((List.range n).flatMap fun c=>[f c,g c])[i*2+1]?=some (g i)
 |0,i,h=>absurd h (Nat.not_lt_zero _)
 |n+1,i,h=>by
  have hl:((List.range n).flatMap fun c=>[f c,g c]).length=n*2:=by
   rw [List.length_flatMap];simp [List.map_const',List.sum_replicate_nat]
  rw [List.range_succ,List.flatMap_append];by_cases e:i<n
  ·rw [List.getElem?_append_left zza,List.getElem?_append_left zza];exact Gn f g n i e
  ·have e:i=n:=by omega
   subst e;rw [List.getElem?_append_right zza,List.getElem?_append_right zza,hl];simp
theorem V3{P:Program}{ops:Array Oper}{rest:List Oper}{op:Oper}{a:Go.Act}{w:World}{Q:Exit->Go.Act->World->Prop}(V:Value)(hgd:op.guard=none)
  (hv:(execOp a.eval op).run P w=.ok (.value V) w) (h:wpList P ops Q rest (a.put op.dst V) w):wpList P ops Q (op::rest) a w:=
 wpList_plain hgd fun K hK=>by
  unfold Oper.wp;rw [hv];exact hK _ _ h
theorem zap{P:Program}{ops:Array Oper}{rest:List Oper}{op:Oper}{a:Go.Act}{w w':World}{Q:Exit->Go.Act->World->Prop}(V:Value)(hgd:op.guard=none)
  (hv:(execOp a.eval op).run P w=.ok (.value V) w') (h:wpList P ops Q rest (a.put op.dst V) w'):wpList P ops Q (op::rest) a w:=
 wpList_plain hgd fun K hK=>by
  unfold Oper.wp;rw [hv];exact hK _ _ h
def mk2(d:Nat × Int × Int):Oper:=⟨some d.1,.build 101 #[(0,.const (Uq d.2.1)),(1,.const (Uq d.2.2))],101, "opcodes.go:10",#[],none⟩
def Gp(a:Go.Act)(d:Nat × Int × Int):Go.Act:=a.put (some d.1) (.agg #[Uq d.2.1,Uq d.2.2])
theorem zh5(d:Nat × Int × Int)(a:Go.Act)(w:World):(execOp a.eval (mk2 d)).run prog w=.ok (.value (.agg #[Uq d.2.1,Uq d.2.2])) w:=by
 obtain ⟨k,m,n⟩:=d;kernel_rfl
theorem Xs{ops:Array Oper}{Q:Exit->Go.Act->World->Prop}{w:World}(rest:List Oper):∀ (l:List (Nat × Int × Int)) (a:Go.Act),wpList prog ops Q rest (l.foldl Gp a) w->wpList prog ops Q (l.map mk2++rest) a w
 | [],_,h=>h
 |d::l,a,h=>V3 (op:=mk2 d) (.agg #[Uq d.2.1,Uq d.2.2]) rfl (zh5 d a w) (Xs rest l (Gp a d) h)
def zbm:List (Nat × Int × Int):=[(4,0,3),(5,0,4),(6,0,5),(7,0,7),(8,0,8),(9,0,9),(10,0,10),(11,0,11),(12,1,3),(13,1,4),(14,1,5),(15,1,7),(16,1,8),(17,1,9),(18,1,10),(19,1,11),(20,2,2),(21,2,4),(22,2,5),(23,2,7),(24,2,8),(25,11,4),(26,11,7),(27,17,3),(28,17,4),(29,17,5),(30,17,7),(31,17,8),(32,17,9),(33,17,10),(34,17,11),(35,18,3),(36,18,4),(37,18,7),(38,19,3),(39,19,4),(40,19,7),(41,20,4),(42,20,5),(43,20,7),(44,20,8),(45,23,3),(46,23,4),(47,23,5),(48,23,7),(49,23,8),(50,23,9),(51,23,10),(52,23,11),(53,24,4),(54,24,5),(55,24,7),(56,24,8),(57,27,13),(58,27,14),(59,29,3),(60,29,4),(61,29,5),(62,29,7),(63,29,8),(64,29,9),(65,29,10),(66,29,11),(67,30,3),(68,30,4),(69,30,6),(70,30,7),(71,30,9),(72,31,3),(73,31,4),(74,31,5),(75,31,7),(76,31,8),(77,32,2),(78,32,4),(79,32,5),(80,32,7),(81,32,8),(82,34,3),(83,34,4),(84,34,5),(85,34,7),(86,34,8),(87,34,9),(88,34,10),(89,34,11),(90,39,2),(91,39,4),(92,39,5),(93,39,7),(94,39,8),(95,40,2),(96,40,4),(97,40,5),(98,40,7),(99,40,8),(100,43,3),(101,43,4),(102,43,5),(103,43,7),(104,43,8),(105,43,9),(106,43,10),(107,43,11),(108,47,4),(109,47,5),(110,47,7),(111,47,8),(112,47,9),(113,47,10),(114,47,11),(115,48,4),(116,48,6),(117,48,7),(118,49,4),(119,49,5),(120,49,7),(121,3,12),(122,4,12),(123,5,12),(124,6,12),(125,7,12),(126,8,12),(127,9,12),(128,10,12),(129,12,19),(130,13,1),(131,14,1),(132,15,1),(133,16,1),(134,21,1),(135,22,1),(136,25,1),(137,26,1),(138,28,15),(139,33,1),(140,35,17),(141,36,17),(142,37,18),(143,38,18),(144,41,22),(145,42,16),(146,44,1),(147,45,1),(148,46,1),(149,50,1),(150,51,1),(151,52,1),(152,53,1),(153,54,1),(154,55,1)]
theorem UJ{ops:Array Oper}{Q:Exit->Go.Act->World->Prop}{w:World}{full:List Oper}{a:Go.Act}(l:List (Nat × Int × Int))(e:full=l.map mk2++full.drop 151)
  (h:wpList prog ops Q (full.drop 151) (l.foldl Gp a) w):wpList prog ops Q full a w:=by
 rw [e];exact Xs _ l a h
theorem UK{P:Program}{ops:Array Oper}{r:List Oper}{a:Go.Act}{w:World}{Q:Exit->Go.Act->World->Prop}(d:Oper)(e:r=[r.getD 0 d,r.getD 1 d,r.getD 2 d])
  (h:wpList P ops Q [r.getD 0 d,r.getD 1 d,r.getD 2 d] a w):wpList P ops Q r a w:=by
 rw [e];exact h
theorem ze7{id:Nat}{ops:Array Oper}{Q:Exit->Go.Act->World->Prop}{a a1 a2:Go.Act}{w w1:World}{p V:Value}{z:Array Value}{tt:TypeId}(d:Oper)
  (e:ops.toList=zbm.map mk2++ops.toList.drop 151) (e3:ops.toList.drop 151=[(ops.toList.drop 151).getD 0 d,(ops.toList.drop 151).getD 1 d,(ops.toList.drop 151).getD 2 d])
  (g1:((ops.toList.drop 151).getD 0 d).guard=none) (v1:(execOp (zbm.foldl Gp a).eval ((ops.toList.drop 151).getD 0 d)).run prog w=.ok (.value V) w)
  (s1:(zbm.foldl Gp a).put ((ops.toList.drop 151).getD 0 d).dst V=a1)
  (g2:((ops.toList.drop 151).getD 1 d).guard=none) (v2:(execOp a1.eval ((ops.toList.drop 151).getD 1 d)).run prog w=.ok (.value p) (w.alloc (.cells z tt)))
  (s2:a1.put ((ops.toList.drop 151).getD 1 d).dst p=a2)
  (g3:((ops.toList.drop 151).getD 2 d).guard=none) (ty:TypeId) (x y:Operand) (o3:((ops.toList.drop 151).getD 2 d).op=.store ty x y)
  (hx:a2.eval x=Pq w.heap.size) (hy:a2.eval y=.agg XJ.toArray) (hz:z.size=XJ.length) (hi:(prog.info? ty).map (·.size)=some XJ.toArray.size)
  (s3:a2.put ((ops.toList.drop 151).getD 2 d).dst undef=a2) (_:w1=w)
  (h:∀w2,w2.rangeAt w.heap.size 0 XJ->Bq w w2->Q .normal a2 w2):(Code.region id ops false).wp prog Q a w:=by
 refine wp_region_list (UJ zbm e ?_);refine UK d e3 ?_;refine V3 V g1 v1 ?_;rw [s1];refine zap p g2 v2 ?_;rw [s2];refine qN g3 ty x y o3 z tt XJ hx hy hz hi ze6 ?_;intro w2 h1 h2;rw [s3];exact h w2 h1 h2
theorem zaq(i:Nat)(hi:i<256)(w:World):Cq 106 #[Uq i] w (.agg #[Uq (zw i).1,Uq (zw i).2]) fun w'=>Bq w w':=by
 have hi':(i:Int)<256:=by omega
 have hp:=Gn (fun c=>Uq (zw c).1) (fun c=>Uq (zw c).2) 256 i hi;have hp':Hid (XJ[i*2]?=some (Uq (zw i).1)/\XJ[i*2+1]?=some (Uq (zw i).2)):=hp;clear hp;generalize (zw i).1=x at*;generalize (zw i).2=y at*;go_enter func106,ntmps106;iterate 10 go_step
 refine ze7 (w1:=_) (V:=.agg XJ.toArray) (p:=.pointer (some ⟨(w.alloc (.cells #[Uq 0,Uq 0] 101)).heap.size,0,none⟩)) (z:=(List.replicate 512 (Uq 0)).toArray) (tt:=250) (a1:=(⟨#[Uq i,undef,Pq w.heap.size,undef,.agg #[Uq 0,Uq 3],.agg #[Uq 0,Uq 4],.agg #[Uq 0,Uq 5],.agg #[Uq 0,Uq 7],.agg #[Uq 0,Uq 8],.agg #[Uq 0,Uq 9],.agg #[Uq 0,Uq 10],.agg #[Uq 0,Uq 11],.agg #[Uq 1,Uq 3],.agg #[Uq 1,Uq 4],.agg #[Uq 1,Uq 5],.agg #[Uq 1,Uq 7],.agg #[Uq 1,Uq 8],.agg #[Uq 1,Uq 9],.agg #[Uq 1,Uq 10],.agg #[Uq 1,Uq 11],.agg #[Uq 2,Uq 2],.agg #[Uq 2,Uq 4],.agg #[Uq 2,Uq 5],.agg #[Uq 2,Uq 7],.agg #[Uq 2,Uq 8],.agg #[Uq 11,Uq 4],.agg #[Uq 11,Uq 7],.agg #[Uq 17,Uq 3],.agg #[Uq 17,Uq 4],.agg #[Uq 17,Uq 5],.agg #[Uq 17,Uq 7],.agg #[Uq 17,Uq 8],.agg #[Uq 17,Uq 9],.agg #[Uq 17,Uq 10],.agg #[Uq 17,Uq 11],.agg #[Uq 18,Uq 3],.agg #[Uq 18,Uq 4],.agg #[Uq 18,Uq 7],.agg #[Uq 19,Uq 3],.agg #[Uq 19,Uq 4],.agg #[Uq 19,Uq 7],.agg #[Uq 20,Uq 4],.agg #[Uq 20,Uq 5],.agg #[Uq 20,Uq 7],.agg #[Uq 20,Uq 8],.agg #[Uq 23,Uq 3],.agg #[Uq 23,Uq 4],.agg #[Uq 23,Uq 5],.agg #[Uq 23,Uq 7],.agg #[Uq 23,Uq 8],.agg #[Uq 23,Uq 9],.agg #[Uq 23,Uq 10],.agg #[Uq 23,Uq 11],.agg #[Uq 24,Uq 4],.agg #[Uq 24,Uq 5],.agg #[Uq 24,Uq 7],.agg #[Uq 24,Uq 8],.agg #[Uq 27,Uq 13],.agg #[Uq 27,Uq 14],.agg #[Uq 29,Uq 3],.agg #[Uq 29,Uq 4],.agg #[Uq 29,Uq 5],.agg #[Uq 29,Uq 7],.agg #[Uq 29,Uq 8],.agg #[Uq 29,Uq 9],.agg #[Uq 29,Uq 10],.agg #[Uq 29,Uq 11],.agg #[Uq 30,Uq 3],.agg #[Uq 30,Uq 4],.agg #[Uq 30,Uq 6],.agg #[Uq 30,Uq 7],.agg #[Uq 30,Uq 9],.agg #[Uq 31,Uq 3],.agg #[Uq 31,Uq 4],.agg #[Uq 31,Uq 5],.agg #[Uq 31,Uq 7],.agg #[Uq 31,Uq 8],.agg #[Uq 32,Uq 2],.agg #[Uq 32,Uq 4],.agg #[Uq 32,Uq 5],.agg #[Uq 32,Uq 7],.agg #[Uq 32,Uq 8],.agg #[Uq 34,Uq 3],.agg #[Uq 34,Uq 4],.agg #[Uq 34,Uq 5],.agg #[Uq 34,Uq 7],.agg #[Uq 34,Uq 8],.agg #[Uq 34,Uq 9],.agg #[Uq 34,Uq 10],.agg #[Uq 34,Uq 11],.agg #[Uq 39,Uq 2],.agg #[Uq 39,Uq 4],.agg #[Uq 39,Uq 5],.agg #[Uq 39,Uq 7],.agg #[Uq 39,Uq 8],.agg #[Uq 40,Uq 2],.agg #[Uq 40,Uq 4],.agg #[Uq 40,Uq 5],.agg #[Uq 40,Uq 7],.agg #[Uq 40,Uq 8],.agg #[Uq 43,Uq 3],.agg #[Uq 43,Uq 4],.agg #[Uq 43,Uq 5],.agg #[Uq 43,Uq 7],.agg #[Uq 43,Uq 8],.agg #[Uq 43,Uq 9],.agg #[Uq 43,Uq 10],.agg #[Uq 43,Uq 11],.agg #[Uq 47,Uq 4],.agg #[Uq 47,Uq 5],.agg #[Uq 47,Uq 7],.agg #[Uq 47,Uq 8],.agg #[Uq 47,Uq 9],.agg #[Uq 47,Uq 10],.agg #[Uq 47,Uq 11],.agg #[Uq 48,Uq 4],.agg #[Uq 48,Uq 6],.agg #[Uq 48,Uq 7],.agg #[Uq 49,Uq 4],.agg #[Uq 49,Uq 5],.agg #[Uq 49,Uq 7],.agg #[Uq 3,Uq 12],.agg #[Uq 4,Uq 12],.agg #[Uq 5,Uq 12],.agg #[Uq 6,Uq 12],.agg #[Uq 7,Uq 12],.agg #[Uq 8,Uq 12],.agg #[Uq 9,Uq 12],.agg #[Uq 10,Uq 12],.agg #[Uq 12,Uq 19],.agg #[Uq 13,Uq 1],.agg #[Uq 14,Uq 1],.agg #[Uq 15,Uq 1],.agg #[Uq 16,Uq 1],.agg #[Uq 21,Uq 1],.agg #[Uq 22,Uq 1],.agg #[Uq 25,Uq 1],.agg #[Uq 26,Uq 1],.agg #[Uq 28,Uq 15],.agg #[Uq 33,Uq 1],.agg #[Uq 35,Uq 17],.agg #[Uq 36,Uq 17],.agg #[Uq 37,Uq 18],.agg #[Uq 38,Uq 18],.agg #[Uq 41,Uq 22],.agg #[Uq 42,Uq 16],.agg #[Uq 44,Uq 1],.agg #[Uq 45,Uq 1],.agg #[Uq 46,Uq 1],.agg #[Uq 50,Uq 1],.agg #[Uq 51,Uq 1],.agg #[Uq 52,Uq 1],.agg #[Uq 53,Uq 1],.agg #[Uq 54,Uq 1],.agg #[Uq 55,Uq 1],.agg XJ.toArray,undef,undef,undef],[]⟩)) (a2:=(⟨#[Uq i,undef,Pq w.heap.size,.pointer (some ⟨(w.alloc (.cells #[Uq 0,Uq 0] 101)).heap.size,0,none⟩),.agg #[Uq 0,Uq 3],.agg #[Uq 0,Uq 4],.agg #[Uq 0,Uq 5],.agg #[Uq 0,Uq 7],.agg #[Uq 0,Uq 8],.agg #[Uq 0,Uq 9],.agg #[Uq 0,Uq 10],.agg #[Uq 0,Uq 11],.agg #[Uq 1,Uq 3],.agg #[Uq 1,Uq 4],.agg #[Uq 1,Uq 5],.agg #[Uq 1,Uq 7],.agg #[Uq 1,Uq 8],.agg #[Uq 1,Uq 9],.agg #[Uq 1,Uq 10],.agg #[Uq 1,Uq 11],.agg #[Uq 2,Uq 2],.agg #[Uq 2,Uq 4],.agg #[Uq 2,Uq 5],.agg #[Uq 2,Uq 7],.agg #[Uq 2,Uq 8],.agg #[Uq 11,Uq 4],.agg #[Uq 11,Uq 7],.agg #[Uq 17,Uq 3],.agg #[Uq 17,Uq 4],.agg #[Uq 17,Uq 5],.agg #[Uq 17,Uq 7],.agg #[Uq 17,Uq 8],.agg #[Uq 17,Uq 9],.agg #[Uq 17,Uq 10],.agg #[Uq 17,Uq 11],.agg #[Uq 18,Uq 3],.agg #[Uq 18,Uq 4],.agg #[Uq 18,Uq 7],.agg #[Uq 19,Uq 3],.agg #[Uq 19,Uq 4],.agg #[Uq 19,Uq 7],.agg #[Uq 20,Uq 4],.agg #[Uq 20,Uq 5],.agg #[Uq 20,Uq 7],.agg #[Uq 20,Uq 8],.agg #[Uq 23,Uq 3],.agg #[Uq 23,Uq 4],.agg #[Uq 23,Uq 5],.agg #[Uq 23,Uq 7],.agg #[Uq 23,Uq 8],.agg #[Uq 23,Uq 9],.agg #[Uq 23,Uq 10],.agg #[Uq 23,Uq 11],.agg #[Uq 24,Uq 4],.agg #[Uq 24,Uq 5],.agg #[Uq 24,Uq 7],.agg #[Uq 24,Uq 8],.agg #[Uq 27,Uq 13],.agg #[Uq 27,Uq 14],.agg #[Uq 29,Uq 3],.agg #[Uq 29,Uq 4],.agg #[Uq 29,Uq 5],.agg #[Uq 29,Uq 7],.agg #[Uq 29,Uq 8],.agg #[Uq 29,Uq 9],.agg #[Uq 29,Uq 10],.agg #[Uq 29,Uq 11],.agg #[Uq 30,Uq 3],.agg #[Uq 30,Uq 4],.agg #[Uq 30,Uq 6],.agg #[Uq 30,Uq 7],.agg #[Uq 30,Uq 9],.agg #[Uq 31,Uq 3],.agg #[Uq 31,Uq 4],.agg #[Uq 31,Uq 5],.agg #[Uq 31,Uq 7],.agg #[Uq 31,Uq 8],.agg #[Uq 32,Uq 2],.agg #[Uq 32,Uq 4],.agg #[Uq 32,Uq 5],.agg #[Uq 32,Uq 7],.agg #[Uq 32,Uq 8],.agg #[Uq 34,Uq 3],.agg #[Uq 34,Uq 4],.agg #[Uq 34,Uq 5],.agg #[Uq 34,Uq 7],.agg #[Uq 34,Uq 8],.agg #[Uq 34,Uq 9],.agg #[Uq 34,Uq 10],.agg #[Uq 34,Uq 11],.agg #[Uq 39,Uq 2],.agg #[Uq 39,Uq 4],.agg #[Uq 39,Uq 5],.agg #[Uq 39,Uq 7],.agg #[Uq 39,Uq 8],.agg #[Uq 40,Uq 2],.agg #[Uq 40,Uq 4],.agg #[Uq 40,Uq 5],.agg #[Uq 40,Uq 7],.agg #[Uq 40,Uq 8],.agg #[Uq 43,Uq 3],.agg #[Uq 43,Uq 4],.agg #[Uq 43,Uq 5],.agg #[Uq 43,Uq 7],.agg #[Uq 43,Uq 8],.agg #[Uq 43,Uq 9],.agg #[Uq 43,Uq 10],.agg #[Uq 43,Uq 11],.agg #[Uq 47,Uq 4],.agg #[Uq 47,Uq 5],.agg #[Uq 47,Uq 7],.agg #[Uq 47,Uq 8],.agg #[Uq 47,Uq 9],.agg #[Uq 47,Uq 10],.agg #[Uq 47,Uq 11],.agg #[Uq 48,Uq 4],.agg #[Uq 48,Uq 6],.agg #[Uq 48,Uq 7],.agg #[Uq 49,Uq 4],.agg #[Uq 49,Uq 5],.agg #[Uq 49,Uq 7],.agg #[Uq 3,Uq 12],.agg #[Uq 4,Uq 12],.agg #[Uq 5,Uq 12],.agg #[Uq 6,Uq 12],.agg #[Uq 7,Uq 12],.agg #[Uq 8,Uq 12],.agg #[Uq 9,Uq 12],.agg #[Uq 10,Uq 12],.agg #[Uq 12,Uq 19],.agg #[Uq 13,Uq 1],.agg #[Uq 14,Uq 1],.agg #[Uq 15,Uq 1],.agg #[Uq 16,Uq 1],.agg #[Uq 21,Uq 1],.agg #[Uq 22,Uq 1],.agg #[Uq 25,Uq 1],.agg #[Uq 26,Uq 1],.agg #[Uq 28,Uq 15],.agg #[Uq 33,Uq 1],.agg #[Uq 35,Uq 17],.agg #[Uq 36,Uq 17],.agg #[Uq 37,Uq 18],.agg #[Uq 38,Uq 18],.agg #[Uq 41,Uq 22],.agg #[Uq 42,Uq 16],.agg #[Uq 44,Uq 1],.agg #[Uq 45,Uq 1],.agg #[Uq 46,Uq 1],.agg #[Uq 50,Uq 1],.agg #[Uq 51,Uq 1],.agg #[Uq 52,Uq 1],.agg #[Uq 53,Uq 1],.agg #[Uq 54,Uq 1],.agg #[Uq 55,Uq 1],.agg XJ.toArray,undef,undef,undef],[]⟩)) ⟨none,.alloc 0,0, "",#[],none⟩ zzf zzf zzf zzf zzf zzf zzf zzf zzf 250 (.tmp 3) (.tmp 155) zzf zzf zzf zzf zzf zzf rfl ?_
 intro w2 hr hB;have k1:=hr _ _ hp'.out.1;have k2:=hr _ _ hp'.out.2;have z1:=hB.cell (p:=(Aq w.heap.size 0)) zzc;have z2:=hB.cell (p:=(Aq w.heap.size 1)) zzc;have z3:=hB.frozen (p:=(Aq w.heap.size 0)) zzc;have z4:=hB.frozen (p:=(Aq w.heap.size 1)) zzc;have zs:w.heap.size+1<=w2.heap.size:=by have:=hB.size;simp at this;omega
 simp at k1 k2 z1 z2 z3 z4;have hB':Bq w w2:=qBa.trans (hB.mono zzc);go_wp2;refine bodyPost_ret (v:=.agg #[Uq x,Uq y]) (by simp [results,results106,go_sem,z1,z2]) rfl ⟨rfl,?_⟩;exact (hB'.setCell (Nat.le_refl _) _).setCell (Nat.le_refl _) _
section
structure Chn where
 at_:Int
 v:Value
 bs:List UInt8
def ChV(N:Nat)(w:World)(v:Value)(bs:List UInt8):Prop:= ∃p cap,v=.slice p bs.length cap/\(bs≠ [] ->∃b off,p=some (Aq b off)/\b<N/\zy w b off bs)
def CfAt(N:Nat)(w:World)(v:Value)(cs:List Chn):Prop:= ∃p cap,v=.slice p cs.length cap/\(cs≠ [] ->∃b off,p=some (Aq b off)/\b<N/\
 ∀i,(h:i<cs.length)->w.cell? ⟨b,off+i*2,none⟩=some (Iq cs[i].at_)/\w.cell? ⟨b,off+i*2+1,none⟩=some cs[i].v/\ChV N w cs[i].v cs[i].bs)
theorem ChV.kept{N:Nat}{w w':World}{v:Value}{bs:List UInt8}(h:ChV N w v bs)(hc:∀b o,b<N->w.cell? (Aq b o) ≠none->w'.cell? (Aq b o)=w.cell? (Aq b o)):ChV N w' v bs:=by
 obtain ⟨p,cap,e,h⟩:=h;refine ⟨p,cap,e,fun hn=>?_⟩;obtain ⟨b,off,e2,hb,hB⟩:=h hn;exact ⟨b,off,e2,hb,fun i hi=>by rw [hc _ _ hb (by rw [hB i hi];simp)];exact hB i hi⟩
theorem CfAt.kept{N:Nat}{w w':World}{v:Value}{cs:List Chn}(h:CfAt N w v cs)(hc:∀b o,b<N->w.cell? (Aq b o) ≠none->w'.cell? (Aq b o)=w.cell? (Aq b o)):CfAt N w' v cs:=by
 obtain ⟨p,cap,e,h⟩:=h;refine ⟨p,cap,e,fun hn=>?_⟩;obtain ⟨b,off,e2,hb,hB⟩:=h hn;refine ⟨b,off,e2,hb,fun i hi=>?_⟩;obtain ⟨h1,h2,h3⟩:=hB i hi;exact ⟨by rw [hc _ _ hb (by rw [h1];simp)];exact h1,by rw [hc _ _ hb (by rw [h2];simp)];exact h2,h3.kept hc⟩
theorem yc{w:World}{b o:Nat}(h:w.cell? (Aq b o) ≠none):b<w.heap.size:=by
 cases e:w.cell? (Aq b o) with
 |none=>exact absurd e h
 |some v=>exact World.block_lt_of_cell? w (Aq b o) e
theorem qA{w w':World}{B b o:Nat}(g:w.grownBy w' (some B))(hne:b≠B)(h:w.cell? (Aq b o) ≠none):w'.cell? (Aq b o)=w.cell? (Aq b o):=
 World.cell?_of_block (a:=(Aq b o)) (g.block b (yc h) (by intro e;injection e with e;exact hne e))
theorem CfAt.grown{N B:Nat}{w w':World}{v:Value}{cs:List Chn}(h:CfAt N w v cs)(g:w.grownBy w' (some B))(hN:N<=B):CfAt N w' v cs:=h.kept fun b o hb hc=>qA g zza hc
theorem CfAt.below{N:Nat}{w w':World}{v:Value}{cs:List Chn}(h:CfAt N w v cs)(g:Bq w w'):CfAt N w' v cs:=h.kept fun b o _ hc=>g.cell (p:=(Aq b o)) (yc hc)
def yq(cs:List Chn):Nat:=(cs.map (fun c=>c.bs.length)).sum
theorem Vq(cs:List Chn)(c:Chn):yq (cs++ [c])=yq cs+c.bs.length:=by simp [yq]
theorem Zi(l:List Chn)(k:Nat)(h:k<l.length):l.take (k+1)=l.take k++ [l[k]]:=by
 rw [List.take_succ_eq_append_getElem h]
theorem Vr(cs:List Chn)(k:Nat):yq (cs.take k)<=yq cs:=by
 have h:cs=cs.take k++cs.drop k:=(List.take_append_drop k cs).symm;have:yq cs=yq (cs.take k)+yq (cs.drop k):=by
  conv=>lhs;rw [h]
  simp only [yq,List.map_append,List.sum_append]
 omega
def xO(c:Chn):Bool:=decide (0<=c.at_/\c.at_<65536)
def yt(rom:Int)(cs:List Chn):Bool:=decide (0<=rom/\rom<=256/\cs.length<=8) && (cs.all xO&&decide (yq cs<=4096))
theorem JZ{rom:Int}{cs:List Chn}{k:Nat}(hk:k<cs.length)(h:¬(xO cs[k]=true/\yq (cs.take (k+1))<=4096)):yt rom cs=false:=by
 rw [Bool.eq_false_iff];intro e;unfold yt at e;simp only [Bool.and_eq_true,decide_eq_true_eq] at e;exact h ⟨List.all_eq_true.1 e.2.1 _ (List.getElem_mem hk),Nat.le_trans (Vr cs _) e.2.2⟩
theorem znp{p:Prop} (q:p:=by
 go_wp2;go_ret;exact ⟨ZH (HV.out (by rw [HO.out];simp;omega)).symm,HBl.out.alloc HBl.out.size _⟩):p:=q
theorem zkl{p:Prop} (q:p:=by
 clear h0;go_enter func50,ntmps50;go_wp2;go_ret;exact ⟨rfl,qBa⟩):p:=q
theorem J8(N:Nat)(v:Value)(cs:List Chn)(rom:Int)(w:World)(h:CfAt N w v cs)(hl:cs.length<=140737488355328)(hb:∀c∈cs,c.bs.length<=140737488355328):Cq 50 #[.agg #[v,Iq rom]] w (Tq (yt rom cs)) fun w'=>Bq w w':=by
 obtain ⟨p,cap,rfl,H⟩:=h;by_cases h0:0<=rom/\rom<=256/\cs.length<=8
 ·obtain ⟨r0,r1,r2⟩:=h0;have r0':¬rom<0:=by omega
  have r1':¬256<rom:=by omega
  have r2':¬(8:Int)<(cs.length:Int):=by omega
  have HH:=qH1 H;clear H;go_enter func50,ntmps50;go_wp2;go_loopw [3,23] (fun room i wr=> ∃k:Nat,k<=cs.length/\i=Iq k/\room=Iq (4096-(yq (cs.take k):Int))/\(cs.take k).all xO=true/\yq (cs.take k)<=4096/\Bq w wr) (fun _ i _=>cs.length-(intOf i).toNat);case atStart=>exact ⟨0,Nat.zero_le _,rfl,rfl,rfl,by simp [yq],qBa⟩
  case round=>
   obtain ⟨k,hk,rfl,rfl,ha,ht,hB⟩:=hrel;by_cases hlt:k<cs.length
   ·obtain ⟨b,off,rfl,hbN,HC⟩:=HH.out (by intro e;rw [e] at hlt;simp at hlt);obtain ⟨c1,c2,p2,cap2,hv, -⟩:=HC k hlt;have d1:=(hB.cell (p:=⟨b,off+k*2,none⟩) (yc (by rw [c1];simp))).trans c1;have d2:=(hB.cell (p:=⟨b,off+k*2+1,none⟩) (yc (by rw [c2];simp))).trans c2;rw [hv] at d2;have bl:=hb cs[k] (List.getElem_mem hlt);have HT:Hid (yq (cs.take (k+1))=yq (cs.take k)+cs[k].bs.length):=by show _=_;rw [Zi cs k hlt,Vq]
    have HV:Hid (¬(xO cs[k]=true/\yq (cs.take (k+1))<=4096)->yt rom cs=false):=JZ hlt;have HA:Hid (xO cs[k]=true->(cs.take (k+1)).all xO=true):=by intro e;rw [Zi cs k hlt,List.all_append,ha];simp [e]
    have HO:Hid (xO cs[k]=decide (0<=cs[k].at_/\cs[k].at_<65536)):=rfl;have HBl:=qH1 hB;clear c1 c2 hv HC ha hB;rw [HT.out] at HV;generalize cs[k].at_=A at*;generalize xO cs[k]=O at*;generalize cs[k].bs.length=L at*;generalize yq (cs.take k)=T at*;by_cases a0:A<0
    ·exact znp
    ·have a0':0<=A:=by omega
     by_cases a1:65536<=A
     ·exact znp
     ·have a1':A<65536:=by omega
      by_cases a2:(4096:Int)-T-L<0
      ·exact znp
      ·have a2':0<=(4096:Int)-T-L:=by omega
       go_wp2;go_roundw;case rel=>exact ⟨k+1,by omega,by go_num,by rw [HT.out];go_num,HA.out (by rw [HO.out];simp;omega),by rw [HT.out];omega,HBl.out.alloc HBl.out.size _⟩
       case measure=>simp [intOf];omega
   ·have hke:cs.take k=cs:=List.take_of_length_le zza;rw [hke] at ha ht;have HV:Hid (yt rom cs=true):=by show _=_;unfold yt;simp [r0,r1,r2,ha,ht]
    clear ha ht hke;have HBl:=qH1 hB;clear hB;go_wp2;go_ret;exact ⟨ZH HV.out.symm,HBl.out⟩
 ·have HV:Hid (yt rom cs=false):=by show _=_;unfold yt;simp [h0]
  rw [HV.out];by_cases r0:rom<0
  ·exact zkl
  ·have r0':0<=rom:=by omega
   by_cases r1:256<rom
   ·exact zkl
   ·have r1':rom<=256:=by omega
    have r2:(8:Int)<(cs.length:Int):=by omega
    exact zkl
def xS(m:Nat->Int)(at_:Int)(bs:List UInt8):Nat->Int:=bs.zipIdx.foldl (fun m p=>vH m ((at_+(p.2:Int))%65536).toNat (p.1.toNat:Int)) m
def yW(m:Nat->Int)(cs:List Chn):Nat->Int:=cs.foldl (fun m c=>xS m c.at_ c.bs) m
theorem Vs(m:Nat->Int)(at_:Int)(bs:List UInt8)(k:Nat)(h:k<bs.length):xS m at_ (bs.take (k+1))=vH (xS m at_ (bs.take k)) ((at_+(k:Int))%65536).toNat (bs[k].toNat:Int):=by
 have e:min k bs.length=k:=by omega
 unfold xS;rw [jp bs k h,List.zipIdx_append,List.foldl_append];simp [e]
theorem Vt(m:Nat->Int)(cs:List Chn)(k:Nat)(h:k<cs.length):yW m (cs.take (k+1))=xS (yW m (cs.take k)) cs[k].at_ cs[k].bs:=by
 unfold yW;rw [Zi cs k h,List.foldl_append];rfl
end
section
theorem Kw{cs:List Chn}{c:Chn}(h:c∈cs):c.bs.length<=yq cs:=by
 unfold yq;induction cs with
 |nil=>cases h
 |cons x l ih=>
  simp only [List.map_cons,List.sum_cons];cases h with
  |head=>omega
  |tail _ h=>have:=ih h;omega
theorem zd6(c:UInt8):(0:Int)<=(c.toNat:Int)/\(c.toNat:Int)<256:=by have:=c.toNat_lt;omega
theorem zd7{B:Nat}{s:PC}{w0 w:World}(h:Tn B s w0 w)(N:Nat)(hN:N<=B)(v:Value)(cs:List Chn)(rom:Int)(hc:CfAt N w v cs)(hv:yt rom cs=true):Cq 51 #[Pq B,.agg #[v,Iq rom]] w (.tuple #[]) fun w'=>Tn B {s with rom:=rom*256,mem:=yW s.mem cs} w0 w':=by
 have hv':=hv;unfold yt at hv;simp only [Bool.and_eq_true,decide_eq_true_eq] at hv;obtain ⟨⟨r0,r1,r2⟩,hall,htot⟩:=hv;clear hv';obtain ⟨p,cap,rfl,H⟩:=hc;have HH:=qH1 H;have HA:=qH1 hall;have HT:=qH1 htot;clear H hall htot;have hlt:=h.c.lt;have hsz:=h.g.size;have n0:w.heap.size≠B:=by omega
 have m0:B≠w.heap.size:=by omega
 have fz0:=h.c.free;have c_rom:=h.c.crom;have Hh:=qH1 h;clear h;go_enter func51,ntmps51;go_wp2;go_loopw [17] (fun i wr=> ∃k:Nat,k<=cs.length/\i=Iq k/\Tn B {s with rom:=rom*256,mem:=yW s.mem (cs.take k)} w0 wr/\w.grownBy wr (some B)) (fun i _=>cs.length-(intOf i).toNat);case atStart=>exact ⟨0,Nat.zero_le _,rfl,(Hh.out.setRom (rom*256) zza).alloc _,zJ (yE _ _ _ _) (Yx _ _ _)⟩
 case round=>
  obtain ⟨k,hk,rfl,hT,hG⟩:=hrel;by_cases hl2:k<cs.length
  ·obtain ⟨b,off,rfl,hbN,HC⟩:=HH.out (by intro e;rw [e] at hl2;simp at hl2);obtain ⟨c1,c2,p2,cap2,hv,hB2⟩:=HC k hl2;have d1:=(qA hG zza (by rw [c1];simp)).trans c1;have d2:=(qA hG zza (by rw [c2];simp)).trans c2;rw [hv] at d2;have HF:Hid (yW s.mem (cs.take (k+1))=xS (yW s.mem (cs.take k)) cs[k].at_ cs[k].bs):=Vt s.mem cs k hl2;have oc:=List.all_eq_true.1 HA.out _ (List.getElem_mem hl2);unfold xO at oc;have oc2:=of_decide_eq_true oc;obtain ⟨a0,a1⟩:=oc2;have hL:cs[k].bs.length<=4096:=Nat.le_trans (Kw (List.getElem_mem hl2)) HT.out;clear oc c1 c2 hv HC;have HT1:=qH2 hT hG;have bl:=hT.c.lt;have fz:=hT.c.free;have hsr:=hG.size;have hs0:=hT.g.size;have n1:wr.heap.size≠B:=by omega
   have m1:B≠wr.heap.size:=by omega
   clear hT hG;generalize yW s.mem (cs.take k)=M at*;generalize cs[k].at_=A at*;generalize cs[k].bs=l at*;have HB2:=qH1 hB2;clear hB2;go_wp2;go_loopw [24] (fun i wq=> ∃j:Nat,j<=l.length/\i=Iq j/\Tn B {s with rom:=rom*256,mem:=xS M A (l.take j)} w0 wq/\w.grownBy wq (some B)/\wq.cell? (Aq wr.heap.size 0)=some (Iq A)) (fun i _=>l.length-(intOf i).toNat);case atStart=>exact ⟨0,Nat.zero_le _,rfl,HT1.out.1.alloc _,zJ HT1.out.2 (Yx _ _ _),World.cell?_alloc_at _ _ _ _ rfl⟩
   case round=>
    obtain ⟨j,hj,rfl,hT,hG,hq⟩:=hrel;by_cases hlj:j<l.length
    ·obtain ⟨b2,off2,rfl,hb2,hBy⟩:=HB2.out (by intro e;rw [e] at hlj;simp at hlj);have hcell:=(qA (o:=off2+j) hG zza (by rw [hBy j hlj];simp)).trans (hBy j hlj);have HS:Hid (xS M A (l.take (j+1))=vH (xS M A (l.take j)) ((A+(j:Int))%65536).toNat (l[j].toNat:Int)):=Vs M A l j hlj;have hm:=hT.c.mem ((A+(j:Int))%65536).toNat zza;have fq:=hT.c.free ((A+(j:Int))%65536).toNat;have qlt:=hT.c.lt;have i0:0<=A+(j:Int):=by omega
     have i1:0<=(A+(j:Int))%65536:=by omega
     have i2:(A+(j:Int))%65536<65536:=by omega
     have HT2:=qH2 hT hG;have hu:=zd6 l[j];clear hT hG hBy;generalize xS M A (l.take j)=M2 at*;generalize l[j]=x at*;go_wp2;go_region
     all_goals
      go_wp2;go_roundw;case rel=>exact ⟨j+1,by omega,by go_num,by rw [HS.out];exact (HT2.out.1.setMem _ _ zza hu).drew,zJ (zJ HT2.out.2 (yE _ _ _ _)) (XT _ _),(World.cell?_setCell_other _ _ _ _ (fun e=>by injection e with e1 e2;omega)).trans hq⟩
      case measure=>simp [intOf];omega
    ·have hke:l.take j=l:=List.take_of_length_le zza;rw [hke] at hT;rw [<-HF.out] at hT;have HT2:=qH2 hT hG;clear hT hG hke;go_wp2;go_roundw;case rel=>exact ⟨k+1,by omega,by go_num,HT2.out.1,HT2.out.2⟩
     case measure=>simp [intOf];omega
  ·have hke:cs.take k=cs:=List.take_of_length_le zza;rw [hke] at hT;have HT1:=qH1 hT;clear hT hG hke;go_wp2;go_end0;exact ⟨rfl,HT1.out⟩
end
