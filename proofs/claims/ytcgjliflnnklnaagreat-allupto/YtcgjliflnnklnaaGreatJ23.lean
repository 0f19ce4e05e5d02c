import Derived.Handy
import Derived.Deep.AppendLies
import Derived.Deep.RegionHeld3
import Derived.Lib.SlBytesConst
import Derived.Test.YtcgjliflnnklnaaGreatJ22
import Derived.Test.YtcgjliflnnklnaaGreatJ06
import Derived.Test.YtcgjliflnnklnaaGreatQGz
import Derived.Test.YtcgjliflnnklnaaGreatJ18
namespace Go.Proofs.YtcgjliflnnklnaaGreat
open Go.RowKit Tryz
set_option maxRecDepth 100000
set_option maxHeartbeats 8000000
theorem cutx(n:Nat)(w:World)(h:n<=4611686018427387904):Cq 91 #[Iq n,Iq 16] w (Iq ((n%16:Nat):Int)) fun w'=>w'=w:=by
 have h0:(0:Int)<=(n:Int):=by omega
 have h1:(n:Int)<=4611686018427387904:=by omega
 exact zmO
theorem Yy(n k:Nat)(w:World)(hn:n<=4611686018427387904)(hk:k<=100):Cq 97 #[Iq n,Iq k] w (Zq ⟨(zX n k).toArray⟩) fun w'=>w'=w:=by
 go_enter func97,ntmps97;go_wp2;go_loop [0,5,6] (fun m s i=> ∃j:Nat,j<=k/\m=Iq ((n/2 ^ (4*j):Nat):Int)/\s=Zq ⟨(zX n j).toArray⟩/\i=Iq j) (fun _ _ i=>k-(intOf i).toNat);case atStart=>exact ⟨0,by omega,by simp,rfl,rfl⟩
 case round=>
  obtain ⟨j,hj,rfl,rfl,rfl⟩:=hrel;have hlen:=yz n j;generalize hm:n/2 ^ (4*j)=m;have hmn:m<=n:=by rw [<-hm];exact Nat.div_le_self _ _
  have HM:=qH1 hm;clear hm;by_cases hlt:j<k
  ·have hlt':(j:Int)<(k:Int):=by omega
   generalize hx:zX n j=x at*;have HX:=qH1 hx;clear hx;go_wp2_with fail;refine (cutx m _ zza).mono ?_;rintro e w' ⟨rfl,hw⟩;subst w';have d1:m%16<16:=by omega
   have dI:((m%16:Nat):Int)<16:=by omega
   have he:Hid ((({data:=#[48,49,50,51,52,53,54,55,56,57,97,98,99,100,101,102] }:ByteArray).extract (m%16) (m%16+1))=⟨[vA (m%16)].toArray⟩):=zoX _ d1;have hq:((m:Int)-((m%16:Nat):Int)).tdiv 16=((m/16:Nat):Int):=by
    rw [Int.tdiv_eq_ediv_of_nonneg zza];omega
   have hm0:(m:Int)<=4611686018427387904:=by omega
   generalize hd:m%16=d at*;have HD:=qH1 hd;clear hd;go_wp2;go_round;case rel=>
    refine ⟨j+1,by omega,?_,?_,by go_num⟩
    ·rw [show n/2 ^ (4*(j+1))=m/16 from by rw [<-HM.out,Nat.div_div_eq_div_mul,show 4*(j+1)=4*j+4 from by omega,Nat.pow_add]];go_num
    ·rw [he.out];exact congrArg Zq (by rw [xh,zX,HX.out,HM.out,HD.out];rfl)
   case measure=>simp [intOf];omega
  ·obtain rfl:j=k:=by omega
   go_wp2;go_ret;exact ⟨rfl,rfl⟩
def zax:List UInt8->Option Nat
 | []=>some 0
 |l=>l.foldl (fun a c=>a.bind fun n=>if (hv c).2=true then some (16*n+(hv c).1.toNat) else none) (some 0)
def qK(a:Option Nat)(c:UInt8):Option Nat:=a.bind fun n=>if (hv c).2=true then some (16*n+(hv c).1.toNat) else none
theorem qL(l:List UInt8):zax l=l.foldl qK (some 0):=by cases l<;>rfl
theorem zcN(l:List UInt8)(c:UInt8):zax (l++ [c])=qK (zax l) c:=by rw [qL,qL,List.foldl_append];rfl
theorem YZ(l:List UInt8):l.foldl qK none=none:=by induction l with
 |nil=>rfl
 |cons c r ih=>exact ih
def yJ(l:List UInt8):Int:=match zax l with
 |some n=>(n:Int)
 |none=> -1
theorem ziA(l:List UInt8):∀n,zax l=some n->n<16 ^ l.length:=by
 rw [qL];suffices h:∀ (l:List UInt8) (a b n:Nat),a<16 ^ b->l.foldl qK (some a)=some n->n<16 ^ (b+l.length) by
  intro n hn;simpa using h l 0 0 n zzb hn
 intro l;induction l with
 |nil=>intro a b n h e;injection e with e;subst e;exact h
 |cons c r ih=>
  intro a b n h e;simp only [List.foldl_cons,qK,Option.bind_some] at e;split at e
  ·have h16:=zbg c;have:=ih _ (b+1) n (by rw [Nat.pow_succ];omega) e;rw [List.length_cons];rw [show b+(r.length+1)=b+1+r.length from by omega];exact this
  ·rw [YZ] at e;cases e
theorem rhex(s:ByteArray)(w:World)(hl:s.size<=8):Cq 159 #[Zq s] w (Iq (yJ s.data.toList)) fun w'=>w'=w:=by
 go_enter func159,ntmps159;go_wp2;go_loop [3,4] (fun n i=> ∃j m:Nat,j<=s.size/\Hid (zax (s.data.toList.take j)=some m)/\n=Iq m/\i=Iq j) (fun _ i=>s.size-(intOf i).toNat);case atStart=>exact ⟨0,0,by omega,rfl,rfl,rfl⟩
 case round=>
  obtain ⟨j,m,hj,HM,rfl,rfl⟩:=hrel;have hml:m<4294967296:=by
   have h1:=ziA _ _ HM.out;have h2:(s.data.toList.take j).length<=8:=by rw [List.length_take];omega
   exact Nat.lt_of_lt_of_le h1 (Nat.le_trans (Nat.pow_le_pow_right zzb h2) (Nat.le_of_eq zzf))
  have hml':(m:Int)<=5000000000:=by omega
  clear hml;by_cases hlt:j<s.size
  ·have HS:Hid (zax (s.data.toList.take (j+1))=qK (some m) s[j]):=by
    show _=_;rw [ZB s j hlt,zcN,HM.out]
   have HN:Hid ((hv s[j]).2=false->yJ s.data.toList= -1):=fun q=>by
    have e:s.data.toList=s.data.toList.take (j+1)++s.data.toList.drop (j+1):=(List.take_append_drop _ _).symm;unfold yJ;rw [e,qL,List.foldl_append, <-qL,HS.out];simp [qK,q,YZ]
   have c8:(s[j].toNat:Int)<256:=by have:=s[j].toNat_lt;omega
   go_wp2;all_goals first
    |(have q:=qD (c:=s[j]) (x:=(s[j].toNat:Int)-48) zza;go_round;(case rel=>exact ⟨j+1,16*m+(hv s[j]).1.toNat,by omega,by show _=_;rw [HS.out];simp [qK,q.1],by rw [Int.natCast_add, <-q.2];go_num,by go_num⟩);(case measure=>simp [intOf];omega))
    |(have q:=qD (c:=s[j]) (x:=(s[j].toNat:Int)-97+10) zza;go_round;(case rel=>exact ⟨j+1,16*m+(hv s[j]).1.toNat,by omega,by show _=_;rw [HS.out];simp [qK,q.1],by rw [Int.natCast_add, <-q.2];go_num,by go_num⟩);(case measure=>simp [intOf];omega))
    |(have q:=qD (c:=s[j]) (x:=(s[j].toNat:Int)-65+10) zza;go_round;(case rel=>exact ⟨j+1,16*m+(hv s[j]).1.toNat,by omega,by show _=_;rw [HS.out];simp [qK,q.1],by rw [Int.natCast_add, <-q.2];go_num,by go_num⟩);(case measure=>simp [intOf];omega))
    |(have q:=zex (c:=s[j]) zza zza zza;go_ret;exact ⟨xT (by rw [HN.out q]),rfl⟩)
  ·have HR:Hid (yJ s.data.toList=(m:Int)):=by
    show _=_;have:=HM.out;rw [List.take_of_length_le zzd] at this;unfold yJ;rw [this]
   go_wp2;go_ret;exact ⟨xT HR.out.symm,rfl⟩
def IntsAt(w:World)(p:Option Addr)(l:List Int):Prop:=∀i,(h:i<l.length)->∃b o,p=some (Aq b o)/\w.cell? ⟨b,o+i,none⟩=some (Iq l[i])
def atI(l:List Int)(x:Int):Int:=match l.findIdx? (fun y=>decide (y=x)) with
 |some i=>(i:Int)
 |none=> -1
theorem UP(l:List Int)(x:Int):0<=atI l x ↔ x∈l:=by
 unfold atI;cases h:l.findIdx? (fun y=>decide (y=x)) with
 |some i=>
  obtain ⟨h1,h2,_⟩:=List.findIdx?_eq_some_iff_getElem.1 h;have h2:l[i]=x:=by simpa using h2
  exact ⟨fun _=>h2 ▸ List.getElem_mem _,fun _=>Int.natCast_nonneg _⟩
 |none=>
  rw [List.findIdx?_eq_none_iff] at h;exact ⟨fun q=>absurd q zzb,fun q=>absurd (h x q) zzc⟩
theorem zlw(l:List Int)(p:Option Addr)(cap:Nat)(x:Int)(w:World)(hl:l.length<=100)(h:IntsAt w p l):Cq 202 #[.slice p l.length cap,Iq x] w (Iq (atI l x)) fun w'=>w'=w:=by
 have HS:=qH1 h;clear h;go_enter func202,ntmps202;go_wp2_with fail;go_loopw [5] (fun i wr=> ∃k:Nat,k<=l.length/\i=Iq k/\Hid (∀j,(hj:j<k)->(hl:j<l.length)->l[j]≠x)/\wr=w) (fun i _=>l.length-(intOf i).toNat);case atStart=>exact ⟨0,by omega,rfl,fun j hj=>by omega,rfl⟩
 case round=>
  obtain ⟨k,hk,rfl,HNo,rfl⟩:=hrel;by_cases hlt:k<l.length
  ·obtain ⟨b,o,rfl,c⟩:=HS.out k hlt;have hk1:(k:Int)<(l.length:Int):=by omega
   generalize hy:l[k]=y at*;have HY:=qH1 hy;clear hy;by_cases hx:y=x
   ·subst hx;go_wp2;go_ret;exact ⟨xT (by unfold atI;rw [List.findIdx?_eq_some_iff_getElem.2 ⟨hlt,by simpa using HY.out,fun j hj=>by simpa using HNo.out j hj zza⟩]),rfl⟩
   ·go_wp2;go_roundw;case rel=>exact ⟨k+1,by omega,by go_num,fun j hj hl=>by
     rcases Nat.lt_succ_iff_lt_or_eq.1 hj with h|rfl
     ·exact HNo.out j h hl
     ·rw [HY.out];exact hx,trivial⟩
    case measure=>simp [intOf];omega
  ·have HN:Hid (x ∉ l):=fun hm=>by
    obtain ⟨j,hj,e⟩:=List.mem_iff_getElem.1 hm;exact HNo.out j zza hj e
   go_wp2;go_ret;exact ⟨xT (by unfold atI;rw [List.findIdx?_eq_none_iff.2 (fun y hy=>by simpa using fun e:y=x=>HN.out (e ▸ hy))]),rfl⟩
theorem rat(l:List Int)(p:Option Addr)(cap:Nat)(x:Int)(w:World)(hl:l.length<=100)(h:IntsAt w p l):Calls prog 202 #[.slice p l.length cap,Iq x] w fun e w'=>(∃k:Int,e=.returned (Iq k)/\(0<=k ↔ x∈l))/\w'=w:=
 (zlw l p cap x w hl h).mono fun _ _ q=>⟨⟨_,q.1,UP l x⟩,q.2⟩
def lay(m:Nat->Int)(a:Int):List Int->Nat->(Nat->Int)
 |_,0=>m
 |l,k+1=>vH (lay m a l k) ((a+k)%65536).toNat (l.getD k 0)
theorem IntsAt.same{w w':World}{p:Option Addr}{l:List Int}(h:IntsAt w p l)(k:∀a,p=some a->w'.heap[a.block]?=w.heap[a.block]?):IntsAt w' p l:=fun i hi=>by
 obtain ⟨b,o,e,c⟩:=h i hi;exact ⟨b,o,e,(World.cell?_of_block (a:=⟨b,o+i,none⟩) (show w'.heap[b]?=_ from k (Aq b o) e)).trans c⟩
theorem zf6{Q R M:Nat}{L:List Value}{m:Nat->Int}{w:World}(hq:w.cell? (Aq Q 0)=some (Pq R))(hm:MAt w R M L m)(hL:L[0]?=some (Sq M 65536 65536))(nQ:Q≠R/\Q≠M)
  (a:Int) (a0:0<=a) (a1:a<65536) (l:List Int) (p:Option Addr) (c:Nat) (hl:l.length<=8) (hp:IntsAt w p l) (np:∀x,p=some x->x.block≠R/\x.block≠M/\x.block<w.heap.size):
  Cq 201 #[Pq Q,.agg #[Iq a,.slice p l.length c]] w (.tuple #[]) fun w'=>TM R M L (lay m a l l.length) w w':=by
 have HG:=qH4 hq hm hp np;have hQ:Q<w.heap.size:=World.block_lt_of_cell? w _ hq;have hR:=hm.lt;have hM:=hm.ltM;have hRM:=hm.ne;clear hq hm hp np;go_enter func201,ntmps201;go_wp2_with fail;go_loopw [4] (fun i wr=> ∃k:Nat,k<=l.length/\i=Iq k/\Hid (TM R M L (lay m a l k) (w.alloc (.cells #[Iq a,.slice p l.length c] 272)) wr)) (fun i _=>l.length-(intOf i).toNat);case atStart=>exact ⟨0,by omega,rfl,((TM.refl HG.out.2.1).alloc _).c,Two.refl _ _ _⟩
 case round=>
  obtain ⟨k,hk,rfl,HT⟩:=hrel;have hb:∀g,g<w.heap.size+1->g≠R->g≠M->wr.heap[g]?=(w.alloc (.cells #[Iq a,.slice p l.length c] 272)).heap[g]?:=fun g h1 h2 h3=>HT.out.g.block g (by simpa using h1) h2 h3
  have ho:∀g,g<w.heap.size->g≠R->g≠M->wr.heap[g]?=w.heap[g]?:=fun g h1 h2 h3=>(hb g zza h2 h3).trans (Below.heap_alloc _ _ _ h1)
  have sb:=hb w.heap.size zza zza zza;have b0:wr.cell? (Aq w.heap.size 0)=some (Iq a):=(World.cell?_of_block (a:=(Aq w.heap.size 0)) sb).trans (World.cell?_alloc_at _ _ _ _ rfl);have b1:wr.cell? (Aq w.heap.size 1)=some (.slice p l.length c):=(World.cell?_of_block (a:=(Aq w.heap.size 1)) sb).trans (World.cell?_alloc_at _ _ _ _ rfl);by_cases hlt:k<l.length
  ·have cQ:=(World.cell?_of_block (a:=(Aq Q 0)) (ho Q hQ nQ.1 nQ.2)).trans HG.out.1;have cR:wr.cell? (Aq R 0)=some (Sq M 65536 65536):=(HT.out.c.c 0 zza).trans hL;obtain ⟨pb,po,rfl,ci⟩:=HG.out.2.2.1.same (w':=wr) (fun x e=>ho _ (HG.out.2.2.2 x e).2.2 (HG.out.2.2.2 x e).1 (HG.out.2.2.2 x e).2.1) k hlt;have i3:0<=a+(k:Int):=by omega
   have i0:0<=(a+(k:Int))%65536:=by omega
   have i1:(a+(k:Int))%65536<65536:=by omega
   have cM:=HT.out.c.m ((a+(k:Int))%65536).toNat zza;have fM:=HT.out.c.fm ((a+(k:Int))%65536).toNat;have qlt:=HT.out.c.ltM;have hk1:(k:Int)<(l.length:Int):=by omega
   have HD:Hid (l.getD k 0=l[k]):=by show _=_;rw [List.getD_eq_getElem?_getD,List.getElem?_eq_getElem hlt];rfl
   obtain ⟨q1,q2,q3⟩:=HG.out.2.2.2 _ rfl;have n1:M≠w.heap.size:=by omega
   have n2:M≠pb:=fun e=>q2 e.symm
   have n3:M≠Q:=fun e=>nQ.2 e.symm
   have n4:M≠R:=fun e=>hRM e.symm
   have n5:w.heap.size≠M:=by omega
   have n6:pb≠M:=q2;have n7:Q≠M:=nQ.2;have hwr:IntKind.i64.wrap (a+(k:Int))=a+(k:Int):=by rw [IntKind.wrap_i64];omega
   generalize l[k]=v at*;clear hb ho sb q1 q2 q3;go_wp2_with fail;go_region_held3 (fun w'=>w'.cell? (Aq w.heap.size 0)=some (Iq a)/\w'.cell? (Aq w.heap.size 1)=some (.slice (some (Aq pb po)) l.length c)/\w'.cell? (Aq Q 0)=some (Pq R)/\w'.cell? (Aq R 0)=some (Sq M 65536 65536)/\w'.cell? ⟨pb,po+k,none⟩=some (Iq v)) (go_keep) (first|(go_at_call 91;with_reducible refine (zD _ _).mono ?_;rintro e w2 ⟨rfl,hw⟩;subst hw))
   all_goals
    go_wp2;go_roundw;case rel=>exact ⟨k+1,by omega,by go_num,by show TM _ _ _ _ _ _;rw [lay,HD.out];exact (HT.out.setM zza).drew⟩
    case measure=>simp [intOf];omega
  ·have HE:Hid (TM R M L (lay m a l l.length) w wr):=⟨(show k=l.length from by omega) ▸ HT.out.c,(Two.below qBa).trans HT.out.g⟩;go_wp2;go_end0;exact ⟨rfl,HE.out⟩
def xY(l:List Int):List Value:=l.map fun x=>Iq x
def fil(l:List Int)(x:Int):List Int:=l.filter fun y=>decide (y≠x)
theorem zdZ:(prog.info? 3).map (fun i=>(i.zero,i.size,i.bytes))=some (some (Iq 0),1,8):=by kernel_rfl
theorem zd0:prog.underlying 30=some (.slice 3):=by kernel_rfl
theorem zl5{p:Prop} (q:p:=by
 intro u hu;simp only [List.mem_singleton] at hu;subst hu;rfl):p:=q
theorem zd1(x:Int):∀u∈[Iq x],u.oneCell'=true:=by
 exact zl5
theorem zd2(l:List Int)(k:Nat)(hk:k<l.length)(x:Int):fil (l.take (k+1)) x=if l[k]=x then fil (l.take k) x else fil (l.take k) x++ [l[k]]:=by
 rw [List.take_succ_eq_append_getElem hk];unfold fil;rw [List.filter_append];by_cases e:l[k]=x<;>simp [e]
theorem Vm{base te size n:Nat}{w0 w w1:World}{v:Value}{xs:List Value}{o:Obj}(hown:w.ownsRow base te size v n xs)(hb:Below base w0 w)(hs:base<=w.heap.size)(hg:(w.alloc o).grownBy w1 v.ownBlock):Below base w0 w1/\base<=w1.heap.size:=
 ⟨(hb.alloc hs _).grown hg zzd (fun k e=>(hown.lt k e).1),by have:=hg.size;simp at this;omega⟩
theorem yG{base te size n:Nat}{w:World}{v:Value}{xs:List Value}(h:w.ownsRow base te size v n xs):∃a c,v=.slice a n c/\∀x,a=some x->v.ownBlock=some x.block/\x.off=0/\x.spot=none:=by
 rcases h.2 with ⟨e,e2⟩|⟨g,cap,_,e,_⟩
 ·exact ⟨none,0,by rw [e,e2],fun x q=>by cases q⟩
 ·exact ⟨some (Aq g 0),cap,e,fun x q=>by injection q with q;subst q;rw [e];exact ⟨rfl,rfl,rfl⟩⟩
theorem Zg{base n:Nat}{w:World}{a:Option Addr}{c:Nat}{l:List Int}(h:w.ownsRow base 3 1 (.slice a n c) n (xY l))(hn:l.length=n):IntsAt w a l:=by
 intro i hi;rcases h.2 with ⟨_,e2⟩|⟨g,cap,cur,e,_,hg,_,_,hc⟩
 ·omega
 ·injection e with e _ _;refine ⟨g,0,e,?_⟩;rw [cell_of_row w g (0+i) cur 3 (0,0) hg,Nat.zero_add, <-Array.getElem?_toList];have h1:(cur.toList.take (n*1))[i]?=cur.toList[i]?:=List.getElem?_take_of_lt zza;rw [<-h1,hc.2];simp [xY,hi]
theorem zd3(l:List Int)(p:Option Addr)(cap:Nat)(x:Int)(w:World)(hl:l.length<=100)(h:IntsAt w p l)(np:∀a,p=some a->a.block<w.heap.size):Calls prog 203 #[.slice p l.length cap,Iq x] w fun e w'=> ∃v,e=.returned v/\Bq w w'/\w.heap.size<=w'.heap.size/\w'.ownsRow w.heap.size 3 1 v (fil l x).length (xY (fil l x)):=by
 have HS:=qH2 h np;clear h np;obtain ⟨i0,hi,hz0,hz1,hz2⟩:=info_parts zdZ;go_enter func203,ntmps203;go_wp2_with fail;go_loopw [5,6] (fun v i wr=> ∃k:Nat,k<=l.length/\i=Iq k/\Hid (Bq w wr/\w.heap.size<=wr.heap.size/\wr.ownsRow w.heap.size 3 1 v (fil (l.take k) x).length (xY (fil (l.take k) x)))) (fun _ i _=>l.length-(intOf i).toNat);case atStart=>exact ⟨0,by omega,rfl,Below.refl _ _,Nat.le_refl _,World.ownsRow_nil _ _ _ _⟩
 case round=>
  obtain ⟨k,hk,rfl,HW⟩:=hrel;by_cases hlt:k<l.length
  ·have hk1:(k:Int)<(l.length:Int):=by omega
   have HF:Hid (fil (l.take (k+1)) x=if l[k]=x then fil (l.take k) x else fil (l.take k) x++ [l[k]]):=zd2 l k hlt x;have hfl:(fil (l.take k) x).length<=100:=by
    have h1:(fil (l.take k) x).length<=(l.take k).length:=List.length_filter_le _ _;rw [List.length_take] at h1;omega
   obtain ⟨b,o,rfl,c⟩:=HS.out.1.same (fun a e=>HW.out.1.block _ (HS.out.2 a e)) k hlt;generalize hy:l[k]=y at*;clear hy;generalize fil (l.take k) x=out at*;by_cases hx:y=x
   ·subst hx;have HR:Hid (fil (l.take (k+1)) y=out):=by show _=_;rw [HF.out,if_pos rfl]
    go_wp2;go_roundw;case rel=>exact ⟨k+1,by omega,by go_num,by rw [HR.out];exact HW.out⟩
    case measure=>simp [intOf];omega
   ·have HR:Hid (fil (l.take (k+1)) x=out++ [y]):=by show _=_;rw [HF.out,if_neg hx]
    have hown:=HW.out.2.2;have hs:=HW.out.2.1;go_wp2_with (first|(at_builtin;go_must (refine wpList_append_lies _ rfl (.tmp 19) (.tmp 24) 30 rfl w.heap.size 3 i0 (Iq 0) 1 8 zd0 hi hz0 hz1 hz2 rfl zzb u5 out.length (xY out) rfl (by exact (hown.alloc _)) (Aq wr.heap.size 0) 1 1 [Iq y] rfl rfl (ye _ _ _) (zd1 _) zzb zze zza zzd _ rfl ?_;intro g' cap' w1 hown' hgrow hat hlt')));have HO:Hid (Bq w w1/\w.heap.size<=w1.heap.size/\w1.ownsRow w.heap.size 3 1 (Sq g' (out.length+1) cap') (out.length+1) (xY out++ [Iq y])):=⟨(Vm hown HW.out.1 hs hgrow).1,(Vm hown HW.out.1 hs hgrow).2,hown'⟩;clear hown hs hown' hgrow hat hlt' HW c;go_roundw;case rel=>exact ⟨k+1,by omega,by go_num,by show _/\_/\_;rw [HR.out];exact ⟨HO.out.1,HO.out.2.1,by rw [List.length_append,show xY (out++ [y])=xY out++ [Iq y] from by simp [xY]];exact HO.out.2.2⟩⟩
    case measure=>simp [intOf];omega
  ·have HE:Hid (Bq w wr/\w.heap.size<=wr.heap.size/\wr.ownsRow w.heap.size 3 1 u5 (fil l x).length (xY (fil l x))):=by
    have:=HW.out;rwa [show l.take k=l from List.take_of_length_le zza] at this
   go_wp2;go_ret;exact ⟨_,rfl,HE.out⟩
section
theorem yn{c:Prop}[Decidable c]{a b:PC × BusI}(h1:a.2.ft=false)(h2:b.2.ft=false):(if c then a else b).2.ft=false:=by split<;>assumption
theorem Qo(s:PC):s.access.2.ft=false:=yn rfl (yn rfl rfl)
theorem ZY(s:PC)(i:Int):(s.indexed i).2.ft=false:=yn (Qo _) rfl
theorem VP(s:PC)(v f:Int):(s.enter v f).2.ft=false:=yn rfl (yn rfl (yn rfl (yn rfl rfl)))
theorem zoc{p:Prop} (q:p:=by
 exact yn rfl (yn rfl (yn rfl (yn rfl rfl)))):p:=q
theorem zhG(s:PC)(m:Nat):(s.doMode m).2.ft=false:=by
 unfold PC.doMode;split
 ·rfl
 ·rfl
 ·rfl
 ·rfl
 ·exact yn rfl rfl
 ·exact yn rfl rfl
 ·exact yn rfl rfl
 ·exact yn rfl (yn rfl (ZY _ _))
 ·exact yn rfl (yn rfl (ZY _ _))
 ·exact yn rfl (yn rfl (yn rfl rfl))
 ·exact yn rfl (yn rfl (yn rfl (ZY _ _)))
 ·exact yn rfl (yn rfl rfl)
 ·exact yn rfl rfl
 ·exact yn rfl (yn rfl (yn rfl rfl))
 ·exact zoc
 ·exact zoc
 ·exact yn rfl rfl
 ·exact yn rfl (yn rfl rfl)
 ·exact yn rfl (VP _ _ _)
 ·exact yn rfl (VP _ _ _)
 ·exact yn rfl (VP _ _ _)
 ·exact zoc
theorem zeD(s:PC)(n i:Bool)(h:s.st≠0):(s.cycle n i).2.ft=false:=by
 rw [vX];show ((s.pins n).turn i).2.ft=false;unfold PC.turn;rw [if_neg (show (s.pins n).st≠0 from h)];exact yn (Qo _) (yn rfl (yn rfl (zhG _ _)))
structure SI (S:SB) (N:Int):Prop where
 tr:∃n,TrI S.pc n
 c0:0<=S.pc.cyc
 c1:S.pc.cyc<=N
 rr:∀i,0<=(S.rc.ring i).addr/\(S.rc.ring i).addr<65536/\0<=(S.rc.ring i).data/\(S.rc.ring i).data<256
theorem SI.mono{S:SB}{N M:Int}(h:SI S N)(e:N<=M):SI S M:=⟨h.tr,h.c0,by have:=h.c1;omega,h.rr⟩
theorem SI.wf{S:SB}{N:Int}(h:SI S N):S.pc.st=1->S.pc.md≠0:=by
 intro h1;obtain ⟨n,h⟩:=h.tr;cases h with
 |mid m _ hm m1=>rw [hm];omega
 |idle h _ _=>omega
 |two h _=>omega
 |three h _=>omega
 |four h _=>omega
 |jam h=>omega
inductive Left (s:PC):Nat->Prop
 |idle:s.st=0->Left s 9
 |mid (n:Nat):s.st≠0->n<=7->TrI s n->Left s (8-n)
theorem SI.left{S:SB}{N:Int}(h:SI S N):∃k,Left S.pc k/\k<=9:=by
 obtain ⟨n,h⟩:=h.tr;by_cases e:S.pc.st=0
 ·exact ⟨9,.idle e,by omega⟩
 ·cases h with
  |idle h _ _=>exact absurd h e
  |mid m a b c d f g=>
   have hl:vQ m<=6:=by
    have q:∀m:Fin 23,vQ m.1<=6:=by decide
    exact q ⟨m,by omega⟩
   exact ⟨8-n,.mid n e zza (.mid m a b c d f g),by omega⟩
  |two a b=>exact ⟨8-n,.mid n e zza (.two a b),by omega⟩
  |three a b=>exact ⟨8-n,.mid n e zza (.three a b),by omega⟩
  |four a b=>exact ⟨8-n,.mid n e zza (.four a b),by omega⟩
  |jam a=>exact ⟨8,.mid 0 e zza (.jam a),by omega⟩
theorem Qp(S:SB):∃M,S.settle.pc={S.pc with mem:=M}:=by
 unfold SB.settle;split
 ·exact ⟨_,rfl⟩
 ·exact ⟨S.pc.mem,rfl⟩
theorem Qq(S:SB):S.settle.rc=S.rc:=by
 unfold SB.settle;split<;>rfl
theorem rgp{w:World}{B:Nat}{s:PC}{S:SB}(h:CAt w B s)(hS:SV S s):RgP S.pc:=by
 have q:RgP s:=⟨h.rpc,h.rad,h.rhop,h.rs,h.rx⟩;rw [hS.core] at q;exact ⟨q.pc,q.ad,q.hop,q.sp,q.x⟩
theorem zbh{w w':World}{B:Nat}{s s':PC}{S:SB}{N:Int}(h:CAt w B s)(hS:SV S s)(hI:SI S N)(h5:S.pc.st≠5)(hN:N<4611686018427387904)(h':CAt w' B s')(hS':SV S.cyc1.1 s'):SI S.cyc1.1 (N+1)/\0<=S.cyc1.2.addr/\S.cyc1.2.addr<65536/\(∀k,Left S.pc k->∃k',Left S.cyc1.1.pc k'/\k'<=9/\(S.cyc1.1.pc.betw=true\/k'+1<=k)):=by
 obtain ⟨M,hM⟩:=Qp S.ran.1;have hpc:S.cyc1.1.pc=({(S.pc.cycle S.nmi S.irq).1 with mem:=M}:PC):=hM;obtain ⟨n,I⟩:=hI.tr;have Z:=Kx S.pc n S.nmi S.irq (rgp h hS) I h5;have hc0:=hI.c0;have hc1:=hI.c1;have ec:S.cyc1.1.pc.cyc=S.pc.cyc+1:=by
  rw [hpc];show (S.pc.cycle S.nmi S.irq).1.cyc=_;rw [Z.cyc,IntKind.wrap_i64];omega
 have tr1:∀m,TrI (S.pc.cycle S.nmi S.irq).1 m->TrI S.cyc1.1.pc m:=fun m t=>by rw [hpc];exact t.like rfl rfl rfl rfl rfl
 have hpc0:=h.rpc;have hp0:=h.rp;have hcn:=h.rcnt;have hme:=h.rmem;have hda:0<=(S.pc.cycle S.nmi S.irq).1.data/\(S.pc.cycle S.nmi S.irq).1.data<256:=by
  have q:=h'.rdata;rw [hS'.core] at q;have q2:0<=S.cyc1.1.pc.data/\S.cyc1.1.pc.data<256:=q;rw [hpc] at q2;exact q2
 rw [hS.core] at hpc0 hp0 hcn hme;have bb:=zdy S.pc S.nmi S.irq hpc0.1 hpc0.2 hp0 hcn hme hda Z.lo Z.hi;refine ⟨⟨⟨_,tr1 _ Z.nx⟩,by omega,by omega,fun i=>?_⟩,Z.lo,Z.hi,fun k hk=>?_⟩
 ·have erc:S.cyc1.1.rc=if S.re=true then S.rc.put (S.pc.cycle S.nmi S.irq).2 else S.rc:=Qq S.ran.1
  rw [erc];split
  ·unfold Rcs.put;simp only [];split
   ·exact ⟨Z.lo,Z.hi,bb.1,bb.2⟩
   ·exact hI.rr i
  ·exact hI.rr i
 ·have st1:S.cyc1.1.pc.st=(S.pc.cycle S.nmi S.irq).1.st:=by rw [hpc]
  by_cases e0:S.cyc1.1.pc.st=0
  ·exact ⟨9,.idle e0,by omega,.inl (by unfold PC.betw;rw [e0];rfl)⟩
  ·cases hk with
   |idle h0=>
    have nx:=Z.nx;by_cases hf:(S.pc.cycle S.nmi S.irq).2.ft=true
    ·rw [if_pos hf] at nx;exact ⟨8,.mid 0 e0 zza (tr1 _ nx),by omega,.inr zza⟩
    ·rw [if_neg hf] at nx;have n7:n+1<=7:=by rcases Z.n7 with q|q;exact q;exact absurd q hf
     exact ⟨8-(n+1),.mid (n+1) e0 n7 (tr1 _ nx),by omega,.inr zza⟩
   |mid m h0 h7 I2=>
    have Z2:=Kx S.pc m S.nmi S.irq (rgp h hS) I2 h5;have hf:=zeD S.pc S.nmi S.irq h0;have nx:=Z2.nx;rw [hf,if_neg zzb] at nx;have n7:m+1<=7:=by rcases Z2.n7 with q|q;exact q;rw [hf] at q;cases q
    exact ⟨8-(m+1),.mid (m+1) e0 n7 (tr1 _ nx),by omega,.inr zza⟩
def SB.go:Nat->SB->Int->Bool->Int->SB × List UInt8
 |0,S,_,_,c=>(S,xD 0 c)
 |f+1,S,l,wh,c=>match S.look l c with
  |some why=>(S,xD why c)
  |none=>if S.cyc1.1.wp.has S.cyc1.2.addr=true then (S.cyc1.1,xD 2 (c+1)) else
    SB.go f S.cyc1.1 (if wh=false\/S.cyc1.1.pc.betw=true then l-1 else l) wh (c+1)
theorem zeE(f:Nat)(S:SB)(l:Int)(wh:Bool)(c:Int):(S.go f l wh c).2.length=8:=by
 induction f generalizing S l c with
 |zero=>exact YN _ _
 |succ f ih=>
  unfold SB.go;split
  ·exact YN _ _
  ·split
   ·exact YN _ _
   ·exact ih _ _ _
end
section
theorem zk2{S:SB}{l c:Int}{wh:Bool}{f:Nat}{why:Nat}(hf:0<f)(h:S.look l c=some why):S.go f l wh c=(S,xD why c):=by
 obtain ⟨k,rfl⟩:∃k,f=k+1:=⟨f-1,by omega⟩
 unfold SB.go;rw [h]
theorem zeF{S:SB}{l c:Int}{wh:Bool}{f:Nat}(hf:0<f)(h:S.look l c=none)(hw:S.cyc1.1.wp.has S.cyc1.2.addr=true):S.go f l wh c=(S.cyc1.1,xD 2 (c+1)):=by
 obtain ⟨k,rfl⟩:∃k,f=k+1:=⟨f-1,by omega⟩
 unfold SB.go;rw [h];simp only [hw,if_true]
theorem zhH{S:SB}{l c:Int}{wh:Bool}{f:Nat}(h:S.look l c=none)(hw:S.cyc1.1.wp.has S.cyc1.2.addr=false):S.go (f+1) l wh c=S.cyc1.1.go f (if wh=false\/S.cyc1.1.pc.betw=true then l-1 else l) wh (c+1):=by
 rw [SB.go,h];simp only [hw,Bool.false_eq_true,if_false]
theorem zeG{S:SB}{l c:Int}{why:Nat}(h:S.look l c=some why):why<5:=by
 unfold SB.look at h;split at h
 ·injection h with h;omega
 ·split at h
  ·injection h with h;omega
  ·split at h
   ·injection h with h;omega
   ·split at h
    ·injection h with h;omega
    ·cases h
theorem Qr{S:SB}{l c:Int}(h:S.look l c=none):l≠0/\S.pc.st≠5/\¬(S.re=true/\S.rc.n=64):=by
 unfold SB.look at h;split at h
 ·cases h
 ·rename_i h0;split at h
  ·cases h
  ·split at h
   ·cases h
   ·rename_i h5;split at h
    ·cases h
    ·rename_i h6;exact ⟨h0,h5,h6⟩
theorem zU(w:World)(n:Nat)(p:Addr):(w.drewN n).cell? p=w.cell? p:=by
 induction n with
 |zero=>rfl
 |succ n ih=>exact ih
theorem qE(w:World)(n:Nat)(p:Addr):(w.drewN n).frozen? p=w.frozen? p:=by
 induction n with
 |zero=>rfl
 |succ n ih=>exact ih
theorem x8(w:World)(n:Nat):(w.drewN n).heap.size=w.heap.size:=by
 induction n with
 |zero=>rfl
 |succ n ih=>exact ih
theorem zk3{w:World}{J:Nat}{l c l2 c2:Int}{wh:Bool}(o:Obj)(h0:w.cell? (Aq J 0)=some (Iq l))(h1:w.cell? (Aq J 1)=some (Tq wh))(h2:w.cell? (Aq J 2)=some (Iq c))(hf:∀o,w.frozen? (Aq J o)=false)(hJ:J<w.heap.size):(((w.setCell (Aq J 2) (Iq c2)).alloc o).cell? (Aq J 0)=some (Iq l)/\((w.setCell (Aq J 2) (Iq c2)).alloc o).cell? (Aq J 1)=some (Tq wh)/\((w.setCell (Aq J 2) (Iq c2)).alloc o).cell? (Aq J 2)=some (Iq c2)/\∀k,((w.setCell (Aq J 2) (Iq c2)).alloc o).frozen? (Aq J k)=false)/\
  ((((w.setCell (Aq J 2) (Iq c2)).setCell (Aq J 0) (Iq l2)).alloc o).cell? (Aq J 0)=some (Iq l2)/\(((w.setCell (Aq J 2) (Iq c2)).setCell (Aq J 0) (Iq l2)).alloc o).cell? (Aq J 1)=some (Tq wh)/\(((w.setCell (Aq J 2) (Iq c2)).setCell (Aq J 0) (Iq l2)).alloc o).cell? (Aq J 2)=some (Iq c2)/\∀k,(((w.setCell (Aq J 2) (Iq c2)).setCell (Aq J 0) (Iq l2)).alloc o).frozen? (Aq J k)=false):=by
 have al:∀ (w:World) (k:Nat),J<w.heap.size->(w.alloc o).cell? (Aq J k)=w.cell? (Aq J k):=fun w k hw=>World.cell?_of_block (a:=(Aq J k)) (Below.heap_alloc _ _ _ hw)
 have af:∀ (w:World) (k:Nat),J<w.heap.size->(w.alloc o).frozen? (Aq J k)=w.frozen? (Aq J k):=fun w k hw=>World.frozen?_of_block (a:=(Aq J k)) (Below.heap_alloc _ _ _ hw)
 have o1:∀ (w:World) (i k:Nat) (v:Value),i≠k->(w.setCell (Aq J i) v).cell? (Aq J k)=w.cell? (Aq J k):=fun w i k v h=>World.cell?_setCell_other _ _ _ _ (qI _ _ _ h)
 refine ⟨⟨?_,?_,?_,fun k=>?_⟩,?_,?_,?_,fun k=>?_⟩
 ·rw [al _ _ (by simpa using hJ),o1 _ _ _ _ zzb];exact h0
 ·rw [al _ _ (by simpa using hJ),o1 _ _ _ _ zzb];exact h1
 ·rw [al _ _ (by simpa using hJ)];exact World.cell?_setCell_same _ _ _ h2
 ·rw [af _ _ (by simpa using hJ),World.frozen?_setCell];exact hf k
 ·rw [al _ _ (by simpa using hJ)];exact World.cell?_setCell_same _ _ _ ((o1 _ _ _ _ zzb).trans h0)
 ·rw [al _ _ (by simpa using hJ),o1 _ _ _ _ zzb,o1 _ _ _ _ zzb];exact h1
 ·rw [al _ _ (by simpa using hJ),o1 _ _ _ _ zzb];exact World.cell?_setCell_same _ _ _ h2
 ·rw [af _ _ (by simpa using hJ),World.frozen?_setCell,World.frozen?_setCell];exact hf k
structure GoW (w0:World) (B J F:Nat) (N:Int) (wh:Bool) (Gv:SB × List UInt8) (W:World) (S:SB) (s:PC) (l c:Int) (f:Nat):Prop where
 t:Tn B s w0 W
 v:SV S s
 i:SI S (N+c)
 l0:0<=l
 l1:l<=65535
 c0:0<=c
 cf:c+f<=F
 lf:∃k,Left S.pc k/\10*l.toNat+k<=f
 g:S.go f l wh c=Gv
 j0:W.cell? (Aq J 0)=some (Iq l)
 j1:W.cell? (Aq J 1)=some (Tq wh)
 j2:W.cell? (Aq J 2)=some (Iq c)
 jf:∀o,W.frozen? (Aq J o)=false
 jl:J<W.heap.size
theorem GoW.pos{w0:World}{B J F:Nat}{N:Int}{wh:Bool}{Gv:SB × List UInt8}{W:World}{S:SB}{s:PC}{l c:Int}{f:Nat}(h:GoW w0 B J F N wh Gv W S s l c f):0<f:=by
 obtain ⟨k,hk,hf⟩:=h.lf;cases hk with
 |idle=>omega
 |mid n _ h7 _=>omega
theorem KT{B:Nat}{s:PC}{w0 w:World}{S:SB}{N:Int}(h:Tn B s w0 w)(hS:SV S s)(hI:SI S N)(hN0:0<=N)(hN:N<3000000000000000000)(l:Int)(l0:0<=l)(l1:l<=65535)(wh:Bool):Cq 192 #[Pq B,.agg #[Iq l,Tq wh,Iq 0]] w (Zq ⟨(S.go (10*l.toNat+9) l wh 0).2.toArray⟩) fun w'=>
   ∃s',Tn B s' w0 w'/\SV (S.go (10*l.toNat+9) l wh 0).1 s'/\SI (S.go (10*l.toNat+9) l wh 0).1 (N+1000000):=by
 obtain ⟨Gv,hG⟩:∃Gv,Gv=S.go (10*l.toNat+9) l wh 0:=⟨_,rfl⟩
 have hlt:=h.c.lt;have hsz:=h.g.size;have n0:w.heap.size≠B:=by omega
 have m0:B≠w.heap.size:=by omega
 have HW:Hid (GoW w0 B w.heap.size (10*l.toNat+9) N wh Gv (w.alloc (.cells #[Iq l,Tq wh,Iq 0] 261)) S s l 0 (10*l.toNat+9)):=by
  obtain ⟨k,hk,h9⟩:=hI.left;exact ⟨h.alloc _,hS,hI.mono zza,l0,l1,by omega,by omega,⟨k,hk,by omega⟩,hG.symm,World.cell?_alloc_at _ _ _ _ rfl,World.cell?_alloc_at _ _ _ _ rfl,World.cell?_alloc_at _ _ _ _ rfl,fun o=>World.frozen?_alloc_at _ _ _ _ rfl,by simp⟩
 rw [<-hG];have hF:((10*l.toNat+9:Nat):Int)<=655359:=by omega
 clear hG h hS hI;generalize 10*l.toNat+9=F at*;go_enter func192,ntmps192;go_wp2_with fail;go_loopw [] (fun wr=> ∃(S':SB) (s':PC) (l' c':Int) (f:Nat),GoW w0 B w.heap.size F N wh Gv wr S' s' l' c' f) (fun wr=>F-Qf (wr.cell? (Aq w.heap.size 2)));case atStart=>exact ⟨S,s,l,0,F,HW.out⟩
 case round=>
  obtain ⟨S',s',l',c',f,hg⟩:=hrel;have hpos:=hg.pos;have j0:=hg.j0;have j1:=hg.j1;have j2:=hg.j2;have hc0:=hg.c0;have hcf:=hg.cf;cases hk:S'.look l' c' with
  |some why=>
   have h5:=zeG hk;have LK:=Kg hg.t hg.v l' c' wh why true (by rw [hk];rfl) (fun e=>by cases e);have TL:=fun w=>Yj w l' c' wh why h5 hg.c0 zza
   have HE:Hid (Gv=(S',xD why c')):=by show _=_;rw [<-hg.g];exact zk2 hpos hk
   have HGW:=hid hg;clear hg hk HW;go_wp2_with fail;refine LK.mono ?_;rintro e w1 ⟨rfl,hb1⟩;have hl1:=hb1.size;have i0:=(hb1.cell (p:=(Aq w.heap.size 0)) HGW.out.jl).trans j0;have i1:=(hb1.cell (p:=(Aq w.heap.size 1)) HGW.out.jl).trans j1;have i2:=(hb1.cell (p:=(Aq w.heap.size 2)) HGW.out.jl).trans j2;have HT1:Hid (Tn B s' wr w1):=ym (Tn.refl HGW.out.t.c) hb1;clear j0 j1 j2 LK;go_wp2_with fail;refine (TL _).mono ?_;rintro e w2 ⟨rfl,hb2⟩;have HT2:Hid (Tn B s' wr w2):=ym HT1.out hb2;clear hb1 hb2 TL i0 i1 i2;go_wp2;go_ret;rw [HE.out];exact ⟨rfl,s',HGW.out.t.trans HT2.out,HGW.out.v,HGW.out.i.mono zza⟩
  |none=>
   obtain ⟨ln,h5,h6⟩:=Qr hk;have LK:=Kg hg.t hg.v l' c' wh 0 false (by rw [hk];rfl) (fun _=>rfl);have CY:=fun {a w:World} (h:Tn B s' a w)=>Xg h hg.v h5 hg.i.wf (fun e=>by have:=hg.v.rc.n64;have q:¬S'.rc.n=64:=fun q=>h6 ⟨e,q⟩;omega)
   have HGW:=hid hg;have HK:=hid hk;have jl:=hg.jl;have l1':=hg.l1;have l0':=hg.l0;clear hg hk HW h6;go_wp2_with fail;refine LK.mono ?_;rintro e w1 ⟨rfl,hb1⟩;have hl1:=hb1.size;have i0:=(hb1.cell (p:=(Aq w.heap.size 0)) jl).trans j0;have i1:=(hb1.cell (p:=(Aq w.heap.size 1)) jl).trans j1;have i2:=(hb1.cell (p:=(Aq w.heap.size 2)) jl).trans j2;have if_:∀o,w1.frozen? (Aq w.heap.size o)=false:=fun o=>(hb1.frozen (p:=(Aq w.heap.size o)) jl).trans (HGW.out.jf o)
   have HT1:Hid (Tn B s' wr w1):=ym (Tn.refl HGW.out.t.c) hb1;clear j0 j1 j2 LK hb1;go_wp2_with fail;refine (CY (Tn.refl HT1.out.c)).mono ?_;rintro e w2 ⟨rfl,s2,T2,V2⟩;obtain ⟨o1,o2,o3,o4⟩:=zbh HGW.out.t.c HGW.out.v HGW.out.i h5 zza T2.c V2;have K:=kept T2;have hl2:=T2.g.size;have g0:=(K.1 w.heap.size 0 n0 zza).trans i0;have g1:=(K.1 w.heap.size 1 n0 zza).trans i1;have g2:=(K.1 w.heap.size 2 n0 zza).trans i2;have gf:∀o,w2.frozen? (Aq w.heap.size o)=false:=fun o=>(K.2 w.heap.size o n0 zza).trans (if_ o)
   have HT2:=hid ((HGW.out.t.trans HT1.out).trans T2);have HV2:=hid V2;have HO1:=hid o1;have HO4:=hid o4;have HGO:=qH1 HGW.out.g;have HMW:=fun hw=>zeF (S:=S') (l:=l') (c:=c') (wh:=wh) hpos HK.out hw
   have HMM:=fun hw=>zhH (S:=S') (l:=l') (c:=c') (wh:=wh) (f:=f-1) HK.out hw
   rw [show f-1+1=f from by omega] at HMM;rw [HGO.out] at HMW HMM;have jz:w.heap.size≠w2.heap.size:=by omega
   have jz':w2.heap.size≠w.heap.size:=by omega
   have jl2:w.heap.size<w2.heap.size:=by omega
   have hcl:=HGW.out.cf;clear i0 i1 i2 if_ K T2 V2 CY o1 o4;have HMW2:=hid HMW;have HMM2:=hid HMM;clear HMW HMM;have hlt2:=HT2.out.c.lt;have bz:w2.heap.size≠B:=by omega
   have bz':B≠w2.heap.size:=by omega
   generalize S'.cyc1=r at*;obtain ⟨S2,ba,bd,bw,bf⟩:=r;simp only [BusI.val];cases wh
   ·go_wp2_with fail;have JS:=(zk3 (l2:=l'-1) (c2:=c'+1) (.cells #[Iq ba,Iq bd,Tq bw,Tq bf] 53) g0 g1 g2 gf jl2).2;have T4:Tn B s2 w0 (((w2.setCell (Aq w.heap.size 2) (Iq (c'+1))).setCell (Aq w.heap.size 0) (Iq (l'-1))).alloc (.cells #[Iq ba,Iq bd,Tq bw,Tq bf] 53)):=(((HT2.out.other (b:=w.heap.size) (o:=2) n0 zza).other (b:=w.heap.size) (o:=0) n0 zza).alloc _);have zb:(((w2.setCell (Aq w.heap.size 2) (Iq (c'+1))).setCell (Aq w.heap.size 0) (Iq (l'-1))).alloc (.cells #[Iq ba,Iq bd,Tq bw,Tq bf] 53)).cell? (Aq w2.heap.size 0)=some (Iq ba):=World.cell?_alloc_at _ _ _ _ zzc;have zl:w.heap.size<(((w2.setCell (Aq w.heap.size 2) (Iq (c'+1))).setCell (Aq w.heap.size 0) (Iq (l'-1))).alloc (.cells #[Iq ba,Iq bd,Tq bw,Tq bf] 53)).heap.size:=by simp;omega
    generalize (((w2.setCell (Aq w.heap.size 2) (Iq (c'+1))).setCell (Aq w.heap.size 0) (Iq (l'-1))).alloc (.cells #[Iq ba,Iq bd,Tq bw,Tq bf] 53))=W4 at*;obtain ⟨k0,k1,k2,kf⟩:=JS;have HT4:=hid T4;have PH:=fun {a w:World} (h:Tn B s2 a w)=>qd h zzb HV2.out.wp ba
    have hwr:IntKind.u16.wrap ba=ba:=by rw [IntKind.wrap_u16];have q1:0<=ba:=o2;have q2:ba<65536:=o3;omega
    clear T4 g0 g1 g2 gf;cases hh:S2.wp.has ba
    ·simp only [hh] at PH;have HGN:=hid (HMM2.out hh);clear HMW2 HMM2;go_quiet (first|(go_at_call 209;(try rw [hwr]);exact Calls.quiet_of (PH (HT4.out.drewN _))));go_wp2;go_roundw;case rel=>
      refine ⟨S2,s2,(l'-1),c'+1,f-1,⟨HT4.out.drewN nq,HV2.out,HO1.out.mono zza,by omega,by omega,by omega,by omega,?_,?_,(zU _ _ _).trans k0,(zU _ _ _).trans k1,(zU _ _ _).trans k2,fun o=>(qE _ _ _).trans (kf o),by rw [x8];exact zl⟩⟩
      ·obtain ⟨kk,hk1,hk2⟩:=HGW.out.lf;obtain ⟨k',hk3,hk4,hk5⟩:=HO4.out kk hk1;exact ⟨k',hk3,by omega⟩
      ·rw [HGN.out];rw [if_pos zzc]
     case measure=>
      rw [zU,k2,HGW.out.j2];simp only [Qf];omega
    ·simp only [hh] at PH;have HE:Hid (Gv=(S2,xD 2 (c'+1))):=HMW2.out hh;have TL:=fun w=>Yj w (l'-1) (c'+1) false 2 zzb zza zza
     clear HMW2 HMM2;go_quiet (first|(go_at_call 209;(try rw [hwr]);exact Calls.quiet_of (PH (HT4.out.drewN _))));have HT5:=hid (HT4.out.drewN nq);have k0:=(zU _ nq _).trans k0;have k1:=(zU _ nq _).trans k1;have k2:=(zU _ nq _).trans k2;generalize W4.drewN nq=W5 at*;go_wp2_with fail;refine (TL _).mono ?_;rintro e w6 ⟨rfl,hb6⟩;have HT6:=hid (ym HT5.out hb6);clear hb6 TL;go_wp2;go_ret;rw [HE.out];exact ⟨rfl,s2,HT6.out,HV2.out,HO1.out.mono zza⟩
   ·have BT:=fun {a w:World} (h:Tn B s2 a w)=>Zk h
    have eb:s2.betw=S2.pc.betw:=by rw [HV2.out.core];rfl
    simp only [eb] at BT;go_wp2_with fail;refine (BT ((HT2.out.other (b:=w.heap.size) (o:=2) n0 zza).alloc _)).mono ?_;rintro e w3 ⟨rfl,rfl⟩;cases hbt:S2.pc.betw
    ·clear BT;go_wp2_with fail;have JS:=(zk3 (l2:=l'-1) (c2:=c'+1) (.cells #[Iq ba,Iq bd,Tq bw,Tq bf] 53) g0 g1 g2 gf jl2).1;have T4:Tn B s2 w0 ((w2.setCell (Aq w.heap.size 2) (Iq (c'+1))).alloc (.cells #[Iq ba,Iq bd,Tq bw,Tq bf] 53)):=((HT2.out.other (b:=w.heap.size) (o:=2) n0 zza).alloc _);have zb:((w2.setCell (Aq w.heap.size 2) (Iq (c'+1))).alloc (.cells #[Iq ba,Iq bd,Tq bw,Tq bf] 53)).cell? (Aq w2.heap.size 0)=some (Iq ba):=World.cell?_alloc_at _ _ _ _ zzc;have zl:w.heap.size<((w2.setCell (Aq w.heap.size 2) (Iq (c'+1))).alloc (.cells #[Iq ba,Iq bd,Tq bw,Tq bf] 53)).heap.size:=by simp;omega
     generalize ((w2.setCell (Aq w.heap.size 2) (Iq (c'+1))).alloc (.cells #[Iq ba,Iq bd,Tq bw,Tq bf] 53))=W4 at*;obtain ⟨k0,k1,k2,kf⟩:=JS;have HT4:=hid T4;have PH:=fun {a w:World} (h:Tn B s2 a w)=>qd h zzb HV2.out.wp ba
     have hwr:IntKind.u16.wrap ba=ba:=by rw [IntKind.wrap_u16];have q1:0<=ba:=o2;have q2:ba<65536:=o3;omega
     clear T4 g0 g1 g2 gf;cases hh:S2.wp.has ba
     ·simp only [hh] at PH;have HGN:=hid (HMM2.out hh);clear HMW2 HMM2;go_quiet (first|(go_at_call 209;(try rw [hwr]);exact Calls.quiet_of (PH (HT4.out.drewN _))));go_wp2;go_roundw;case rel=>
       refine ⟨S2,s2,l',c'+1,f-1,⟨HT4.out.drewN nq,HV2.out,HO1.out.mono zza,by omega,by omega,by omega,by omega,?_,?_,(zU _ _ _).trans k0,(zU _ _ _).trans k1,(zU _ _ _).trans k2,fun o=>(qE _ _ _).trans (kf o),by rw [x8];exact zl⟩⟩
       ·obtain ⟨kk,hk1,hk2⟩:=HGW.out.lf;obtain ⟨k',hk3,hk4,hk5⟩:=HO4.out kk hk1;exact ⟨k',hk3,by
         rcases hk5 with q|q
         ·rw [hbt] at q;cases q
         ·omega⟩
       ·rw [HGN.out];rw [if_neg (by simp [hbt])]
      case measure=>
       rw [zU,k2,HGW.out.j2];simp only [Qf];omega
     ·simp only [hh] at PH;have HE:Hid (Gv=(S2,xD 2 (c'+1))):=HMW2.out hh;have TL:=fun w=>Yj w l' (c'+1) true 2 zzb zza zza
      clear HMW2 HMM2;go_quiet (first|(go_at_call 209;(try rw [hwr]);exact Calls.quiet_of (PH (HT4.out.drewN _))));have HT5:=hid (HT4.out.drewN nq);have k0:=(zU _ nq _).trans k0;have k1:=(zU _ nq _).trans k1;have k2:=(zU _ nq _).trans k2;generalize W4.drewN nq=W5 at*;go_wp2_with fail;refine (TL _).mono ?_;rintro e w6 ⟨rfl,hb6⟩;have HT6:=hid (ym HT5.out hb6);clear hb6 TL;go_wp2;go_ret;rw [HE.out];exact ⟨rfl,s2,HT6.out,HV2.out,HO1.out.mono zza⟩
    ·clear BT;go_wp2_with fail;have JS:=(zk3 (l2:=l'-1) (c2:=c'+1) (.cells #[Iq ba,Iq bd,Tq bw,Tq bf] 53) g0 g1 g2 gf jl2).2;have T4:Tn B s2 w0 (((w2.setCell (Aq w.heap.size 2) (Iq (c'+1))).setCell (Aq w.heap.size 0) (Iq (l'-1))).alloc (.cells #[Iq ba,Iq bd,Tq bw,Tq bf] 53)):=(((HT2.out.other (b:=w.heap.size) (o:=2) n0 zza).other (b:=w.heap.size) (o:=0) n0 zza).alloc _);have zb:(((w2.setCell (Aq w.heap.size 2) (Iq (c'+1))).setCell (Aq w.heap.size 0) (Iq (l'-1))).alloc (.cells #[Iq ba,Iq bd,Tq bw,Tq bf] 53)).cell? (Aq w2.heap.size 0)=some (Iq ba):=World.cell?_alloc_at _ _ _ _ zzc;have zl:w.heap.size<(((w2.setCell (Aq w.heap.size 2) (Iq (c'+1))).setCell (Aq w.heap.size 0) (Iq (l'-1))).alloc (.cells #[Iq ba,Iq bd,Tq bw,Tq bf] 53)).heap.size:=by simp;omega
     generalize (((w2.setCell (Aq w.heap.size 2) (Iq (c'+1))).setCell (Aq w.heap.size 0) (Iq (l'-1))).alloc (.cells #[Iq ba,Iq bd,Tq bw,Tq bf] 53))=W4 at*;obtain ⟨k0,k1,k2,kf⟩:=JS;have HT4:=hid T4;have PH:=fun {a w:World} (h:Tn B s2 a w)=>qd h zzb HV2.out.wp ba
     have hwr:IntKind.u16.wrap ba=ba:=by rw [IntKind.wrap_u16];have q1:0<=ba:=o2;have q2:ba<65536:=o3;omega
     clear T4 g0 g1 g2 gf;cases hh:S2.wp.has ba
     ·simp only [hh] at PH;have HGN:=hid (HMM2.out hh);clear HMW2 HMM2;go_quiet (first|(go_at_call 209;(try rw [hwr]);exact Calls.quiet_of (PH (HT4.out.drewN _))));go_wp2;go_roundw;case rel=>
       refine ⟨S2,s2,(l'-1),c'+1,f-1,⟨HT4.out.drewN nq,HV2.out,HO1.out.mono zza,by omega,by omega,by omega,by omega,?_,?_,(zU _ _ _).trans k0,(zU _ _ _).trans k1,(zU _ _ _).trans k2,fun o=>(qE _ _ _).trans (kf o),by rw [x8];exact zl⟩⟩
       ·obtain ⟨kk,hk1,hk2⟩:=HGW.out.lf;obtain ⟨k',hk3,hk4,hk5⟩:=HO4.out kk hk1;exact ⟨k',hk3,by omega⟩
       ·rw [HGN.out];rw [if_pos (.inr hbt)]
      case measure=>
       rw [zU,k2,HGW.out.j2];simp only [Qf];omega
     ·simp only [hh] at PH;have HE:Hid (Gv=(S2,xD 2 (c'+1))):=HMW2.out hh;have TL:=fun w=>Yj w (l'-1) (c'+1) true 2 zzb zza zza
      clear HMW2 HMM2;go_quiet (first|(go_at_call 209;(try rw [hwr]);exact Calls.quiet_of (PH (HT4.out.drewN _))));have HT5:=hid (HT4.out.drewN nq);have k0:=(zU _ nq _).trans k0;have k1:=(zU _ nq _).trans k1;have k2:=(zU _ nq _).trans k2;generalize W4.drewN nq=W5 at*;go_wp2_with fail;refine (TL _).mono ?_;rintro e w6 ⟨rfl,hb6⟩;have HT6:=hid (ym HT5.out hb6);clear hb6 TL;go_wp2;go_ret;rw [HE.out];exact ⟨rfl,s2,HT6.out,HV2.out,HO1.out.mono zza⟩
end
section
def SB.goIns(S:SB)(n:Int):SB × List UInt8:=if 4095<n then (S,eT 50) else S.go (10*n.toNat+9) n true 0
theorem zcq{B:Nat}{s:PC}{w0 w:World}{S:SB}{N:Int}(h:Tn B s w0 w)(hS:SV S s)(hI:SI S N)(hN0:0<=N)(hN:N<3000000000000000000)(n:Int)(n0:0<=n)(n1:n<=65535):Cq 193 #[Pq B,Iq n] w (Zq ⟨(S.goIns n).2.toArray⟩) fun w'=>∃s',Tn B s' w0 w'/\SV (S.goIns n).1 s'/\SI (S.goIns n).1 (N+1000000):=by
 unfold SB.goIns;by_cases hc:4095<n
 ·rw [if_pos hc];have HT:=hid h;have HS:=hid hS;have HI:=hid (hI.mono (show N<=N+1000000 by omega));clear h hS hI;go_enter func193,ntmps193;go_wp2;go_ret;exact ⟨rfl,s,HT.out,HS.out,HI.out⟩
 ·rw [if_neg hc];have GO:=KT h hS hI hN0 hN n n0 n1 true;generalize S.go (10*n.toNat+9) n true 0=G0 at*;clear h hS hI;go_enter func193,ntmps193;go_wp2_with (first|(go_at_call 192;refine GO.mono ?_;rintro e w1 ⟨rfl,H⟩;have HH:=hid H;clear H GO));go_ret;exact ⟨rfl,HH.out⟩
def xV(s:PC)(a:Int)(n:Nat):List UInt8:=(List.range n).flatMap fun (i:Nat)=>zX (s.peek (a+i)).toNat 2
theorem YV(s:PC)(a:Int)(n:Nat):xV s a (n+1)=xV s a n++zX (s.peek (a+n)).toNat 2:=by simp [xV,List.range_succ]
theorem jE(s:PC)(a:Int)(n:Nat):(xV s a n).length=2*n:=by
 induction n with
 |zero=>rfl
 |succ n ih=>rw [YV,List.length_append,ih,yz];omega
def SB.tellMem(S:SB)(a n:Int):List UInt8:=if n<1\/32<n then eT 50 else xV S.pc a n.toNat
theorem zk4{w:World}{B:Nat}{s:PC}(h:CAt w B s)(a:Int):0<=s.peek a/\s.peek a<256:=by
 unfold PC.peek;have h1:0<=a%65536:=by omega
 have h2:a%65536<65536:=by omega
 have q:=h.rmem (a%65536).toNat zza;have c:=h.rcnt;unfold PC.look;split
 ·exact c
 ·split
  ·split<;>omega
  ·exact q
theorem zpT{p:Prop} (q:p:=by
 clear h hS;go_enter func189,ntmps189;go_wp2;go_ret;exact ⟨rfl,Below.refl _ _⟩):p:=q
theorem KU{B:Nat}{s:PC}{w0 w:World}{S:SB}(h:Tn B s w0 w)(hS:SV S s)(a n:Int)(a0:0<=a)(a1:a<=65535)(n0:0<=n)(n1:n<=255):Cq 189 #[Pq B,Iq a,Iq n] w (Zq ⟨(S.tellMem a n).toArray⟩) fun w'=>Bq w w':=by
 unfold SB.tellMem;by_cases hn:n<1
 ·rw [if_pos (.inl hn)];exact zpT
 ·by_cases hn2:32<n
  ·rw [if_pos (.inr hn2)];exact zpT
  ·rw [if_neg zza];obtain ⟨m,rfl⟩:=Int.eq_ofNat_of_zero_le n0;have ep:∀x,s.peek x=S.pc.peek x:=fun x=>by rw [hS.core];rfl
   have PR:=fun x=>zk4 h.c x
   have PK:=fun {a w:World} (h:Tn B s a w) (x:Int)=>zfc h x
   simp only [ep] at PK PR;have HT:=hid h;rw [show ((m:Int)).toNat=m from rfl];have hm:m<=32:=by omega
   have hn':¬((m:Int)<1):=hn;clear h hS ep;generalize S.pc=c at*;go_enter func189,ntmps189;go_wp2_with fail;go_loopw [7,16] (fun v i wr=> ∃k:Nat,k<=m/\i=Iq k/\OwnV w.heap.size w wr v (xV c a k)) (fun _ i _=>m-(intOf i).toNat);case atStart=>exact ⟨0,by omega,rfl,⟨World.ownsRow_nil _ _ _ _,Below.refl _ _,Nat.le_refl _⟩⟩
   case round=>
    obtain ⟨k,hk,rfl,hO⟩:=hrel;by_cases hlt:k<m
    ·have HO:=hid hO;have HTk:=hid (ym HT.out hO.2.1);have pr:=PR (a+k);have HS:=hid (YV c a k);have HLn:=hid (jE c a k);clear hO;generalize xV c a k=L at*;go_wp2_with (first|(go_at_call 33;refine (PK HTk.out (a+k)).mono ?_;rintro e w1 ⟨rfl,rfl⟩)|(go_at_call 84;refine (xy _ _ _ _ 2 _ _ HO.out (by rw [HLn.out];omega) pr.1 zza zza).mono ?_;rintro e w2 ⟨v2,rfl,O2⟩;rw [<-HS.out] at O2;have HO2:=hid O2;clear O2 HO));go_roundw;case rel=>exact ⟨k+1,by omega,by go_num,HO2.out⟩
     case measure=>simp [intOf];omega
    ·have e1:k=m:=by omega
     subst e1;obtain ⟨g,cap,rfl,o1,o2,o3⟩:=hO.form (by rw [jE];omega);have hcv:=ji o1;have HF:=qH1 o2;clear hO o1 o2 o3;go_wp2;go_ret;exact ⟨rfl,HF.out⟩
def VQ(b:BusI):UInt8:=if b.ft=true then 102 else if b.wr=true then 119 else 114
def xE(b:BusI):List UInt8:=zX b.addr.toNat 4++zX b.data.toNat 2++ [VQ b]
theorem Xq(b:BusI):(xE b).length=7:=by simp [xE,yz]
end
section
def Grw(w:World)(b0:Option Nat)(w':World)(v':Value):Prop:=w.grownBy w' b0/\(v'.ownBlock=b0\/ ∀k,v'.ownBlock=some k->w.heap.size<=k)
theorem Grw.refl(w:World)(v:Value):Grw w v.ownBlock w v:=⟨UH _ _,.inl rfl⟩
theorem Grw.more{w wr w1:World}{b0:Option Nat}{u:Value}{o:Obj}{g n cap:Nat}(h:Grw w b0 wr u)(hg:(wr.alloc o).grownBy w1 u.ownBlock)(ha:u.ownBlock=some g\/g=(wr.alloc o).heap.size):Grw w b0 w1 (Sq g n cap):=by
 obtain ⟨h1,h2⟩:=h;have hs:=h1.size;refine ⟨⟨hg.os.trans h1.os,hg.tape.trans h1.tape,hg.output.trans h1.output,by have:=hg.size;simp at this;omega,fun k hk hne=>?_⟩,?_⟩
 ·have q1:w1.heap[k]?=(wr.alloc o).heap[k]?:=hg.block k zzd (fun e=>by
   rcases h2 with q|q
   ·exact hne (e.trans q)
   ·have:=q k e.symm;omega)
  rw [q1,Below.heap_alloc _ _ _ zza];exact h1.block k hk hne
 ·rcases ha with q|q
  ·rcases h2 with q2|q2
   ·left;rw [<-q2,q];rfl
   ·right;intro k e;exact q2 k (q.trans e)
  ·right;intro k e;have e2:g=k:=by injection e
   subst e2;rw [q];simp;omega
theorem Grw.cell{w w':World}{b0:Option Nat}{v:Value}(h:Grw w b0 w' v){b o:Nat}(hb:b<w.heap.size)(hne:some b≠b0):w'.cell? (Aq b o)=w.cell? (Aq b o):=World.cell?_of_block (a:=(Aq b o)) (h.1.block b hb hne)
theorem zad(base:Nat)(v:Value)(l:List UInt8)(n count:Nat)(w0 w:World)(hv:OwnV base w0 w v l)(hl:l.length<=1000)(hn:n<9223372036854775808)(hc:count<=16):Calls prog 84 #[v,Iq n,Iq count] w fun e w'=> ∃v',e=.returned v'/\OwnV base w0 w' v' (l++zX n count)/\Grw w v.ownBlock w' v':=by
 have HG0:Hid (Grw w v.ownBlock w v):=Grw.refl _ _;obtain ⟨b0,hb0⟩:∃b0,v.ownBlock=b0:=⟨_,rfl⟩
 rw [hb0] at HG0⊢;clear hb0;obtain ⟨i0,hi,hz0,hz1,hz2⟩:=info_parts xP;have HO:=qH1 hv;clear hv;go_enter func84,ntmps84;go_wp2;go_loopw [0,7] (fun t i wr=> ∃(k:Nat) (cur:List UInt8),k<=count/\i=Iq ((k:Int)-1)/\OwnV base w0 wr t cur/\cur++zX n k=l++zX n count/\cur.length<=1016-k/\Grw w b0 wr t) (fun _ i _=>(intOf i+1).toNat);case atStart=>exact ⟨count,l,Nat.le_refl _,by go_num,HO.out,rfl,by omega,HG0.out⟩
 case round=>
  obtain ⟨k,cur,hk,rfl,hO,hcur,hcl,hG⟩:=hrel;clear HO HG0;have HG:=hid hG;clear hG;obtain ⟨hown,hbel,hsz⟩:=hO;cases k with
  |zero=>
   have HF:Hid (OwnV base w0 wr u0 (l++zX n count)):=by
    have e:cur=l++zX n count:=by rw [<-hcur];simp [zX]
    subst e;exact ⟨hown,hbel,hsz⟩
   clear hown hbel hsz hcur;go_wp2;go_ret;exact ⟨_,rfl,HF.out,HG.out⟩
  |succ j=>
   have hcur':Hid ((cur++ [vA (n/2 ^ (4*j)%16)])++zX n j=l++zX n count):=by show _=_;rw [<-hcur];simp [zX]
   clear hcur;have ej:((j+1:Nat):Int)-1=(j:Int):=by omega
   rw [ej];have HD:Hid (bits .and .i64 ((n:Int)/2 ^ (4*j)) 15=((n/2 ^ (4*j)%16:Nat):Int)):=zdP n j hn;have a0:0<=bits .and .i64 ((n:Int)/2 ^ (4*j)) 15:=by rw [HD.out];omega
   have a1:bits .and .i64 ((n:Int)/2 ^ (4*j)) 15<16:=by rw [HD.out];omega
   go_wp2_with (first|(at_builtin;go_must (refine wpList_append_lies _ rfl (.tmp 14) (.tmp 21) 35 rfl base 5 i0 (Uq 0) 1 1 zx hi hz0 hz1 hz2 rfl zzb u0 cur.length (zS cur) rfl (by exact (hown.alloc _)) (Aq wr.heap.size 0) 1 1 [Uq (vA (n/2 ^ (4*j)%16)).toNat] rfl rfl (Vh _ _ _ (zdQ _ _ HD.out _) _) (xa _) zzb zze zza zzd _ rfl ?_;intro g' cap' w1 hown' hgrow hat hlt')));have HG2:=hid (HG.out.more (n:=cur.length+1) (cap:=cap') hgrow hat);have HO:=jP (m:=[vA (n/2 ^ (4*j)%16)]) hown hbel hsz hown' hgrow;clear hown hbel hsz hown' hgrow hat hlt';go_roundw;case rel=>exact ⟨j,cur++ [vA (n/2 ^ (4*j)%16)],by omega,by go_num,HO,hcur'.out,by simp;omega,HG2.out⟩
   case measure=>simp [intOf]
theorem VR(base:Nat)(v:Value)(l:List UInt8)(n:Int)(count:Nat)(w0 w:World)(hv:OwnV base w0 w v l)(hl:l.length<=1000)(h0:0<=n)(hn:n<9223372036854775808)(hc:count<=16):Calls prog 84 #[v,Iq n,Iq count] w fun e w'=> ∃v',e=.returned v'/\OwnV base w0 w' v' (l++zX n.toNat count)/\Grw w v.ownBlock w' v':=by
 obtain ⟨m,rfl⟩:=Int.eq_ofNat_of_zero_le h0;exact zad base v l m count w0 w hv hl zza hc
theorem JD(base:Nat)(v:Value)(l:List UInt8)(b:BusI)(w0 w:World)(hv:OwnV base w0 w v l)(hl:l.length<=800)(a0:0<=b.addr)(a1:b.addr<65536)(d0:0<=b.data)(d1:b.data<256):Calls prog 186 #[v,b.val] w fun e w'=> ∃v',e=.returned v'/\OwnV base w0 w' v' (l++xE b):=by
 obtain ⟨i0,hi,hz0,hz1,hz2⟩:=info_parts xP;obtain ⟨ba,bd,bw,bf⟩:=b;have hsz:=hv.2.2;have hw1:=hv.1;have HO:Hid (OwnV base w0 (w.alloc (.cells #[Iq ba,Iq bd,Tq bw,Tq bf] 53)) v l):=⟨hv.1.alloc _,hv.2.1.alloc hsz _,by simp;omega⟩;have a0:0<=ba:=a0;have a1:ba<65536:=a1;have d0:0<=bd:=d0;have d1:bd<256:=d1;unfold BusI.val;clear hv;go_enter func186,ntmps186;have hQ:some w.heap.size≠v.ownBlock:=fun e=>by have:=(hw1.lt _ e.symm).2;omega
 go_wp2_with fail;refine (VR _ _ _ _ 4 _ _ HO.out zza a0 zza zza).mono ?_;rintro e w2 ⟨v2,rfl,O2,G2⟩;have c1:w2.cell? (Aq w.heap.size 1)=some (Iq bd):=(G2.cell zzc hQ).trans (World.cell?_alloc_at _ _ _ _ rfl);have c2:w2.cell? (Aq w.heap.size 2)=some (Tq bw):=(G2.cell zzc hQ).trans (World.cell?_alloc_at _ _ _ _ rfl);have c3:w2.cell? (Aq w.heap.size 3)=some (Tq bf):=(G2.cell zzc hQ).trans (World.cell?_alloc_at _ _ _ _ rfl);have s2:w.heap.size<w2.heap.size:=by have:=G2.1.size;simp at this;omega
 have hQ2:some w.heap.size≠v2.ownBlock:=fun e=>by
  rcases G2.2 with q|q
  ·exact hQ (e.trans q)
  ·have:=q _ e.symm;simp at this;omega
 have HO2:=hid O2;clear O2 G2 HO;go_wp2_with fail;refine (VR _ _ _ _ 2 _ _ HO2.out (by simp [yz];omega) d0 zza zza).mono ?_;rintro e w3 ⟨v3,rfl,O3,G3⟩;have c2:=(G3.cell (o:=2) s2 hQ2).trans c2;have c3:=(G3.cell (o:=3) s2 hQ2).trans c3;have hl3:(l++zX ba.toNat 4++zX bd.toNat 2).length<=806:=by simp [yz];omega
 obtain ⟨L,HL⟩:∃L,Hid (l++xE ⟨ba,bd,bw,bf⟩=L++ [VQ ⟨ba,bd,bw,bf⟩])/\l++zX ba.toNat 4++zX bd.toNat 2=L:=⟨_,by show _=_;simp [xE],rfl⟩
 obtain ⟨HL,hLe⟩:=HL;rw [hLe] at O3 hl3;have HO3:=hid O3;have hs3:=O3.2.2;clear O3 G3 HO2 c1 hLe;cases bf
 ·cases bw
  ·go_wp2_with (first|(at_builtin;go_must (refine wpList_append_lies _ rfl (.tmp 25) (.tmp 26) 35 rfl base 5 i0 (Uq 0) 1 1 zx hi hz0 hz1 hz2 rfl zzb v3 L.length (zS L) rfl (by exact (HO3.out.1.alloc _)) (Aq w3.heap.size 0) 1 1 [Uq 114] rfl rfl (ye _ _ _) (xa _) zzb zze zza zzd _ rfl ?_;intro g' cap' w4 hown' hgrow hat hlt';have HF:=hid (jP (m:=[114]) HO3.out.1 HO3.out.2.1 HO3.out.2.2 hown' hgrow);clear hown' hgrow hat hlt')));go_ret;rw [HL.out];exact ⟨_,rfl,by simpa [VQ] using HF.out⟩
  ·go_wp2_with (first|(at_builtin;go_must (refine wpList_append_lies _ rfl (.tmp 22) (.tmp 23) 35 rfl base 5 i0 (Uq 0) 1 1 zx hi hz0 hz1 hz2 rfl zzb v3 L.length (zS L) rfl (by exact (HO3.out.1.alloc _)) (Aq w3.heap.size 0) 1 1 [Uq 119] rfl rfl (ye _ _ _) (xa _) zzb zze zza zzd _ rfl ?_;intro g' cap' w4 hown' hgrow hat hlt';have HF:=hid (jP (m:=[119]) HO3.out.1 HO3.out.2.1 HO3.out.2.2 hown' hgrow);clear hown' hgrow hat hlt')));go_ret;rw [HL.out];exact ⟨_,rfl,by simpa [VQ] using HF.out⟩
 ·go_wp2_with (first|(at_builtin;go_must (refine wpList_append_lies _ rfl (.tmp 16) (.tmp 17) 35 rfl base 5 i0 (Uq 0) 1 1 zx hi hz0 hz1 hz2 rfl zzb v3 L.length (zS L) rfl (by exact (HO3.out.1.alloc _)) (Aq w3.heap.size 0) 1 1 [Uq 102] rfl rfl (ye _ _ _) (xa _) zzb zze zza zzd _ rfl ?_;intro g' cap' w4 hown' hgrow hat hlt';have HF:=hid (jP (m:=[102]) HO3.out.1 HO3.out.2.1 HO3.out.2.2 hown' hgrow);clear hown' hgrow hat hlt')));go_ret;rw [HL.out];exact ⟨_,rfl,by simpa [VQ] using HF.out⟩
end
section
theorem Tn.base{w0 w w':World}{B N:Nat}{s:PC}(h:Tn B s w0 w)(hb:Below N w w')(hB:B<N)(h0:w0.heap.size<=N):Tn B s w0 w':=
 ⟨h.c.same (hb.block B hB),⟨hb.os.trans h.g.os,hb.tape.trans h.g.tape,hb.output.trans h.g.output,Nat.le_trans h.g.size hb.size,fun k hk hne=>(hb.block k zza).trans (h.g.block k hk hne)⟩⟩
theorem KV{w w':World}{base B n:Nat}{v:Value}{xs:List Value}(h:w.ownsRow base 5 1 v n xs)(g:w.grownBy w' (some B))(hB:B<base):w'.ownsRow base 5 1 v n xs:=by
 refine h.kept g ?_;cases hv:v.ownBlock with
 |none=>exact .inl rfl
 |some k=>
  refine .inr ?_;have h1:=(h.lt k hv).1;intro e;injection e with e;omega
theorem zcr{w:World}{base n:Nat}{v:Value}{l:List UInt8}(h:w.ownsRow base 5 1 v n (zS l))(hn:l.length=n):(l=[]/\v=Nq)\/ ∃g c,v=Sq g l.length c:=by
 rcases h.2 with ⟨e,e2⟩|⟨g,cap,_,e,_⟩
 ·exact .inl ⟨List.eq_nil_of_length_eq_zero zza,e⟩
 ·exact .inr ⟨g,cap,by rw [hn];exact e⟩
theorem KW{w:World}{base:Nat}{v:Value}{l:List UInt8}(h:w.ownsRow base 5 1 v l.length (zS l)):(convert 35 9 v).run prog w=.ok (Zq ⟨l.toArray⟩) w:=by
 rcases zcr h rfl with ⟨rfl,rfl⟩|⟨g,c,rfl⟩
 ·exact run_convert_bytes_nil (P:=prog) w 35 5 zx zoj 0 0 9 vj
 ·exact ji h
def Rcs.takes(r:Rcs):Nat->Rcs × List UInt8
 |0=>(r,[])
 |k+1=>((r.takes k).1.take,(r.takes k).2++xE ((r.takes k).1.ring (r.takes k).1.first))
theorem Yv(r:Rcs)(k:Nat):(r.takes k).1.n=r.n-k:=by
 induction k with
 |zero=>rfl
 |succ k ih=>show (r.takes k).1.n-1=_;omega
theorem qF(r:Rcs)(k:Nat):(r.takes k).1.ring=r.ring:=by
 induction k with
 |zero=>rfl
 |succ k ih=>exact ih
theorem Qs(r:Rcs)(k:Nat):(r.takes k).2.length=7*k:=by
 induction k with
 |zero=>rfl
 |succ k ih=>show ((r.takes k).2++_).length=_;rw [List.length_append,ih,Xq];omega
def SB.takeRecs(S:SB):SB × List UInt8:=({S with rc:=(S.rc.takes (min S.rc.n 8)).1},(S.rc.takes (min S.rc.n 8)).2)
theorem SI.takeRecs{S:SB}{N:Int}(h:SI S N):SI S.takeRecs.1 N:=⟨h.tr,h.c0,h.c1,fun i=>by show 0<=((S.rc.takes _).1.ring i).addr/\_;unfold SB.takeRecs;simp only [qF];exact h.rr i⟩
theorem zx0{p:Prop} (q:p:=by
 generalize min S.rc.n 8=m at*;go_enter func138,ntmps138;go_wp2_with fail;go_loopw [3,10] (fun v i wr=> ∃(k:Nat) (t:PC),k<=m/\i=Iq k/\Tn B t w0 wr/\SV {S with rc:=(S.rc.takes k).1} t/\w.heap.size<=wr.heap.size/\wr.ownsRow w.heap.size 5 1 v (S.rc.takes k).2.length (zS (S.rc.takes k).2)) (fun _ i _=>m-(intOf i).toNat);case atStart=>exact ⟨0,s,by omega,rfl,HT.out,HS.out,Nat.le_refl _,World.ownsRow_nil _ _ _ _⟩
 case round=>
  obtain ⟨k,t,hk,rfl,hT,hV,hs,hO⟩:=hrel;by_cases hlt1:k<m
  ·have TK:=fun {a w:World} (h:Tn B t a w)=>zaH h zzb hV.rc (by show 0<(S.rc.takes k).1.n;rw [Yv];omega)
   have HV2:Hid (SV {S with rc:=(S.rc.takes (k+1)).1} (vL t 65823 (S.rc.takes k).1)):=hV.rcs (zdN _ _ _) (zfC hV.rc (by show 0<(S.rc.takes k).1.n;rw [Yv];omega));have hl:(S.rc.takes k).2.length<=800:=by rw [Qs];omega
   have b:0<=((S.rc.takes k).1.ring (S.rc.takes k).1.first).addr/\((S.rc.takes k).1.ring (S.rc.takes k).1.first).addr<65536/\0<=((S.rc.takes k).1.ring (S.rc.takes k).1.first).data/\((S.rc.takes k).1.ring (S.rc.takes k).1.first).data<256:=by rw [qF];exact HR.out _
   have HTk:=hid hT;have HO:=hid hO;have E2:Hid ((S.rc.takes (k+1)).2=(S.rc.takes k).2++xE ((S.rc.takes k).1.ring (S.rc.takes k).1.first)):=rfl;clear hT hV hO;go_wp2_with fail;refine (TK (Tn.refl HTk.out.c)).mono ?_;rintro e w1 ⟨rfl,T1⟩;have h1:=T1.g.size;have HO1:Hid (OwnV w.heap.size w1 w1 u3 (S.rc.takes k).2):=⟨KV HO.out T1.g hlt,Below.refl _ _,by omega⟩;have HT1:=hid (HTk.out.trans T1);clear TK T1;go_wp2_with fail;refine (JD _ _ _ _ _ _ HO1.out hl b.1 b.2.1 b.2.2.1 b.2.2.2).mono ?_;rintro e w2 ⟨v2,rfl,O2⟩;rw [<-E2.out] at O2;have HO2:=hid O2;have HT2:=hid (HT1.out.base O2.2.1 hlt hsz);clear O2 HO1;go_wp2;go_roundw;case rel=>exact ⟨k+1,_,by omega,by go_num,HT2.out,HV2.out,HO2.out.2.2,HO2.out.1⟩
   case measure=>simp [intOf];omega
  ·have e1:k=m:=by omega
   subst e1;have hcv:=KW hO;have HTk:=hid hT;have HV:=hid hV;clear hO hT hV;go_wp2;go_ret;exact ⟨rfl,t,HTk.out,HV.out⟩):p:=q
theorem Ux{B:Nat}{s:PC}{w0 w:World}{S:SB}{N:Int}(h:Tn B s w0 w)(hS:SV S s)(hI:SI S N):Cq 138 #[Pq B] w (Zq ⟨(S.takeRecs).2.toArray⟩) fun w'=>∃s',Tn B s' w0 w'/\SV S.takeRecs.1 s':=by
 unfold SB.takeRecs;have hlt:=h.c.lt;have hsz:=h.g.size;have c1:w.cell? (Aq B 66080)=some (Iq (S.rc.n:Int)):=h.rest zzb hS.rc.cn;have hm8:min S.rc.n 8<=8:=Nat.min_le_right _ _;have hmn:min S.rc.n 8<=S.rc.n:=Nat.min_le_left _ _;have emin:min (S.rc.n:Int) 8=((min S.rc.n 8:Nat):Int):=by omega
 have HR:=hid hI.rr;have HT:=hid h;have HS:=hid hS;clear h hS hI;by_cases hc8:(S.rc.n:Int)<8
 ·exact zx0
 ·by_cases hc9:(8:Int)<S.rc.n
  ·exact zx0
  ·have hc10:(S.rc.n:Int)=8:=by omega
   exact zx0
end
def Pts.list(p:Pts):List Int:=(List.range p.n).map p.at_
theorem Y3(f:Nat->Int)(a:Int):∀ (c k i:Nat),qX f a k c=some i->f i=a
 |0,_,_,h=>by cases h
 |c+1,k,i,h=>by
  rw [Q6] at h;split at h
  ·next e=>injection h with h;rw [<-h];exact e.symm
  ·exact Y3 f a c (k+1) i h
theorem Je(f:Nat->Int)(a:Int):∀ (c k:Nat),qX f a k c=none->∀i,k<=i->i<k+c->f i≠a
 |0,_,_,i,h1,h2=>by omega
 |c+1,k,h,i,h1,h2=>by
  rw [Q6] at h;split at h
  ·cases h
  ·next e=>
   by_cases q:i=k
   ·rw [q];exact fun z=>e z.symm
   ·exact Je f a c (k+1) h i zza zza
theorem zfM(p:Pts)(a:Int):p.has a=true ↔ a∈p.list:=by
 unfold Pts.has Pts.find Pts.list;cases h:qX p.at_ a 0 p.n with
 |none=>
  simp only [Option.isSome_none,Bool.false_eq_true,false_iff,List.mem_map,List.mem_range,not_exists,not_and];exact fun i hi=>Je _ _ _ _ h i zza zza
 |some i=>
  simp only [Option.isSome_some,true_iff,List.mem_map,List.mem_range];exact ⟨i,by have:=jM _ _ _ _ _ h;omega,Y3 _ _ _ _ _ h⟩
structure PtL (l:List Int) (p:Pts):Prop where
 nd:l.Nodup
 pm:l.Perm p.list
theorem PtL.len{l:List Int}{p:Pts}(h:PtL l p):l.length=p.n:=by rw [h.pm.length_eq];simp [Pts.list]
theorem PtL.has{l:List Int}{p:Pts}(h:PtL l p)(a:Int):p.has a=true ↔ a∈l:=by rw [zfM];exact h.pm.mem_iff.symm
theorem PtL.no{l:List Int}{p:Pts}(h:PtL l p)(a:Int):p.has a=false ↔ a ∉ l:=by rw [<-h.has];simp
theorem PtL.add{l:List Int}{p:Pts}(h:PtL l p)(a:Int)(hn:a ∉ l):PtL (l++ [a]) ⟨fun k=>if k=p.n then a else p.at_ k,p.n+1⟩:=by
 refine ⟨?_,?_⟩
 ·rw [List.nodup_append];exact ⟨h.nd,by simp,fun x hx y hy=>by simp at hy;subst hy;exact fun e=>hn (e ▸ hx)⟩
 ·have e:Pts.list ⟨fun k=>if k=p.n then a else p.at_ k,p.n+1⟩=p.list++ [a]:=by
   unfold Pts.list;rw [List.range_succ,List.map_append];congr 1
   ·exact List.map_congr_left fun i hi=>if_neg (by have:=List.mem_range.1 hi;omega)
   ·simp
  rw [e];exact h.pm.append_right [a]
theorem PtL.remove{l:List Int}{p:Pts}(h:PtL l p)(a:Int){i:Nat}(hi:p.find a=some i)(h4:p.n<=4):PtL (l.filter (fun x=>decide (x≠a))) ⟨fun k=>if k=i then p.at_ (p.n-1) else p.at_ k,p.n-1⟩:=by
 have h1:=jM _ _ _ _ _ hi;have h2:=Y3 _ _ _ _ _ hi;have key:(a::Pts.list ⟨fun k=>if k=i then p.at_ (p.n-1) else p.at_ k,p.n-1⟩).Perm p.list:=by
  rw [<-h2];obtain ⟨f,n⟩:=p;simp only at h4 h1;unfold Pts.list;simp only;clear h h2 hi;rw [List.perm_iff_count];intro b;match n,h4,i,h1 with
  |1,_,0,_=>simp [List.range_succ,List.count_cons]
  |2,_,0,_|2,_,1,_=>simp [List.range_succ,List.count_cons];try omega
  |3,_,0,_|3,_,1,_|3,_,2,_=>simp [List.range_succ,List.count_cons];try omega
  |4,_,0,_|4,_,1,_|4,_,2,_|4,_,3,_=>simp [List.range_succ,List.count_cons];try omega
  |0,_,i,h1|n+5,h4,i,h1=>omega
  |1,_,i+1,h1|2,_,i+2,h1|3,_,i+3,h1|4,_,i+4,h1=>omega
 refine ⟨h.nd.filter _,?_⟩;have e:l.filter (fun x=>decide (x≠a))=l.erase a:=by rw [h.nd.erase_eq_filter];exact List.filter_congr fun x _=>by by_cases e:x=a<;>simp [e]
 rw [e];have:=(h.pm.trans key.symm).erase a;rwa [List.erase_cons_head] at this
def Rcs.list(r:Rcs):List BusI:=(List.range r.n).map fun i=>r.ring ((r.first+i)%64)
theorem zfN(r:Rcs)(b:BusI)(hn:r.n<64):(r.put b).list=r.list++ [b]:=by
 unfold Rcs.list Rcs.put;simp only [List.range_succ,List.map_append,List.map_cons,List.map_nil,if_true];congr 1
 exact List.map_congr_left fun i hi=>if_neg (by have:=List.mem_range.1 hi;omega)
theorem Xv(r:Rcs)(k:Nat)(hf:r.first<64):(r.takes k).1.first=(r.first+k)%64:=by
 induction k with
 |zero=>show r.first=_;omega
 |succ k ih=>show ((r.takes k).1.first+1)%64=_;omega
theorem zaL(r:Rcs)(k:Nat)(hf:r.first<64):(r.takes k).1.list=r.list.drop k:=by
 unfold Rcs.list;rw [Yv,Xv r k hf,qF];apply List.ext_getElem
 ·simp
 ·intro i h1 h2;simp only [List.getElem_map,List.getElem_range,List.getElem_drop];congr 1
  omega
theorem zaM(r:Rcs)(k:Nat)(hf:r.first<64)(hk:k<=r.n):(r.takes k).2=(r.list.take k).flatMap xE:=by
 induction k with
 |zero=>rfl
 |succ k ih=>
  show (r.takes k).2++xE _=_;rw [ih zza,qF,Xv r k hf,List.take_succ_eq_append_getElem (by simp [Rcs.list];omega),List.flatMap_append];simp [Rcs.list]
def Pat.bytes(p:Pat):List Int:=(List.range p.n).map p.b
theorem zaN(m:Nat->Int)(p:Pat)(k:Nat)(hk:k<=p.n):lay m p.at_ p.bytes k=ZV m p k:=by
 induction k with
 |zero=>rfl
 |succ k ih=>
  rw [KN,lay,ih zza];congr 1
  simp [Pat.bytes,List.getD_eq_getElem?_getD,show k<p.n by omega]
theorem QW(m:Nat->Int)(p:Pat):lay m p.at_ p.bytes p.bytes.length=zeq m p:=by
 rw [show p.bytes.length=p.n by simp [Pat.bytes]];exact zaN m p p.n (Nat.le_refl _)
theorem zgS{l:List Int}{x:Int}(h:x ∉ l):fil l x=l:=List.filter_eq_self.2 fun y hy=>by simpa using fun e:y=x=>h (e ▸ hy)
theorem Ys{base base' te size n:Nat}{w:World}{v:Value}{xs:List Value}(h:w.ownsRow base te size v n xs)(hb:base'<=base):w.ownsRow base' te size v n xs:=by
 refine ⟨h.1,?_⟩;rcases h.2 with h|⟨g,cap,cur,e,hbg,r⟩
 ·exact .inl h
 ·exact .inr ⟨g,cap,cur,e,by omega,r⟩
theorem zoL{base te size n:Nat}{w:World}{v:Value}{xs:List Value}(h:w.ownsRow base te size v n xs):∀g,v.ownBlock=some g->base<=g:=fun g e=>(h.lt g e).1
def zeg(base:Nat)(w:World)(v:Value)(R:Pts × List UInt8)(e:Ending)(w':World):Prop:=
 ∃v' l',e=.returned (.tuple #[v',Zq ⟨R.2.toArray⟩])/\Bq w w'/\w'.ownsRow base 3 1 v' l'.length (xY l')/\PtL l' R.1/\(v'=v\/ ∀g,v'.ownBlock=some g->w.heap.size<=g)
theorem Ur(base:Nat)(l:List Int)(P:Pts)(hP:PtL l P)(h4:P.n<=4)(v:Value)(x:Int)(comes:Bool)(w:World)(hv:w.ownsRow base 3 1 v l.length (xY l))(hb:base<=w.heap.size):Calls prog 165 #[v,Iq x,Tq comes] w (zeg base w v (if comes=true then P.add x else P.remove x)):=by
 obtain ⟨i0,hi,hz0,hz1,hz2⟩:=info_parts zdZ;obtain ⟨a,c,rfl,ha⟩:=yG hv;have HV:=qH2 hv hP;have hI:=Zg hv rfl;have hlen:l.length<=4:=by rw [hP.len];exact h4
 have np:∀y,a=some y->y.block<w.heap.size:=fun y e=>(hv.lt _ (ha y e).1).2
 have RA:=rat l a c x w zza hI;have RW:=zd3 l a c x w zza hI np;have hl4:(l.length:Int)<=4:=by omega
 clear hI np ha hv;cases comes
 ·simp only [Bool.false_eq_true,if_false];by_cases hm:x∈l
  ·obtain ⟨i,hf⟩:∃i,P.find x=some i:=Option.isSome_iff_exists.1 ((hP.has x).2 hm)
   have HR:Hid ((P.remove x).2=[79,75]/\PtL (fil l x) (P.remove x).1):=by
    have e:P.remove x=(⟨fun k=>if k=i then P.at_ (P.n-1) else P.at_ k,P.n-1⟩,okT):=by unfold Pts.remove;rw [hf]
    rw [e];exact ⟨rfl,hP.remove x hf h4⟩
   generalize P.remove x=R at*;clear hP hf;go_enter func165,ntmps165;go_wp2_with (first|(go_at_call 202;refine RA.mono ?_;rintro e w1 ⟨⟨k,rfl,hk⟩,hw⟩;subst w1;have hk0:decide (0<=k)=true:=decide_eq_true (hk.2 hm);clear hk)|(go_at_call 203;refine RW.mono ?_;rintro e w1 ⟨v,rfl,hb1,hs1,ho1⟩;have HO:Hid (zeg base w (.slice a l.length c) R (.returned (.tuple #[v,Zq ⟨#[79,75]⟩])) w1):=⟨v,_,by rw [HR.out.1],hb1,Ys ho1 hb,HR.out.2,.inr (zoL ho1)⟩;clear ho1 hb1));go_ret2;exact HO.out
  ·have HR:Hid (P.remove x=(P,[69,53])):=by
    show _=_;unfold Pts.remove;have:=(hP.no x).2 hm;unfold Pts.has at this;rw [Option.isSome_eq_false_iff,Option.isNone_iff_eq_none] at this;rw [this];rfl
   generalize P.remove x=R at*;clear hP;go_enter func165,ntmps165;go_wp2_with (first|(go_at_call 202;refine RA.mono ?_;rintro e w1 ⟨⟨k,rfl,hk⟩,hw⟩;subst w1;have hk0:decide (0<=k)=false:=decide_eq_false (fun q=>hm (hk.1 q));clear hk));go_ret2;exact ⟨_,l,by rw [HR.out];rfl,Below.refl _ _,HV.out.1,by rw [HR.out];exact HV.out.2,.inl rfl⟩
 ·simp only [if_true];by_cases hm:x∈l
  ·have HR:Hid (P.add x=(P,[79,75])):=by show _=_;unfold Pts.add;rw [if_pos ((hP.has x).2 hm)];rfl
   generalize P.add x=R at*;clear hP;go_enter func165,ntmps165;go_wp2_with (first|(go_at_call 202;refine RA.mono ?_;rintro e w1 ⟨⟨k,rfl,hk⟩,hw⟩;subst w1;have hk0:decide (0<=k)=true:=decide_eq_true (hk.2 hm);clear hk));go_ret2;exact ⟨_,l,by rw [HR.out];rfl,Below.refl _ _,HV.out.1,by rw [HR.out];exact HV.out.2,.inl rfl⟩
  ·by_cases h44:l.length=4
   ·have h44':(l.length:Int)=4:=by omega
    have HR:Hid (P.add x=(P,[69,52])):=by show _=_;unfold Pts.add;rw [if_neg (by rw [(hP.no x).2 hm];simp),if_pos (by rw [<-hP.len];exact h44)];rfl
    generalize P.add x=R at*;clear hP h44;go_enter func165,ntmps165;go_wp2_with (first|(go_at_call 202;refine RA.mono ?_;rintro e w1 ⟨⟨k,rfl,hk⟩,hw⟩;subst w1;have hk0:decide (0<=k)=false:=decide_eq_false (fun q=>hm (hk.1 q));clear hk));go_ret2;exact ⟨_,l,by rw [HR.out];rfl,Below.refl _ _,HV.out.1,by rw [HR.out];exact HV.out.2,.inl rfl⟩
   ·have HR:Hid ((P.add x).2=[79,75]/\PtL (l++ [x]) (P.add x).1):=by
     have e:P.add x=(⟨fun k=>if k=P.n then x else P.at_ k,P.n+1⟩,okT):=by unfold Pts.add;rw [if_neg (by rw [(hP.no x).2 hm];simp),if_neg (by rw [<-hP.len];exact h44)]
     rw [e];exact ⟨rfl,hP.add x hm⟩
    generalize P.add x=R at*;have h44':¬4<=(l.length:Int):=by omega
    rw [zgS hm] at RW;clear hP h44;go_enter func165,ntmps165;go_wp2_with (first|(go_at_call 202;refine RA.mono ?_;rintro e w1 ⟨⟨k,rfl,hk⟩,hw⟩;subst w1;have hk0:decide (0<=k)=false:=decide_eq_false (fun q=>hm (hk.1 q));clear hk)|(go_at_call 203;refine RW.mono ?_;rintro e w1 ⟨v,rfl,hb1,hs1,ho1⟩)|(at_builtin;go_must (refine wpList_append_lies _ rfl (.tmp 31) (.tmp 33) 30 rfl w.heap.size 3 i0 (Iq 0) 1 8 zd0 hi hz0 hz1 hz2 rfl zzb v l.length (xY l) rfl (by exact (ho1.alloc _)) (Aq w1.heap.size 0) 1 1 [Iq x] rfl rfl (ye _ _ _) (zd1 _) zzb zze zza zzd _ rfl ?_;intro g' cap' w2 hown' hgrow hat hlt';have HO:Hid (zeg base w (.slice a l.length c) R (.returned (.tuple #[Sq g' (l.length+1) cap',Zq ⟨#[79,75]⟩])) w2):=⟨_,l++ [x],by rw [HR.out.1],(Vm ho1 hb1 hs1 hgrow).1,by rw [List.length_append,show xY (l++ [x])=xY l++ [Iq x] from by simp [xY]];exact Ys hown' hb,HR.out.2,.inr (zoL hown')⟩;clear ho1 hb1 hs1 hown' hgrow hat hlt')));go_ret2;exact HO.out
section
theorem ChV.mono{N M:Nat}{w:World}{v:Value}{bs:List UInt8}(h:ChV N w v bs)(hm:N<=M):ChV M w v bs:=by
 obtain ⟨p,cap,e,H⟩:=h;exact ⟨p,cap,e,fun hn=>by obtain ⟨b,off,e2,hb,hB⟩:=H hn;exact ⟨b,off,e2,by omega,hB⟩⟩
theorem ChV.below{N:Nat}{w w':World}{v:Value}{bs:List UInt8}(h:ChV N w v bs)(g:Bq w w'):ChV N w' v bs:=h.kept fun b o _ hc=>g.cell (p:=(Aq b o)) (yc hc)
theorem ChV.none(N:Nat)(w:World):ChV N w (Nq) []:=⟨_,_,rfl,fun h=>absurd rfl h⟩
end
section
theorem CAt.beside{w w':World}{B C:Nat}{s:PC}(h:CAt w B s)(g:w.grownBy w' (some C))(hne:B≠C):CAt w' B s:=h.same (g.block B h.lt (by intro e;injection e with e;exact hne e))
theorem CAt.bel{w w':World}{B:Nat}{s:PC}(h:CAt w B s)(g:Bq w w'):CAt w' B s:=h.same (g.block B h.lt)
end
section
theorem CAt.bare{w:World}{B:Nat}{s:PC}(h:CAt w B s)(R:Nat->Option Value)(e:∀o,65562<=o->s.rest o=R o):CAt w B {s with rest:=R}:=
 {h with crest:=fun o ho=>(h.crest o ho).trans (e o ho)}
def zgJ(bs:List UInt8)(v1 v2:Value):List Chn:=[⟨1024,v1,bs⟩,⟨65530,v2,[128,4,0,4,192,4]⟩]
def zmp(bs:List UInt8):PC:=.fresh 250 (zgJ bs (Nq) (Nq)) fun _=>none
theorem zgK(bs:List UInt8):TrI (zmp bs) 0/\(zmp bs).rom=64000:=⟨.idle rfl rfl zzb,rfl⟩
theorem ChV.take{N:Nat}{w:World}{p:Option Addr}{cap:Nat}{bs:List UInt8}(h:ChV N w (.slice p bs.length cap) bs)(hl:200<=bs.length)(cap':Nat):ChV N w (.slice p 200 cap') (bs.take 200):=by
 obtain ⟨p',c',e,H⟩:=h;injection e with e1 e2 e3;subst e1;refine ⟨p,cap',by rw [List.length_take,Nat.min_eq_left hl],fun _=>?_⟩;obtain ⟨b,off,e4,hb,hB⟩:=H (by intro e;rw [e] at hl;exact absurd hl zzb);refine ⟨b,off,e4,hb,fun i hi=>?_⟩;rw [List.length_take] at hi;rw [List.getElem_take];exact hB i zza
end
section
end
