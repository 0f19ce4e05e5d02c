import Derived.Deep.QuietTactic
import Derived.BigQuiet
import Derived.Deep.Upon
import Derived.Deep.AppendSrc
import Derived.Deep.RegionLaw
import Derived.Deep.Cut
import Derived.Test.YtcgjliflnnklnaaGreatJ24
import Derived.Test.YtcgjliflnnklnaaGreatJ19
import Derived.Test.YtcgjliflnnklnaaGreatJ22
import Derived.Test.YtcgjliflnnklnaaGreatJ23
import Derived.Test.YtcgjliflnnklnaaGreatJ18
namespace Go.Proofs.YtcgjliflnnklnaaGreat
open Go.RowKit Tryz
set_option maxRecDepth 100000
set_option maxHeartbeats 4000000
theorem zak(n:Nat)(w:World)(hn:n<=4611686018427387904):Cq 97 #[Iq n,Iq 2] w (Zq ⟨(zX n 2).toArray⟩) fun w'=>w'=w:=Yy n 2 w hn zzb
theorem zne(n:Nat)(w:World)(hn:n<=4611686018427387904):Cq 97 #[Iq n,Iq 4] w (Zq ⟨(zX n 4).toArray⟩) fun w'=>w'=w:=Yy n 4 w hn zzb
theorem dig8(n:Nat)(w:World)(hn:n<=4611686018427387904):Cq 97 #[Iq n,Iq 8] w (Zq ⟨(zX n 8).toArray⟩) fun w'=>w'=w:=Yy n 8 w hn zzb
def zeT(a x y s p pc cyc:Nat):List UInt8:=zX a 2++zX x 2++zX y 2++zX s 2++zX p 2++zX pc 4++zX cyc 8
theorem qG{x:Int}{n:Int}(h:0<=x/\x<n):∃k:Nat,x=(k:Int)/\(k:Int)<n:=⟨x.toNat,by omega,by omega⟩
theorem zld{w:World}{base:Nat}{tag:Nat->Nat}{f:DF}{S:SB}(h:DS w base tag f S)(rn:Rn S.pc)(c0:0<=S.pc.cyc)(c1:S.pc.cyc<=4611686018427387904):Cq 161 #[Pq f.Q] w (Zq ⟨(xF S.pc).toArray⟩) fun w'=>Bq w w':=by
 have q0:w.cell? (Aq f.Q 0)=some (Pq f.R):=h.blk.cell 0;obtain ⟨t,h0,hv,al,hj⟩:=h.mch;have rg:=al.rg rn;have hc:=al.cyc;obtain ⟨a,ea,la⟩:=qG rg.A;obtain ⟨x,ex,lx⟩:=qG rg.X;obtain ⟨y,ey,ly⟩:=qG rg.Y;obtain ⟨s,es,ls⟩:=qG rg.S;obtain ⟨p,ep,lp⟩:=qG rg.P;obtain ⟨pc,epc,lpc⟩:=qG rg.PC;obtain ⟨cy,ecy⟩:∃k:Nat,S.pc.cyc=(k:Int):=⟨S.pc.cyc.toNat,by omega⟩
 have HT:Hid (xF S.pc=zeT a x y s p pc cy):=by
  show _=_;have b:=al.way.beh;unfold xF xd zeT;rw [b.a,b.x,b.y,b.sp,b.p,b.pc,ea,ex,ey,es,ep,epc,ecy];simp
 rw [HT.out];have c2:w.cell? (Aq f.R 2)=some (Iq a):=by rw [<-ea];exact h0.c 2 zzb
 have c3:w.cell? (Aq f.R 3)=some (Iq x):=by rw [<-ex];exact h0.c 3 zzb
 have c4:w.cell? (Aq f.R 4)=some (Iq y):=by rw [<-ey];exact h0.c 4 zzb
 have c5:w.cell? (Aq f.R 5)=some (Iq s):=by rw [<-es];exact h0.c 5 zzb
 have c6:w.cell? (Aq f.R 6)=some (Iq p):=by rw [<-ep];exact h0.c 6 zzb
 have c7:w.cell? (Aq f.R 7)=some (Iq pc):=by rw [<-epc];exact h0.c 7 zzb
 have c8:w.cell? (Aq f.R 8)=some (Iq cy):=by rw [<-ecy,hc];exact h0.c 8 zzb
 have c9:w.cell? (Aq f.R 9)=some (Tq t.r.jam):=h0.c 9 zzb;have D2a:=fun w=>zak a w zza
 have D2x:=fun w=>zak x w zza
 have D2y:=fun w=>zak y w zza
 have D2s:=fun w=>zak s w zza
 have D2p:=fun w=>zak p w zza
 have D4:=fun w=>zne pc w zza
 have D8:=fun w=>dig8 cy w zza
 have l1:=yz a 2;have l2:=yz x 2;have l3:=yz y 2;have l4:=yz s 2;have l5:=yz p 2;have l6:=yz pc 4;have l7:=yz cy 8;have lR:=h0.lt;unfold zeT;generalize zX a 2=ta at*;generalize zX x 2=tx at*;generalize zX y 2=ty at*;generalize zX s 2=ts at*;generalize zX p 2=tp at*;generalize zX pc 4=tpc at*;generalize zX cy 8=tcy at*;clear h h0 hv al hj rg hc HT ea ex ey es ep epc ecy c0 c1 rn la lx ly ls lp lpc;go_enter func161,ntmps161;go_wp2_with fail;go_quiet (first|(go_at_call 97;first|with_reducible exact Calls.quiet_of_same (D2a _)|with_reducible exact Calls.quiet_of_same (D2x _)|with_reducible exact Calls.quiet_of_same (D2y _)|with_reducible exact Calls.quiet_of_same (D2s _)|with_reducible exact Calls.quiet_of_same (D2p _)|with_reducible exact Calls.quiet_of_same (D4 _)|with_reducible exact Calls.quiet_of_same (D8 _)));go_wp2;go_ret;exact ⟨by simp only [xh];rfl,below_drewN qBa _⟩
theorem znf{w:World}{base R M:Nat}{vh:Value}{s:PC}(h:Mch w base R M vh s)(b:Int):Cq 67 #[Pq R,Iq b] w (Iq (s.peek b)) fun w'=>w'=w:=by
 obtain ⟨t,h0,_,al,_⟩:=h;rw [zaQ al];exact zkc (TM.refl h0) b
theorem zh3{s:PC}(rn:Rn s)(b:Int):0<=s.peek b/\s.peek b<256:=by
 unfold PC.peek PC.look;split
 ·exact rn.bytes.2
 ·split
  ·split<;>decide
  ·exact rn.bytes.1 _ zza
theorem zpV{p:Prop} (q:p:=by
 unfold eT;go_enter func164,ntmps164;go_wp2;go_ret;exact ⟨rfl,rfl⟩):p:=q
theorem zle{w:World}{base:Nat}{tag:Nat->Nat}{f:DF}{S:SB}(h:DS w base tag f S)(rn:Rn S.pc)(a n:Int)(a0:0<=a)(a1:a<65536):Cq 164 #[Pq f.Q,Iq a,Iq n] w (Zq ⟨(S.tellMem a n).toArray⟩) fun w'=>w'=w:=by
 have q0:w.cell? (Aq f.Q 0)=some (Pq f.R):=h.blk.cell 0;have HP:=fun b=>znf h.mch b
 have HR:=fun b=>zh3 rn b
 unfold SB.tellMem;clear h rn;by_cases hn:n<1\/32<n
 ·rw [if_pos hn];rcases hn with h1|h1
  ·have h1':¬1<=n:=by omega
   exact zpV
  ·have h2:¬n<1:=by omega
   exact zpV
 ·rw [if_neg hn];have h1:¬n<1:=by omega
  have h2:¬32<n:=by omega
  obtain ⟨m,rfl⟩:∃m:Nat,n=(m:Int):=⟨n.toNat,by omega⟩
  have hm:m<=32:=by omega
  rw [Int.toNat_natCast];clear hn;go_enter func164,ntmps164;go_wp2_with fail;go_loopw [7,8] (fun t i wr=> ∃k:Nat,k<=m/\i=Iq k/\t=Zq ⟨(xV S.pc a k).toArray⟩/\wr=w) (fun _ i _=>m-(intOf i).toNat);case atStart=>exact ⟨0,by omega,rfl,rfl,rfl⟩
  case round=>
   obtain ⟨k,hk,rfl,rfl,rfl⟩:=hrel;by_cases hlt:k<m
   ·have hk1:(k:Int)<(m:Int):=by omega
    have HM:Hid (xV S.pc a (k+1)=xV S.pc a k++zX (S.pc.peek (a+k)).toNat 2):=YV _ _ _;obtain ⟨x,ex,lx⟩:=qG (HR (a+k));have HPk:=HP (a+k);rw [ex] at HPk HM;rw [Int.toNat_natCast] at HM;have D:=fun w=>zak x w zza
    have hw:IntKind.wrap .i64 (a+(k:Int))=a+k:=by rw [IntKind.wrap_i64];omega
    have lt:=yz x 2;have lm:(xV S.pc a k).length<=64:=by rw [jE];omega
    generalize zX x 2=tx at*;generalize xV S.pc a k=tm at*;clear HP HR ex;go_wp2_with (first|(go_at_call 67;refine HPk.mono ?_;rintro e w1 ⟨rfl,hw1⟩;subst w1)|(go_at_call 97;refine (D _).mono ?_;rintro e w1 ⟨rfl,hw1⟩;subst w1));go_roundw;case rel=>exact ⟨k+1,by omega,by go_num,by rw [HM.out,xh],trivial⟩
    case measure=>simp [intOf];omega
   ·obtain rfl:k=m:=by omega
    go_wp2;go_ret;exact ⟨rfl,rfl⟩
theorem jn{P:Program}{w:World}{ops:Array Oper}{rest:List Oper}{o:Oper}{a:Go.Act}{Q:Exit->Go.Act->World->Prop}(hgd:o.guard=none)(s x:Operand)(t:TypeId)
  (ho:o.op=.call {callee:=.builtin .append,args:=#[s,x],argTypes:=#[t,t] }) (e:TypeId) (i:TypeInfo) (ht:P.underlying t=some (.slice e)) (hi:P.info? e=some i)
  (b:Option Addr) (n c:Nat) (hle:n<=c) (hs:a.eval s=.slice b n c) (p:Option Addr) (c2:Nat) (hx:a.eval x=.slice p 0 c2)
  (h:wpList P ops Q rest (a.put o.dst (.slice b n c)) w):wpList P ops Q (o::rest) a w:=by
 refine wpList_plain hgd fun K hK=>?_
 have hsrc:Src P i.size t (.slice p 0 c2) 0 [] w:=by
  cases p with
  |none=>exact Src.ofNil w ht c2
  |some q=>exact Src.ofSlice w ht q 0 c2 [] zzc zzc zzc
 have hrun:=run_append_nothing (P:=P) w t t o.type e i ht hi b n c hle (.slice p 0 c2) hsrc;unfold Oper.wp;simp [execOp,ho,resolve,invoke,builtin,hs,hx,hrun,Result.andThen];exact hK _ _ h
theorem zjW:(prog.info? 9).map (fun i=>(i.zero,i.size,i.bytes))=some (some (Zq ⟨#[]⟩),1,16):=by kernel_rfl
theorem JN:prog.underlying 196=some (.slice 9):=by kernel_rfl
theorem zc0{p:Prop} (q:p:=by
 rcases h.2 with ⟨e,_⟩|⟨g',cap,cur,e,_,hg,_,_,hc⟩
 ·cases e
 ·injection e with e _ _;injection e with e;injection e with e _;subst e;rw [cell_of_row w g i cur te (0,0) hg, <-Array.getElem?_toList, <-hc.2];exact (List.getElem?_take_of_lt zza).symm):p:=q
theorem Hc{w:World}{base te n g c:Nat}{xs:List Value}(h:w.ownsRow base te 1 (Sq g n c) n xs)(i:Nat)(hi:i<n):w.cell? (Aq g i)=xs[i]?:=by
 exact zc0
theorem Kd{w:World}{base te size n g c:Nat}{xs:List Value}(h:w.ownsRow base te size (Sq g n c) n xs):n<=c:=by
 rcases h.2 with ⟨e,_⟩|⟨g',cap,cur,e,_,_,h1,_⟩
 ·cases e
 ·injection e with _ _ e;subst e;exact h1
theorem za6(g n cap k:Nat)(hk:k<=n)(hc:n<=cap):∃P0,(∀w,Sem.run prog (Instr.slice 196 (Sq g n cap) (some (Iq (k:Int))) none none) w=.ok (.slice P0 (n-k) (cap-k)) w)/\(k<n->P0=some (Aq g k)):=by
 have hel:prog.elem 196=9:=by kernel_rfl
 have hsz:∀w,(sizeOf 9).run prog w=.ok 1 w:=fun w=>by kernel_rfl
 by_cases h:cap=k
 ·refine ⟨some (Aq g 0),fun w=>?_,fun e=>by omega⟩;rw [run_slice_l (P:=prog) (ht:=by rw [hel];exact JN) (h0:=by omega) (h1:=by omega),hel,hsz];simp [go_sem,sliced,h,Result.andThen]
 ·refine ⟨some (Aq g k),fun w=>?_,fun _=>rfl⟩;rw [run_slice_l (P:=prog) (ht:=by rw [hel];exact JN) (h0:=by omega) (h1:=by omega),hel,hsz];simp [go_sem,sliced,Addr.add,Result.andThen,show ¬cap=k from h];try omega
def jo(r:Rcs)(k:Nat):List UInt8:=(r.list.take k).flatMap xE
theorem Ke(r:Rcs)(k:Nat)(hk:k<r.n):∃t,t.length=7/\(qq r)[k]?=some (Zq ⟨t.toArray⟩)/\jo r (k+1)=jo r k++t:=by
 have hl:k<r.list.length:=by simpa [Rcs.list] using hk
 refine ⟨xE r.list[k],Xq _,by simp [qq,List.getElem?_eq_getElem hl],?_⟩;unfold jo;rw [List.take_succ_eq_append_getElem hl,List.flatMap_append];simp
theorem Hd(r:Rcs)(k:Nat)(hk:k<=r.n):(jo r k).length=7*k:=by
 induction k with
 |zero=>rfl
 |succ k ih=>
  obtain ⟨t,h1,_,h2⟩:=Ke r k zza;rw [h2,List.length_append,ih zza,h1];omega
theorem zeh(r:Rcs):∀u∈qq r,u.oneCell'=true:=by
 intro u hu;obtain ⟨b,_,rfl⟩:=List.mem_map.1 hu;rfl
theorem KH(r:Rcs):(qq r).length=r.n:=by simp [qq,Rcs.list]
theorem Qb(r:Rcs)(k:Nat)(hf:r.first<64):qq (r.takes k).1=(qq r).drop k:=by unfold qq;rw [zaL r k hf,List.map_drop]
theorem DS.ring{w w1:World}{base:Nat}{tag tag':Nat->Nat}{f:DF}{S:SB}(h:DS w base tag f S)(hb:Bq w w1)(ht:∀g,g<w.heap.size->tag' g=tag g)(v:Value)(rc:Rcs)(hr:w1.ownsRow base 9 1 v rc.n (qq rc))(hv:∀g,v.ownBlock=some g->g≠f.Q/\tag' g=9):Dn tag w base f.Q {S with rc:=rc} (w1.setCell (Aq f.Q 8) v):=by
 have d:=DC.put (i:=8) (v:=v) h hb ht;refine ⟨tag',{f with vr:=v},rfl,⟨(h.blk.below hb).put 8 v,d.mch,d.sc,d.pat,d.bk,d.wt,zG hr (fun g e=>Below.heap_setCell _ _ _ _ (hv g e).1),d.ls,d.lo,d.tQ,d.tZ,d.tR,d.tM,d.th,d.tp,d.tb,d.tw,fun g e=>(hv g e).2,d.tl,d.ts⟩,Chg.put h hb ht⟩
theorem zb9(w:World):Sem.run prog (Instr.slice 196 (Nq) (some (Iq 0)) none none) w=.ok (Nq) w:=by kernel_rfl
theorem Qc{w:World}{base N c:Nat}{a:Option Addr}{xs:List Value}(hrg:w.ownsRow base 9 1 (.slice a N c) N xs):∃P0 c',∀w,Sem.run prog (Instr.slice 196 (.slice a N c) (some (Iq (N:Int))) none none) w=.ok (.slice P0 0 c') w:=by
 rcases hrg.2 with ⟨e,e2⟩|⟨g,cap,cur,e,_⟩
 ·injection e with e1 e2 e3;subst e1;subst e2;subst e3;exact ⟨none,0,zb9⟩
 ·injection e with e _ _;subst e;obtain ⟨P0,h1,_⟩:=za6 g N c N (Nat.le_refl _) (Kd hrg);exact ⟨P0,c-N,fun w=>by rw [h1 w,Nat.sub_self]⟩
theorem VE{w:World}{base te size N c:Nat}{a:Option Addr}{xs:List Value}(hrg:w.ownsRow base te size (.slice a N c) N xs)(h:0<N):∃g,a=some (Aq g 0):=by
 rcases hrg.2 with ⟨_,e2⟩|⟨g,cap,cur,e,_⟩
 ·omega
 ·injection e with e _ _;exact ⟨g,e⟩
theorem zbc{w:World}{base:Nat}{tag:Nat->Nat}{f:DF}{S:SB}(h:DS w base tag f S)(hf:S.rc.first<64):Dn tag w base f.Q {S with rc:=(S.rc.takes S.rc.n).1} (w.setCell (Aq f.Q 8) (Nq)):=by
 refine h.ring (Below.refl _ _) (fun _ _=>rfl) _ _ ?_ (fun g e=>by cases e);rw [Qb _ _ hf,Yv,Nat.sub_self,List.drop_of_length_le (by rw [KH];omega)];exact World.ownsRow_nil _ _ _ _
theorem zmL{p:Prop} (q:p:=by
 obtain ⟨t,lt,ct,HP⟩:=Ke S.rc j (by rw [HN.out];omega);have HP:Hid (jo S.rc (j+1)=jo S.rc j++t):=HP;have lp:(jo S.rc j).length<=56:=by rw [Hd S.rc j (by rw [HN.out];omega)];omega
 obtain ⟨g,rfl⟩:=VE hrg zza;have cj:=(Hc hrg j zza).trans ct;have jN:(j:Int)<(N:Int):=by omega
 generalize jo S.rc j=tm at*;clear ct hrg;go_wp2;go_roundw;case rel=>exact ⟨j+1,by omega,by go_num,by rw [HP.out,xh],trivial⟩
 case measure=>simp [intOf];omega):p:=q
theorem zkM{w:World}{base:Nat}{tag:Nat->Nat}{f:DF}{S:SB}(h:DS w base tag f S)(hf:S.rc.first<64)(hn:S.rc.n<=64)(hb:base<=w.heap.size):Cq 162 #[Pq f.Q] w (Zq ⟨S.takeRecs.2.toArray⟩) fun w'=>Dn tag w base f.Q S.takeRecs.1 w':=by
 obtain ⟨i0,hi,hz0,hz1,hz2⟩:=info_parts zjW;have HD:Hid (DS w base tag f S/\S.rc.first<64):=⟨h,hf⟩;have q8:w.cell? (Aq f.Q 8)=some f.vr:=h.blk.cell 8;have fz:=h.blk.free 8;have lQ:=h.blk.lt;have HT:Hid (S.takeRecs.2=jo S.rc (min S.rc.n 8)):=zaM _ _ hf (Nat.min_le_left _ _);have HE:Hid (S.takeRecs.1={S with rc:=(S.rc.takes (min S.rc.n 8)).1}):=rfl;rw [HT.out];rcases yG h.c.rg with ⟨a,c,e,ha⟩;have hrg:=h.c.rg;rw [e] at q8 hrg;generalize S.takeRecs.1=S' at*;obtain ⟨N,HN⟩:∃N,Hid (S.rc.n=N):=⟨_,rfl⟩
 rw [HN.out] at hn q8 hrg HE;rw [HN.out];clear HT e ha h hf;rcases Nat.lt_or_ge N 8 with h8|h8
 ·rw [show min N 8=N from by omega] at HE⊢;have h8':(N:Int)<8:=by omega
  have HZ:Hid (Dn tag w base f.Q S' (w.setCell (Aq f.Q 8) (Nq))):=by
   have:=zbc HD.out.1 HD.out.2;rw [HN.out] at this;rw [HE.out];exact this
  go_enter func162,ntmps162;go_wp2_with fail;go_loopw [3,5] (fun t i wr=> ∃j:Nat,j<=N/\i=Iq j/\t=Zq ⟨(jo S.rc j).toArray⟩/\wr=w) (fun _ i _=>N-(intOf i).toNat);case atStart=>exact ⟨0,by omega,rfl,rfl,rfl⟩
  case round=>
   obtain ⟨j,hj,rfl,rfl,hw⟩:=hrel;subst wr;by_cases hlt:j<N
   ·have hj1:(j:Int)<(N:Int):=by omega
    exact zmL
   ·obtain rfl:j=N:=by omega
    obtain ⟨P0,c',SL⟩:=Qc hrg;clear hrg;go_wp2_with (first|(at_builtin;go_must (refine jn rfl (.tmp 28) (.tmp 34) 196 rfl 9 i0 JN hi none 0 0 (Nat.le_refl _) rfl P0 c' rfl ?_)));go_ret;exact ⟨rfl,HZ.out⟩
 ·rw [show min N 8=8 from by omega] at HE⊢;have h8':¬(N:Int)<8:=by omega
  go_enter func162,ntmps162;go_wp2_with fail;go_loopw [3,5] (fun t i wr=> ∃j:Nat,j<=8/\i=Iq j/\t=Zq ⟨(jo S.rc j).toArray⟩/\wr=w) (fun _ i _=>8-(intOf i).toNat);case atStart=>exact ⟨0,by omega,rfl,rfl,rfl⟩
  case round=>
   obtain ⟨j,hj,rfl,rfl,hw⟩:=hrel;subst wr;by_cases hlt:j<8
   ·have hj1:(j:Int)<8:=by omega
    exact zmL
   ·obtain rfl:j=8:=by omega
    rcases Nat.lt_or_ge 8 N with h9|h9
    ·obtain ⟨g,rfl⟩:=VE hrg zza;obtain ⟨P0,SL',hP0⟩:=za6 g N c 8 zza (Kd hrg);obtain rfl:=hP0 h9;have SL:∀w,Sem.run prog (Instr.slice 196 (Sq g N c) (some (Iq 8)) none none) w=.ok (.slice (some (Aq g 8)) (N-8) (c-8)) w:=SL'
     have HO:Hid (w.ownsRow base 9 1 (Sq g N c) N (qq S.rc)):=hrg;have hrl:(qq S.rc).length=N:=by rw [KH];exact HN.out
     clear hrg SL' hP0;go_wp2_with (first|(at_builtin;go_must (refine wpList_append_lies _ rfl (.tmp 28) (.tmp 34) 196 rfl w.heap.size 9 i0 (Zq ⟨#[]⟩) 1 16 JN hi hz0 hz1 hz2 rfl zzb (Nq) 0 [] rfl (World.ownsRow_nil _ _ _ _) (Aq g 8) (N-8) (c-8) ((qq S.rc).drop 8) rfl (by rw [List.length_drop,hrl,Nat.mul_one]) (fun q u hu=>?_) (fun u hu=>zeh _ u (List.mem_of_mem_drop hu)) zza zze zza (Nat.le_refl _) _ rfl ?_)))
     ·rw [List.getElem?_drop] at hu;have hq:8+q<N:=by rw [<-hrl];exact (List.getElem?_eq_some_iff.1 hu).1
      rw [show ((Aq g 8):Addr).add q=⟨g,8+q,none⟩ from by simp [Addr.add]];exact (Hc HO.out (8+q) hq).trans hu
     ·intro g' cap' w1 hown hgrow hat hlt';have hb1:Bq w w1:=⟨hgrow.os,hgrow.tape,hgrow.output,hgrow.size,fun b hb=>hgrow.block b hb (by simp [Value.ownBlock])⟩;have q8':w1.cell? (Aq f.Q 8)=some (Sq g N c):=hb1.cell (p:=(Aq f.Q 8)) lQ ▸ q8;have HZ:Hid (Dn tag w base f.Q S' (w1.setCell (Aq f.Q 8) (Sq g' (N-8) cap'))):=by
       show Dn _ _ _ _ _ _;rw [HE.out];refine HD.out.1.ring hb1 zbC (tag':=GX w tag 9) _ _ ?_ (fun b e=>?_)
       ·rw [Qb _ _ HD.out.2,Yv,HN.out];exact Ys hown hb
       ·have hbw:=zoL hown b e;exact ⟨by omega,zbD hbw⟩
      have fz1:w1.frozen? (Aq f.Q 8)=false:=(World.frozen?_of_block (a:=(Aq f.Q 8)) (hb1.block f.Q lQ)).trans fz;clear hown hgrow hat hlt' hb1;go_wp2;go_ret;exact ⟨rfl,HZ.out⟩
    ·obtain rfl:N=8:=by omega
     obtain ⟨P0,c',SL'⟩:=Qc hrg;have SL:∀w,Sem.run prog (Instr.slice 196 (.slice a 8 c) (some (Iq 8)) none none) w=.ok (.slice P0 0 c') w:=SL'
     have HZ:Hid (Dn tag w base f.Q S' (w.setCell (Aq f.Q 8) (Nq))):=by
      have:=zbc HD.out.1 HD.out.2;rw [HN.out] at this;show Dn _ _ _ _ _ _;rw [HE.out];exact this
     clear hrg SL';go_wp2_with (first|(at_builtin;go_must (refine jn rfl (.tmp 28) (.tmp 34) 196 rfl 9 i0 JN hi none 0 0 (Nat.le_refl _) rfl P0 c' rfl ?_)));go_ret;exact ⟨rfl,HZ.out⟩
def yF(w:World)(tag:Nat->Nat):Nat->Nat:=fun g=>if w.heap.size<=g then 0 else tag g
theorem xM{w:World}{tag:Nat->Nat}:∀g,g<w.heap.size->yF w tag g=tag g:=fun g h=>if_neg zza
theorem xN{w:World}{tag:Nat->Nat}{g:Nat}(h:w.heap.size<=g):yF w tag g=0:=if_pos h
theorem DS.old{w:World}{base:Nat}{tag:Nat->Nat}{f:DF}{S:SB}(h:DS w base tag f S):DS w base (yF w tag) f S:=h.kept (Nat.le_refl _) (fun _ _ _=>rfl) xM
theorem Chg.old(tag:Nat->Nat)(w:World):Chg tag (yF w tag) w w:=⟨rfl,rfl,rfl,Nat.le_refl _,fun _ _ _=>rfl,fun g h1 h2=>(xM g h1).trans h2⟩
def Z3(w:World)(tag:Nat->Nat)(v:Value)(k:Nat):Nat->Nat:=fun g=>if w.heap.size<=g then (if v.ownBlock=some g then k else 0) else tag g
theorem DS.cyc{w w1:World}{base:Nat}{tag:Nat->Nat}{f:DF}{S:SB}{vh':Value}{s':PC}(h:DS w base tag f S)(hM:Mch w1 base f.R f.M vh' s')(hT:Tri f.R f.M f.vh.ownBlock w w1)(ho:∀g,vh'.ownBlock=some g->f.vh.ownBlock=some g\/w.heap.size<g):DS w1 base (Z3 w tag vh' 5) {f with vh:=vh'} {S with pc:=s'} /\Chg tag (Z3 w tag vh' 5) w w1:=by
 have hk:∀g,g<w.heap.size->tag g≠3->tag g≠4->tag g≠5->w1.heap[g]?=w.heap[g]?:=fun g h1 h3 h4 h5=>hT.block g h1 (fun e=>h3 (by rw [e];exact h.c.tR)) (fun e=>h4 (by rw [e];exact h.c.tM)) (fun e=>h5 (h.c.th g e.symm))
 obtain ⟨m1,m2,m3,m4⟩:=h.c.mch.lt;have hQ:=h.blk.lt;have hZ:=h.c.sc.cells.lt;obtain ⟨lb,b1,b2⟩:=h.c.bk;obtain ⟨lw,e1,e2⟩:=h.c.wt;have own:∀ {te size n:Nat} {v:Value} {xs:List Value} {m:Nat},w.ownsRow base te size v n xs->(∀g,v.ownBlock=some g->tag g=m+6)->∀g,v.ownBlock=some g->w1.heap[g]?=w.heap[g]?:=fun o hm g e=>hk g (o.lt g e).2 (by rw [hm g e];omega) (by rw [hm g e];omega) (by rw [hm g e];omega)
 have t:∀g,g<w.heap.size->Z3 w tag vh' 5 g=tag g:=fun g h=>if_neg zza
 refine ⟨⟨h.blk.same (hk _ hQ (by rw [h.c.tQ];decide) (by rw [h.c.tQ];decide) (by rw [h.c.tQ];decide)),hM,h.c.sc.sameBlock (hk _ hZ (by rw [h.c.tZ];decide) (by rw [h.c.tZ];decide) (by rw [h.c.tZ];decide)),h.c.pat.same (own h.c.pat.own h.c.tp) (fun i v hv g e=>hk g (h.c.pat.blk hv g e) (by rw [h.c.ts i v hv g e];decide) (by rw [h.c.ts i v hv g e];decide) (by rw [h.c.ts i v hv g e];decide)),⟨lb,zG b1 (own b1 h.c.tb),b2⟩,⟨lw,zG e1 (own e1 h.c.tw),e2⟩,zG h.c.rg (own h.c.rg h.c.tr),?_,h.c.lo,
  (t _ hQ).trans h.c.tQ,(t _ hZ).trans h.c.tZ,(t _ m1).trans h.c.tR,(t _ m2).trans h.c.tM,fun g e=>?_,fun g e=>(t g (h.c.pat.own.lt g e).2).trans (h.c.tp g e),fun g e=>(t g (b1.lt g e).2).trans (h.c.tb g e),fun g e=>(t g (e1.lt g e).2).trans (h.c.tw g e),fun g e=>(t g (h.c.rg.lt g e).2).trans (h.c.tr g e),fun g e=>?_,fun i v hv g e=>(t g (h.c.pat.blk hv g e)).trans (h.c.ts i v hv g e)⟩,
  ⟨hT.os,hT.tape,hT.output,hT.size,fun g h1 h2=>hk g h1 zza zza zza,fun g h1 h2=>(t g h1).trans h2⟩⟩
 ·rcases h.c.ls with q|q
  ·exact .inl q
  ·exact .inr (q.same hT.size (fun g e=>hk g (q.blk g e) (by rw [h.c.tl g e];decide) (by rw [h.c.tl g e];decide) (by rw [h.c.tl g e];decide)))
 ·rcases ho g e with z|z
  ·exact (t g (m4 g z).1).trans (h.c.th g z)
  ·unfold Z3;rw [if_pos zza,if_pos e]
 ·rcases h.c.ls with q|q
  ·rw [q.2] at e;cases e
  ·exact (t g (q.blk g e)).trans (h.c.tl g e)
theorem zfy{w w0 w1:World}{base:Nat}{tag:Nat->Nat}{f:DF}{S:SB}{vh':Value}{s':PC}(h:DS w base tag f S)(hw:Bq w w0)(hz:∀g,w.heap.size<=g->tag g=0)(hM:Mch w1 base f.R f.M vh' s')(hT:Tri f.R f.M f.vh.ownBlock w0 w1)(ho:∀g,vh'.ownBlock=some g->f.vh.ownBlock=some g\/w0.heap.size<g):∃tag1,DS w1 base tag1 {f with vh:=vh'} {S with pc:=s'} /\Chg tag tag1 w w1/\∀g,w.heap.size<=g->vh'.ownBlock≠some g->tag1 g=0:=by
 obtain ⟨d,c⟩:=(h.below hw).cyc hM hT ho;refine ⟨_,d,(Chg.below tag hw).trans c,fun g h1 h2=>?_⟩;unfold Z3;rw [if_neg h2];split
 ·rfl
 ·exact hz g h1
theorem DS.laid{w w1:World}{base:Nat}{tag:Nat->Nat}{f:DF}{S:SB}{t:RS}{m:Nat->Int}(h:DS w base tag f S)(hb:S.pc.st=0\/S.pc.st=5)(hv:HV w base f.R f.M f.vh t.h)(al:Alike S.pc t)(hj:t.r.jam=true->t.h=[])(hm:TM f.R f.M (MV f.M f.vh t) m w w1):DS w1 base (Z3 w tag f.vh 5) f {S with pc:={S.pc with mem:=m} } /\Chg tag (Z3 w tag f.vh 5) w w1:=
 h.cyc (vh':=f.vh) (s':={S.pc with mem:=m}) ⟨{t with mem:=m},hm.c,hv.kept hm.g,zcp al hb m,hj⟩ (Tri.two hm.g) (fun _ e=>.inl e)
theorem DS.nopat{w:World}{base:Nat}{tag:Nat->Nat}{f:DF}{S:SB}(h:DS w base tag f S):DS (w.setCell (Aq f.Q 4) (Nq)) base tag {f with vp:=Nq,ps:=[] } {S with pa:=[] } /\Chg tag tag w (w.setCell (Aq f.Q 4) (Nq)):=by
 have d:=DC.put (i:=4) (v:=Nq) h (Below.refl _ _) (fun _ _=>rfl) (tag':=tag);exact ⟨⟨h.blk.put 4 _,d.mch,d.sc,⟨rfl,World.ownsRow_nil _ _ _ _,fun i hi=>(by simp at hi)⟩,d.bk,d.wt,d.rg,d.ls,d.lo,d.tQ,d.tZ,d.tR,d.tM,d.th,(fun g e=>by cases e),d.tb,d.tw,d.tr,d.tl,fun i v hv=>(by simp at hv)⟩,Chg.put h (Below.refl _ _) (fun _ _=>rfl)⟩
theorem zbt:∀ (l:List Pat) (ps:List Value) (i:Nat) (hi:i<l.length) (v:Value),ps.length=l.length->ps[i]?=some v->(XA l ps)[i*2]?=some (Iq l[i].at_)/\(XA l ps)[i*2+1]?=some v
 |p::l,u::r,0,_,v,_,h=>by simp at h;subst h;simp [XA]
 |p::l,u::r,i+1,hi,v,hl,h=>by
  have:=zbt l r i (by simpa using hi) v (by simpa using hl) (by simpa using h);rw [show (i+1)*2=i*2+1+1 from by omega];simpa [XA] using this
 |p::l,[],i,_,v,hl,_=>by simp at hl
 | [],_,i,hi,_,_,_=>by simp at hi
theorem zbu{w:World}{base te n g c:Nat}{xs:List Value}(h:w.ownsRow base te 2 (Sq g n c) n xs)(i:Nat)(hi:i<n*2):w.cell? (Aq g i)=xs[i]?:=by
 exact zc0
theorem Vb{P:Program}{w:World}{ops:Array Oper}{o:Oper}{a:Go.Act}{K:Go.Act->World->Prop}{Q:Exit->Go.Act->World->Prop}{E:Prop}(hg:o.guard=none)(F:FuncId)(x y:Operand)(tx ty:TypeId)
  (ho:o.op=.call {callee:=.value (.func F),args:=#[x,y],argTypes:=#[tx,ty] }) (u v:Value) (hx:a.eval x=u) (hy:a.eval y=v) (he:∀args w,Sem.run P (callFunc F args) w=.ok (.enter F args) w)
  (r:Value) (hc:Calls P F #[u,v] w fun e w'=>e=.returned r/\w'=w) (hK:K (a.put o.dst r) w):if Region.wanted o (yielded ops a.tmps)=true then Oper.wp P o a w K Q else E:=by
 have hw:Region.wanted o (yielded ops a.tmps)=true:=by simp [Region.wanted,hg]
 rw [if_pos hw];have hf:a.eval (.func F)=.func (.func F) #[] #[]:=rfl;have hq:(execOp a.eval o).run P w=.ok (.enter F #[u,v]) w:=by
  unfold execOp;simp only [ho,resolve,invoke,Sem.run_bind,List.map_toArray,List.map_cons,List.map_nil,hx,hy,hf,Deferred.ofValue];simp [Result.andThen,he]
 show o.upon P a K Q ((execOp a.eval o).run P w);rw [hq,Oper.upon_enter];refine hc.mono ?_;rintro e w' ⟨rfl,rfl⟩;exact hK
theorem mft{w:World}{base R M:Nat}{vh:Value}{s:PC}(h:Mch w base R M vh s)(rn:Rn s)(h5:s.st≠5)(nmi irq:Bool):(s.cycle nmi irq).2.ft=true->(s.cycle nmi irq).2.wr=false:=by
 obtain ⟨t,h0,hv,al,_⟩:=h;have hj:t.r.jam=false:=by rw [<-qj s t al];simpa using h5
 rw [(Zx s t nmi irq al rn hj).1];exact zek t nmi irq
theorem Vc:∀args w,Sem.run prog (callFunc 97 args) w=.ok (.enter 97 args) w:=fun _ _=>by kernel_rfl
def Gone(tag:Nat->Nat)(w:World)(base Q N bB:Nat)(b:BusI)(S:SB)(wx:World):Prop:=
 ∃tag1 f1,f1.Q=Q/\DS wx base tag1 f1 S/\Chg tag tag1 w wx/\Blk wx N #[Iq 0,Iq 0,Tq false,Tq false] 53/\Blk wx bB #[Iq b.addr,Iq b.data,Tq b.wr,Tq b.ft] 53/\tag1 N=0/\tag1 bB=0/\N≠bB
theorem zkt{W w1:World}{base N:Nat}{tag tag1:Nat->Nat}{f:DF}{S:SB}{b:BusI}(d:DS w1 base tag1 f S)(c:Chg tag tag1 W w1)(z:∀g,W.heap.size<=g->f.vh.ownBlock≠some g->tag1 g=0)(hN:N<W.heap.size)(tN:tag N=0)(bN:Blk W N #[Iq 0,Iq 0,Tq false,Tq false] 53):Gone tag W base f.Q N w1.heap.size b S (w1.alloc (.cells #[Iq b.addr,Iq b.data,Tq b.wr,Tq b.ft] 53)):=by
 have hb:Bq w1 (w1.alloc (.cells #[Iq b.addr,Iq b.data,Tq b.wr,Tq b.ft] 53)):=qBa;have h1:=c.size;exact ⟨tag1,f,rfl,d.below hb,c.trans (Chg.below tag1 hb),(bN.same (c.block N hN tN)).alloc _,Blk.new w1 _ _,c.tags N hN tN,z _ h1 (fun e=>by have:=(d.mch.lt.2.2.2 _ e).1;omega),by omega⟩
theorem zku{W w1:World}{base N:Nat}{tag tag1:Nat->Nat}{f:DF}{S:SB}{b:BusI}(d:DS w1 base tag1 f S)(c:Chg tag tag1 W w1)(z:∀g,W.heap.size<=g->f.vh.ownBlock≠some g->tag1 g=0)(hN:N<W.heap.size)(tN:tag N=0)(bN:Blk W N #[Iq 0,Iq 0,Tq false,Tq false] 53)
  (bb:Blk w1 W.heap.size #[Iq 0,Iq 0,Tq false,Tq false] 53) (hv:f.vh.ownBlock≠some W.heap.size):
  Gone tag W base f.Q N W.heap.size b S ((((w1.setCell (Aq W.heap.size 0) (Iq b.addr)).setCell (Aq W.heap.size 1) (Iq b.data)).setCell (Aq W.heap.size 2) (Tq b.wr)).setCell (Aq W.heap.size 3) (Tq b.ft)):=by
 have tz:=z _ (Nat.le_refl _) hv;have hk:∀g,g≠W.heap.size->((((w1.setCell (Aq W.heap.size 0) (Iq b.addr)).setCell (Aq W.heap.size 1) (Iq b.data)).setCell (Aq W.heap.size 2) (Tq b.wr)).setCell (Aq W.heap.size 3) (Tq b.ft)).heap[g]?=w1.heap[g]?:=fun g hg=>
  (Below.heap_setCell _ _ _ _ hg).trans ((Below.heap_setCell _ _ _ _ hg).trans ((Below.heap_setCell _ _ _ _ hg).trans (Below.heap_setCell _ _ _ _ hg)))
 refine ⟨tag1,f,rfl,d.kept zzc (fun g _ h2=>hk g (fun e=>h2 (by rw [e];exact tz))) (fun _ _=>rfl),⟨c.os,c.tape,c.output,by simpa using c.size,fun g h1 h2=>(hk g zza).trans (c.block g h1 h2),c.tags⟩,(bN.same (c.block N hN tN)).same (hk N zza),(((bb.put 0 _).put 1 _).put 2 _).put 3 _,c.tags N hN tN,tz,by omega⟩
theorem zbM(m:Nat->Int)(l:List Pat)(k:Nat)(hk:k<l.length):xw m (l.take (k+1))=lay (xw m (l.take k)) l[k].at_ l[k].bytes l[k].bytes.length:=by
 rw [QW,List.take_succ_eq_append_getElem hk];unfold xw;rw [List.foldl_append];rfl
theorem Gone.move{tag tag1 tag2:Nat->Nat}{W w1 w2:World}{base Q N bB:Nat}{b:BusI}{S:SB}{f:DF}(hQ:f.Q=Q)(d:DS w2 base tag2 f S)(c:Chg tag tag1 W w1)(c2:Chg tag1 tag2 w1 w2)(bN:Blk w1 N #[Iq 0,Iq 0,Tq false,Tq false] 53)(bb:Blk w1 bB #[Iq b.addr,Iq b.data,Tq b.wr,Tq b.ft] 53)(tN:tag1 N=0)(tB:tag1 bB=0)(ne:N≠bB):Gone tag W base Q N bB b S w2:=
 ⟨tag2,f,hQ,d,c.trans c2,bN.same (c2.block N bN.lt tN),bb.same (c2.block bB bb.lt tB),c2.tags N bN.lt tN,c2.tags bB bb.lt tB,ne⟩
theorem zkv{w:World}{base:Nat}{tag:Nat->Nat}{f:DF}{S:SB}(d:DS w base tag f S)(k:Nat)(hk:k<S.pa.length):∃g c p c2,f.vp=Sq g S.pa.length c/\w.cell? ⟨g,k*2,none⟩=some (Iq S.pa[k].at_)/\w.cell? ⟨g,k*2+1,none⟩=some (.slice p S.pa[k].bytes.length c2)/\IntsAt w p S.pa[k].bytes/\∀x,p=some x->x.block≠f.R/\x.block≠f.M/\x.block<w.heap.size:=by
 obtain ⟨a,c,e,_⟩:=yG d.c.pat.own;have ho:=d.c.pat.own;rw [e] at ho;obtain ⟨g,rfl⟩:=VE ho zza;obtain ⟨v,hv,hvo⟩:=d.c.pat.each k hk;obtain ⟨p,c2,rfl,hp⟩:=yG hvo;obtain ⟨h1,h2⟩:=zbt S.pa f.ps k hk _ d.c.pat.len hv;refine ⟨g,c,p,c2,e,(zbu ho _ zza).trans h1,(zbu ho _ zza).trans h2,Zg hvo rfl,fun x ex=>?_⟩;have hb:=(hp x ex).1;have ht:=d.c.ts k _ hv _ hb;exact ⟨fun q=>(by rw [q,d.c.tR] at ht;cases ht),fun q=>(by rw [q,d.c.tM] at ht;cases ht),d.c.pat.blk hv _ hb⟩
theorem zbN(S:SB):S.settle.re=S.re/\S.settle.rc=S.rc:=by unfold SB.settle;split<;>exact ⟨rfl,rfl⟩
theorem G9(S:SB)(rc:Rcs):({S with rc:=rc}:SB).settle={S.settle with rc:=rc}:=by
 unfold SB.settle;by_cases h:S.pc.betw=true
 ·rw [if_pos h,if_pos (show ({S with rc:=rc}:SB).pc.betw=true from h)]
 ·rw [if_neg h,if_neg (show ¬({S with rc:=rc}:SB).pc.betw=true from h)]
theorem zkj{p:Prop} (q:p:=by
 rcases d.c.ls with q|q
 ·exact .inl q
 ·exact .inr (q.same zzd (fun g e=>k g (q.blk g e) (by rw [d.c.tl g e];decide) (by rw [d.c.tl g e];decide)))):p:=q
theorem Gone.rec{tag tag1:Nat->Nat}{W w1 wa w2:World}{base N bB:Nat}{b:BusI}{S:SB}{f:DF}{g' cap':Nat}{rc:Rcs}(d:DS w1 base tag1 f S)(c:Chg tag tag1 W w1)(bN:Blk w1 N #[Iq 0,Iq 0,Tq false,Tq false] 53)(bb:Blk w1 bB #[Iq b.addr,Iq b.data,Tq b.wr,Tq b.ft] 53)(tN:tag1 N=0)(tB:tag1 bB=0)(ne:N≠bB)
  (ha:Bq w1 wa) (hg:wa.grownBy w2 f.vr.ownBlock) (hat:f.vr.ownBlock=some g'\/g'=wa.heap.size) (hown:w2.ownsRow base 9 1 (Sq g' rc.n cap') rc.n (qq rc)):
  Gone tag W base f.Q N bB b {S with rc:=rc} (w2.setCell (Aq f.Q 8) (Sq g' rc.n cap')):=by
 have s1:=ha.size;have s2:=hg.size;have hv9:∀g,f.vr.ownBlock=some g->g<w1.heap.size:=fun g e=>(d.c.rg.lt g e).2
 have hgt:∀g,g<w1.heap.size->g=g'->tag1 g=9:=fun g h e=>by
  rcases hat with z|z
  ·exact d.c.tr g (e ▸ z)
  ·omega
 have k0:∀g,g<w1.heap.size->tag1 g≠9->w2.heap[g]?=w1.heap[g]?:=fun g h1 h2=>(hg.block g zza (fun e=>h2 (d.c.tr g e.symm))).trans (ha.block g h1)
 have k:∀g,g<w1.heap.size->tag1 g≠9->tag1 g≠1->(w2.setCell (Aq f.Q 8) (Sq g' rc.n cap')).heap[g]?=w1.heap[g]?:=fun g h1 h2 h3=>(Below.heap_setCell _ _ _ _ (fun e=>h3 (by rw [e];exact d.c.tQ))).trans (k0 g h1 h2)
 have t:∀g,g<w1.heap.size->(fun g=>if g=g' then 9 else tag1 g) g=tag1 g:=fun g h=>by
  show (if g=g' then 9 else tag1 g)=_;by_cases e:g=g'
  ·rw [if_pos e,hgt g h e]
  ·rw [if_neg e]
 have hQg:g'≠f.Q:=fun e=>by have h1:=hgt f.Q d.blk.lt e.symm;rw [d.c.tQ] at h1;cases h1
 obtain ⟨m1,m2,m3,m4⟩:=d.mch.lt;have hZ:=d.c.sc.cells.lt;obtain ⟨lb,b1,b2⟩:=d.c.bk;obtain ⟨lw,e1,e2⟩:=d.c.wt;have own:∀ {te size n:Nat} {v:Value} {xs:List Value} {m:Nat},m≠9->m≠1->w1.ownsRow base te size v n xs->(∀g,v.ownBlock=some g->tag1 g=m)->∀g,v.ownBlock=some g->(w2.setCell (Aq f.Q 8) (Sq g' rc.n cap')).heap[g]?=w1.heap[g]?:=fun n9 n1 o hm g e=>k g (o.lt g e).2 (by rw [hm g e];exact n9) (by rw [hm g e];exact n1)
 refine ⟨fun g=>if g=g' then 9 else tag1 g,{f with vr:=Sq g' rc.n cap'},rfl,⟨(d.blk.same (k0 _ d.blk.lt (by rw [d.c.tQ];decide))).put 8 _,d.mch.same (k _ m1 (by rw [d.c.tR];decide) (by rw [d.c.tR];decide)) (k _ m2 (by rw [d.c.tM];decide) (by rw [d.c.tM];decide)) (fun g e=>k g (m4 g e).1 (by rw [d.c.th g e];decide) (by rw [d.c.th g e];decide)),d.c.sc.sameBlock (k _ hZ (by rw [d.c.tZ];decide) (by rw [d.c.tZ];decide)),d.c.pat.same (own zzb zzb d.c.pat.own d.c.tp) (fun i v hv g e=>k g (d.c.pat.blk hv g e) (by rw [d.c.ts i v hv g e];decide) (by rw [d.c.ts i v hv g e];decide)),⟨lb,zG b1 (own zzb zzb b1 d.c.tb),b2⟩,⟨lw,zG e1 (own zzb zzb e1 d.c.tw),e2⟩,zG hown (fun g e=>Below.heap_setCell _ _ _ _ (by injection e with e;rw [<-e];exact hQg)),?_,d.c.lo,
  (t _ d.blk.lt).trans d.c.tQ,(t _ hZ).trans d.c.tZ,(t _ m1).trans d.c.tR,(t _ m2).trans d.c.tM,fun g e=>(t g (m4 g e).1).trans (d.c.th g e),fun g e=>(t g (d.c.pat.own.lt g e).2).trans (d.c.tp g e),fun g e=>(t g (b1.lt g e).2).trans (d.c.tb g e),fun g e=>(t g (e1.lt g e).2).trans (d.c.tw g e),fun g e=>(by injection e with e;exact if_pos e.symm),fun g e=>?_,fun i v hv g e=>(t g (d.c.pat.blk hv g e)).trans (d.c.ts i v hv g e)⟩,
  c.trans ⟨hg.os.trans ha.os,hg.tape.trans ha.tape,hg.output.trans ha.output,by simp;omega,fun g h1 h2=>k g h1 zza zza,fun g h1 h2=>(t g h1).trans h2⟩,bN.same (k _ bN.lt zza zza),bb.same (k _ bb.lt zza zza),(t _ bN.lt).trans tN,(t _ bb.lt).trans tB,ne⟩
 ·exact zkj
 ·rcases d.c.ls with q|q
  ·rw [q.2] at e;cases e
  ·exact (t g (q.blk g e)).trans (d.c.tl g e)
theorem zlQ{c d:UInt8}(h:(hb c d).2=true):(hv c).2=true/\(hv d).2=true/\(hb c d).1.toNat=16*(hv c).1.toNat+(hv d).1.toNat:=by
 have h1:(hv c).2=true/\(hv d).2=true:=by
  unfold hb at h;by_cases q:(hv c).2=true/\(hv d).2=true
  ·exact q
  ·rw [if_neg q] at h;cases h
 have:=ZE c d h1.1 h1.2;unfold vz at this;rw [if_pos h] at this;exact ⟨h1.1,h1.2,by omega⟩
theorem zn2{c d:UInt8}(h:(hb c d).2=false):(hv c).2=false\/(hv d).2=false:=by
 unfold hb at h;by_cases q:(hv c).2=true/\(hv d).2=true
 ·rw [if_pos q] at h;cases h
 ·cases h1:(hv c).2
  ·exact .inl rfl
  ·cases h2:(hv d).2
   ·exact .inr rfl
   ·exact absurd ⟨h1,h2⟩ q
def num256(a:Nat)(l:List UInt8):Nat:=l.foldl (fun m b=>256*m+b.toNat) a
theorem Jo:∀ (n:Nat) (l:List UInt8) (a:Nat),l.length=2*n->l.foldl qK (some a)=(yP l).map (num256 a)
 |0,[],a,_=>by simp [yP,num256]
 |0,_::_,_,h=>by simp at h
 |n+1,[],_,h=>by simp at h
 |n+1,[_],_,h=>by simp at h;omega
 |n+1,x::y::r,a,h=>by
  rw [xz];simp only [List.foldl_cons];cases q:(hb x y).2
  ·have e:qK (qK (some a) x) y=none:=by
    rcases zn2 q with z|z
    ·simp [qK,z]
    ·simp only [qK,Option.bind_some];split<;>simp [z]
   rw [e,YZ];simp
  ·obtain ⟨h1,h2,h3⟩:=zlQ q;have e:qK (qK (some a) x) y=some (256*a+(hb x y).1.toNat):=by
    simp only [qK,Option.bind_some,h1,h2,if_true];congr 1
    omega
   rw [e,Jo n r _ (by simp at h;omega),if_pos rfl,Option.map_map];rfl
theorem vJ{n:Nat}{l:List UInt8}(h:l.length=2*n):yJ l=match yP l with
  |some bs=>(num256 0 bs:Int)
  |none=> -1:=by
 unfold yJ;rw [qL,Jo n l 0 h];cases yP l<;>rfl
theorem zjf(x y:UInt8):(num256 0 [x,y]:Int)=zn (y.toNat:Int) (x.toNat:Int):=by
 unfold zn num256;simp only [List.foldl_cons,List.foldl_nil];omega
theorem zc8(x y z:UInt8):(num256 0 [x,y,z]:Int)=256*zn (y.toNat:Int) (x.toNat:Int)+(z.toNat:Int):=by
 unfold zn num256;simp only [List.foldl_cons,List.foldl_nil];omega
theorem GR(c:UInt8):yJ [c]=if (hv c).2=true then ((hv c).1.toNat:Int) else -1:=by
 unfold yJ;rw [qL];simp only [List.foldl_cons,List.foldl_nil,qK,Option.bind_some];cases h:(hv c).2<;>simp
theorem U4:∀ (l:List Pat) (ps:List Value) (p:Pat) (v:Value),ps.length=l.length->XA (l++ [p]) (ps++ [v])=XA l ps++ [Iq p.at_,v]
 | [],[],_,_,_=>rfl
 | [],_::_,_,_,h=>by simp at h
 |_::_,[],_,_,h=>by simp at h
 |q::l,u::ps,p,v,h=>by simp [XA,U4 l ps p v (by simpa using h)]
theorem DS.pat{tag tag1:Nat->Nat}{w0 w1 wa w2:World}{base:Nat}{S:SB}{f:DF}{g' cap':Nat}{p:Pat}{v:Value}(d:DS w1 base tag1 f S)(c:Chg tag tag1 w0 w1)(ha:Bq w1 wa)(hg:wa.grownBy w2 f.vp.ownBlock)(hat:f.vp.ownBlock=some g'\/g'=wa.heap.size)
  (hown:w2.ownsRow base 272 2 (Sq g' (S.pa.length+1) cap') (S.pa.length+1) (XA S.pa f.ps++ [Iq p.at_,v])) (hv:w1.ownsRow base 3 1 v p.bytes.length (xY p.bytes)) (tv:∀g,v.ownBlock=some g->tag1 g=0/\w0.heap.size<=g):
  Dn tag w0 base f.Q {S with pa:=S.pa++ [p] } (w2.setCell (Aq f.Q 4) (Sq g' (S.pa.length+1) cap')):=by
 have s1:=ha.size;have s2:=hg.size;have s0:=c.size;have hgt:∀g,g<w1.heap.size->g=g'->tag1 g=6:=fun g h e=>by
  rcases hat with z|z
  ·exact d.c.tp g (e ▸ z)
  ·omega
 have k0:∀g,g<w1.heap.size->tag1 g≠6->w2.heap[g]?=w1.heap[g]?:=fun g h1 h2=>(hg.block g zza (fun e=>h2 (d.c.tp g e.symm))).trans (ha.block g h1)
 have k:∀g,g<w1.heap.size->tag1 g≠6->tag1 g≠1->(w2.setCell (Aq f.Q 4) (Sq g' (S.pa.length+1) cap')).heap[g]?=w1.heap[g]?:=fun g h1 h2 h3=>(Below.heap_setCell _ _ _ _ (fun e=>h3 (by rw [e];exact d.c.tQ))).trans (k0 g h1 h2)
 have hvg:∀g,v.ownBlock=some g->g≠g':=fun g e q=>by
  have h1:=(hv.lt g e).2;have h2:=hgt g h1 q;rw [(tv g e).1] at h2;cases h2
 have t:∀g,g<w1.heap.size->tag1 g≠0->(fun g=>if g=g' then 6 else if v.ownBlock=some g then 11 else tag1 g) g=tag1 g:=fun g h h0=>by
  show (if g=g' then 6 else if v.ownBlock=some g then 11 else tag1 g)=_;by_cases e:g=g'
  ·rw [if_pos e,hgt g h e]
  ·rw [if_neg e,if_neg (fun q=>h0 (tv g q).1)]
 have hQg:g'≠f.Q:=fun e=>by have h1:=hgt f.Q d.blk.lt e.symm;rw [d.c.tQ] at h1;cases h1
 obtain ⟨m1,m2,m3,m4⟩:=d.mch.lt;have hZ:=d.c.sc.cells.lt;obtain ⟨lb,b1,b2⟩:=d.c.bk;obtain ⟨lw,e1,e2⟩:=d.c.wt;have own:∀ {te size n:Nat} {u:Value} {xs:List Value} {m:Nat},m≠6->m≠1->w1.ownsRow base te size u n xs->(∀g,u.ownBlock=some g->tag1 g=m)->∀g,u.ownBlock=some g->(w2.setCell (Aq f.Q 4) (Sq g' (S.pa.length+1) cap')).heap[g]?=w1.heap[g]?:=fun n9 n1 o hm g e=>k g (o.lt g e).2 (by rw [hm g e];exact n9) (by rw [hm g e];exact n1)
 refine ⟨fun g=>if g=g' then 6 else if v.ownBlock=some g then 11 else tag1 g,{f with vp:=Sq g' (S.pa.length+1) cap',ps:=f.ps++ [v] },rfl,⟨(d.blk.same (k0 _ d.blk.lt (by rw [d.c.tQ];decide))).put 4 _,d.mch.same (k _ m1 (by rw [d.c.tR];decide) (by rw [d.c.tR];decide)) (k _ m2 (by rw [d.c.tM];decide) (by rw [d.c.tM];decide)) (fun g e=>k g (m4 g e).1 (by rw [d.c.th g e];decide) (by rw [d.c.th g e];decide)),d.c.sc.sameBlock (k _ hZ (by rw [d.c.tZ];decide) (by rw [d.c.tZ];decide)),⟨by simp [d.c.pat.len],?_,?_⟩,⟨lb,zG b1 (own zzb zzb b1 d.c.tb),b2⟩,⟨lw,zG e1 (own zzb zzb e1 d.c.tw),e2⟩,zG d.c.rg (own zzb zzb d.c.rg d.c.tr),?_,d.c.lo,
  (t _ d.blk.lt (by rw [d.c.tQ];decide)).trans d.c.tQ,(t _ hZ (by rw [d.c.tZ];decide)).trans d.c.tZ,(t _ m1 (by rw [d.c.tR];decide)).trans d.c.tR,(t _ m2 (by rw [d.c.tM];decide)).trans d.c.tM,fun g e=>(t g (m4 g e).1 (by rw [d.c.th g e];decide)).trans (d.c.th g e),fun g e=>(by injection e with e;exact if_pos e.symm),fun g e=>(t g (b1.lt g e).2 (by rw [d.c.tb g e];decide)).trans (d.c.tb g e),fun g e=>(t g (e1.lt g e).2 (by rw [d.c.tw g e];decide)).trans (d.c.tw g e),fun g e=>(t g (d.c.rg.lt g e).2 (by rw [d.c.tr g e];decide)).trans (d.c.tr g e),fun g e=>?_,fun i u hu g e=>?_⟩,
  ?_⟩
 ·rw [List.length_append,U4 _ _ _ _ d.c.pat.len];exact zG hown (fun g e=>Below.heap_setCell _ _ _ _ (by injection e with e;rw [<-e];exact hQg))
 ·intro i hi;rw [List.length_append] at hi;by_cases q:i<S.pa.length
  ·obtain ⟨u,h1,h2⟩:=d.c.pat.each i q;exact ⟨u,by rw [List.getElem?_append_left (by rw [d.c.pat.len];exact q)];exact h1,by
    show World.ownsRow _ _ _ _ _ (S.pa++ [p])[i].bytes.length (xY (S.pa++ [p])[i].bytes);rw [List.getElem_append_left q];exact zG h2 (fun g e=>k g (h2.lt g e).2 (by rw [d.c.ts i u h1 g e];decide) (by rw [d.c.ts i u h1 g e];decide))⟩
  ·have qi:i=S.pa.length:=by have hi:i<S.pa.length+1:=hi;omega
   subst qi;exact ⟨v,by rw [List.getElem?_append_right (by rw [d.c.pat.len];exact Nat.le_refl _),d.c.pat.len];simp,by
    show World.ownsRow _ _ _ _ _ (S.pa++ [p])[S.pa.length].bytes.length (xY (S.pa++ [p])[S.pa.length].bytes);rw [List.getElem_append_right (Nat.le_refl _)];simp only [Nat.sub_self,List.getElem_cons_zero];exact zG hv (fun g e=>k g (hv.lt g e).2 (by rw [(tv g e).1];decide) (by rw [(tv g e).1];decide))⟩
 ·exact zkj
 ·rcases d.c.ls with q|q
  ·rw [q.2] at e;cases e
  ·exact (t g (q.blk g e) (by rw [d.c.tl g e];decide)).trans (d.c.tl g e)
 ·by_cases q:i<f.ps.length
  ·rw [List.getElem?_append_left q] at hu;exact (t g (d.c.pat.blk hu g e) (by rw [d.c.ts i u hu g e];decide)).trans (d.c.ts i u hu g e)
  ·rw [List.getElem?_append_right zza] at hu;have:u=v:=by
    rcases h:i-f.ps.length with _|j
    ·rw [h] at hu;simpa using hu.symm
    ·rw [h] at hu;simp at hu
   subst this;show (if g=g' then 6 else if u.ownBlock=some g then 11 else tag1 g)=11;rw [if_neg (hvg g e),if_pos e]
 ·exact ⟨hg.os.trans (ha.os.trans c.os),hg.tape.trans (ha.tape.trans c.tape),hg.output.trans (ha.output.trans c.output),by simp;omega,fun g h1 h2=>(k g zza (by rw [c.tags g h1 h2];decide) (by rw [c.tags g h1 h2];decide)).trans (c.block g h1 h2),fun g h1 h2=>by
   have h3:=c.tags g h1 h2;show (if g=g' then 6 else if v.ownBlock=some g then 11 else tag1 g)=0;rw [if_neg (fun e=>by have:=hgt g zza e;omega),if_neg (fun e=>by have:=(tv g e).2;omega),h3]⟩
theorem JI:∀ (n:Nat) (l:List UInt8) (x y:UInt8),l.length=2*n->yP (l++ [x,y])=(yP l).bind fun o=>if (hb x y).2=true then some (o++ [(hb x y).1]) else none
 |0,[],x,y,_=>by simp [yP]
 |0,_::_,_,_,h=>by simp at h
 |n+1,[],_,_,h=>by simp at h
 |n+1,[_],_,_,h=>by simp at h;omega
 |n+1,a::b::r,x,y,h=>by
  rw [List.cons_append,List.cons_append,xz,xz,JI n r x y (by simp at h;omega)];cases (hb a b).2<;>cases yP r<;>cases (hb x y).2<;>simp
theorem U5(x y:UInt8):yJ [x,y]=if (hb x y).2=true then ((hb x y).1.toNat:Int) else -1:=by
 rw [vJ (n:=1) rfl,xz];cases (hb x y).2<;>simp [yP,num256]
structure Prs (a:List UInt8) (k:Nat) (ok:Bool) (B:List Int):Prop where
 ok:ok=(yP (a.take (2*k))).isSome
 len:B.length=k-2
 val:∀o,yP (a.take (2*k))=some o->B=(o.drop 2).map fun b=>(b.toNat:Int)
theorem zdq(a:List UInt8)(k:Nat)(h:2*k+2<=a.length):a.take (2*(k+1))=a.take (2*k)++ [a.getD (2*k) 0,a.getD (2*k+1) 0]:=by
 have h1:2*k+1<a.length:=by omega
 have h0:2*k<a.length:=by omega
 rw [show 2*(k+1)=2*k+1+1 from by omega,List.take_succ_eq_append_getElem h1,List.take_succ_eq_append_getElem h0,List.append_assoc,List.getD_eq_getElem?_getD,List.getD_eq_getElem?_getD,List.getElem?_eq_getElem h1,List.getElem?_eq_getElem h0];rfl
theorem Prs.next{a:List UInt8}{k:Nat}{ok:Bool}{B:List Int}(h:Prs a k ok B)(hk:2*k+2<=a.length)(h2:2<=k):Prs a (k+1) (ok&&decide (0<=yJ [a.getD (2*k) 0,a.getD (2*k+1) 0])) (B++ [yJ [a.getD (2*k) 0,a.getD (2*k+1) 0]]):=by
 have e:=JI k (a.take (2*k)) (a.getD (2*k) 0) (a.getD (2*k+1) 0) (by rw [List.length_take];omega);rw [<-zdq a k hk] at e;generalize a.getD (2*k) 0=x at*;generalize a.getD (2*k+1) 0=y at*;refine ⟨?_,by rw [List.length_append,h.len];simp;omega,fun o ho=>?_⟩
 ·rw [h.ok,e,U5];cases yP (a.take (2*k))<;>cases (hb x y).2<;>simp
 ·rw [e] at ho;cases hq:yP (a.take (2*k)) with
  |none=>rw [hq] at ho;cases ho
  |some q=>
   rw [hq] at ho;have hl:=vu _ _ _ (Nat.le_refl _) hq;rw [List.length_take] at hl;simp only [Option.bind_some] at ho;split at ho
   ·next hb=>
    injection ho with ho;subst ho;rw [h.val q hq,U5,if_pos hb,List.drop_append_of_le_length zza,List.map_append];rfl
   ·cases ho
theorem Prs.first{a:List UInt8}(h:4<=a.length):Prs a 2 (decide (0<=yJ (a.take 4))) []:=by
 have hl:(a.take 4).length=2*2:=by rw [List.length_take];omega
 have e:=vJ hl;refine ⟨?_,rfl,fun o ho=>?_⟩
 ·rw [e];show _=(yP (a.take 4)).isSome;cases yP (a.take 4)<;>simp
 ·have:=vu _ _ _ (Nat.le_refl _) ho;have hl:(a.take (2*2)).length=4:=hl;rw [List.drop_of_length_le zza];rfl
theorem JJ{a o:List UInt8}(h:yP a=some o)(h2:2<=o.length):yJ (a.take 4)=yo o:=by
 have hl:=vu _ _ _ (Nat.le_refl _) h;match a,h,hl with
 |x::y::z::t::r,h,hl=>
  rw [xz,xz] at h;show yJ [x,y,z,t]=_;rw [vJ (n:=2) rfl,xz,xz];split at h
  ·next h1=>
   rw [if_pos h1];split at h
   ·next h3=>
    rw [if_pos h3];cases hr:yP r with
    |none=>rw [hr] at h;cases h
    |some q=>
     rw [hr] at h;injection h with h;subst h;exact zjf _ _
   ·cases h
  ·cases h
 | [],h,hl=>simp at hl;omega
 | [_],h,hl=>simp at hl;omega
 | [_,_],h,hl=>simp at hl;omega
 | [_,_,_],h,hl=>simp at hl;omega
def Sat(S:SB)(N:Int):Prop:= ∃w B s,CAt w B s/\SV S s/\SI S N
theorem Z1{P:Program}{f:FuncId}{args:Array Value}{w:World}{R:Ending->World->Prop}(h:Calls P f args w R):∃e w',R e w':=by
 obtain ⟨e,w',_,hR,_⟩:=h [];exact ⟨e,w',hR⟩
section
variable {S:SB} {N:Int}
theorem Sat.rn(h:Sat S N):Rn S.pc:=by
 obtain ⟨w,B,s,hc,hS,_⟩:=h;have r:=zlF hc;rw [hS.core] at r;exact ⟨⟨r.bytes.1,r.bytes.2⟩,r.data,r.a,r.x,r.y,r.sp,r.p,r.pc⟩
theorem Sat.pa(h:Sat S N):(∀p∈S.pa,PatOk p)/\S.pa.length<=4:=by
 obtain ⟨w,B,s,hc,hS,_⟩:=h;obtain ⟨H,h1,_⟩:=hS.pa.h;exact ⟨hS.pa.ok,h1.n4⟩
theorem Sat.rc(h:Sat S N):S.rc.first<64/\S.rc.n<=64:=by
 obtain ⟨w,B,s,hc,hS,_⟩:=h;exact ⟨hS.rc.f64,hS.rc.n64⟩
theorem Sat.pts(h:Sat S N):S.bp.n<=4/\S.wp.n<=4:=by
 obtain ⟨w,B,s,hc,hS,_⟩:=h;exact ⟨hS.bp.n4,hS.wp.n4⟩
theorem Sat.cycs(h:Sat S N):0<=S.pc.cyc/\S.pc.cyc<=N:=by
 obtain ⟨w,B,s,hc,hS,hI⟩:=h;exact ⟨hI.c0,hI.c1⟩
theorem Sat.cyc(h:Sat S N)(h5:S.pc.st≠5)(hr:S.re=true->S.rc.n<64)(hN:N<4611686018427387904):Sat S.cyc1.1 (N+1)/\(0<=S.cyc1.2.addr/\S.cyc1.2.addr<65536)/\∀k,Left S.pc k->∃k',Left S.cyc1.1.pc k'/\k'<=9/\(S.cyc1.1.pc.betw=true\/k'+1<=k):=by
 obtain ⟨w,B,s,hc,hS,hI⟩:=h;obtain ⟨e,w',_,s',hT,hS'⟩:=Z1 (Xg (Tn.refl hc) hS h5 hI.wf hr);obtain ⟨h1,h2,h3,h4⟩:=zbh hc hS hI h5 hN hT.c hS';exact ⟨⟨w',B,s',hT.c,hS',h1⟩,⟨h2,h3⟩,h4⟩
end
theorem Left.pos{s:PC}{k:Nat}(h:Left s k):1<=k:=by
 cases h with
 |idle=>omega
 |mid n _ h7 _=>omega
structure GoP (F:Nat) (N:Int) (wh:Bool) (Gv:SB × List UInt8) (S:SB) (l c:Int) (f:Nat):Prop where
 s:Sat S (N+c)
 l0:0<=l
 l1:l<=65535
 c0:0<=c
 cf:c+f<=F
 lf:∃k,Left S.pc k/\10*l.toNat+k<=f
 g:S.go f l wh c=Gv
theorem GoP.first{S:SB}{N l:Int}{wh:Bool}(h:Sat S N)(l0:0<=l)(l1:l<=65535):GoP (10*l.toNat+9) N wh (S.go (10*l.toNat+9) l wh 0) S l 0 (10*l.toNat+9):=by
 have hI:∃k,Left S.pc k/\k<=9:=by obtain ⟨_,_,_,_,_,hI⟩:=h;exact hI.left
 obtain ⟨k,hk,h9⟩:=hI;exact ⟨by rw [Int.add_zero];exact h,l0,l1,Int.le_refl _,by omega,⟨k,hk,by omega⟩,rfl⟩
section
variable {F f:Nat} {N l c:Int} {wh:Bool} {Gv:SB × List UInt8} {S:SB}
theorem GoP.pos(h:GoP F N wh Gv S l c f):0<f:=by
 obtain ⟨k,hk,hf⟩:=h.lf;have:=hk.pos;omega
theorem GoP.stops(h:GoP F N wh Gv S l c f){why:Nat}(hk:S.look l c=some why):Gv=(S,xD why c):=by
 obtain ⟨f',rfl⟩:∃f',f=f'+1:=⟨f-1,by have:=h.pos;omega⟩
 rw [<-h.g,SB.go,hk]
theorem GoP.goes(h:GoP F N wh Gv S l c f)(hk:S.look l c=none)(hN:N+c<4611686018427387904):(S.cyc1.1.wp.has S.cyc1.2.addr=true->Gv=(S.cyc1.1,xD 2 (c+1)))/\
  (S.cyc1.1.wp.has S.cyc1.2.addr=false->GoP F N wh Gv S.cyc1.1 (if wh=false\/S.cyc1.1.pc.betw=true then l-1 else l) (c+1) (f-1)):=by
 obtain ⟨f',rfl⟩:∃f',f=f'+1:=⟨f-1,by have:=h.pos;omega⟩
 obtain ⟨ln,h5,hr⟩:=Qr hk;have hrc:=h.s.rc;obtain ⟨s2,_,hL⟩:=h.s.cyc h5 (fun e=>by have:=hrc.2;by_cases q:S.rc.n=64;exact absurd ⟨e,q⟩ hr;omega) hN;have hg:=h.g;rw [SB.go,hk] at hg;simp only at hg;refine ⟨fun q=>?_,fun q=>?_⟩
 ·rw [if_pos q] at hg;exact hg.symm
 ·rw [if_neg (by rw [q];decide)] at hg;have hl0:=h.l0;have hl1:=h.l1;obtain ⟨k,hk1,hk2⟩:=h.lf;have hp:=hk1.pos;obtain ⟨k',k1,k2,k3⟩:=hL k hk1;refine ⟨by rw [<-Int.add_assoc];exact s2,?_,?_,by have:=h.c0;omega,by have:=h.cf;omega,⟨k',k1,?_⟩,by simpa using hg⟩
  ·split<;>omega
  ·split<;>omega
  ·split
   ·omega
   ·rename_i hb;have hb2:¬S.cyc1.1.pc.betw=true:=fun z=>hb (.inr z)
    have:k'+1<=k:=k3.resolve_left hb2;omega
end
theorem zb7(why c:Nat)(h:why<=4):[84]++zX why 1++zX c 6=xD why (c:Int):=by
 unfold xD;rw [Int.toNat_natCast];congr 1
 match why,h with
 |0,_|1,_|2,_|3,_|4,_=>rfl
 |n+5,h=>omega
theorem zb8(most c d:Int)(wh bt:Bool):(if wh=false\/bt=true then (most-if wh=true then d else c)-1 else most-if wh=true then d else c)=most-if wh=true then (if bt=true then d+1 else d) else c+1:=by
 cases wh<;>cases bt<;>simp<;>omega
section
structure FdW (w0 w1:World) (B pg:Nat) (N:Int) (S:SB) (ps:List Pk) (W:World) (u:Value) (k:Nat) (q:PC):Prop where
 t:Tn B q w0 W
 v:SV (S.answers (ps.take k)).1 q
 i:SI (S.answers (ps.take k)).1 (N+1000000*k)
 r:(S.answers (ps.take k)).1.rp.length<=80
 z:w1.heap.size<=W.heap.size
 p:∀j,W.cell? (Aq pg j)=w1.cell? (Aq pg j)
 o:W.ownsRow w1.heap.size 5 1 u (S.answers (ps.take k)).2.length (zS (S.answers (ps.take k)).2)
 l:(S.answers (ps.take k)).2.length<=201*k
def zj6(B:Nat)(N:Int)(w0 w w':World)(R:SB × List UInt8)(n:Nat)(e:Ending):Prop:=
 ∃v s',e=.returned v/\w'.ownsRow w.heap.size 5 1 v R.2.length (zS R.2)/\Tn B s' w0 w'/\SV R.1 s'/\SI R.1 (N+1000000*n)/\R.1.rp.length<=80
theorem K8{w:World}{a b n:Nat}{v:Value}{xs:List Value}(h:w.ownsRow a 5 1 v n xs)(hb:b<=a):w.ownsRow b 5 1 v n xs:=by
 obtain ⟨h1,h2⟩:=h;refine ⟨h1,?_⟩;rcases h2 with h2|⟨g,cap,cur,e,h3,h4⟩
 ·exact .inl h2
 ·exact .inr ⟨g,cap,cur,e,Nat.le_trans hb h3,h4⟩
theorem zeR{B:Nat}{s:PC}{w0 w:World}{S:SB}{N:Int}(h:Tn B s w0 w)(hS:SV S s)(hI:SI S N)(hN0:0<=N)(hN:N<=2000000000000000000)(hrp:S.rp.length<=80)(bb off cap:Nat)(l:List UInt8)(hl:l.length<=4000000)(hB:zy w bb off l)(hne:bb≠B):Calls prog 40 #[Pq B,.slice (some (Aq bb off)) l.length cap] w fun e w'=>zj6 B N w0 w w' (S.feed l) (zR S.sc l).length e:=by
 obtain ⟨i0,hi,hz0,hz1,hz2⟩:=info_parts xP;have hlt:=h.c.lt;have hsz:=h.g.size;have hpl:=jX l S.sc;have hpb:=ZZ l S.sc;have SF:=jO B bb off cap S.sc l w (hS.scs h) zza hB hne zza;unfold SB.feed;have HT:=hid h;have HS:=hid hS;have HI0:=hid hI;have HRP:=hid hrp;clear hB;generalize zR S.sc l=ps at*;generalize yA S.sc l=c1 at*;have HPB:=hid hpb;have HI1:Hid (SI {S with sc:=c1} N):=HI0.out.like rfl rfl;have hr1:({S with sc:=c1}:SB).rp.length<=80:=HRP.out;have SCN:=fun {w1:World} {v:Value} (F:FedS (fun o=>w.cell? (Aq B o)) B w w1 v c1 ps)=>scanned HT.out HS.out F
 generalize ({S with sc:=c1}:SB)=S1 at*;go_enter func40,ntmps40;go_wp2_with fail;refine SF.mono ?_;rintro e w1 ⟨v,rfl,F1⟩;obtain ⟨s1,T1,V1⟩:=SCN F1;clear SCN;have hs1:=F1.grown.size;have HV1:=hid V1;have HT1:=hid T1;by_cases hps:ps=[]
 ·subst hps;obtain rfl:=F1.nil rfl;clear F1 SF h hS hI V1 T1;go_wp2_with fail;go_loopw [5,14] (fun v i wr=>v=Nq/\i=Iq 0/\wr=w1) (fun _ i _=>1);case atStart=>exact ⟨rfl,rfl,rfl⟩
  case round=>
   obtain ⟨rfl,rfl,rfl⟩:=hrel;go_wp2;go_ret;exact ⟨_,s1,rfl,World.ownsRow_nil _ _ _ _,HT1.out,HV1.out,HI1.out.mono zza,hr1⟩
 ·have hps1:ps.length≠0:=fun e=>hps (List.eq_nil_of_length_eq_zero e)
  obtain ⟨pg,pcap,rfl⟩:∃g cap,v=Sq g ps.length cap:=by
   rcases F1.own.2 with ⟨-,e⟩|⟨g,cap,cur,e, -⟩
   ·exact absurd e hps1
   ·exact ⟨g,cap,e⟩
  have HPC:Hid (∀k j,(hk:k<ps.length)->j<3->w1.cell? ⟨pg,k*3+j,none⟩=(ps[k].cells)[j]?):=fun k j hk hj=>(F1.own.cellAt (k*3+j) zza).trans (Qx _ k j hk hj)
  have hpg:=F1.own.lt pg rfl;have npg:pg≠B:=by omega
  have hpg2:pg<w1.heap.size:=hpg.2;clear F1 SF h hS hI V1 T1;have HW0:Hid (FdW w0 w1 B pg N S1 ps w1 (Nq) 0 s1):=⟨HT1.out,HV1.out,HI1.out.mono zza,hr1,Nat.le_refl _,fun j=>rfl,World.ownsRow_nil _ _ _ _,by simp [SB.answers]⟩;have hpn:ps.length<=4000000:=by omega
  go_wp2_with fail;go_loopw [5,14] (fun v i wr=> ∃(k:Nat) (t:PC),k<=ps.length/\i=Iq k/\FdW w0 w1 B pg N S1 ps wr v k t) (fun _ i _=>ps.length-(intOf i).toNat);case atStart=>exact ⟨0,s1,by omega,rfl,HW0.out⟩
  case round=>
   obtain ⟨k,t,hk,rfl,hW⟩:=hrel;by_cases hlt1:k<ps.length
   ·have q0:=(hW.p (k*3+0)).trans (HPC.out k 0 hlt1 zzb);have q1:=(hW.p (k*3+1)).trans (HPC.out k 1 hlt1 zzb);have q2:=(hW.p (k*3+2)).trans (HPC.out k 2 hlt1 zzb);have hbd:=HPB.out ps[k] (List.getElem_mem _);have HST:=hid (Yw S1 (ps.take k) ps[k]);rw [<-List.take_succ_eq_append_getElem hlt1] at HST;have AN:=fun {x w:World} (h:Tn B t x w)=>VY h hW.v hW.i zza zza ps[k] hbd hW.r
    have hal:=UG (S1.answers (ps.take k)).1 ps[k] hW.r;have har:=zam (S1.answers (ps.take k)).1 ps[k] hW.r;have HW:=hid hW;have htl:=hW.l;rw [Uj] at AN;generalize hPK:ps[k]=pk at*;obtain ⟨sq,bd,ba⟩:=pk;change wr.cell? ⟨pg,k*3,none⟩=some (Iq (sq:Int)) at q0;change wr.cell? ⟨pg,k*3+1,none⟩=some (Zq ⟨bd.toArray⟩) at q1;change wr.cell? ⟨pg,k*3+2,none⟩=some (Tq ba) at q2;generalize hA:(S1.answers (ps.take k)).1.ans ⟨sq,bd,ba⟩=A at*;obtain ⟨S2,L⟩:=A;generalize hT0:(S1.answers (ps.take k)).2=T0 at*;have ho:wr.ownsRow w1.heap.size 5 1 u5 T0.length (zS T0):=by have:=hW.o;rwa [hT0] at this
    have HO:=hid ho;have hz:=hW.z;have HTk:=hid hW.t;have hkl:(k:Int)<(ps.length:Int):=by omega
    clear hW ho HW0 hA hT0 hPK;have hal:0<L.length/\L.length<=201:=hal;have HST:=qH1 HST;go_wp2_with fail;refine (AN (Tn.refl (HTk.out.alloc _).c)).mono ?_;rintro e w2 ⟨g2,cap2,s2,rfl,b2,l2,m2,T2,V2,I2⟩;have HT2:=hid ((HTk.out.alloc _).trans T2);have HV2:=hid V2;have HI2:=hid I2;have HB2:=hid b2;have HO2:=hid (KV (HO.out.alloc _) T2.g zza);have hzz:=T2.g.size;simp only [World.size_alloc] at hzz;have hpw:pg<wr.heap.size:=by omega
    have HP2:Hid (∀j,w2.cell? (Aq pg j)=w1.cell? (Aq pg j)):=fun j=>((kept T2).1 pg j npg zzd).trans ((World.cell?_of_block (a:=(Aq pg j)) (Below.heap_alloc _ _ _ hpw)).trans (HW.out.p j))
    have hl2:T0.length<=201*k:=htl;have hB1:B<w1.heap.size:=by omega
    have h01:w0.heap.size<=w1.heap.size:=by omega
    clear T2 V2 I2 b2 AN;go_wp2_with (first|(at_builtin;go_must (refine wpList_append_lies _ rfl (.tmp 18) (.tmp 21) 35 rfl w1.heap.size 5 i0 (Uq 0) 1 1 zx hi hz0 hz1 hz2 rfl zzb u5 T0.length (zS T0) rfl HO2.out (Aq g2 0) L.length cap2 (zS L) rfl (by rw [yR];simp) (jt HB2.out) (Zo L) hal.1 zze zza zza _ rfl ?_;intro g' cap' w4 hown' hgrow hat hlt';have H4:Hid (w4.ownsRow w1.heap.size 5 1 (Sq g' (T0.length+L.length) cap') (T0++L).length (zS (T0++L))/\Tn B s2 w0 w4/\w1.heap.size<=w4.heap.size/\∀j,w4.cell? (Aq pg j)=w1.cell? (Aq pg j)):=⟨by rw [List.length_append,Za];exact hown',zal HT2.out hgrow (fun q e=>by have:=(HO2.out.lt q e).1;omega),by have:=hgrow.size;omega,fun j=>(World.cell?_of_block (a:=(Aq pg j)) (hgrow.block pg zza (fun e=>by have:=(HO2.out.lt pg e.symm).1;omega))).trans (HP2.out j)⟩;clear hown' hgrow hat hlt')));go_roundw;case rel=>
     obtain ⟨b1,b2,b3,b4⟩:=H4.out;refine ⟨k+1,s2,by omega,by go_num,⟨b2,?_,?_,?_,b3,b4,?_,?_⟩⟩
     ·rw [HST.out];exact HV2.out
     ·rw [HST.out];exact HI2.out.mono zza
     ·rw [HST.out];exact har
     ·rw [HST.out];exact b1
     ·rw [HST.out];show (T0++L).length<=_;rw [List.length_append];omega
    case measure=>simp [intOf];omega
   ·have e1:k=ps.length:=by omega
    subst e1;have HW:=hid hW;clear hW HW0;go_wp2;go_ret;have q:=HW.out;have et:ps.take ps.length=ps:=List.take_length;obtain ⟨a1,a2,a3,a4,a5,a6,a7,a8⟩:=q;rw [et] at a2 a3 a4 a7;exact ⟨_,t,rfl,K8 a7 hs1,a1,a2,a3,a4⟩
end
section
def VV:List Value:=[Uq 0]++(List.replicate 200 (Uq 0)++([Iq 0,Uq 0,Uq 0,Tq false,Zq ⟨#[]⟩]++
 ([.int .u16 0,.int .u16 0,.int .u16 0,.int .u16 0,Iq 0,.int .u16 0,.int .u16 0,.int .u16 0,.int .u16 0,Iq 0]++
 ((List.replicate 4 [Iq 0,.int .u16 0,Uq 0,Uq 0,Uq 0,Uq 0,Uq 0,Uq 0,Uq 0,Uq 0,Iq 0]).flatten++([Iq 0]++
 ((List.replicate 64 [Iq 0,Iq 0,Tq false,Tq false]).flatten++ [Iq 0,Iq 0,Tq false,Tq false,Tq false]))))))
theorem zcu:(zeroCells126.toList.drop 65562).take 522=VV:=by kernel_rfl
def zeS(R:Nat->Option Value):Prop:=∀k,k<522->R (65562+k)=VV[k]?
theorem VW:∃(R:Nat->Option Value) (z:Array Value),(∀w:World,Sem.run prog (zeroValue 126) w=.ok (.agg z) w)/\z.size=66084/\zeS R/\∀ (w:World) (t:TypeId),CAt (w.alloc (.cells z t)) w.heap.size (zah R):=
 ⟨_,_,zeroValue126,zeroCells126_size,fun k hk=>by rw [<-Array.getElem?_toList, <-zcu,List.getElem?_take,if_pos hk,List.getElem?_drop],fun w t=>zeK w t _ zeQ zai⟩
theorem znb:((List.range 64).map fun i=>(VV[261+i*4]?,VV[261+i*4+1]?,VV[261+i*4+2]?,VV[261+i*4+3]?))=List.replicate 64 (some (Iq 0),some (Iq 0),some (Tq false),some (Tq false)):=by kernel_rfl
theorem zraw:((List.range 200).map fun i=>VV[1+i]?)=List.replicate 200 (some (Uq 0)):=by kernel_rfl
theorem znc:((List.range 4).map fun i=>((VV[216+i*11]?,VV[216+i*11+1]?,VV[216+i*11+10]?),(List.range 8).map fun j=>VV[216+i*11+2+j]?))=List.replicate 4 ((some (Iq 0),some (.int .u16 0),some (Iq 0)),List.replicate 8 (some (Uq 0))):=by kernel_rfl
theorem UB{α:Type}{n:Nat}{f:Nat->α}{a:α}(h:(List.range n).map f=List.replicate n a)(i:Nat)(hi:i<n):f i=a:=by
 have q:=congrArg (fun l=>l[i]?) h;simpa [hi] using q
def bus0:BusI:=⟨0,0,false,false⟩
def SB.fresh(rom:Int)(cs:List Chn):SB:=⟨.fresh rom cs (fun _=>none),⟨0,[],0⟩,0,false,[],⟨fun _=>0,0⟩,⟨fun _=>0,0⟩,[],⟨fun _=>bus0,0,0⟩,false,false,false⟩
theorem zaj(rom:Int)(cs:List Chn)(R:Nat->Option Value):PC.fresh rom cs R=(PC.fresh rom cs (fun _=>none)).rr (PC.fresh rom cs R).rest:=rfl
theorem Ga(rom:Int)(cs:List Chn)(R:Nat->Option Value)(h:zeS R):SV (SB.fresh rom cs) (.fresh rom cs R) where
 core:=zaj rom cs R
 sc:=⟨Nat.zero_le _,Nat.zero_le _,h 0 zzb,h 201 zzb,h 202 zzb,fun i hi=>by simp [SB.fresh] at hi,fun i hi=>⟨_,(show R (65563+i)=_ by rw [show 65563+i=65562+(1+i) from by omega];exact (h (1+i) zza).trans (UB zraw i hi))⟩⟩
 cd:=h 203 zzb
 cb:=h 204 zzb
 cr:=h 205 zzb
 bp:=⟨Nat.zero_le _,h 210 zzb,fun i hi=>by
  rcases (show i=0\/i=1\/i=2\/i=3 from by omega) with rfl|rfl|rfl|rfl
  ·exact h 206 zzb
  ·exact h 207 zzb
  ·exact h 208 zzb
  ·exact h 209 zzb⟩
 wp:=⟨Nat.zero_le _,h 215 zzb,fun i hi=>by
  rcases (show i=0\/i=1\/i=2\/i=3 from by omega) with rfl|rfl|rfl|rfl
  ·exact h 211 zzb
  ·exact h 212 zzb
  ·exact h 213 zzb
  ·exact h 214 zzb⟩
 pa:=⟨⟨fun _=>JA,⟨Nat.zero_le _,h 260 zzb,fun i hi=>by
   have q:=UB znc i hi;have q1:=congrArg (fun x=>x.1.1) q;have q2:=congrArg (fun x=>x.1.2.1) q;have q3:=congrArg (fun x=>x.1.2.2) q;have q4:=congrArg (fun x=>x.2) q;refine ⟨?_,?_,fun j hj=>?_,?_⟩
   ·show R (65778+i*11)=_;rw [show 65778+i*11=65562+(216+i*11) from by omega];exact (h _ zza).trans q1
   ·show R (65778+i*11+1)=_;rw [show 65778+i*11+1=65562+(216+i*11+1) from by omega];exact (h _ zza).trans q2
   ·show R (65778+i*11+2+j)=_;rw [show 65778+i*11+2+j=65562+(216+i*11+2+j) from by omega];exact (h _ zza).trans (UB q4 j hj)
   ·show R (65778+i*11+10)=_;rw [show 65778+i*11+10=65562+(216+i*11+10) from by omega];exact (h _ zza).trans q3⟩,fun i hi=>by simp [SB.fresh] at hi⟩,fun i hi=>by simp [SB.fresh] at hi,fun p hp=>by simp [SB.fresh] at hp⟩
 rc:=⟨(show 0<64 from by decide),Nat.zero_le _,h 517 zzb,h 518 zzb,fun i hi=>by
  have q:=UB znb i hi;have q1:=congrArg (fun x=>x.1) q;have q2:=congrArg (fun x=>x.2.1) q;have q3:=congrArg (fun x=>x.2.2.1) q;have q4:=congrArg (fun x=>x.2.2.2) q;refine ⟨?_,?_,?_,?_⟩
  ·show R (65823+i*4)=_;rw [show 65823+i*4=65562+(261+i*4) from by omega];exact (h _ zza).trans q1
  ·show R (65823+i*4+1)=_;rw [show 65823+i*4+1=65562+(261+i*4+1) from by omega];exact (h _ zza).trans q2
  ·show R (65823+i*4+2)=_;rw [show 65823+i*4+2=65562+(261+i*4+2) from by omega];exact (h _ zza).trans q3
  ·show R (65823+i*4+3)=_;rw [show 65823+i*4+3=65562+(261+i*4+3) from by omega];exact (h _ zza).trans q4⟩
 re:=h 519 zzb
 nm:=h 520 zzb
 iq:=h 521 zzb
theorem Gb(N:Nat)(v:Value)(cs:List Chn)(rom:Int)(w:World)(hN:N<=w.heap.size)(hc:CfAt N w v cs)(hv:yt rom cs=true)
  (hl:cs.length<=140737488355328) (hb:∀c∈cs,c.bs.length<=140737488355328):
  Calls prog 26 #[.agg #[v,Iq rom]] w fun e w'=> ∃B R,w.heap.size<=B/\e=.returned (.tuple #[Pq B,Iq 0])/\
   CAt w' B (.fresh rom cs R)/\zeS R/\Bq w w':=by
 obtain ⟨R,zz,hz,hzs,hR,HZ⟩:=VW;have hne:zz≠ #[]:=by intro e;rw [e] at hzs;cases hzs
 have S:∀ (o:Obj) (t:TypeId),Calls prog 37 #[.pointer (some ⟨w.heap.size+1,0,none⟩),.agg #[v,Iq rom]] ((w.alloc o).alloc (.cells zz t)).drew fun e w'=>e=.returned (Iq 0)/\Tn (w.heap.size+1) (.fresh rom cs R) ((w.alloc o).alloc (.cells zz t)) w':=by
  intro o t;have q:=UA (Tn.refl (HZ (w.alloc o) t)).drew N zzd v cs rom ((hc.below (((Below.refl _ _).alloc (Nat.le_refl _) o).alloc zzc _)).below (qJ (Below.refl _ _))) hv hl hb;rwa [show (w.alloc o).heap.size=w.heap.size+1 from by simp] at q
 have HH:=qH1 hR;obtain ⟨p,cap,rfl, -⟩:=hc;clear HZ hR;go_enter func26,ntmps26;go_wp2_with fail;go_region_with (first|(go_at_call 37;refine (S _ _).mono ?_;rintro e w2 ⟨rfl,T2⟩;have HT:Hid (CAt w2 (w.heap.size+1) (.fresh rom cs R)/\Bq w w2):=⟨T2.c,KY (qBa.alloc zzc _) T2.g zza zzd⟩;clear T2 S));all_goals go_wp2
 all_goals go_ret2
 all_goals exact ⟨w.heap.size+1,R,by omega,rfl,HT.out.1,HH.out,HT.out.2⟩
def znd(bs:List UInt8):SB:=SB.fresh 250 (zgJ bs (Nq) (Nq))
theorem zh2(bs:List UInt8):SI (znd bs) 0:=⟨⟨0,(zgK bs).1⟩,by show (0:Int)<=0;omega,by show (0:Int)<=0;omega,fun i=>by show (0:Int)<=0/\(0:Int)<65536/\(0:Int)<=0/\(0:Int)<256;omega⟩
theorem Qt{B:Nat}{s:PC}{w0 w:World}{S:SB}{N:Int}(h:Tn B s w0 w)(hS:SV S s)(hI:SI S N)(hN0:0<=N)(hN:N<=2000000000000000000)(hrp:S.rp.length<=80)(bb off cap:Nat)(l:List UInt8)(hl:l.length<=4000000)(hB:zy w bb off l)(hne:bb≠B):Calls prog 29 #[Pq B,.slice (some (Aq bb off)) l.length cap] w fun e w'=>zj6 B N w0 w w' (S.feed l) (zR S.sc l).length e:=by
 have F:=zeR h hS hI hN0 hN hrp bb off cap l hl hB hne;generalize S.feed l=R at*;clear h hS hI hB;go_enter func29,ntmps29;go_wp2_with (first|(go_at_call 40;refine F.mono ?_;rintro e w2 ⟨v,s2,rfl,H⟩;have HH:=hid H;clear H F));go_ret;exact ⟨v,s2,rfl,HH.out⟩
end
section
def Stb(w:World)(B:Nat)(S:SB)(N:Int):Prop:= ∃s,CAt w B s/\SV S s/\SI S N/\S.rp.length<=80
theorem Stb.bel{w w':World}{B:Nat}{S:SB}{N:Int}(h:Stb w B S N)(b:Bq w w'):Stb w' B S N:=by
 obtain ⟨s,h1,h2⟩:=h;exact ⟨s,h1.bl b,h2⟩
theorem Stb.other{w w':World}{B C:Nat}{S:SB}{N:Int}(h:Stb w B S N)(g:w.grownBy w' (some C))(hne:B≠C):Stb w' B S N:=by
 obtain ⟨s,h1,h2⟩:=h;exact ⟨s,h1.beside g hne,h2⟩
theorem Stb.lt{w:World}{B:Nat}{S:SB}{N:Int}(h:Stb w B S N):B<w.heap.size:=by obtain ⟨s,h1, -⟩:=h;exact h1.lt
theorem Stb.mono{w:World}{B:Nat}{S:SB}{N M:Int}(h:Stb w B S N)(e:N<=M):Stb w B S M:=by obtain ⟨s,h1,h2,h3,h4⟩:=h;exact ⟨s,h1,h2,h3.mono e,h4⟩
theorem Stb.feed{w:World}{B:Nat}{S:SB}{N:Int}(h:Stb w B S N)(hN0:0<=N)(hN:N<=2000000000000000000)(bb off cap n:Nat)(l:List UInt8)(hn:l.length=n)(hl:l.length<=4000000)(hB:zy w bb off l)(hne:bb≠B):Calls prog 29 #[Pq B,.slice (some (Aq bb off)) n cap] w fun e w'=> ∃v,e=.returned v/\w'.ownsRow w.heap.size 5 1 v (S.feed l).2.length (zS (S.feed l).2)/\Stb w' B (S.feed l).1 (N+1000000*l.length)/\w.grownBy w' (some B):=by
 subst hn;obtain ⟨s,h1,h2,h3,h4⟩:=h;refine (Qt (Tn.refl h1) h2 h3 hN0 hN h4 bb off cap l hl hB hne).mono ?_;rintro e w' ⟨v,s',rfl,o,T,V,I,R⟩;have:=jX l S.sc;exact ⟨v,rfl,o,⟨s',T.c,V,I.mono zza,R⟩,T.g⟩
theorem Stb.fresh{w:World}{B:Nat}{R:Nat->Option Value}{bs:List UInt8}{v1 v2:Value}(h:CAt w B (.fresh 250 (zgJ bs v1 v2) R))(hR:zeS R):Stb w B (znd bs) 0:=
 ⟨_,h,Ga 250 (zgJ bs v1 v2) R hR,zh2 bs,by show 0<=80;decide⟩
theorem Gc(ps:List Pk):∀S:SB,S.rp.length<=80->(S.answers ps).2.length<=201*ps.length:=by
 induction ps with
 |nil=>intro S _;simp [SB.answers]
 |cons p r ih=>
  intro S h;have h1:=(UG S p h).2;have h2:=ih (S.ans p).1 (zam S p h);rw [SB.answers,List.length_append,List.length_cons];omega
end
