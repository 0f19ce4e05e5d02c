import Derived.Laws.CopyRow
import Derived.Deep.RegionHeld3
import Derived.Lib.Strings
import Derived.Deep.QuietTactic
import Derived.BigQuiet
import Derived.Lib.SliceRun
import Derived.Deep.RegionLaw
import Derived.Test.YtcgjliflnnklnaaGreatJ23
import Derived.Test.YtcgjliflnnklnaaGreatJ19
import Derived.Test.YtcgjliflnnklnaaGreatJ01
import Derived.Test.YtcgjliflnnklnaaGreatJ13
import Derived.Test.YtcgjliflnnklnaaGreatJ18
import Derived.Test.YtcgjliflnnklnaaGreatJ22
namespace Go.Proofs.YtcgjliflnnklnaaGreat
open Go.RowKit Tryz
set_option maxRecDepth 100000
set_option maxHeartbeats 8000000
theorem zhF(t3:RS)(q:BusI)(h:t3.r.jam=true->t3.h=[]):(if t3.r.jam=true then (t3,q) else if (zo t3.op t3.md t3.r (t3.h++ [q.data])).2=true then ({t3 with h:=t3.h++ [q.data] },q) else ({t3 with h:=[],r:=zV t3.op t3.md t3.r (t3.h++ [q.data])},q)).1.r.jam=true->
  (if t3.r.jam=true then (t3,q) else if (zo t3.op t3.md t3.r (t3.h++ [q.data])).2=true then ({t3 with h:=t3.h++ [q.data] },q) else ({t3 with h:=[],r:=zV t3.op t3.md t3.r (t3.h++ [q.data])},q)).1.h=[]:=by
 by_cases h1:t3.r.jam=true
 ·rw [if_pos h1];exact fun _=>h h1
 ·rw [if_neg h1];by_cases h2:(zo t3.op t3.md t3.r (t3.h++ [q.data])).2=true
  ·rw [if_pos h2];exact fun z=>absurd z h1
  ·rw [if_neg h2];exact fun _=>rfl
theorem KS(t:RS)(nmi irq:Bool)(hj:t.r.jam=false):(t.cycle nmi irq).1.r.jam=true->(t.cycle nmi irq).1.h=[]:=by
 refine zhF _ _ ?_;rw [(qQ _ _).1,(qQ _ _).2.2.2.1];intro z;by_cases h0:t.h.length=0
 ·rw [if_pos h0,(qR _ _ _).1,(Xc _ _).2.2.2.1];exact List.length_eq_zero_iff.1 h0
 ·rw [if_neg h0,(Xc _ _).1] at z;rw [show ({t.r with cyc:=IntKind.wrap .i64 (t.r.cyc+1)}:RG).jam=t.r.jam from rfl,hj] at z;cases z
def Mch(w:World)(base R M:Nat)(vh:Value)(s:PC):Prop:= ∃t,MAt w R M (MV M vh t) t.mem/\HV w base R M vh t.h/\Alike s t/\(t.r.jam=true->t.h=[])
theorem Mch.same{w w':World}{base R M:Nat}{vh:Value}{s:PC}(h:Mch w base R M vh s)(e1:w'.heap[R]?=w.heap[R]?)(e2:w'.heap[M]?=w.heap[M]?)(e3:∀g,vh.ownBlock=some g->w'.heap[g]?=w.heap[g]?):Mch w' base R M vh s:=by
 obtain ⟨t,h1,h2,h3⟩:=h;exact ⟨t,h1.same e1 e2,⟨zG h2.o e3,h2.ne⟩,h3⟩
theorem Mch.lt{w:World}{base R M:Nat}{vh:Value}{s:PC}(h:Mch w base R M vh s):R<w.heap.size/\M<w.heap.size/\R≠M/\∀g,vh.ownBlock=some g->g<w.heap.size/\g≠R/\g≠M:=by
 obtain ⟨t,h1,h2,_⟩:=h;exact ⟨h1.lt,h1.ltM,h1.ne,fun g e=>⟨(h2.o.lt g e).2,(h2.ne g e).1,(h2.ne g e).2⟩⟩
theorem zkZ{w:World}{base R M:Nat}{vh:Value}{s:PC}(h:Mch w base R M vh s)(hbs:base<=w.heap.size)(rn:Rn s)(h5:s.st≠5)(nmi irq:Bool):Cq 63 #[Pq R,Tq nmi,Tq irq] w (.tuple #[(s.cycle nmi irq).2.val,Tq true]) fun w'=>
   (∃vh',Mch w' base R M vh' (s.cycle nmi irq).1/\Tri R M vh.ownBlock w w'/\∀g,vh'.ownBlock=some g->vh.ownBlock=some g\/w.heap.size<g):=by
 obtain ⟨t,h0,hv,al,_⟩:=h;have hjm:=qj s t al;have hj:t.r.jam=false:=by rw [<-hjm];simpa using h5
 obtain ⟨q1,q2,q3,q4⟩:=GF al hj;have rg:=al.rg rn;have hmem:∀i,i<65536->0<=t.mem i/\t.mem i<256:=al.mem ▸ rn.bytes.1
 have hcnt:0<=t.cnt/\t.cnt<256:=al.cnt ▸ rn.bytes.2;obtain ⟨e1,e2⟩:=Zx s t nmi irq al rn hj;obtain ⟨d,ad⟩:=Xu nmi irq rg q4 hmem hcnt;refine (zkm h0 hv hbs hj (RgR.of rg) hcnt q1 q2 q3 (fun i _=>qO t.h q4 i) nmi irq d ad).mono ?_;rintro e w' ⟨rfl,vh',p1,p2,p3,p4⟩;exact ⟨by rw [e1],vh',⟨(t.cycle nmi irq).1,p1,p2,e2,KS t nmi irq hj⟩,p3,p4⟩
theorem zk0{w:World}{base R M:Nat}{vh:Value}{s:PC}(h:Mch w base R M vh s)(rn:Rn s)(h5:s.st≠5)(nmi irq:Bool):(0<=(s.cycle nmi irq).2.addr/\(s.cycle nmi irq).2.addr<65536)/\0<=(s.cycle nmi irq).2.data/\(s.cycle nmi irq).2.data<256:=by
 obtain ⟨t,h0,hv,al,_⟩:=h;have hj:t.r.jam=false:=by rw [<-qj s t al];simpa using h5
 obtain ⟨q1,q2,q3,q4⟩:=GF al hj;obtain ⟨e1,e2⟩:=Zx s t nmi irq al rn hj;obtain ⟨d,ad⟩:=Xu nmi irq (al.rg rn) q4 (al.mem ▸ rn.bytes.1) (al.cnt ▸ rn.bytes.2);rw [e1];exact ⟨ad,d⟩
theorem zcp{s:PC}{t:RS}(al:Alike s t)(hb:s.st=0\/s.st=5)(m:Nat->Int):Alike {s with mem:=m} {t with mem:=m}:=by
 refine ⟨rfl,al.rom,al.cnt,al.calls,al.on,al.due,al.cyc,?_⟩;cases al.way with
 |idle h1 h2 f=>exact .idle h1 h2 ⟨f.st,⟨f.b.a,f.b.x,f.b.y,f.b.sp,f.b.p,f.b.pc⟩,f.a,f.x,f.y,f.sp,f.p,f.pc⟩
 |midst i m hne _ _ _ _ _ _ _ _ hM=>have:=Jr hM;omega
 |jam h1 h5 b=>exact .jam h1 h5 ⟨b.a,b.x,b.y,b.sp,b.p,b.pc⟩
theorem zac{s:PC}{t:RS}(al:Alike s t)(hj:t.r.jam=true->t.h=[]):(s.st=0\/s.st=5) ↔ t.h=[]:=by
 cases al.way with
 |idle h1 h2 f=>exact ⟨fun _=>h1,fun _=>.inl f.st⟩
 |midst i m hne _ _ _ _ _ _ _ _ hM=>exact ⟨fun q=>by have:=Jr hM;omega,fun q=>absurd q hne⟩
 |jam h1 h5 _=>exact ⟨fun _=>hj h1,fun _=>.inr h5⟩
theorem Uw{w:World}{base R M:Nat}{vh:Value}{s:PC}(h:Mch w base R M vh s):Cq 200 #[Pq R] w (Tq (s.st==0||s.st==5)) fun w'=>w'=w:=by
 obtain ⟨t,h0,hv,al,hj⟩:=h;have hb:=zac al hj;have c16:w.cell? (Aq R 16)=some vh:=h0.c 16 zzb;rcases hv.shape with ⟨e,p,c,rfl⟩|⟨e,g,c,rfl⟩
 ·have HB:Hid ((s.st==0||s.st==5)=true):=by show _=_;simpa using hb.2 e
  rw [HB.out];clear h0 hv al hj hb;go_enter func200,ntmps200;go_wp2;go_ret;exact ⟨rfl,rfl⟩
 ·have HB:Hid ((s.st==0||s.st==5)=false):=by
   show _=_;rw [Bool.eq_false_iff];intro q;exact e (hb.1 (by simpa using q))
  have hn:((t.h.length:Int)==0)=false:=by
   rw [beq_eq_false_iff_ne];intro q;exact e (List.length_eq_zero_iff.1 zza)
  rw [HB.out];clear h0 hv al hj hb e;go_enter func200,ntmps200;go_wp2;go_ret;exact ⟨rfl,rfl⟩
section
def yP:List UInt8->Option (List UInt8)
 | []=>some []
 | [_]=>none
 |a::b::r=>if (hb a b).2=true then (yP r).map ((hb a b).1::·) else none
theorem xz(a b:UInt8)(r:List UInt8):yP (a::b::r)=if (hb a b).2=true then (yP r).map ((hb a b).1::·) else none:=by rw [yP]
theorem vu:∀ (n:Nat) (l out:List UInt8),l.length<=n->yP l=some out->l.length=2*out.length
 |_,[],out,_,h=>by rw [yP] at h;injection h with h;subst h;rfl
 |_,[_],out,_,h=>by rw [yP] at h;cases h
 |0,a::b::r,_,hn,_=>by simp at hn
 |n+1,a::b::r,out,hn,h=>by
  rw [xz] at h;split at h
  ·cases hr:yP r with
   |none=>rw [hr] at h;cases h
   |some o=>
    rw [hr] at h;injection h with h;subst h;have:=vu n r o (by simp only [List.length_cons] at hn;omega) hr;simp only [List.length_cons];omega
  ·cases h
theorem GG:∀ (n:Nat) (l:List UInt8),l.length<=n->l.length%2=1->yP l=none
 |_,[],_,h=>by simp at h
 |_,[_],_,_=>by rw [yP]
 |0,a::b::r,hn,_=>by simp at hn
 |n+1,a::b::r,hn,h=>by
  rw [xz,GG n r (by simp only [List.length_cons] at hn;omega) (by simp only [List.length_cons] at h;omega)];split<;>rfl
def Jj(l:List UInt8)(k:Nat)(out:List UInt8):Prop:=yP l=(yP (l.drop (2*k))).map (out++·)/\out.length=k
theorem zi2(l:List UInt8):Jj l 0 []:=⟨by simp,rfl⟩
theorem GH(l:List UInt8)(k:Nat)(h:2*k+1<l.length):l.drop (2*k)=l[2*k]::l[2*k+1]::l.drop (2*(k+1)):=by
 rw [List.drop_eq_getElem_cons zza,List.drop_eq_getElem_cons zza];rfl
theorem zi3{l:List UInt8}{k:Nat}{out:List UInt8}(h:Jj l k out)(hk:2*k+1<l.length)(hv:(hb l[2*k] l[2*k+1]).2=true):Jj l (k+1) (out++ [(hb l[2*k] l[2*k+1]).1]):=by
 refine ⟨?_,by rw [List.length_append,h.2];rfl⟩;rw [h.1,GH l k hk,xz,if_pos hv];cases yP (l.drop (2*(k+1)))<;>simp
theorem zi4{l:List UInt8}{k:Nat}{out:List UInt8}(h:Jj l k out)(hk:2*k+1<l.length)(hv:(hb l[2*k] l[2*k+1]).2=false):yP l=none:=by
 rw [h.1,GH l k hk,xz,if_neg (by simp [hv])];rfl
theorem zi5{l:List UInt8}{k:Nat}{out:List UInt8}(h:Jj l k out)(hk:l.length=2*k):yP l=some out:=by
 rw [h.1,List.drop_eq_nil_of_le zza,yP];simp
def qe(w w':World)(l:List UInt8)(e:Ending):Prop:=match yP l with
 |none=>e=.returned (.tuple #[Nq,Tq false])/\Bq w w'
 |some out=> ∃v,e=.returned (.tuple #[v,Tq true])/\Owns w.heap.size w w' v out
theorem GI(w:World)(n:Nat):w.grownBy (w.drewN n) none:=by
 induction n with
 |zero=>exact UH _ _
 |succ n ih=>exact zJ ih (XT _ _)
theorem zi6(s:ByteArray)(j:Nat)(h:j+1<s.size)(w:World):Sem.run prog (Instr.index 9 (Zq s) (Iq ((j:Int)+1))) w=.ok (Uq (s[j+1].toNat:Int)) w:=by
 rw [show (j:Int)+1=((j+1:Nat):Int) from by omega,run_index_string (P:=prog) (h:=underlying9),dif_pos (show 0<=((j+1:Nat):Int)/\((j+1:Nat):Int)<(s.size:Int) from by omega)];rfl
theorem YF(w:World)(s:ByteArray)(hs:s.size<=1000):Calls prog 139 #[Zq s] w fun e w'=>qe w w' s.data.toList e:=by
 obtain ⟨i0,hi,hz0,hz1,hz2⟩:=info_parts xP;have hlen:s.data.toList.length=s.size:=by simp
 by_cases ho:s.size%2=1
 ·unfold qe;rw [GG _ s.data.toList (Nat.le_refl _) (by rw [hlen];exact ho)];have e1:((s.size:Int)).tmod 2=1:=by rw [Int.tmod_eq_emod_of_nonneg zza];omega
  have e2:(s.size:Int)%2=1:=by omega
  go_enter func139,ntmps139;go_wp2;go_ret2;exact ⟨rfl,Below.refl _ _⟩
 ·obtain ⟨m,hm⟩:∃m,s.size=2*m:=⟨s.size/2,by omega⟩
  have e1:((s.size:Int)).tmod 2=0:=by rw [Int.tmod_eq_emod_of_nonneg zza];omega
  have e2:(s.size:Int)%2=0:=by omega
  have e3:(s.size:Int).tdiv 2=(m:Int):=by rw [Int.tdiv_eq_ediv_of_nonneg zza];omega
  have e4:(s.size:Int)/2=(m:Int):=by omega
  have hm1:i0.bytes*m<=281474976710656:=by rw [hz2];omega
  have hm9:m<=500:=by omega
  have HM:=hid hm;clear hm ho;go_enter func139,ntmps139;go_wp2_with (first|(at_make;go_must (refine wpList_make_own _ rfl _ _ 35 rfl w.heap.size 5 i0 (Uq 0) 1 zx hi hz0 hz1 .i64 .i64 _ m rfl rfl rfl hm1 zze (Nat.le_refl _) ?_;intro w1 hown1 hgrow1)));have HO:Hid (Owns w.heap.size w w1 (Sq w.heap.size 0 m) []):=⟨w.heap.size,m,rfl,hown1,(Below.refl _ _).grown hgrow1 (Nat.le_refl _) zzc,hgrow1.size⟩;clear hown1 hgrow1 hm1 e1 e2 e3 e4;go_loopw [4,5] (fun v i wr=> ∃(j k:Nat) (out:List UInt8),k<=m/\j<=s.size/\i=Iq j/\Hid (j=2*k)/\Hid (Jj s.data.toList k out)/\Owns w.heap.size w wr v out) (fun _ i _=>s.size-(intOf i).toNat);case atStart=>exact ⟨0,0,[],Nat.zero_le _,Nat.zero_le _,rfl,rfl,zi2 _,HO.out⟩
  case round=>
   obtain ⟨j,k,out,hk,hj9,rfl,hj,hP,hO⟩:=hrel;clear HO;obtain ⟨g1,cap1,rfl,hown,hbel,hsz⟩:=hO;have hol:out.length=k:=hP.out.2;have hok:out.length<=500:=by omega
   by_cases hlt:j<s.size
   ·have q1:j+1<s.size:=by have h1:=hj.out;have h2:=HM.out;omega
    have HBY:=ve (s[j]) (s[j+1]);have wj:IntKind.i64.wrap ((j:Int)+1)=(j:Int)+1:=by rw [IntKind.wrap_i64];omega
    have IX:=zi6 s j q1;have HW:=hid (And.intro hown (And.intro hbel hsz));have HJ2:Hid (j+2=2*(k+1)):=by have h1:=hj.out;show _=_;omega
    have hk2:k+1<=m:=by have h1:=hj.out;have h2:=HM.out;omega
    have HPN:Hid ((hb s[j] s[j+1]).2=false->yP s.data.toList=none):=by
     have h1:=hj.out;subst h1;exact fun hv=>zi4 hP.out (by rw [hlen];exact q1) hv
    have HPS:Hid ((hb s[j] s[j+1]).2=true->Jj s.data.toList (k+1) (out++ [(hb s[j] s[j+1]).1])):=by
     have h1:=hj.out;subst h1;exact fun hv=>zi3 hP.out (by rw [hlen];exact q1) hv
    cases hv:(hb s[j] s[j+1]).2
    ·have HN:=hid (HPN.out hv);simp only [hv] at HBY;clear hown hbel hsz hP HPN HPS hv hol;go_wp2_with fail;go_quiet (first|(go_at_call 135;exact Calls.quiet_of_same (HBY _)));go_wp2;go_ret2;unfold qe;rw [HN.out];exact ⟨rfl,HW.out.2.1.trans (Yi (Below.refl _ _) _|>.mono HW.out.2.2)⟩
    ·have HPN:=hid (HPS.out hv);simp only [hv] at HBY;generalize (hb s[j] s[j+1]).1=bb at*;clear hown hbel hsz hP HPS hv hol;go_wp2_with fail;go_quiet (first|(go_at_call 135;exact Calls.quiet_of_same (HBY _)));have HW2:Hid (Owns w.heap.size w (wr.drewN nq) (Sq g1 out.length cap1) out):=⟨g1,cap1,rfl,HW.out.1.kept (GI wr nq) (.inr (by intro e;cases e)),HW.out.2.1.trans (Yi (Below.refl _ _) _|>.mono HW.out.2.2),by rw [x8];exact HW.out.2.2⟩;generalize wr.drewN nq=W3 at*;obtain ⟨g2,cap2,e2,hown,hbel,hsz⟩:=HW2.out;injection e2 with e3 e4 e5;injection e3 with e3;injection e3 with e3;subst e3 e5;clear HW2 HW e4;go_wp2_with (first|(at_builtin;go_must (refine wpList_append_lies _ rfl (.tmp 35) (.tmp 37) 35 rfl w.heap.size 5 i0 (Uq 0) 1 1 zx hi hz0 hz1 hz2 rfl zzb (Sq g1 out.length cap1) out.length (zS out) rfl (by exact (hown.alloc _)) (Aq W3.heap.size 0) 1 1 [Uq bb.toNat] rfl rfl (ye _ _ _) (xa _) zzb zze zza zzd _ rfl ?_;intro g' cap' w1 hown' hgrow hat hlt')));have HO:=xe (m:=[bb]) hown hbel hsz hown' hgrow;clear hown hbel hsz hown' hgrow hat hlt';go_roundw;case rel=>exact ⟨j+2,k+1,out++ [bb],by omega,by omega,by go_num,HJ2,HPN,HO⟩
     case measure=>simp [intOf];omega
   ·have HE:Hid (yP s.data.toList=some out):=zi5 hP.out (by have h1:=hj.out;have h2:=HM.out;rw [hlen];omega);have HW:Hid (Owns w.heap.size w wr (Sq g1 out.length cap1) out):=⟨g1,cap1,rfl,hown,hbel,hsz⟩;clear hown hbel hsz hP hol;go_wp2;go_ret2;unfold qe;rw [HE.out];exact ⟨_,rfl,HW.out⟩
end
section
def xt(n:Nat)(a:Int)(bs:List UInt8):Pat:=⟨n,a,fun j=>((bs.getD j 0).toNat:Int),bs.length⟩
def SB.addPat(S:SB)(a:Int)(bs:List UInt8):SB × List UInt8:=
 if bs.length<1\/8<bs.length then (S,eT 50) else if S.pa.length=4 then (S,eT 52) else (SB.settle {S with pa:=S.pa++ [xt S.pa.length a bs] },okT)
theorem zfQ(n:Nat)(a:Int)(bs:List UInt8)(h8:bs.length<=8)(a0:0<=a)(a1:a<65536):PatOk (xt n a bs):=
 ⟨h8,a0,a1,fun j _=>by show 0<=((bs.getD j 0).toNat:Int)/\_;have:=(bs.getD j 0).toNat_lt;exact ⟨by omega,by show ((bs.getD j 0).toNat:Int)<256;omega⟩⟩
theorem PasS.add{R Q:Nat->Option Value}{l:List Pat}{H:Nat->Pat}{p:Pat}(h:PasS R l)(hH:∀i,(h:i<l.length)->H i=l[i])(hp:PatOk p)(ht:p.turn=(l.length:Int))(hq:PasR Q (upd H l.length p) (l.length+1)):PasS Q (l++ [p]):=by
 refine ⟨⟨upd H l.length p,by rw [List.length_append];exact hq,fun i hi=>?_⟩,fun i hi=>?_,fun q hq=>?_⟩
 ·unfold upd;rw [List.length_append] at hi;have hi:i<l.length+1:=hi;by_cases e:i=l.length
  ·subst e;rw [if_pos rfl,List.getElem_append_right (Nat.le_refl _)];simp
  ·rw [if_neg e,List.getElem_append_left zza];exact hH i zza
 ·rw [List.length_append] at hi;have hi:i<l.length+1:=hi;by_cases e:i=l.length
  ·subst e;rw [List.getElem_append_right (Nat.le_refl _)];simpa using ht
  ·rw [List.getElem_append_left zza];exact h.tn i zza
 ·rcases List.mem_append.1 hq with q1|q1
  ·exact h.ok q q1
  ·simp at q1;subst q1;exact hp
theorem MsO.ofR{lo hi:Nat}{s t:PC}(h:RsO lo hi s t):MsO lo hi s t s.mem:=⟨h.core,h.keep⟩
theorem zi7(n:Nat)(a:Int)(bs:List UInt8)(h1:1<=bs.length)(h8:bs.length<=8):((yw ⟨n,a,fun _=>0,bs.length⟩).toList.take 2++zS bs++(yw ⟨n,a,fun _=>0,bs.length⟩).toList.drop (2+(zS bs).length)).toArray=yw (xt n a bs):=by
 match bs,h1,h8 with
 | [_],_,_=>rfl
 | [_,_],_,_=>rfl
 | [_,_,_],_,_=>rfl
 | [_,_,_,_],_,_=>rfl
 | [_,_,_,_,_],_,_=>rfl
 | [_,_,_,_,_,_],_,_=>rfl
 | [_,_,_,_,_,_,_],_,_=>rfl
 | [_,_,_,_,_,_,_,_],_,_=>rfl
 |_::_::_::_::_::_::_::_::_::_,_,h8=>simp only [List.length_cons] at h8;omega
theorem zi8(B:Nat)(w:World):Sem.run prog (Instr.sliceAt 114 (.pointer (some (Aq B 2))) none none none) w=.ok (.slice (some (Aq B 2)) 8 8) w:=by
 have hal:prog.arrayLen 114=8:=by kernel_rfl
 have hel:prog.elem 114=5:=by kernel_rfl
 rw [run_sliceAt_array_all (P:=prog) w 114 (Aq B 2) (by rw [hal,hel];exact underlying114),hal,hel];simp [sizeOf,go_sem,slicedAt,Addr.add]
theorem UW{w:World}{g:Nat}{cs:Array Value}{t:TypeId}{fr:Nat × Nat}(h:w.heap[g]?=some (.cells cs t fr))(j:Nat):w.cell? (Aq g j)=cs[j]?:=by simp [World.cell?,h]
theorem GJ{w:World}{b off:Nat}{l:List UInt8}(h:zy w b off l):∀j u,(zS l)[j]?=some u->w.cell? (((Aq b off):Addr).add j)=some u:=by
 intro j u hu;unfold zS at hu;rw [List.getElem?_map] at hu;cases e:l[j]? with
 |none=>rw [e] at hu;cases hu
 |some c=>
  rw [e] at hu;obtain ⟨hj,ec⟩:=List.getElem?_eq_some_iff.1 e;have:=h j hj;rw [show ((Aq b off):Addr).add j=⟨b,off+j,none⟩ from by unfold Addr.add;split<;>simp_all];rw [this,ec];simpa using hu
theorem zc1(l:List UInt8):∀u∈zS l,u.oneCell'=true:=by
 exact zpU
theorem Tn.row{w0 w:World}{B g:Nat}{s:PC}(h:Tn B s w0 w)(cs:Array Value)(hne:g≠B)(hb:w0.heap.size<=g):Tn B s w0 (w.setRow g cs):=
 ⟨h.c.same (setRow_other w g B cs (fun e=>hne e.symm)),⟨h.g.os,h.g.tape,h.g.output,by rw [size_setRow];exact h.g.size,fun k hk hn=>(setRow_other w g k cs zza).trans (h.g.block k hk hn)⟩⟩
theorem GK{B:Nat}{s:PC}{w0 w:World}{H:Nat->Pat}{n:Nat}(h:Tn B s w0 w)(hp:PasR s.rest H n):Cq 206 #[.pointer (some (Aq B 65778))] w (Tq (n==4)) fun w'=>w'=w:=by
 have c4:w.cell? (Aq B 65822)=some (Iq (n:Int)):=h.rest zzb hp.cn;have e:(n==4)=((n:Int)==4):=by rw [Bool.eq_iff_iff];simp;omega
 rw [e];clear h hp;go_enter func206,ntmps206;go_wp2;go_ret;exact ⟨rfl,rfl⟩
theorem zna{p:Prop} (q:p:=by
 clear h hS hH hHl hPt hPo FU;go_enter func188,ntmps188;go_wp2;go_ret;exact ⟨rfl,s,HT.out,HS.out⟩):p:=q
theorem zaR{B:Nat}{s:PC}{w0 w:World}{S:SB}(h:Tn B s w0 w)(hS:SV S s)(a:Int)(a0:0<=a)(a1:a<65536)(p:Option Addr)(bs:List UInt8)(cap:Nat)(hl:bs.length<=1000)
  (hb:bs≠ [] ->∃b off,p=some (Aq b off)/\b<w.heap.size/\zy w b off bs):
  Cq 188 #[Pq B,.int .u16 a,.slice p bs.length cap] w (Zq ⟨(S.addPat a bs).2.toArray⟩) fun w'=>∃s',Tn B s' w0 w'/\SV (S.addPat a bs).1 s':=by
 unfold SB.addPat;have HT:=hid h;have HS:=hid hS;obtain ⟨⟨H,hH,hHl⟩,hPt,hPo⟩:=hS.pa;have FU:=GK h hH;by_cases h1:bs.length<1
 ·rw [if_pos (.inl h1)];have h1':(bs.length:Int)<1:=by omega
  exact zna
 ·by_cases h8:8<bs.length
  ·rw [if_pos (.inr h8)];have h1':¬(bs.length:Int)<1:=by omega
   have h8':(8:Int)<bs.length:=by omega
   exact zna
  ·rw [if_neg zza];have h1':¬(bs.length:Int)<1:=by omega
   have h8':¬(8:Int)<bs.length:=by omega
   by_cases h4:S.pa.length=4
   ·rw [if_pos h4];have e4:(S.pa.length==4)=true:=by simpa using h4
    rw [e4] at FU;clear h hS hH hHl hPt hPo;go_enter func188,ntmps188;go_wp2_with (first|(go_at_call 206;refine FU.mono ?_;rintro e w1 ⟨rfl,rfl⟩));go_ret;exact ⟨rfl,s,HT.out,HS.out⟩
   ·rw [if_neg h4];have e4:(S.pa.length==4)=false:=by simpa using h4
    rw [e4] at FU;have n4:=hH.n4;have cn:w.cell? (Aq B 65822)=some (Iq (S.pa.length:Int)):=h.rest zzb hH.cn;obtain ⟨b,off,rfl,hbl,hby⟩:=hb (by intro e;subst e;simp at h1);have hlt:=h.c.lt;have hsz:=h.g.size;have n0:w.heap.size≠B:=by omega
    have m0:B≠w.heap.size:=by omega
    have SL:=zi8 w.heap.size;have HZ:Hid (∀j,(((w.alloc (.cells #[Iq (S.pa.length:Int),.int .u16 a,Uq 0,Uq 0,Uq 0,Uq 0,Uq 0,Uq 0,Uq 0,Uq 0,Iq (bs.length:Int)] 116)).setRow w.heap.size (yw (xt S.pa.length a bs))).cell? (Aq w.heap.size j)=(yw (xt S.pa.length a bs))[j]?)):=fun j=>by
     have hg:=setRow_heap (w.alloc (.cells #[Iq (S.pa.length:Int),.int .u16 a,Uq 0,Uq 0,Uq 0,Uq 0,Uq 0,Uq 0,Uq 0,Uq 0,Iq (bs.length:Int)] 116)) w.heap.size _ (yw (xt S.pa.length a bs)) 116 (0,0) (heap_alloc_new w _);exact UW hg j
    have CP:(Builtin.copy_ #[35,35] 3 #[.slice (some (Aq w.heap.size 2)) 8 8,.slice (some (Aq b off)) bs.length cap]).run prog (w.alloc (.cells #[Iq (S.pa.length:Int),.int .u16 a,Uq 0,Uq 0,Uq 0,Uq 0,Uq 0,Uq 0,Uq 0,Uq 0,Iq (bs.length:Int)] 116))=
      .ok (goInt bs.length) ((w.alloc (.cells #[Iq (S.pa.length:Int),.int .u16 a,Uq 0,Uq 0,Uq 0,Uq 0,Uq 0,Uq 0,Uq 0,Uq 0,Iq (bs.length:Int)] 116)).setRow w.heap.size (yw (xt S.pa.length a bs))):=by
     have q:=run_copy_row prog (w.alloc (.cells (yw ⟨S.pa.length,a,fun _=>0,bs.length⟩) 116)) 35 35 3 5 w.heap.size 2 8 8 (Aq b off) bs.length cap (yw ⟨S.pa.length,a,fun _=>0,bs.length⟩) 116 (zS bs) zx zzf (heap_alloc_new w _) (by rw [yR];show bs.length=min bs.length 8;omega) (fun j u hu=>by
       have q:=GJ hby j u hu;have ea:((Aq b off):Addr).add j=⟨b,off+j,none⟩:=by unfold Addr.add;split<;>simp_all
       rw [ea] at q⊢;exact (World.cell?_of_block (a:=⟨b,off+j,none⟩) (Below.heap_alloc _ _ _ hbl)).trans q) (by rw [yR];show 2+bs.length<=11;omega) (zc1 bs)
     rw [zi7 S.pa.length a bs zza zza,yR] at q;exact q
    have HP1:Hid (PatOk (xt S.pa.length a bs)):=zfQ _ _ _ zza a0 a1;have htn:0<S.pa.length->¬(xt S.pa.length a bs).turn<(H ((S.pa.length-1)/2)).turn:=fun h0=>by
     rw [hHl _ zza,hPt _ zza];show ¬((S.pa.length:Int)<(((S.pa.length-1)/2:Nat):Int));omega
    have PU:=fun {x w:World} (h:Tn B s x w)=>Hz h hH zza (xt S.pa.length a bs) htn
    have HR:Hid (PasS ((Go.Proofs.YtcgjliflnnklnaaGreat.putPat s (65778+S.pa.length*11) (xt S.pa.length a bs)).put 65822 (Iq ((S.pa.length+1:Nat):Int))).rest (S.pa++ [xt S.pa.length a bs])):=hS.pa.add hHl HP1.out rfl (zeo hH zza _);have HSV:Hid (SV {S with pa:=S.pa++ [xt S.pa.length a bs] } ((Go.Proofs.YtcgjliflnnklnaaGreat.putPat s (65778+S.pa.length*11) (xt S.pa.length a bs)).put 65822 (Iq ((S.pa.length+1:Nat):Int)))):=by
     have q:=hS.ms (MsO.ofR (zep s S.pa.length zza (xt S.pa.length a bs) (Iq ((S.pa.length+1:Nat):Int)))) HR.out;have e:s.mem=S.pc.mem:=by rw [hS.core];rfl
     rw [e] at q;exact q
    generalize xt S.pa.length a bs=P0 at*;generalize (Go.Proofs.YtcgjliflnnklnaaGreat.putPat s (65778+S.pa.length*11) P0).put 65822 (Iq ((S.pa.length+1:Nat):Int))=s3 at*;have SE:=fun {x w:World} (h:Tn B s3 x w)=>ZW h HSV.out.pa.l
    clear h hS hH hHl hPt hPo hby hb htn HR;go_enter func188,ntmps188;go_wp2_with (first|(go_at_call 206;refine FU.mono ?_;rintro e w1 ⟨rfl,hw1⟩;have hw2:=hw1.symm;subst hw2;clear hw1));have TX:Tn B s w0 ((w.alloc (.cells #[Iq (S.pa.length:Int),.int .u16 a,Uq 0,Uq 0,Uq 0,Uq 0,Uq 0,Uq 0,Uq 0,Uq 0,Iq (bs.length:Int)] 116)).setRow w.heap.size (yw P0)):=(HT.out.alloc _).row _ n0 hsz;generalize (w.alloc (.cells #[Iq (S.pa.length:Int),.int .u16 a,Uq 0,Uq 0,Uq 0,Uq 0,Uq 0,Uq 0,Uq 0,Uq 0,Iq (bs.length:Int)] 116)).setRow w.heap.size (yw P0)=X at*;have z0:X.cell? (Aq w.heap.size 0)=some (Iq P0.turn):=HZ.out 0;have z1:X.cell? (Aq w.heap.size 1)=some (.int .u16 P0.at_):=HZ.out 1;have z2:X.cell? (Aq w.heap.size 2)=some (Uq (P0.b 0)):=HZ.out 2;have z3:X.cell? (Aq w.heap.size 3)=some (Uq (P0.b 1)):=HZ.out 3;have z4:X.cell? (Aq w.heap.size 4)=some (Uq (P0.b 2)):=HZ.out 4;have z5:X.cell? (Aq w.heap.size 5)=some (Uq (P0.b 3)):=HZ.out 5;have z6:X.cell? (Aq w.heap.size 6)=some (Uq (P0.b 4)):=HZ.out 6;have z7:X.cell? (Aq w.heap.size 7)=some (Uq (P0.b 5)):=HZ.out 7;have z8:X.cell? (Aq w.heap.size 8)=some (Uq (P0.b 6)):=HZ.out 8;have z9:X.cell? (Aq w.heap.size 9)=some (Uq (P0.b 7)):=HZ.out 9;have z10:X.cell? (Aq w.heap.size 10)=some (Iq (P0.n:Int)):=HZ.out 10;have HTX:=hid TX;clear TX HZ CP SL cn;go_region_with (first|(go_at_call 207;refine (PU HTX.out.drew).mono ?_;rintro e w3 ⟨rfl,T3⟩;have HT3:=hid T3;clear T3 PU))
    clear z0 z1 z2 z3 z4 z5 z6 z7 z8 z9 z10;go_wp2_with (first|(go_at_call 208;refine (SE HT3.out).mono ?_;rintro e w4 ⟨rfl,s4,T4,M4,L4,E4⟩;have HV4:=hid (HSV.out.settle M4 L4 E4);have HT4:=hid T4;clear T4 M4 L4 E4 SE));go_ret;exact ⟨rfl,s4,HT4.out,HV4.out⟩
end
section
theorem SI.settle{S:SB}{N:Int}(h:SI S N):SI S.settle N:=by
 obtain ⟨M,hM⟩:=Qp S;obtain ⟨n,t⟩:=h.tr;refine ⟨⟨n,?_⟩,?_,?_,fun i=>?_⟩
 ·rw [hM];exact t.like rfl rfl rfl rfl rfl
 ·rw [hM];exact h.c0
 ·rw [hM];exact h.c1
 ·rw [Qq];exact h.rr i
theorem SI.like{S Q:SB}{N:Int}(h:SI S N)(e1:Q.pc=S.pc)(e2:Q.rc=S.rc):SI Q N:=⟨by rw [e1];exact h.tr,by rw [e1];exact h.c0,by rw [e1];exact h.c1,by rw [e2];exact h.rr⟩
theorem SI.addPat{S:SB}{N:Int}(h:SI S N)(a:Int)(bs:List UInt8):SI (S.addPat a bs).1 N:=by
 unfold SB.addPat;split
 ·exact h
 ·split
  ·exact h
  ·exact SI.settle (S:={S with pa:=S.pa++ [xt S.pa.length a bs] }) (h.like rfl rfl)
theorem zby(p:Pts)(a:Int):(p.add a).2.length=2:=by
 unfold Pts.add;split
 ·rfl
 ·split<;>rfl
theorem zbz(p:Pts)(a:Int):(p.remove a).2.length=2:=by
 unfold Pts.remove;split<;>rfl
def SB.doW(S:SB)(c:UInt8)(n:Int)(m:List UInt8):SB × List UInt8:=
 if c=119 then S.addPat n m
 else if c=109/\m.length=1 then (S,S.tellMem n ((m.getD 0 0).toNat:Int))
 else if 0<m.length then (S,eT 49)
 else if c=98 then ({S with bp:=(S.bp.add n).1},(S.bp.add n).2)
 else if c=100 then ({S with bp:=(S.bp.remove n).1},(S.bp.remove n).2)
 else if c=118 then ({S with wp:=(S.wp.add n).1},(S.wp.add n).2)
 else if c=120 then ({S with wp:=(S.wp.remove n).1},(S.wp.remove n).2)
 else if c=115 then S.go (10*n.toNat+9) n false 0
 else if c=105 then S.goIns n
 else (S,eT 49)
theorem zi9(S:SB)(c:UInt8)(n:Int)(m:List UInt8):(S.doW c n m).2.length<=80:=by
 unfold SB.doW;repeat' split
 ·unfold SB.addPat;split
  ·simp [eT]
  ·split<;>simp [eT,okT]
 ·show (S.tellMem n _).length<=80;unfold SB.tellMem;split
  ·simp [eT]
  ·rw [jE];omega
 ·simp [eT]
 ·show (S.bp.add n).2.length<=80;rw [zby];omega
 ·show (S.bp.remove n).2.length<=80;rw [zbz];omega
 ·show (S.wp.add n).2.length<=80;rw [zby];omega
 ·show (S.wp.remove n).2.length<=80;rw [zbz];omega
 ·rw [zeE];omega
 ·unfold SB.goIns;split
  ·simp [eT]
  ·rw [zeE];omega
 ·simp [eT]
theorem c_t{c:UInt8}{n:Nat}(h:c=UInt8.ofNat n)(hn:n<256):((c.toNat:Int)==(n:Int))=true:=by subst h;simp;omega
theorem c_f{c:UInt8}{n:Nat}(h:¬c=UInt8.ofNat n)(hn:n<256):((c.toNat:Int)==(n:Int))=false:=by
 rw [beq_eq_false_iff_ne];intro e;exact h (by apply UInt8.toNat.inj;rw [UInt8.toNat_ofNat_of_lt' zza];omega)
theorem zmu{p:Prop} (q:p:=by
 clear h hS hI hcc;go_enter func140,ntmps140;go_wp2_with (first|(go_at_call 190;refine CA.mono ?_;rintro e w1 ⟨rfl,T1⟩;have HH:=hid T1;clear T1 CA));go_ret;exact ⟨rfl,_,HH.out,HV.out,HI2.out⟩):p:=q
theorem zkT{p:Prop} (q:p:=by
 clear h hS hI hcc;go_enter func140,ntmps140;go_wp2_with (first|(go_at_call 191;refine CA.mono ?_;rintro e w1 ⟨rfl,T1⟩;have HH:=hid T1;clear T1 CA));go_ret;exact ⟨rfl,_,HH.out,HV.out,HI2.out⟩):p:=q
theorem zqq{p:Prop} (q:p:=by
 go_enter func140,ntmps140;go_wp2;all_goals go_ret
 all_goals exact ⟨rfl,s,HT.out,HS.out,HI.out⟩):p:=q
theorem zp5{p:Prop} (q:p:=by
 go_enter func140,ntmps140;go_wp2;go_ret;exact ⟨rfl,s,HT.out,HS.out,HI.out⟩):p:=q
theorem zja{B:Nat}{s:PC}{w0 w:World}{S:SB}{N:Int}(h:Tn B s w0 w)(hS:SV S s)(hI:SI S N)(hN0:0<=N)(hN:N<3000000000000000000)(c:UInt8)(n:Int)(n0:0<=n)(n1:n<65536)(p:Option Addr)(m:List UInt8)(cap:Nat)(hl:m.length<=1000)
  (hb:m≠ [] ->∃b off,p=some (Aq b off)/\b<w.heap.size/\zy w b off m):
  Cq 140 #[Pq B,Uq c.toNat,.int .u16 n,.slice p m.length cap] w (Zq ⟨(S.doW c n m).2.toArray⟩) fun w'=>∃s',Tn B s' w0 w'/\SV (S.doW c n m).1 s'/\SI (S.doW c n m).1 (N+1000000):=by
 unfold SB.doW;have HT:=hid h;have HS:=hid hS;have HI:=hid (hI.mono (show N<=N+1000000 by omega));have hwn:IntKind.i64.wrap n=n:=by rw [IntKind.wrap_i64];omega
 by_cases h119:c=119
 ·rw [if_pos h119];have t1:=c_t (n:=119) h119 zzb;have AP:=zaR h hS n n0 n1 p m cap hl hb;have HI2:=hid (HI.out.addPat n m);generalize S.addPat n m=G0 at*;clear h hS hI hb;go_enter func140,ntmps140;go_wp2_with (first|(go_at_call 188;refine AP.mono ?_;rintro e w1 ⟨rfl,H⟩;have HH:=hid H;clear H AP));go_ret;obtain ⟨s2,T2,V2⟩:=HH.out;exact ⟨rfl,s2,T2,V2,HI2.out⟩
 ·rw [if_neg h119];have t1:=c_f (n:=119) h119 zzb;by_cases h109:c=109/\m.length=1
  ·rw [if_pos h109];obtain ⟨h109,hm1⟩:=h109;have t2:=c_t (n:=109) h109 zzb;obtain ⟨b,off,rfl,hbl,hby⟩:=hb (by intro e;subst e;cases hm1);obtain ⟨x,rfl⟩:∃x,m=[x]:=List.length_eq_one_iff.1 hm1
   have cx:w.cell? (Aq b off)=some (Uq (x.toNat:Int)):=hby 0 zzc;have hx:(x.toNat:Int)<256:=by have:=x.toNat_lt;omega
   have TM:=KU h hS n (x.toNat:Int) n0 zza zza zza;have hg:(([x]:List UInt8).getD 0 0)=x:=rfl;have hwx:IntKind.i64.wrap (x.toNat:Int)=(x.toNat:Int):=by rw [IntKind.wrap_i64];omega
   rw [hg];generalize S.tellMem n (x.toNat:Int)=G0 at*;clear h hS hI hb hby hm1 hg;go_enter func140,ntmps140;go_wp2_with (first|(go_at_call 189;refine TM.mono ?_;rintro e w1 ⟨rfl,hb1⟩;have HH:=hid (ym HT.out hb1);clear hb1 TM));go_ret;exact ⟨rfl,s,HH.out,HS.out,HI.out⟩
  ·rw [if_neg h109];by_cases hm:0<m.length
   ·rw [if_pos hm];have hm':(0:Int)<(m.length:Int):=by omega
    clear h hS hI hb;by_cases hc:c=109
    ·have t2:=c_t (n:=109) hc zzb;have t3:((m.length:Int)==1)=false:=by rw [beq_eq_false_iff_ne];intro e;exact h109 ⟨hc,by omega⟩
     exact zp5
    ·have t2:=c_f (n:=109) hc zzb;exact zp5
   ·rw [if_neg hm];have hm0:m.length=0:=by omega
    have hm1:(m.length:Int)=0:=by omega
    have hcc:c=109\/¬c=109:=Decidable.em _;obtain rfl:=List.eq_nil_of_length_eq_zero hm0;clear hb hm hm0 hm1;by_cases h98:c=98
    ·rw [if_pos h98];have u98:=c_t (n:=98) h98 zzb;have u109:=c_f (c:=c) (n:=109) (by rw [h98];decide) zzb;have CA:=QT h zzb hS.bp n;have HV:Hid (SV {S with bp:=(S.bp.add n).1} (Zu s 65768 S.bp n)):=hS.bps (za7 s 65768 S.bp hS.bp.n4 n) (zbv hS.bp n);have HI2:Hid (SI {S with bp:=(S.bp.add n).1} (N+1000000)):=HI.out.like rfl rfl;generalize S.bp.add n=G0 at*;exact zmu
    ·rw [if_neg h98];have u98:=c_f (n:=98) h98 zzb;by_cases h100:c=100
     ·rw [if_pos h100];have u100:=c_t (n:=100) h100 zzb;have u109:=c_f (c:=c) (n:=109) (by rw [h100];decide) zzb;have CA:=QU h zzb hS.bp n;have HV:Hid (SV {S with bp:=(S.bp.remove n).1} (Zv s 65768 S.bp n)):=hS.bps (za8 s 65768 S.bp hS.bp.n4 n) (zbw hS.bp n);have HI2:Hid (SI {S with bp:=(S.bp.remove n).1} (N+1000000)):=HI.out.like rfl rfl;generalize S.bp.remove n=G0 at*;exact zkT
     ·rw [if_neg h100];have u100:=c_f (n:=100) h100 zzb;by_cases h118:c=118
      ·rw [if_pos h118];have u118:=c_t (n:=118) h118 zzb;have u109:=c_f (c:=c) (n:=109) (by rw [h118];decide) zzb;have CA:=QT h zzb hS.wp n;have HV:Hid (SV {S with wp:=(S.wp.add n).1} (Zu s 65773 S.wp n)):=hS.wps (za7 s 65773 S.wp hS.wp.n4 n) (zbv hS.wp n);have HI2:Hid (SI {S with wp:=(S.wp.add n).1} (N+1000000)):=HI.out.like rfl rfl;generalize S.wp.add n=G0 at*;exact zmu
      ·rw [if_neg h118];have u118:=c_f (n:=118) h118 zzb;by_cases h120:c=120
       ·rw [if_pos h120];have u120:=c_t (n:=120) h120 zzb;have u109:=c_f (c:=c) (n:=109) (by rw [h120];decide) zzb;have CA:=QU h zzb hS.wp n;have HV:Hid (SV {S with wp:=(S.wp.remove n).1} (Zv s 65773 S.wp n)):=hS.wps (za8 s 65773 S.wp hS.wp.n4 n) (zbw hS.wp n);have HI2:Hid (SI {S with wp:=(S.wp.remove n).1} (N+1000000)):=HI.out.like rfl rfl;generalize S.wp.remove n=G0 at*;exact zkT
       ·rw [if_neg h120];have u120:=c_f (n:=120) h120 zzb;by_cases h115:c=115
        ·rw [if_pos h115];have u115:=c_t (n:=115) h115 zzb;have u109:=c_f (c:=c) (n:=109) (by rw [h115];decide) zzb;have CA:=KT h hS hI hN0 hN n n0 zza false;generalize S.go (10*n.toNat+9) n false 0=G0 at*;clear h hS hI hcc;go_enter func140,ntmps140;go_wp2_with (first|(go_at_call 192;refine CA.mono ?_;rintro e w1 ⟨rfl,H⟩;have HH:=hid H;clear H CA));go_ret;exact ⟨rfl,HH.out⟩
        ·rw [if_neg h115];have u115:=c_f (n:=115) h115 zzb;by_cases h105:c=105
         ·rw [if_pos h105];have u105:=c_t (n:=105) h105 zzb;have u109:=c_f (c:=c) (n:=109) (by rw [h105];decide) zzb;have CA:=zcq h hS hI hN0 hN n n0 zza;generalize S.goIns n=G0 at*;clear h hS hI hcc;go_enter func140,ntmps140;go_wp2_with (first|(go_at_call 193;refine CA.mono ?_;rintro e w1 ⟨rfl,H⟩;have HH:=hid H;clear H CA));go_ret;exact ⟨rfl,HH.out⟩
         ·rw [if_neg h105];have u105:=c_f (n:=105) h105 zzb;clear h hS hI;rcases hcc with hc|hc
          ·have t2:=c_t (n:=109) hc zzb;exact zqq
          ·have t2:=c_f (n:=109) hc zzb;exact zqq
end
section
def yo(l:List UInt8):Int:=zn ((l.getD 1 0).toNat:Int) ((l.getD 0 0).toNat:Int)
def SB.doI(S:SB)(b:List UInt8):SB × List UInt8:=
 if b=[] then (S,eT 49)
 else if b=[103] then (S,xF S.pc)
 else if b=[113] then S.takeRecs
 else if b=[116,48] then ({S with re:=false},okT)
 else if b=[116,49] then ({S with re:=true},okT)
 else if b=[112,48] then ({S with nmi:=false,irq:=false},okT)
 else if b=[112,49] then ({S with nmi:=true,irq:=false},okT)
 else if b=[112,50] then ({S with nmi:=false,irq:=true},okT)
 else if b=[112,51] then ({S with nmi:=true,irq:=true},okT)
 else match yP b.tail with
  |none=>(S,eT 49)
  |some l=>if l.length<2 then (S,eT 49) else S.doW (b.headD 0) (yo l) (l.drop 2)
theorem XX(S:SB)(b:List UInt8):(S.doI b).2.length<=80:=by
 unfold SB.doI;repeat' split
 all_goals first
  |(simp [eT];done)
  |(simp [okT];done)
  |(show (xF S.pc).length<=80;rw [KZ];omega)
  |(show (S.rc.takes _).2.length<=80;rw [Qs];omega)
  |exact zi9 _ _ _ _
theorem Jk(l:List UInt8)(i:Nat)(h:i<l.length):(zS l)[i]?=some (Uq (l[i].toNat:Int)):=by
 unfold zS;rw [List.getElem?_map,List.getElem?_eq_getElem h];rfl
theorem zbA(l:List UInt8)(i:Nat)(h:i<l.length):(zS l)[i]?=some (Uq ((l.getD i 0).toNat:Int)):=by
 rw [Jk l i h,List.getD_eq_getElem?_getD,List.getElem?_eq_getElem h];rfl
theorem zc2(g n cap:Nat)(hn:2<=n)(hc:n<=cap):∃P0,(∀w,Sem.run prog (Instr.slice 35 (Sq g n cap) (some (Iq 2)) none none) w=.ok (.slice P0 (n-2) (cap-2)) w)/\(n≠2->P0=some (Aq g 2)):=by
 have hel:prog.elem 35=5:=by kernel_rfl
 by_cases h:cap=2
 ·refine ⟨some (Aq g 0),fun w=>?_,fun e=>by omega⟩;rw [run_slice_l (P:=prog) (ht:=by rw [hel];exact zx) (h0:=by decide) (h1:=by omega),hel];simp [sizeOf,go_sem,sliced,h]
 ·refine ⟨some (Aq g 2),fun w=>?_,fun _=>rfl⟩;rw [run_slice_l (P:=prog) (ht:=by rw [hel];exact zx) (h0:=by decide) (h1:=by omega),hel];simp [sizeOf,go_sem,sliced,Addr.add,h];rfl
theorem zfR{w:World}{base n g cap:Nat}{xs:List Value}(h:w.ownsRow base 5 1 (Sq g n cap) n xs):n<=cap:=by
 rcases h.2 with ⟨e, -⟩|⟨g',cap',cur,e, -, -,h1, -⟩
 ·cases e
 ·injection e with _ _ e;subst e;exact h1
theorem qg(c:UInt8)(r:List UInt8)(w:World):Sem.run prog (Instr.slice 9 (Zq ⟨(c::r).toArray⟩) (some (Iq 1)) none none) w=.ok (Zq ⟨r.toArray⟩) w:=by
 rw [run_slice_string_l (P:=prog) (ht:=underlying9) (h0:=by decide) (h1:=by show (1:Int)<=(((c::r).toArray.size:Nat):Int);simp;omega)];have e:(⟨(c::r).toArray⟩:ByteArray).extract (1:Int).toNat (⟨(c::r).toArray⟩:ByteArray).size=⟨r.toArray⟩:=by
  have q:((⟨(c::r).toArray⟩:ByteArray).extract 1 (⟨(c::r).toArray⟩:ByteArray).size).data.toList=r:=by
   rw [ByteArray.data_extract,Array.toList_extract,List.extract_eq_take_drop];show ((c::r).drop 1).take ((c::r).toArray.size-1)=r;simp
  have q2:((⟨(c::r).toArray⟩:ByteArray).extract 1 (⟨(c::r).toArray⟩:ByteArray).size).data=r.toArray:=Array.ext' (q.trans zzc);exact congrArg ByteArray.mk q2
 rw [e]
theorem GM(c:UInt8)(r:List UInt8)(w:World):Sem.run prog (Instr.index 9 (Zq ⟨(c::r).toArray⟩) (Iq 0)) w=.ok (Uq (c.toNat:Int)) w:=by
 rw [run_index_string (P:=prog) (h:=underlying9),dif_pos (show 0<=(0:Int)/\(0:Int)<((⟨(c::r).toArray⟩:ByteArray).size:Int) from ⟨by decide,by show (0:Int)<(((c::r).toArray.size:Nat):Int);simp⟩)];rfl
theorem SI.sw{S Q:SB}{N:Int}(h:SI S N)(e1:Q.pc=S.pc)(e2:Q.rc=S.rc):SI Q (N+1000000):=(h.mono zza).like e1 e2
theorem zc3{B:Nat}{s:PC}{w0 w:World}{S:SB}{N:Int}(h:Tn B s w0 w)(hS:SV S s)(hI:SI S N)(hN0:0<=N)(hN:N<3000000000000000000)(c:UInt8)(r l:List UInt8)(hlr:r.length<=200)(hx:yP r=some l)(h2:¬l.length<2)
  (q0:(c::r).isEmpty=false) (q1:(c::r==[103])=false) (q2:(c::r==[113])=false) (q3:(c::r==[116,48])=false) (q4:(c::r==[116,49])=false) (q5:(c::r==[112,48])=false) (q6:(c::r==[112,49])=false) (q7:(c::r==[112,50])=false) (q8:(c::r==[112,51])=false):
  Cq 89 #[Pq B,Zq ⟨(c::r).toArray⟩] w (Zq ⟨(S.doW c (yo l) (l.drop 2)).2.toArray⟩) fun w'=>∃s',Tn B s' w0 w'/\SV (S.doW c (yo l) (l.drop 2)).1 s'/\SI (S.doW c (yo l) (l.drop 2)).1 (N+1000000):=by
 have HT:=hid h;have SLC:=qg c r;have IXC:=GM c r;have HX:=fun w=>YF w ⟨r.toArray⟩ (by show r.toArray.size<=1000;simp;omega)
 unfold qe at HX;simp only [] at HX;simp only [hx] at HX;have h2':¬(l.length:Int)<2:=by omega
 have hlen:=vu _ r l (Nat.le_refl _) hx;go_enter func89,ntmps89
 go_wp2_with fail;refine (HX _).mono ?_;rintro e w1 ⟨v,rfl,O1⟩;obtain ⟨g,cap,rfl,o1,o2,o3⟩:=O1;have hcap:l.length<=cap:=zfR o1;have c0:=o1.cellAt 0 zza;have c1:=o1.cellAt 1 zza;obtain ⟨y0,hy0⟩:∃y0,Hid (l.getD 0 0=y0):=⟨_,rfl⟩
 obtain ⟨y1,hy1⟩:∃y1,Hid (l.getD 1 0=y1):=⟨_,rfl⟩
 have d0:w1.cell? (Aq g 0)=some (Uq (y0.toNat:Int)):=by rw [<-hy0.out];exact c0.trans (zbA l 0 zza)
 have d1:w1.cell? (Aq g 1)=some (Uq (y1.toNat:Int)):=by rw [<-hy1.out];exact c1.trans (zbA l 1 zza)
 have HT1:=hid (ym HT.out o2);have hb2:Hid (l.drop 2≠ [] ->∃b off,some ((Aq g 2):Addr)=some (Aq b off)/\b<w1.heap.size/\zy w1 b off (l.drop 2)):=fun _=>⟨g,2,rfl,(o1.lt g rfl).2,fun i hi=>by
  have q:=o1.cellAt (2+i) (by simp only [List.length_drop] at hi;omega);rw [q,List.getElem_drop];exact Jk l (2+i) _⟩
 obtain ⟨E0,hE0⟩:∃E0,Hid (bits .or .u16 (IntKind.u16.wrap (IntKind.u16.wrap (y0.toNat:Int)*256)) (IntKind.u16.wrap (y1.toNat:Int))=E0):=⟨_,rfl⟩
 have hEn:Hid (E0=yo l):=by
  show _=_;have x0:(y0.toNat:Int)<256:=by have:=y0.toNat_lt;omega
  have x1:(y1.toNat:Int)<256:=by have:=y1.toNat_lt;omega
  rw [<-hE0.out,IntKind.wrap_u16,IntKind.wrap_u16,IntKind.wrap_u16,Int.emod_eq_of_lt zza zza,Int.emod_eq_of_lt zza zza,Int.emod_eq_of_lt zza zza,zbk _ _ zza x1 zza x0];unfold yo;rw [hy0.out,hy1.out]
 have hn0:0<=E0/\E0<65536:=by
  rw [hEn.out];have x0:((l.getD 0 0).toNat:Int)<256:=by have:=(l.getD 0 0).toNat_lt;omega
  have x1:((l.getD 1 0).toNat:Int)<256:=by have:=(l.getD 1 0).toNat_lt;omega
  unfold yo zn;omega
 have hld:(l.drop 2).length=l.length-2:=List.length_drop;have b0:(0:Int)<(l.length:Int):=by omega
 have b1:(1:Int)<(l.length:Int):=by omega
 have b2:(2:Int)<=(l.length:Int):=by omega
 have b3:l≠ []:=by intro e;rw [e] at h2;exact h2 zzb
 have b4:0<l.length:=by omega
 have glt:g<w1.heap.size:=(o1.lt g rfl).2;have gB:g≠B:=by have:=(o1.lt g rfl).1;have:=h.c.lt;omega
 clear c0 c1 o1 o2 o3;obtain ⟨P0,SLN,hP0⟩:=zc2 g l.length cap zza hcap;have DW:=fun {x w:World} (h:Tn B s x w) (hb:l.drop 2≠ [] ->∃b off,P0=some (Aq b off)/\b<w.heap.size/\zy w b off (l.drop 2))=>zja h hS hI hN0 hN c E0 hn0.1 hn0.2 P0 (l.drop 2) (cap-2) zza hb
 rw [hld] at DW;clear hy0 hy1;have HB3:Hid (l.drop 2≠ [] ->∃b off,P0=some (Aq b off)/\b<w1.drew.heap.size/\zy w1.drew b off (l.drop 2)):=fun hne=>by
  have hp:P0=some (Aq g 2):=hP0 (by intro e;exact hne (List.drop_eq_nil_of_le zza));rw [hp];exact hb2.out hne
 go_wp2_with fail;go_region_held3 (fun w'=>w'.cell? (Aq g 0)=some (Uq (y0.toNat:Int))/\w'.cell? (Aq g 1)=some (Uq (y1.toNat:Int))) (go_keep) (first|(go_at_call 140;rw [hE0.out];refine (DW (Tn.refl HT1.out.drew.c) HB3.out).mono ?_;rintro e w2 ⟨rfl,s2,T2,V2,I2⟩;have e0:=((kept T2).1 g 0 gB glt).trans d0;have e1:=((kept T2).1 g 1 gB glt).trans d1;have HH:Hid (∃s',Tn B s' w0 w2/\SV (S.doW c E0 (l.drop 2)).1 s'/\SI (S.doW c E0 (l.drop 2)).1 (N+1000000)):=⟨s2,HT1.out.drew.trans T2,V2,I2⟩;clear T2 V2 I2 DW));all_goals go_wp2
 all_goals go_ret
 all_goals (rw [<-hEn.out];exact ⟨rfl,HH.out⟩)
end
section
theorem znM{p:Prop} (q:p:=by
 clear h hS hI;go_enter func89,ntmps89
 go_wp2;go_ret;exact ⟨rfl,_,HTn.out,HV.out,HI2.out⟩):p:=q
theorem zlP{B:Nat}{s:PC}{w0 w:World}{S:SB}{N:Int}(h:Tn B s w0 w)(hS:SV S s)(hI:SI S N)(hN0:0<=N)(hN:N<3000000000000000000)(b:List UInt8)(hl:b.length<=200):Cq 89 #[Pq B,Zq ⟨b.toArray⟩] w (Zq ⟨(S.doI b).2.toArray⟩) fun w'=>∃s',Tn B s' w0 w'/\SV (S.doI b).1 s'/\SI (S.doI b).1 (N+1000000):=by
 unfold SB.doI;have HT:=hid h;have HS:=hid hS;have HI:=hid (hI.mono (show N<=N+1000000 by omega));have cre:∃v,w.cell? (Aq B 66081)=some (Tq v):=⟨_,h.rest zzb hS.re⟩
 have cnm:∃v,w.cell? (Aq B 66082)=some (Tq v):=⟨_,h.rest zzb hS.nm⟩
 have ciq:∃v,w.cell? (Aq B 66083)=some (Tq v):=⟨_,h.rest zzb hS.iq⟩
 obtain ⟨v1,cre⟩:=cre;obtain ⟨v2,cnm⟩:=cnm;obtain ⟨v3,ciq⟩:=ciq;have fz:=h.c.free;by_cases h0:b=[]
 ·rw [if_pos h0];subst h0;clear h hS hI;go_enter func89,ntmps89
  go_wp2;go_ret;exact ⟨rfl,s,HT.out,HS.out,HI.out⟩
 ·rw [if_neg h0];by_cases h1:b=[103]
  ·rw [if_pos h1];subst h1;have er:xF s=xF S.pc:=by rw [hS.core];rfl
   have TR:=Uz h (by have:=hI.c0;rw [hS.core];exact this);rw [er] at TR;generalize xF S.pc=G0 at*;clear h hS hI er;go_enter func89,ntmps89
   go_wp2_with (first|(go_at_call 137;refine TR.mono ?_;rintro e w1 ⟨rfl,hb1⟩;have HH:=hid (ym HT.out hb1);clear hb1 TR));go_ret;exact ⟨rfl,s,HH.out,HS.out,HI.out⟩
  ·rw [if_neg h1];by_cases h2:b=[113]
   ·rw [if_pos h2];subst h2;have TR:=Ux h hS hI;have HI2:=hid ((hI.takeRecs).mono (show N<=N+1000000 by omega));generalize S.takeRecs=G0 at*;clear h hS hI;go_enter func89,ntmps89
    go_wp2_with (first|(go_at_call 138;refine TR.mono ?_;rintro e w1 ⟨rfl,H⟩;have HH:=hid H;clear H TR));go_ret;obtain ⟨s2,T2,V2⟩:=HH.out;exact ⟨rfl,s2,T2,V2,HI2.out⟩
   ·rw [if_neg h2];by_cases h3:b=[116,48]
    ·rw [if_pos h3];subst h3;have HV:Hid (SV {S with re:=false} (s.put 66081 (Tq false))):=hS.sw (RsO.put s 66081 _ _ _ zzb zzb) (yj _ _ _) ((zh _ _ _ _ zzb).trans hS.nm) ((zh _ _ _ _ zzb).trans hS.iq);have HI2:Hid (SI {S with re:=false} (N+1000000)):=hI.sw rfl rfl;have HTn:Hid (Tn B (s.put 66081 (Tq false)) w0 (w.setCell (Aq B 66081) (Tq false))):=h.put _ _ _ zzb hS.re;exact znM
    ·rw [if_neg h3];by_cases h4:b=[116,49]
     ·rw [if_pos h4];subst h4;have HV:Hid (SV {S with re:=true} (s.put 66081 (Tq true))):=hS.sw (RsO.put s 66081 _ _ _ zzb zzb) (yj _ _ _) ((zh _ _ _ _ zzb).trans hS.nm) ((zh _ _ _ _ zzb).trans hS.iq);have HI2:Hid (SI {S with re:=true} (N+1000000)):=hI.sw rfl rfl;have HTn:Hid (Tn B (s.put 66081 (Tq true)) w0 (w.setCell (Aq B 66081) (Tq true))):=h.put _ _ _ zzb hS.re;exact znM
     ·rw [if_neg h4];by_cases h5:b=[112,48]
      ·rw [if_pos h5];subst h5;have HV:Hid (SV {S with nmi:=false,irq:=false} ((s.put 66082 (Tq false)).put 66083 (Tq false))):=hS.sw ((RsO.put s 66082 _ _ _ zzb zzb).trans (RsO.put _ 66083 _ _ _ zzb zzb)) ((zh _ _ _ _ zzb).trans ((zh _ _ _ _ zzb).trans hS.re)) ((zh _ _ _ _ zzb).trans (yj _ _ _)) (yj _ _ _);have HI2:Hid (SI {S with nmi:=false,irq:=false} (N+1000000)):=hI.sw rfl rfl;have HTn:Hid (Tn B ((s.put 66082 (Tq false)).put 66083 (Tq false)) w0 ((w.setCell (Aq B 66082) (Tq false)).setCell (Aq B 66083) (Tq false))):=(h.put _ _ _ zzb hS.nm).put _ _ _ zzb ((zh _ _ _ _ zzb).trans hS.iq);exact znM
      ·rw [if_neg h5];by_cases h6:b=[112,49]
       ·rw [if_pos h6];subst h6;have HV:Hid (SV {S with nmi:=true,irq:=false} ((s.put 66082 (Tq true)).put 66083 (Tq false))):=hS.sw ((RsO.put s 66082 _ _ _ zzb zzb).trans (RsO.put _ 66083 _ _ _ zzb zzb)) ((zh _ _ _ _ zzb).trans ((zh _ _ _ _ zzb).trans hS.re)) ((zh _ _ _ _ zzb).trans (yj _ _ _)) (yj _ _ _);have HI2:Hid (SI {S with nmi:=true,irq:=false} (N+1000000)):=hI.sw rfl rfl;have HTn:Hid (Tn B ((s.put 66082 (Tq true)).put 66083 (Tq false)) w0 ((w.setCell (Aq B 66082) (Tq true)).setCell (Aq B 66083) (Tq false))):=(h.put _ _ _ zzb hS.nm).put _ _ _ zzb ((zh _ _ _ _ zzb).trans hS.iq);exact znM
       ·rw [if_neg h6];by_cases h7:b=[112,50]
        ·rw [if_pos h7];subst h7;have HV:Hid (SV {S with nmi:=false,irq:=true} ((s.put 66082 (Tq false)).put 66083 (Tq true))):=hS.sw ((RsO.put s 66082 _ _ _ zzb zzb).trans (RsO.put _ 66083 _ _ _ zzb zzb)) ((zh _ _ _ _ zzb).trans ((zh _ _ _ _ zzb).trans hS.re)) ((zh _ _ _ _ zzb).trans (yj _ _ _)) (yj _ _ _);have HI2:Hid (SI {S with nmi:=false,irq:=true} (N+1000000)):=hI.sw rfl rfl;have HTn:Hid (Tn B ((s.put 66082 (Tq false)).put 66083 (Tq true)) w0 ((w.setCell (Aq B 66082) (Tq false)).setCell (Aq B 66083) (Tq true))):=(h.put _ _ _ zzb hS.nm).put _ _ _ zzb ((zh _ _ _ _ zzb).trans hS.iq);exact znM
        ·rw [if_neg h7];by_cases h8:b=[112,51]
         ·rw [if_pos h8];subst h8;have HV:Hid (SV {S with nmi:=true,irq:=true} ((s.put 66082 (Tq true)).put 66083 (Tq true))):=hS.sw ((RsO.put s 66082 _ _ _ zzb zzb).trans (RsO.put _ 66083 _ _ _ zzb zzb)) ((zh _ _ _ _ zzb).trans ((zh _ _ _ _ zzb).trans hS.re)) ((zh _ _ _ _ zzb).trans (yj _ _ _)) (yj _ _ _);have HI2:Hid (SI {S with nmi:=true,irq:=true} (N+1000000)):=hI.sw rfl rfl;have HTn:Hid (Tn B ((s.put 66082 (Tq true)).put 66083 (Tq true)) w0 ((w.setCell (Aq B 66082) (Tq true)).setCell (Aq B 66083) (Tq true))):=(h.put _ _ _ zzb hS.nm).put _ _ _ zzb ((zh _ _ _ _ zzb).trans hS.iq);exact znM
         ·rw [if_neg h8];have nq:∀l:List UInt8,¬b=l->(b==l)=false:=fun l hne=>by rw [beq_eq_false_iff_ne];exact hne
          have q0:b.isEmpty=false:=by cases b;exact absurd rfl h0;rfl
          have q1:=nq _ h1;have q2:=nq _ h2;have q3:=nq _ h3;have q4:=nq _ h4;have q5:=nq _ h5;have q6:=nq _ h6;have q7:=nq _ h7;have q8:=nq _ h8;obtain ⟨c,r,rfl⟩:∃c r,b=c::r:=by cases b;exact absurd rfl h0;exact ⟨_,_,rfl⟩
          have SLC:=qg c r;have IXC:=GM c r;have hlr:r.length<=200:=by simp only [List.length_cons] at hl;omega
          have HX:=fun w=>YF w ⟨r.toArray⟩ (by show r.toArray.size<=1000;simp;omega)
          have et:(c::r).tail=r:=rfl;have eh:(c::r).headD 0=c:=rfl;rw [et,eh];clear nq h0 h1 h2 h3 h4 h5 h6 h7 h8 et eh;have ER:(⟨r.toArray⟩:ByteArray).data.toList=r:=by simp
          unfold qe at HX;simp only [] at HX;cases hx:yP r with
          |none=>
           simp only [hx] at HX;simp only [];clear h hS hI hx;go_enter func89,ntmps89
           go_wp2_with (first|(go_at_call 139;refine (HX _).mono ?_;rintro e w1 ⟨rfl,hb1⟩;have HH:=hid (ym HT.out hb1);clear hb1 HX));go_ret;exact ⟨rfl,s,HH.out,HS.out,HI.out⟩
          |some l=>
           simp only [hx] at HX;simp only [];by_cases h2:l.length<2
           ·rw [if_pos h2];have h2':(l.length:Int)<2:=by omega
            clear h hS hI hx;go_enter func89,ntmps89
            go_wp2_with (first|(go_at_call 139;refine (HX _).mono ?_;rintro e w1 ⟨v,rfl,O1⟩;obtain ⟨g,cap,rfl,o1,o2,o3⟩:=O1;have HH:=hid (ym HT.out o2);clear HX o1 o2 o3));go_ret;exact ⟨rfl,s,HH.out,HS.out,HI.out⟩
           ·rw [if_neg h2];exact zc3 h hS hI hN0 hN c r l hlr hx h2 q0 q1 q2 q3 q4 q5 q6 q7 q8
end
section
def SB.ans(S:SB)(p:Pk):SB × List UInt8:=
 if p.bad=true then (S,[45])
 else if p.seq=S.due.toNat then
  ({(S.doI p.body).1 with rp:=(S.doI p.body).2,bg:=true,due:=(S.doI p.body).1.due+1},43::zH S.due (S.doI p.body).2)
 else if S.bg=true/\p.seq=(S.due-1).toNat then (S,43::zH (S.due-1) S.rp)
 else (S,[63])
def zni(B:Nat)(N:Int)(w0 w w':World)(S:SB)(L:List UInt8)(e:Ending):Prop:=
 ∃g cap s',e=.returned (Sq g L.length cap)/\zy w' g 0 L/\w.heap.size<=g/\g<w'.heap.size/\Tn B s' w0 w'/\SV S s'/\SI S (N+1000000)
theorem zal{w0 w w':World}{B:Nat}{s:PC}{r:Option Nat}(h:Tn B s w0 w)(g:w.grownBy w' r)(hr:∀k,r=some k->k≠B/\w0.heap.size<=k):Tn B s w0 w':=
 ⟨h.c.same (g.block B h.c.lt (fun e=>(hr B e.symm).1 rfl)),⟨g.os.trans h.g.os,g.tape.trans h.g.tape,g.output.trans h.g.output,Nat.le_trans h.g.size g.size,fun k hk hne=>(g.block k (Nat.lt_of_lt_of_le hk h.g.size) (fun e=>by have:=(hr k e.symm).2;omega)).trans (h.g.block k hk hne)⟩⟩
theorem ze1(w:World)(x:UInt8)(t:TypeId):zy (w.alloc (.cells #[Uq (x.toNat:Int)] t)) w.heap.size 0 [x]:=by
 intro i hi;have e:i=0:=by simp at hi;exact hi
 subst e;exact World.cell?_alloc_at _ _ _ _ rfl
theorem zbl(w:World)(o:Obj)(k:Nat)(x:UInt8)(t:TypeId):zy (((w.alloc o).drewN k).alloc (.cells #[Uq (x.toNat:Int)] t)) (w.heap.size+1) 0 [x]:=by
 have q:=ze1 ((w.alloc o).drewN k) x t;rw [x8,World.size_alloc] at q;exact q
theorem VY{B:Nat}{s:PC}{w0 w:World}{S:SB}{N:Int}(h:Tn B s w0 w)(hS:SV S s)(hI:SI S N)(hN0:0<=N)(hN:N<3000000000000000000)(p:Pk)(hl:p.body.length<=200)(hrp:S.rp.length<=80):Calls prog 58 #[Pq B,p.val] w fun e w'=>zni B N w0 w w' (S.ans p).1 (S.ans p).2 e:=by
 obtain ⟨i0,hi,hz0,hz1,hz2⟩:=info_parts xP;obtain ⟨sq,body,bad⟩:=p;have hlt:=h.c.lt;have hsz:=h.g.size;have n0:w.heap.size≠B:=by omega
 have m0:B≠w.heap.size:=by omega
 have cd:w.cell? (Aq B 65765)=some (Uq (S.due.toNat:Int)):=h.rest zzb hS.cd;have cb:w.cell? (Aq B 65766)=some (Tq S.bg):=h.rest zzb hS.cb;have cr:w.cell? (Aq B 65767)=some (Zq ⟨S.rp.toArray⟩):=h.rest zzb hS.cr;have fz:=h.c.free;have hd:=zd6 S.due;have hw:IntKind.i64.wrap (S.due.toNat:Int)=(S.due.toNat:Int):=jv _ hd.1 hd.2;have hl:body.length<=200:=hl;have HT:=hid h;have HS:=hid hS;have HI:=hid (hI.mono (show N<=N+1000000 by omega));unfold SB.ans;rw [Uj];cases bad
 ·rw [if_neg zzc];by_cases hq:sq=S.due.toNat
  ·rw [if_pos hq];show Calls _ _ _ _ fun e w'=>zni B N w0 w w' {(S.doI body).1 with rp:=(S.doI body).2,bg:=true,due:=(S.doI body).1.due+1} (43::zH S.due (S.doI body).2) e
   have D:=fun {x w:World} (h:Tn B s x w)=>zlP h hS hI hN0 hN body hl
   have htl:=XX S body;subst hq;generalize hG:S.doI body=G0 at*;obtain ⟨S2,t⟩:=G0;have htl:t.length<=80:=htl;obtain ⟨d,hdd⟩:∃d,S.due=d:=⟨_,rfl⟩
   rw [hdd] at cd hw hd⊢;clear h hG cb cr;go_enter func58,ntmps58;go_wp2_with fail;go_region_held3 (fun w'=>w'.cell? (Aq w.heap.size 0)=some (Iq (d.toNat:Int))/\w'.cell? (Aq B 65765)=some (Uq (d.toNat:Int))) (go_keep) (fail);go_wp2_with fail;refine (D (Tn.refl (HT.out.alloc _).drew.c)).mono ?_;rintro e w1 ⟨rfl,s2,T2,V2,I2⟩;have K:=kept T2;have e4:=(K.1 w.heap.size 0 n0 zzc).trans (World.cell?_alloc_at _ _ _ _ rfl);have e1:w1.cell? (Aq B 65765)=some (Uq (S2.due.toNat:Int)):=T2.rest zzb V2.cd;have e2:w1.cell? (Aq B 65766)=some (Tq S2.bg):=T2.rest zzb V2.cb;have e3:w1.cell? (Aq B 65767)=some (Zq ⟨S2.rp.toArray⟩):=T2.rest zzb V2.cr;have fz1:=T2.c.free;have hs1:w.heap.size<w1.heap.size:=by have:=T2.g.size;simp at this;omega
   have HT2:=hid ((HT.out.alloc _).drew.trans T2);have HV2:=hid V2;have HI3:Hid (SI {S2 with rp:=t,bg:=true,due:=S2.due+1} (N+1000000)):=I2.like rfl rfl;clear K T2 V2 I2 D cd fz;have ed:((S2.due.toNat:Int)+1)%256=((S2.due+1).toNat:Int):=by rw [UInt8.toNat_add];show _=(((S2.due.toNat+1)%256:Nat):Int);omega
   have HTX:Hid (Tn B (((s2.put 65767 (Zq ⟨t.toArray⟩)).put 65766 (Tq true)).put 65765 (Uq ((S2.due+1).toNat:Int))) w0 (((w1.setCell (Aq B 65767) (Zq ⟨t.toArray⟩)).setCell (Aq B 65766) (Tq true)).setCell (Aq B 65765) (Uq (((S2.due.toNat:Int)+1)%256)))):=by
    rw [ed];exact ((HT2.out.put _ _ _ zzb HV2.out.cr).put _ _ _ zzb ((zh _ _ _ _ zzb).trans HV2.out.cb)).put _ _ _ zzb ((zh _ _ _ _ zzb).trans ((zh _ _ _ _ zzb).trans HV2.out.cd))
   have HV3:Hid (SV {S2 with rp:=t,bg:=true,due:=S2.due+1} (((s2.put 65767 (Zq ⟨t.toArray⟩)).put 65766 (Tq true)).put 65765 (Uq ((S2.due+1).toNat:Int)))):=
    HV2.out.hd (((RsO.put s2 65767 _ _ _ zzb zzb).trans (RsO.put _ 65766 _ _ _ zzb zzb)).trans (RsO.put _ 65765 _ _ _ zzb zzb)) (HV2.out.sc.keep fun k _ _=>by rw [zh _ _ _ _ zza,zh _ _ _ _ zza,zh _ _ _ _ zza]) (yj _ _ _) ((zh _ _ _ _ zzb).trans (yj _ _ _)) ((zh _ _ _ _ zzb).trans ((zh _ _ _ _ zzb).trans (yj _ _ _)))
   clear ed;go_wp2_with fail;have x0:(((w1.setCell (Aq B 65767) (Zq ⟨t.toArray⟩)).setCell (Aq B 65766) (Tq true)).setCell (Aq B 65765) (Uq (((S2.due.toNat:Int)+1)%256))).cell? (Aq w.heap.size 0)=some (Iq (d.toNat:Int)):=by
    have ne:∀i,((Aq B i):Addr)≠ (Aq w.heap.size 0):=fun i e=>by injection e with e1 e2;exact m0 e1
    rw [World.cell?_setCell_other _ _ _ _ (ne _),World.cell?_setCell_other _ _ _ _ (ne _),World.cell?_setCell_other _ _ _ _ (ne _)];exact e4
   have x3:=HTX.out.rest (o:=65767) zzb ((zh _ _ _ _ zzb).trans ((zh _ _ _ _ zzb).trans (yj _ _ _)));have zW:w.heap.size<(((w1.setCell (Aq B 65767) (Zq ⟨t.toArray⟩)).setCell (Aq B 65766) (Tq true)).setCell (Aq B 65765) (Uq (((S2.due.toNat:Int)+1)%256))).heap.size:=by simpa using hs1
   generalize ((s2.put 65767 (Zq ⟨t.toArray⟩)).put 65766 (Tq true)).put 65765 (Uq ((S2.due+1).toNat:Int))=s3 at*;generalize (((w1.setCell (Aq B 65767) (Zq ⟨t.toArray⟩)).setCell (Aq B 65766) (Tq true)).setCell (Aq B 65765) (Uq (((S2.due.toNat:Int)+1)%256)))=W at*;have HTW:=HTX;have bW:B<W.heap.size:=HTX.out.c.lt;clear e1 e2 e3 e4 fz1 HT2 HV2 HTX;go_region_held3 (fun w'=>w'.cell? (Aq w.heap.size 0)=some (Iq (d.toNat:Int))/\w'.cell? (Aq B 65767)=some (Zq ⟨t.toArray⟩)) (go_keep) (first|(go_at_call 56;refine (ZO d ⟨t.toArray⟩ _ (by show t.toArray.size<=80;simpa using htl)).mono ?_;rintro e w3 ⟨v,rfl,O⟩;obtain ⟨g,cap,rfl,o1,o2,o3⟩:=O;have y0:=(o2.cell (p:=(Aq w.heap.size 0)) zW).trans x0;have y3:=(o2.cell (p:=(Aq B 65767)) bW).trans x3));have HN:Hid (zy w3 g 0 (zH d t)):=vB o1;have hfl:(zH d t).length<=200:=by have:=ZA t;simp [zH,vx];omega
   have hfp:0<(zH d t).length:=by simp [zH]
   have hgl:=(o1.lt g rfl);have HT3:Hid (Tn B s3 w0 w3):=ym HTW.out.drew o2;have hs3:W.heap.size<=w3.heap.size:=o2.size;clear o1 o2 o3 x0 x3 y0 y3 HTW;obtain ⟨F,HF⟩:∃F,Hid (zH d t=F):=⟨_,rfl⟩
   rw [HF.out] at HN hfl hfp;rw [HF.out];have hg3:g<w3.heap.size:=hgl.2;clear hgl;have hB3:B<w3.heap.size:=HT3.out.c.lt;go_wp2_with (first|(at_builtin;go_must (refine wpList_append_lies _ rfl (.tmp 65) (.tmp 66) 35 rfl w3.heap.size 5 i0 (Uq 0) 1 1 zx hi hz0 hz1 hz2 rfl zzb (Sq w3.heap.size 1 1) 1 [Uq 43] rfl (World.ownsRow_lit w3 #[Uq 43] 1 (Nat.le_refl _) zzb rfl) (Aq g 0) F.length cap (zS F) rfl (by rw [yR];simp) (jt (y8 HN.out hg3 _)) (Zo F) hfp zze zza zzc _ rfl ?_;intro g' cap' w4 hown' hgrow hat hlt';have H4:Hid (zy w4 g' 0 (43::F)/\w.heap.size<=g'/\g'<w4.heap.size/\Tn B s3 w0 w4):=⟨vB (l:=43::F) (by rw [List.length_cons,Nat.add_comm];exact hown'),(by have:=(hown'.lt g' rfl).1;omega),hlt',zal (HT3.out.alloc _) hgrow (fun k e=>by simp [Value.ownBlock] at e;omega)⟩;clear hown' hgrow hat hlt')));go_ret;obtain ⟨b1,b2,b3,b4⟩:=H4.out;exact ⟨g',cap',s3,by rw [HF.out,List.length_cons,Nat.add_comm];rfl,by rw [HF.out];exact b1,b2,b3,b4,HV3.out,HI3.out⟩
  ·rw [if_neg hq];have hq':((sq:Int)==(S.due.toNat:Int))=false:=by rw [beq_eq_false_iff_ne];omega
   cases hbg:S.bg
   ·rw [if_neg zzc];rw [hbg] at cb;clear h hS;go_enter func58,ntmps58;go_wp2_with fail;go_quiet (fail);rename_i nq1;go_wp2_with fail;go_quiet (fail);go_wp2;go_ret;refine ⟨w.heap.size+1,1,s,rfl,?_,by omega,by simp,((HT.out.alloc _).drewN _).alloc _,HS.out,HI.out⟩;exact zbl w _ _ 63 5
   ·rw [hbg] at cb;obtain ⟨d,hd1⟩:∃d,Hid (S.due-1=d):=⟨_,rfl⟩
    rw [hd1.out];have ed:((S.due.toNat:Int)-1)%256=(d.toNat:Int):=by
     rw [<-hd1.out,UInt8.toNat_sub];have:=S.due.toNat_lt;show _=(((256-1+S.due.toNat)%256:Nat):Int);omega
    have hd2:=zd6 d;have hwd:IntKind.i64.wrap (d.toNat:Int)=(d.toNat:Int):=jv _ hd2.1 hd2.2;have ed2:IntKind.u8.wrap ((S.due.toNat:Int)-1)=(d.toNat:Int):=by rw [IntKind.wrap_u8];exact ed
    by_cases hq2:sq=d.toNat
    ·rw [if_pos ⟨rfl,hq2⟩];subst hq2;clear h hS;have htl:=hrp;have HV3:=HS;go_enter func58,ntmps58;go_wp2_with fail;go_quiet (fail);have HT1:=hid ((HT.out.alloc (.cells #[Iq (d.toNat:Int),Zq ⟨body.toArray⟩,Tq false] 152)).drewN nq);have z0:((w.alloc (.cells #[Iq (d.toNat:Int),Zq ⟨body.toArray⟩,Tq false] 152)).drewN nq).cell? (Aq w.heap.size 0)=some (Iq (d.toNat:Int)):=(zU _ _ _).trans (World.cell?_alloc_at _ _ _ _ rfl);have zs:w.heap.size<((w.alloc (.cells #[Iq (d.toNat:Int),Zq ⟨body.toArray⟩,Tq false] 152)).drewN nq).heap.size:=by rw [x8];simp
     generalize (w.alloc (.cells #[Iq (d.toNat:Int),Zq ⟨body.toArray⟩,Tq false] 152)).drewN nq=W1 at*;have cd:=HT1.out.rest zzb HS.out.cd;have cb:W1.cell? (Aq B 65766)=some (Tq true):=by rw [<-hbg];exact HT1.out.rest zzb HS.out.cb
     go_wp2_with fail;go_quiet (fail);have HTW:=hid (HT1.out.drewN nq);have x0:=(zU W1 nq _).trans z0;have x3:(W1.drewN nq).cell? (Aq B 65767)=some (Zq ⟨S.rp.toArray⟩):=HTW.out.rest zzb HS.out.cr;have zW:w.heap.size<(W1.drewN nq).heap.size:=by rw [x8];exact zs
     have bW:B<(W1.drewN nq).heap.size:=HTW.out.c.lt;generalize W1.drewN nq=W at*;clear z0 zs HT1 cd cb cr fz;go_wp2_with fail;go_region_held3 (fun w'=>w'.cell? (Aq w.heap.size 0)=some (Iq (d.toNat:Int))/\w'.cell? (Aq B 65767)=some (Zq ⟨S.rp.toArray⟩)) (go_keep) (first|(go_at_call 56;refine (ZO d ⟨S.rp.toArray⟩ _ (by show S.rp.toArray.size<=80;simpa using htl)).mono ?_;rintro e w3 ⟨v,rfl,O⟩;obtain ⟨g,cap,rfl,o1,o2,o3⟩:=O;have y0:=(o2.cell (p:=(Aq w.heap.size 0)) zW).trans x0;have y3:=(o2.cell (p:=(Aq B 65767)) bW).trans x3));have HN:Hid (zy w3 g 0 (zH d S.rp)):=vB o1;have hfl:(zH d S.rp).length<=200:=by have:=ZA S.rp;simp [zH,vx];omega
     have hfp:0<(zH d S.rp).length:=by simp [zH]
     have hgl:=(o1.lt g rfl);have HT3:Hid (Tn B s w0 w3):=ym HTW.out.drew o2;have hs3:W.heap.size<=w3.heap.size:=o2.size;clear o1 o2 o3 x0 x3 y0 y3 HTW;obtain ⟨F,HF⟩:∃F,Hid (zH d S.rp=F):=⟨_,rfl⟩
     rw [HF.out] at HN hfl hfp;rw [HF.out];have hg3:g<w3.heap.size:=hgl.2;clear hgl;have hB3:B<w3.heap.size:=HT3.out.c.lt;go_wp2_with (first|(at_builtin;go_must (refine wpList_append_lies _ rfl (.tmp 65) (.tmp 66) 35 rfl w3.heap.size 5 i0 (Uq 0) 1 1 zx hi hz0 hz1 hz2 rfl zzb (Sq w3.heap.size 1 1) 1 [Uq 43] rfl (World.ownsRow_lit w3 #[Uq 43] 1 (Nat.le_refl _) zzb rfl) (Aq g 0) F.length cap (zS F) rfl (by rw [yR];simp) (jt (y8 HN.out hg3 _)) (Zo F) hfp zze zza zzc _ rfl ?_;intro g' cap' w4 hown' hgrow hat hlt';have H4:Hid (zy w4 g' 0 (43::F)/\w.heap.size<=g'/\g'<w4.heap.size/\Tn B s w0 w4):=⟨vB (l:=43::F) (by rw [List.length_cons,Nat.add_comm];exact hown'),(by have:=(hown'.lt g' rfl).1;omega),hlt',zal (HT3.out.alloc _) hgrow (fun k e=>by simp [Value.ownBlock] at e;omega)⟩;clear hown' hgrow hat hlt')));go_ret;obtain ⟨b1,b2,b3,b4⟩:=H4.out;exact ⟨g',cap',s,by rw [HF.out,List.length_cons,Nat.add_comm];rfl,by rw [HF.out];exact b1,b2,b3,b4,HV3.out,HI.out⟩
    ·rw [if_neg (fun q=>hq2 q.2)];have hq3:((sq:Int)==(d.toNat:Int))=false:=by rw [beq_eq_false_iff_ne];omega
     have hq4:((sq:Int) !=(d.toNat:Int))=true:=by rw [bne,hq3];rfl
     clear h hS;go_enter func58,ntmps58;go_wp2_with fail;go_quiet (fail);go_wp2_with fail;go_quiet (fail);go_wp2;go_ret;refine ⟨w.heap.size+1,1,s,rfl,?_,by omega,by simp,((HT.out.alloc _).drewN _).alloc _,HS.out,HI.out⟩;exact zbl w _ _ 63 5
 ·rw [if_pos rfl];clear h hS;go_enter func58,ntmps58;go_wp2;go_ret;refine ⟨w.heap.size+1,1,s,rfl,?_,by omega,by simp,(HT.out.alloc _).alloc _,HS.out,HI.out⟩;have q:=ze1 (w.alloc (.cells #[Iq (sq:Int),Zq ⟨body.toArray⟩,Tq true] 152)) 45 5;simpa using q
end
section
def SB.answers:SB->List Pk->SB × List UInt8
 |S,[]=>(S,[])
 |S,p::r=>(((S.ans p).1.answers r).1,(S.ans p).2++((S.ans p).1.answers r).2)
theorem Yw(S:SB)(l:List Pk)(p:Pk):S.answers (l++ [p])=(((S.answers l).1.ans p).1,(S.answers l).2++((S.answers l).1.ans p).2):=by
 induction l generalizing S with
 |nil=>simp [SB.answers]
 |cons q r ih=>simp only [List.cons_append,SB.answers,ih,List.append_assoc]
def SB.feed(S:SB)(l:List UInt8):SB × List UInt8:=({S with sc:=yA S.sc l}:SB).answers (zR S.sc l)
theorem zon(d:UInt8)(t:List UInt8)(h:t.length<=80):(zH d t).length<=200:=by have:=ZA t;simp [zH,vx];omega
theorem UG(S:SB)(p:Pk)(h:S.rp.length<=80):0<(S.ans p).2.length/\(S.ans p).2.length<=201:=by
 unfold SB.ans;split
 ·simp
 ·split
  ·have:=zon S.due (S.doI p.body).2 (XX S p.body);simp only [List.length_cons];omega
  ·split
   ·have:=zon (S.due-1) S.rp h;simp only [List.length_cons];omega
   ·simp
theorem zam(S:SB)(p:Pk)(h:S.rp.length<=80):(S.ans p).1.rp.length<=80:=by
 unfold SB.ans;split
 ·exact h
 ·split
  ·exact XX S p.body
  ·split<;>exact h
theorem Gj(l:List UInt8)(a b:UInt8):(yM l a b).body.length<=200:=by
 unfold yM xp;repeat' split
 all_goals first
  |(simp [xH];done)
  |(dsimp only;omega)
theorem ZZ:∀ (l:List UInt8) (s:Sc),∀p∈zR s l,p.body.length<=200
 | [],_,p,h=>by simp [zR] at h
 |c::r,s,p,h=>by
  rw [zR] at h;rcases List.mem_append.1 h with h|h
  ·split at h
   ·simp at h;subst h;exact Gj _ _ _
   ·simp at h
  ·exact ZZ r _ p h
theorem jX:∀ (l:List UInt8) (s:Sc),(zR s l).length<=l.length
 | [],_=>by simp [zR]
 |c::r,s=>by
  rw [zR,List.length_append];have:=jX r (s.step c);split
  ·simp only [List.length_cons,List.length_nil];omega
  ·simp only [List.length_cons,List.length_nil];omega
theorem CAt.re{w:World}{B:Nat}{s:PC}(h:CAt w B s)(R:Nat->Option Value)(e:∀o,65562<=o->R o=s.rest o):CAt w B (s.rr R):=
 {h with crest:=fun o ho=>(h.crest o ho).trans (e o ho).symm}
theorem SV.scs{S:SB}{s:PC}{w0 w:World}{B:Nat}(h:Tn B s w0 w)(hS:SV S s):ScS (fun o=>w.cell? (Aq B o)) w B S.sc:=
 ⟨hS.sc.st3,hS.sc.len,h.rest zzb hS.sc.cst,h.rest zzb hS.sc.cnt,h.rest zzb hS.sc.csum,fun i hi=>h.rest zza (hS.sc.bytes i hi),fun i hi=>by obtain ⟨v,hv⟩:=hS.sc.there i hi;exact ⟨v,h.rest zza hv⟩,h.c.free,fun o _=>rfl⟩
theorem scanned{S:SB}{s:PC}{w0 w w1:World}{B:Nat}{v:Value}{c:Sc}{ps:List Pk}(h:Tn B s w0 w)(hS:SV S s)(F:FedS (fun o=>w.cell? (Aq B o)) B w w1 v c ps):∃s1,Tn B s1 w0 w1/\SV {S with sc:=c} s1:=by
 have C1:=h.c.scanned (w':=w1) (fun o ho=>F.sc.keep o (.inl ho)) F.sc.free;have C2:=C1.re (fun o=>if o<65562 then s.rest o else w1.cell? (Aq B o)) (fun o ho=>if_neg zza);have k:∀o,65562<=o->(if o<65562 then s.rest o else w1.cell? (Aq B o))=w1.cell? (Aq B o):=fun o ho=>if_neg zza
 have kk:∀o,65765<=o->(if o<65562 then s.rest o else w1.cell? (Aq B o))=s.rest o:=fun o ho=>(k o zza).trans ((F.sc.keep o (.inr ho)).trans (h.c.crest o zza))
 refine ⟨s.rr (fun o=>if o<65562 then s.rest o else w1.cell? (Aq B o)),⟨C2,zJ h.g F.grown⟩,?_⟩;refine hS.hd (c:=c) (d:=S.due) (b:=S.bg) (r:=S.rp) ⟨rfl,fun o ho=>?_⟩ ?_ ((kk _ zzb).trans hS.cd) ((kk _ zzb).trans hS.cb) ((kk _ zzb).trans hS.cr)
 ·rcases ho with ho|ho
  ·exact if_pos ho
  ·exact kk o zza
 ·exact ⟨F.sc.st3,F.sc.len,(k _ zzb).trans F.sc.cst,(k _ zzb).trans F.sc.cnt,(k _ zzb).trans F.sc.csum,fun i hi=>(k _ zza).trans (F.sc.bytes i hi),fun i hi=>by obtain ⟨v,hv⟩:=F.sc.there i hi;exact ⟨v,(k _ zza).trans hv⟩⟩
theorem Qx(ps:List Pk)(k j:Nat)(hk:k<ps.length)(hj:j<3):(vZ ps)[k*3+j]?=(ps[k].cells)[j]?:=by
 induction ps generalizing k with
 |nil=>simp at hk
 |cons p r ih=>
  have e:vZ (p::r)=p.cells++vZ r:=by simp [vZ]
  have hc:p.cells.length=3:=rfl;rw [e];cases k with
  |zero=>rw [List.getElem?_append_left zza];simp
  |succ k=>rw [List.getElem?_append_right zza,hc,show (k+1)*3+j-3=k*3+j from by omega,ih k (by simpa using hk)];simp
end
section
def SB.ws(S:SB)(c:Sc):SB:={S with sc:=c}
variable {c:Sc}
end
theorem XE{P:Program}(w:World){ops:Array Oper}{rest:List Oper}{o:Oper}{a:Go.Act}{Q:Exit->Go.Act->World->Prop}(hgd:o.guard=none)(d s:Operand)(dT sT:TypeId)
  (ho:o.op=.call {callee:=.builtin .copy,args:=#[d,s],argTypes:=#[dT,sT] }) (elem:TypeId) (i:TypeInfo) (hu:P.underlying dT=some (.slice elem)) (hi:P.info? elem=some i)
  (g dLen dCap:Nat) (hd:a.eval d=Sq g dLen dCap) (x:ByteArray) (hs:a.eval s=Zq x) (hle:x.size<=dLen)
  (hth:∀j,j<x.size->(w.cell? (Aq g j)).isSome=true) (hfr:∀j,j<x.size->w.frozen? (Aq g j)=false)
  (h:wpList P ops Q rest (a.put o.dst (goInt x.size)) (w.setCells g 0 (zS x.data.toList))):wpList P ops Q (o::rest) a w:=by
 refine wpList_plain hgd fun K hK=>?_
 have hmin:Nat.min x.size dLen=x.size:=Nat.min_eq_left hle;have hl:(zS x.data.toList).length=x.size:=by rw [yR];simp
 have hst:=run_storeCells_cells (P:=P) g 0 (zS x.data.toList) 0 w (fun j hj=>by rw [hl] at hj;simpa using hth j hj) (fun j hj=>by rw [hl] at hj;simpa using hfr j hj) (by intro v hv;simp [zS] at hv;obtain ⟨c,_,rfl⟩:=hv;rfl);have hrun:(Builtin.copy_ #[dT,sT] o.type #[Sq g dLen dCap,Zq x]).run P w=.ok (goInt x.size) (w.setCells g 0 (zS x.data.toList)):=by
  simp [Builtin.copy_,run_underlying hu,Builtin.lenOf,Builtin.firstCells,sizeOf,typeInfo,hi,hmin];have e:List.map (fun b:UInt8=>Uq (b.toNat:Int)) x.data.toList=zS x.data.toList:=rfl;rw [e,List.take_of_length_le (by rw [hl];omega),hst];rfl
 unfold Oper.wp;simp [execOp,ho,resolve,invoke,builtin,hd,hs,hrun,Result.andThen];exact hK _ _ h
structure LentAt (w:World) (g:Nat) (l:List UInt8):Prop where
 row:RowAt w g 5 1 (l.length+8)
 bytes:zy w g 0 l
 spare:∀j,j<8->w.cell? ⟨g,l.length+j,none⟩=some (Uq 77)
theorem zkJ{w:World}{g:Nat}{l:List UInt8}{cap:Nat}(hr:RowAt w g 5 1 cap)(hl:l.length<=cap):zy (w.setCells g 0 (zS l)) g 0 l:=by
 intro i hi;have:=World.cell?_setCells_in g (zS l) 0 w (fun j hj=>by rw [yR] at hj;obtain ⟨u,hu⟩:=hr.there (0+j) zza;rw [hu];rfl) i (by rw [yR];exact hi);rw [this];simp [zS]
theorem Zh(g:Nat):∀ (vs:List Value) (o:Nat) (w:World),w.grownBy (w.setCells g o vs) (some g)/\(w.setCells g o vs).heap.size=w.heap.size
 | [],_,w=>⟨World.grownBy.refl _ _,rfl⟩
 |v::r,o,w=>by
  obtain ⟨h1,h2⟩:=Zh g r (o+1) (w.setCell (Aq g o) v);exact ⟨yQ (yU w g o v) h1,h2.trans zzc⟩
theorem Vp{w0 w w':World}{g:Nat}(hb:Bq w0 w)(hg:w.grownBy w' (some g))(hl:w0.heap.size<=g):Bq w0 w':=hb.grown hg hb.size (fun k e=>by injection e with e;omega)
theorem zb2{w:World}{g o:Nat}{l:List UInt8}{v:Value}(h:zy w g 0 l)(ho:l.length<=o):zy (w.setCell (Aq g o) v) g 0 l:=by
 intro i hi;rw [World.cell?_setCell_other _ _ _ _ (zQ _ _ _ zza)];exact h i hi
theorem zb3{w:World}{g n k:Nat}{u:Value}(h:∀j,j<k->w.cell? ⟨g,n+j,none⟩=some (Uq 77))(hu:w.cell? ⟨g,n+k,none⟩=some u):∀j,j<k+1->(w.setCell ⟨g,n+k,none⟩ (Uq 77)).cell? ⟨g,n+j,none⟩=some (Uq 77):=by
 intro j hj;by_cases e:j=k
 ·subst e;exact World.cell?_setCell_same _ _ _ hu
 ·rw [World.cell?_setCell_other _ _ _ _ (zQ _ _ _ zza)];exact h j zza
theorem zmh{p:Prop} (q:p:=by
 rcases h.2 with ⟨e,_⟩|⟨g',cap,cur,e,_,h1,_,_,h2,_⟩
 ·simp at e
 ·injection e with e1 e2 e3;injection e1 with e1;injection e1 with e1;subst e1 e3;exact ⟨cur,h1,h2⟩):p:=q
theorem Hq{w:World}{base g n:Nat}{xs:List Value}(h:w.ownsRow base 5 1 (Sq g n n) n xs):RowAt w g 5 1 n:=by
 exact zmh
theorem Hr{s:ByteArray}(h:s.toList.isEmpty=true):s.size=0:=by
 rw [Lib.toList_data] at h;rw [Zy,List.isEmpty_iff.1 h];rfl
theorem Kv(s:ByteArray)(b:Bool)(w:World)(hs:s.size<=10000000)(hn:¬(s.size=0/\b=true)):Cq 70 #[Zq s,Tq b] w (Sq w.heap.size s.size (s.size+8)) fun w'=>LentAt w' w.heap.size s.data.toList/\Bq w w':=by
 obtain ⟨i0,hi,hz0,hz1,hz2⟩:=info_parts xP;have hm:i0.bytes*(s.size+8)<=281474976710656:=by rw [hz2];omega
 have hcase:(s.toList.isEmpty=false)\/(s.toList.isEmpty=true/\b=false):=by
  cases hq:s.toList.isEmpty with
  |false=>exact .inl rfl
  |true=>exact .inr ⟨rfl,by cases b with
   |false=>rfl
   |true=>exact absurd ⟨Hr hq,rfl⟩ hn⟩
 clear hn;have hlen:s.data.toList.length=s.size:=by simp
 rcases hcase with hq|⟨hq,rfl⟩
 all_goals
  go_enter func70,ntmps70;go_wp2_with (first|(at_make;go_must (refine wpList_make_full _ rfl _ _ 35 rfl w.heap.size 5 i0 (Uq 0) 1 zx hi hz0 hz1 .i64 .i64 _ _ (s.size+8) rfl rfl zza zza hm zze (Nat.le_refl _) ?_;intro w1 hown1 hgrow1;have HR:Hid (RowAt w1 w.heap.size 5 1 (s.size+8)/\Bq w w1):=⟨Hq hown1,(Below.refl _ _).grown hgrow1 (Nat.le_refl _) zzc⟩;clear hown1 hgrow1))|(refine XE _ rfl (.tmp 16) (.tmp 17) 35 9 rfl 5 i0 zx hi w.heap.size (s.size+8) (s.size+8) rfl s rfl zza ?_ ?_ ?_;(intro j hj;obtain ⟨u,hu⟩:=HR.out.1.there j zza;rw [hu];rfl);(intro j hj;exact HR.out.1.free j)));have HC:Hid (RowAt (w1.setCells w.heap.size 0 (zS s.data.toList)) w.heap.size 5 1 (s.size+8)/\zy (w1.setCells w.heap.size 0 (zS s.data.toList)) w.heap.size 0 s.data.toList/\Bq w (w1.setCells w.heap.size 0 (zS s.data.toList))):=
   ⟨RowAt.setCells _ _ _ _ HR.out.1,zkJ HR.out.1 zza,Vp HR.out.2 (Zh _ _ _ _).1 (Nat.le_refl _)⟩
  generalize w1.setCells w.heap.size 0 (zS s.data.toList)=w2 at*;clear HR;go_loopw [6] (fun i wr=> ∃k:Nat,k<=8/\i=Iq ((s.size:Int)+(k:Int))/\RowAt wr w.heap.size 5 1 (s.size+8)/\zy wr w.heap.size 0 s.data.toList/\Bq w wr/\∀j,j<k->wr.cell? ⟨w.heap.size,s.size+j,none⟩=some (Uq 77)) (fun i _=>s.size+8-(intOf i).toNat);case atStart=>exact ⟨0,by omega,by go_num,HC.out.1,HC.out.2.1,HC.out.2.2,by simp⟩
  case round=>
   clear HC;obtain ⟨k,hk,rfl,p0,p1,p2,p3⟩:=hrel;have HP:=qH4 p0 p1 p2 p3;clear p0 p1 p2 p3;by_cases hlt:k<8
   ·obtain ⟨u,hu⟩:=HP.out.1.there (s.size+k) zza;have hfu:=HP.out.1.free (s.size+k);go_wp2;go_roundw;case rel=>exact ⟨k+1,by omega,by go_num,HP.out.1.setCell _ _ _,zb2 HP.out.2.1 zza,HP.out.2.2.1.setCell (Nat.le_refl _) _,zb3 HP.out.2.2.2 hu⟩
    case measure=>simp [intOf];omega
   ·have hk8:k=8:=by omega
    subst hk8;go_wp2;go_ret;exact ⟨rfl,⟨by rw [hlen];exact HP.out.1,HP.out.2.1,by rw [hlen];exact HP.out.2.2.2⟩,HP.out.2.2.1⟩
theorem Kz(w:World):Cq 70 #[Zq ⟨#[]⟩,Tq true] w (Nq) fun w'=>w'=w:=by
 go_enter func70,ntmps70;go_wp2;go_ret;exact ⟨rfl,rfl⟩
theorem KB(w:World):Cq 72 #[Nq,Zq ⟨#[]⟩] w (Tq true) fun w'=>w'=w:=by
 have hnil:=fun (w:World) (a:Option Addr) (n c:Nat)=>Lib.run_eql_slice_nil (P:=prog) w 35 5 a n c 0 0 zx
 go_enter func72,ntmps72;go_wp2;go_ret;exact ⟨rfl,rfl⟩
theorem zou(B:Nat)(w:World):Cq 57 #[Pq B,Nq] w (Nq) fun w'=>w'=w:=by
 go_enter func57,ntmps57;go_wp2;go_loop [5,10] (fun v i=>v=Nq/\i=Iq 0) (fun _ _=>0);case atStart=>exact ⟨rfl,rfl⟩
 case round=>
  obtain ⟨rfl,rfl⟩:=hrel;go_wp2;go_ret;exact ⟨rfl,rfl⟩
theorem zoK(B:Nat)(w:World):Cq 71 #[Pq B,Nq] w (Nq) fun w'=>w'=w:=by
 go_enter func71,ntmps71;go_wp2_with fail;refine (zou B _).mono ?_;rintro e w1 ⟨rfl,rfl⟩;go_wp2;go_ret;exact ⟨rfl,rfl⟩
theorem zee{w:World}{g c:Nat}{s:ByteArray}(h:LentAt w g s.data.toList):(convert 35 9 (Sq g s.size c)).run prog w=.ok (Zq s) w:=by
 have hl:s.data.toList.length=s.size:=by simp
 have:=run_convert_bytes_back (P:=prog) w 35 9 5 (Aq g 0) c s.data.toList zx zoj vj
  (fun j hj=>by
   have hb:=h.bytes j hj;rw [Nat.zero_add] at hb;rw [show ((Aq g 0):Addr).add j=(Aq g j) from by unfold Addr.add;split<;>simp_all];exact hb)
 rw [hl] at this;rw [this, <-zew (h:=s) rfl]
theorem KE(s:ByteArray)(g:Nat)(w:World)(hs:s.size<=10000000)(h:LentAt w g s.data.toList):Cq 72 #[Sq g s.size (s.size+8),Zq s] w (Tq true) fun w'=>w.grownBy w' (some g)/\w'.heap.size=w.heap.size:=by
 have hconv:=zee (c:=s.size+8) h;have hlen:s.data.toList.length=s.size:=by simp
 have HR:Hid (RowAt w g 5 1 (s.size+8)/\∀j,j<8->w.cell? ⟨g,s.size+j,none⟩=some (Uq 77)):=by have:=h.row;have h2:=h.spare;rw [hlen] at this h2;exact ⟨this,h2⟩
 clear h;have hnil:=fun (w:World) (a:Option Addr) (n c:Nat)=>Lib.run_eql_slice_nil (P:=prog) w 35 5 a n c 0 0 zx
 go_enter func72,ntmps72;go_wp2;go_loopw [5,7] (fun b i wr=> ∃k:Nat,k<=s.size+8/\b=Tq true/\i=Iq k/\RowAt wr g 5 1 (s.size+8)/\(∀j,k<=s.size+j->j<8->wr.cell? ⟨g,s.size+j,none⟩=some (Uq 77))/\w.grownBy wr (some g)/\wr.heap.size=w.heap.size) (fun _ i _=>s.size+8-(intOf i).toNat);case atStart=>exact ⟨0,by omega,by simp,rfl,HR.out.1,fun j _ hj=>HR.out.2 j hj,World.grownBy.refl _ _,rfl⟩
 case round=>
  obtain ⟨k,hk,rfl,rfl,p0,p1,p2,p3⟩:=hrel;have HP:=qH4 p0 p1 p2 p3;clear p0 p1 p2 p3 HR hconv;by_cases hlt:k<s.size+8
  ·obtain ⟨u,hu⟩:=HP.out.1.there k zza;have hfu:=HP.out.1.free k;have HN:Hid (RowAt (wr.setCell (Aq g k) (Uq 78)) g 5 1 (s.size+8)/\(∀j,k+1<=s.size+j->j<8->(wr.setCell (Aq g k) (Uq 78)).cell? ⟨g,s.size+j,none⟩=some (Uq 77))/\w.grownBy (wr.setCell (Aq g k) (Uq 78)) (some g)/\(wr.setCell (Aq g k) (Uq 78)).heap.size=w.heap.size):=
    ⟨HP.out.1.setCell _ _ _,fun j h1 h2=>by rw [World.cell?_setCell_other _ _ _ _ (zQ _ _ _ zza)];exact HP.out.2.1 j zza h2,yQ HP.out.2.2.1 (yU _ _ _ _),by simpa using HP.out.2.2.2⟩
   by_cases hin:k<s.size
   ·have hin':(k:Int)<(s.size:Int):=by omega
    clear HP;go_wp2;go_roundw;case rel=>exact ⟨k+1,by omega,rfl,by go_num,HN.out⟩
    case measure=>simp [intOf];omega
   ·have hcell:wr.cell? (Aq g k)=some (Uq 77):=by
     have:=HP.out.2.1 (k-s.size) zza zza;rw [show s.size+(k-s.size)=k from by omega] at this;exact this
    have hd:decide ((k:Int)<(s.size:Int))=false:=by rw [decide_eq_false_iff_not];omega
    clear HP hu;go_wp2;go_roundw;case rel=>exact ⟨k+1,by omega,rfl,by go_num,HN.out⟩
    case measure=>simp [intOf];omega
  ·go_wp2;go_ret;exact ⟨rfl,HP.out.2.2⟩
theorem zqd(ps:List Pk)(k:Nat)(h:k<ps.length):(vZ ps)[k*3]?=some (Iq (ps[k].seq:Int))/\(vZ ps)[k*3+1]?=some (Zq ⟨ps[k].body.toArray⟩)/\(vZ ps)[k*3+2]?=some (Tq ps[k].bad):=by
 induction ps generalizing k with
 |nil=>simp at h
 |cons p r ih=>
  cases k with
  |zero=>exact ⟨rfl,rfl,rfl⟩
  |succ k=>
   have hk:k<r.length:=by simpa using h
   have:=ih k hk;have e:vZ (p::r)=p.cells++vZ r:=by simp [vZ]
   have hc:p.cells.length=3:=rfl;rw [e,List.getElem?_append_right (by rw [hc];omega),List.getElem?_append_right (by rw [hc];omega),List.getElem?_append_right (by rw [hc];omega),hc];rw [show (k+1)*3-3=k*3 from by omega,show (k+1)*3+1-3=k*3+1 from by omega,show (k+1)*3+2-3=k*3+2 from by omega];simpa using this
theorem zpQ{p:Prop} (q:p:=by
 rcases h.2 with ⟨e,e2⟩|⟨g,cap,_,e,_⟩
 ·exact .inl ⟨e2,e⟩
 ·exact .inr ⟨g,cap,e⟩):p:=q
theorem zok{w:World}{base n:Nat}{v:Value}{xs:List Value}(h:w.ownsRow base 152 3 v n xs):(n=0/\v=Nq)\/ ∃g c,v=Sq g n c:=by
 exact zpQ
theorem zoP(ba bb:Nat)(va vb:Value)(ps:List Pk)(w:World)(hl:ps.length<=4194304)(ha:w.ownsRow ba 152 3 va ps.length (vZ ps))(hb:w.ownsRow bb 152 3 vb ps.length (vZ ps))(hna:ps=[] ->va=Nq)(hnb:ps=[] ->vb=Nq):Cq 74 #[va,vb] w (Tq true) fun w'=>∃n,w'=w.drewN n:=by
 by_cases hp:ps=[]
 ·obtain rfl:=hna hp;obtain rfl:=hnb hp;clear ha hb hna hnb hp hl;go_enter func74,ntmps74;go_wp2;go_loop [5] (fun i=>i=Iq 0) (fun _=>0);case atStart=>exact rfl
  case round=>
   subst hrel;go_wp2;go_ret;exact ⟨rfl,0,rfl⟩
 ·have hpos:0<ps.length:=by cases ps with|nil=>exact absurd rfl hp|cons _ _=>simp
  rcases zok ha with ⟨h0,_⟩|⟨ga,ca,rfl⟩
  ·omega
  rcases zok hb with ⟨h0,_⟩|⟨gb,cb,rfl⟩
  ·omega
  have HC:Hid (∀k (h:k<ps.length),(w.cell? ⟨ga,k*3,none⟩=some (Iq (ps[k].seq:Int))/\w.cell? ⟨ga,k*3+1,none⟩=some (Zq ⟨ps[k].body.toArray⟩)/\w.cell? ⟨ga,k*3+2,none⟩=some (Tq ps[k].bad))/\(w.cell? ⟨gb,k*3,none⟩=some (Iq (ps[k].seq:Int))/\w.cell? ⟨gb,k*3+1,none⟩=some (Zq ⟨ps[k].body.toArray⟩)/\w.cell? ⟨gb,k*3+2,none⟩=some (Tq ps[k].bad))):=by
   intro k h;obtain ⟨q0,q1,q2⟩:=zqd ps k h;exact ⟨⟨(ha.cellAt _ zza).trans q0,(ha.cellAt _ zza).trans q1,(ha.cellAt _ zza).trans q2⟩,⟨(hb.cellAt _ zza).trans q0,(hb.cellAt _ zza).trans q1,(hb.cellAt _ zza).trans q2⟩⟩
  clear ha hb hna hnb hp;go_enter func74,ntmps74;go_wp2;go_loopw [5] (fun i wr=> ∃k:Nat,k<=ps.length/\i=Iq k/\∃n,wr=w.drewN n) (fun i _=>ps.length-(intOf i).toNat);case atStart=>exact ⟨0,Nat.zero_le _,rfl,0,rfl⟩
  case round=>
   obtain ⟨k,hk,rfl,n,hwr⟩:=hrel;by_cases hlt:k<ps.length
   ·obtain ⟨⟨a0,a1,a2⟩,b0,b1,b2⟩:=HC.out k hlt;generalize ps[k]=p at*;obtain ⟨sq,bd,ba⟩:=p;simp only at a0 a1 a2 b0 b1 b2;generalize (⟨bd.toArray⟩:ByteArray)=bdy at*;have hx0:wr.cell? ⟨ga,k*3,none⟩=some (Iq (sq:Int)):=by rw [hwr];exact a0
    have hx1:wr.cell? ⟨ga,k*3+1,none⟩=some (Zq bdy):=by rw [hwr];exact a1
    have hx2:wr.cell? ⟨ga,k*3+2,none⟩=some (Tq ba):=by rw [hwr];exact a2
    have hy0:wr.cell? ⟨gb,k*3,none⟩=some (Iq (sq:Int)):=by rw [hwr];exact b0
    have hy1:wr.cell? ⟨gb,k*3+1,none⟩=some (Zq bdy):=by rw [hwr];exact b1
    have hy2:wr.cell? ⟨gb,k*3+2,none⟩=some (Tq ba):=by rw [hwr];exact b2
    have HW:=qH1 hwr;clear hwr a0 a1 a2 b0 b1 b2;have hkI:(k:Int)<(ps.length:Int):=by omega
    go_wp2_with fail;go_quiet (fail);go_wp2;go_roundw;case rel=>exact ⟨k+1,by omega,by go_num,n+nq,by rw [HW.out,World.drewN_drewN]⟩
    case measure=>simp [intOf];omega
   ·have HW:=qH1 hwr;clear hwr;go_wp2;go_ret;exact ⟨rfl,n,HW.out⟩
def Ent(e size:Nat)(xf:Nat->Nat->Value)(w:World)(Bad:Nat->Prop)(i:Nat)(v v1 v2 v3:Value):Prop:=
 ∃n,n<=100000000/\AllX e size (xf i) none 0 w v n/\AllX e size (xf i) none 0 w v1 (n+1)/\AllX e size (xf i) none 0 w v2 (n+2)/\AllX e size (xf i) none 0 w v3 (n+64)/\
  ∀g,(v.ownBlock=some g\/v1.ownBlock=some g\/v2.ownBlock=some g\/v3.ownBlock=some g)->¬Bad g
theorem AllX.blk{e size:Nat}{xf:Nat->Value}{row:Option Nat}{H:Nat}{w:World}{v:Value}{n g:Nat}(h:AllX e size xf row H w v n)(hg:v.ownBlock=some g):g<w.heap.size/\Ok row H g:=by
 rcases h with ⟨rfl,_⟩|⟨g',cap,rfl,ho,_,hr,_⟩
 ·simp [Value.ownBlock] at hg
 ·simp [Value.ownBlock] at hg;subst hg;exact ⟨hr.lt,ho⟩
theorem AllX.same{e size:Nat}{xf:Nat->Value}{w w':World}{v:Value}{n:Nat}(h:AllX e size xf none 0 w v n)(hk:∀g,v.ownBlock=some g->w'.heap[g]?=w.heap[g]?):AllX e size xf none 0 w' v n:=by
 rcases h with h|⟨g,cap,rfl,ho,hn,⟨cur,h1,h2⟩,hc⟩
 ·exact .inl h
 ·have hb:=hk g rfl;exact .inr ⟨g,cap,rfl,ho,hn,⟨cur,hb.trans h1,h2⟩,fun i hi=>by rw [World.cell?_of_block (a:=(Aq g i)) hb];exact hc i hi⟩
theorem AllX.free{e size:Nat}{xf:Nat->Value}{row:Option Nat}{H:Nat}{w:World}{v:Value}{n:Nat}(h:AllX e size xf row H w v n):AllX e size xf none 0 w v n:=by
 rcases h with h|⟨g,cap,rfl,_,hn,hr,hc⟩
 ·exact .inl h
 ·exact .inr ⟨g,cap,rfl,.inr (Nat.zero_le _),hn,hr,hc⟩
theorem Ent.kept{e size:Nat}{xf:Nat->Nat->Value}{w w':World}{Bad Bad':Nat->Prop}{i:Nat}{v v1 v2 v3:Value}(h:Ent e size xf w Bad i v v1 v2 v3)
  (hk:∀g,g<w.heap.size->¬Bad g->w'.heap[g]?=w.heap[g]?) (hb:∀g,g<w.heap.size->Bad' g->Bad g):Ent e size xf w' Bad' i v v1 v2 v3:=by
 obtain ⟨n,hn,h0,h1,h2,h3,hB⟩:=h;refine ⟨n,hn,h0.same (fun g hg=>hk g (h0.blk hg).1 (hB g (.inl hg))),h1.same (fun g hg=>hk g (h1.blk hg).1 (hB g (.inr (.inl hg)))),h2.same (fun g hg=>hk g (h2.blk hg).1 (hB g (.inr (.inr (.inl hg))))),h3.same (fun g hg=>hk g (h3.blk hg).1 (hB g (.inr (.inr (.inr hg))))),?_⟩;intro g hg hb';have hlt:g<w.heap.size:=by
  rcases hg with h|h|h|h
  ·exact (h0.blk h).1
  ·exact (h1.blk h).1
  ·exact (h2.blk h).1
  ·exact (h3.blk h).1
 exact hB g hg (hb g hlt hb')
def BookX(e size:Nat)(xf:Nat->Nat->Value)(te:Nat)(w:World)(base:Nat)(Bad:Nat->Prop)(V:Value)(nb:Nat):Prop:=
 ∃xs,w.ownsRow base te 5 V nb xs/\∀i,i<nb->∃v v1 v2 v3,xs[i*5]?=some v/\xs[i*5+1]?=some v1/\xs[i*5+2]?=some v2/\xs[i*5+3]?=some v3/\xs[i*5+4]?=some (Iq (i:Int))/\Ent e size xf w Bad i v v1 v2 v3
theorem BookX.kept{e size:Nat}{xf:Nat->Nat->Value}{te:Nat}{w w':World}{base:Nat}{Bad Bad':Nat->Prop}{V:Value}{nb:Nat}(h:BookX e size xf te w base Bad V nb)
  (hV:∀g,V.ownBlock=some g->w'.heap[g]?=w.heap[g]?) (hk:∀g,g<w.heap.size->¬Bad g->w'.heap[g]?=w.heap[g]?) (hb:∀g,g<w.heap.size->Bad' g->Bad g):BookX e size xf te w' base Bad' V nb:=by
 obtain ⟨xs,ho,he⟩:=h;refine ⟨xs,⟨ho.1,?_⟩,fun i hi=>?_⟩
 ·rcases ho.2 with h|⟨g,cap,cur,rfl,hbg,hgg,r⟩
  ·exact .inl h
  ·exact .inr ⟨g,cap,cur,rfl,hbg,(hV g rfl).trans hgg,r⟩
 ·obtain ⟨v,v1,v2,v3,q0,q1,q2,q3,q4,hE⟩:=he i hi;exact ⟨v,v1,v2,v3,q0,q1,q2,q3,q4,hE.kept hk hb⟩
structure Fix where
 W:Nat
 SB:Nat
 RB:Nat
 cs:Nat
 cr:Nat
 B:Nat->Nat
 R:Nat->Nat
 vm:Value
 vs:Value
def Fix.mem(f:Fix)(g:Nat):Prop:=g=f.W\/g=f.SB\/g=f.RB\/ ∃k,k<2/\(g=f.B k\/g=f.R k)
structure Fix.Apart (f:Fix):Prop where
 ws:f.W≠f.SB
 wr:f.W≠f.RB
 sr:f.SB≠f.RB
 wb:∀k,k<2->f.W≠f.B k/\f.W≠f.R k
 sb:∀k,k<2->f.SB≠f.B k/\f.SB≠f.R k
 rb:∀k,k<2->f.RB≠f.B k/\f.RB≠f.R k
 br:∀k j,k<2->j<2->f.B k≠f.R j
 bb:∀k j,k<2->j<2->f.B k=f.B j->k=j
 rr:∀k j,k<2->j<2->f.R k=f.R j->k=j
def Bad(f:Fix)(X:Nat->Prop)(vb vp:Value)(g:Nat):Prop:=f.mem g\/vb.ownBlock=some g\/vp.ownBlock=some g\/X g
structure Inv (w0:World) (f:Fix) (X:Nat->Prop) (s t:Nat->Sc) (vb vp:Value) (nb np:Nat) (w:World):Prop where
 bel:Bq w0 w
 ap:f.Apart
 lo:∀g,f.mem g->w0.heap.size<=g
 blk:w.heap[f.W]?=some (.cells #[f.vm,f.vs,Sq f.SB 2 f.cs,Sq f.RB 2 f.cr,vb,vp] 82 (0,0))
 sb:∀k,k<2->w.cell? (Aq f.SB k)=some (.pointer (some ⟨f.B k,0,none⟩))
 rb:∀k,k<2->w.cell? (Aq f.RB k)=some (.pointer (some ⟨f.R k,0,none⟩))
 sc:∀k,k<2->ScAt w (f.B k) (s k)
 rs:∀k,k<2->RsAt w (f.R k) (t k)
 bk:BookX 5 1 xfB 139 w w0.heap.size (Bad f X vb vp) vb nb
 pk:BookX 152 3 xfP 142 w w0.heap.size (Bad f X vb vp) vp np
 vbm:∀g,vb.ownBlock=some g->¬f.mem g/\vp.ownBlock≠some g/\¬X g
 vpm:∀g,vp.ownBlock=some g->¬f.mem g/\¬X g
 xm:∀g,X g->¬f.mem g/\w0.heap.size<=g
section
variable {w0:World} {f:Fix} {X:Nat->Prop} {s t:Nat->Sc} {vb vp:Value} {nb np:Nat} {w:World}
theorem ScAt.sameBlock{w w':World}{B:Nat}{s:Sc}(h:ScAt w B s)(hb:w'.heap[B]?=w.heap[B]?):ScAt w' B s:=by
 have hc:∀o,w'.cell? (Aq B o)=w.cell? (Aq B o):=fun o=>World.cell?_of_block (a:=(Aq B o)) hb
 have hf:∀o,w'.frozen? (Aq B o)=w.frozen? (Aq B o):=fun o=>World.frozen?_of_block (a:=(Aq B o)) hb
 exact zmn
theorem RsAt.sameBlock{w w':World}{R:Nat}{s:Sc}(h:RsAt w R s)(hb:w'.heap[R]?=w.heap[R]?):RsAt w' R s:=by
 have hc:∀o,w'.cell? (Aq R o)=w.cell? (Aq R o):=fun o=>World.cell?_of_block (a:=(Aq R o)) hb
 have hf:∀o,w'.frozen? (Aq R o)=w.frozen? (Aq R o):=fun o=>World.frozen?_of_block (a:=(Aq R o)) hb
 exact ⟨h.st3,h.len,⟨by rw [hc];exact h.cells.c0,by rw [hc];exact h.cells.c1,by rw [hc];exact h.cells.c2,fun o=>by rw [hf];exact h.cells.free o⟩⟩
theorem BookX.vlt{e size:Nat}{xf:Nat->Nat->Value}{te:Nat}{w:World}{base:Nat}{Bad:Nat->Prop}{V:Value}{nb g:Nat}(h:BookX e size xf te w base Bad V nb)(hg:V.ownBlock=some g):base<=g/\g<w.heap.size:=by
 obtain ⟨xs,ho,_⟩:=h;exact ho.lt g hg
theorem Inv.wlt(h:Inv w0 f X s t vb vp nb np w):f.W<w.heap.size:=(Array.getElem?_eq_some_iff.1 h.blk).1
theorem Inv.kept{w':World}{X':Nat->Prop}(h:Inv w0 f X s t vb vp nb np w)(h1:w'.os=w.os)(h2:w'.tape=w.tape)(h3:w'.output=w.output)(h4:w.heap.size<=w'.heap.size)
  (hk:∀g,g<w.heap.size->¬X g->w'.heap[g]?=w.heap[g]?) (hx:∀g,X' g->X g\/w.heap.size<=g):Inv w0 f X' s t vb vp nb np w':=by
 have hmem:∀g,f.mem g->g<w.heap.size->w'.heap[g]?=w.heap[g]?:=fun g hg hl=>hk g hl (fun hX=>(h.xm g hX).1 hg)
 have hsb:f.SB<w.heap.size:=World.block_lt_of_cell? w (Aq f.SB 0) (h.sb 0 zza);have hrb:f.RB<w.heap.size:=World.block_lt_of_cell? w (Aq f.RB 0) (h.rb 0 zza);have hbad:∀g,g<w.heap.size->Bad f X' vb vp g->Bad f X vb vp g:=by
  rintro g hl (h|h|h|h)
  ·exact .inl h
  ·exact .inr (.inl h)
  ·exact .inr (.inr (.inl h))
  ·rcases hx g h with h'|h'
   ·exact .inr (.inr (.inr h'))
   ·omega
 have hkb:∀g,g<w.heap.size->¬Bad f X vb vp g->w'.heap[g]?=w.heap[g]?:=fun g hl hB=>hk g hl (fun hX=>hB (.inr (.inr (.inr hX))))
 have hmlt:∀g,f.mem g->g<w.heap.size:=by
  rintro g (rfl|rfl|rfl|⟨k,hk2,rfl|rfl⟩)
  ·exact h.wlt
  ·exact hsb
  ·exact hrb
  ·exact (h.sc k hk2).lt
  ·exact (h.rs k hk2).cells.lt
 refine ⟨?_,h.ap,h.lo,(hmem f.W (.inl rfl) h.wlt).trans h.blk,?_,?_,?_,?_,?_,?_,?_,?_,?_⟩
 ·refine ⟨h1.trans h.bel.os,h2.trans h.bel.tape,h3.trans h.bel.output,Nat.le_trans h.bel.size h4,fun k hk'=>(hk k (Nat.lt_of_lt_of_le hk' h.bel.size) (fun hX=>by have:=(h.xm k hX).2;omega)).trans (h.bel.block k hk')⟩
 ·intro k hk2;rw [World.cell?_of_block (a:=(Aq f.SB k)) (hmem f.SB (.inr (.inl rfl)) hsb)];exact h.sb k hk2
 ·intro k hk2;rw [World.cell?_of_block (a:=(Aq f.RB k)) (hmem f.RB (.inr (.inr (.inl rfl))) hrb)];exact h.rb k hk2
 ·intro k hk2;exact (h.sc k hk2).sameBlock (hmem _ (.inr (.inr (.inr ⟨k,hk2,.inl rfl⟩))) (h.sc k hk2).lt)
 ·intro k hk2;exact (h.rs k hk2).sameBlock (hmem _ (.inr (.inr (.inr ⟨k,hk2,.inr rfl⟩))) (h.rs k hk2).cells.lt)
 ·exact h.bk.kept (fun g hg=>hk g (h.bk.vlt hg).2 (h.vbm g hg).2.2) hkb hbad
 ·exact h.pk.kept (fun g hg=>hk g (h.pk.vlt hg).2 (h.vpm g hg).2) hkb hbad
 ·intro g hg;refine ⟨(h.vbm g hg).1,(h.vbm g hg).2.1,fun hX=>?_⟩;rcases hx g hX with h'|h'
  ·exact (h.vbm g hg).2.2 h'
  ·have:=(h.bk.vlt hg).2;omega
 ·intro g hg;refine ⟨(h.vpm g hg).1,fun hX=>?_⟩;rcases hx g hX with h'|h'
  ·exact (h.vpm g hg).2 h'
  ·have:=(h.pk.vlt hg).2;omega
 ·intro g hX;rcases hx g hX with h'|h'
  ·exact h.xm g h'
  ·exact ⟨fun hm=>by have:=hmlt g hm;omega,by have:=h.bel.size;omega⟩
theorem Inv.below{w':World}(h:Inv w0 f X s t vb vp nb np w)(hb:Bq w w'):Inv w0 f X s t vb vp nb np w':=
 h.kept hb.os hb.tape hb.output hb.size (fun g hl _=>hb.block g hl) (fun _ hX=>.inl hX)
theorem Inv.fresh{w':World}(h:Inv w0 f X s t vb vp nb np w)(hb:Bq w w'):Inv w0 f (fun g=>X g\/w.heap.size<=g) s t vb vp nb np w':=
 h.kept hb.os hb.tape hb.output hb.size (fun g hl _=>hb.block g hl) (fun _ hX=>hX)
theorem Inv.inX{w':World}{g:Nat}(h:Inv w0 f X s t vb vp nb np w)(hg:w.grownBy w' (some g))(hX:X g):Inv w0 f X s t vb vp nb np w':=
 h.kept hg.os hg.tape hg.output hg.size (fun k hl hnX=>hg.block k hl (fun e=>by injection e with e;subst e;exact hnX hX)) (fun _ hX=>.inl hX)
theorem Inv.lessX{X':Nat->Prop}(h:Inv w0 f X s t vb vp nb np w)(hx:∀g,X' g->X g):Inv w0 f X' s t vb vp nb np w:=
 h.kept rfl rfl rfl (Nat.le_refl _) (fun _ _ _=>rfl) (fun g hX=>.inl (hx g hX))
end
section
variable {w0:World} {f:Fix} {X:Nat->Prop} {s t:Nat->Sc} {vb vp:Value} {nb np:Nat} {w w3:World}
theorem YE{xs:List Value}{n:Nat}{v v1 v2 v3:Value}(hl:xs.length=n*5)(i:Nat)(hi:i<n)(k:Nat)(hk:k<5):(xs++ [v,v1,v2,v3,Iq (n:Int)])[i*5+k]?=xs[i*5+k]?:=
 List.getElem?_append_left zza
theorem ziQ{xs:List Value}{n:Nat}{v v1 v2 v3:Value}(hl:xs.length=n*5):(xs++ [v,v1,v2,v3,Iq (n:Int)])[n*5]?=some v/\(xs++ [v,v1,v2,v3,Iq (n:Int)])[n*5+1]?=some v1/\(xs++ [v,v1,v2,v3,Iq (n:Int)])[n*5+2]?=some v2/\(xs++ [v,v1,v2,v3,Iq (n:Int)])[n*5+3]?=some v3/\(xs++ [v,v1,v2,v3,Iq (n:Int)])[n*5+4]?=some (Iq (n:Int)):=by
 refine ⟨?_,?_,?_,?_,?_⟩
 ·rw [List.getElem?_append_right zza,hl,Nat.sub_self];rfl
 ·rw [List.getElem?_append_right zza,hl,show n*5+1-n*5=1 from by omega];rfl
 ·rw [List.getElem?_append_right zza,hl,show n*5+2-n*5=2 from by omega];rfl
 ·rw [List.getElem?_append_right zza,hl,show n*5+3-n*5=3 from by omega];rfl
 ·rw [List.getElem?_append_right zza,hl,show n*5+4-n*5=4 from by omega];rfl
theorem zcZ{e size:Nat}{xf:Nat->Nat->Value}{te base:Nat}{B B':Nat->Prop}{V V':Value}{n:Nat}{w':World}{xs:List Value}{v v1 v2 v3:Value}
  (ho:w.ownsRow base te 5 V n xs) (he:∀i,i<n->∃v v1 v2 v3,xs[i*5]?=some v/\xs[i*5+1]?=some v1/\xs[i*5+2]?=some v2/\xs[i*5+3]?=some v3/\xs[i*5+4]?=some (Iq (i:Int))/\Ent e size xf w B i v v1 v2 v3)
  (hn:w'.ownsRow base te 5 V' (n+1) (xs++ [v,v1,v2,v3,Iq (n:Int)])) (hE:Ent e size xf w B n v v1 v2 v3)
  (hk:∀g,g<w.heap.size->¬B g->w'.heap[g]?=w.heap[g]?) (hb:∀g,g<w.heap.size->B' g->B g):BookX e size xf te w' base B' V' (n+1):=by
 have hl:xs.length=n*5:=ho.1;refine ⟨_,hn,fun i hi=>?_⟩;by_cases hin:i<n
 ·obtain ⟨a,a1,a2,a3,q0,q1,q2,q3,q4,hA⟩:=he i hin;have p0:=YE (v:=v) (v1:=v1) (v2:=v2) (v3:=v3) hl i hin 0 zza;exact ⟨a,a1,a2,a3,p0.trans q0,(YE hl i hin 1 zza).trans q1,(YE hl i hin 2 zza).trans q2,(YE hl i hin 3 zza).trans q3,(YE hl i hin 4 zza).trans q4,hA.kept hk hb⟩
 ·have:i=n:=by omega
  subst this;obtain ⟨q0,q1,q2,q3,q4⟩:=ziQ (v:=v) (v1:=v1) (v2:=v2) (v3:=v3) hl;exact ⟨v,v1,v2,v3,q0,q1,q2,q3,q4,hE.kept hk hb⟩
theorem XW{w:World}{W k:Nat}{cs:Array Value}{T:TypeId}(h:w.heap[W]?=some (.cells cs T (0,0)))(v:Value):(w.setCell (Aq W k) v).heap[W]?=some (.cells (cs.setIfInBounds k v) T (0,0)):=by
 simp only [World.setCell,Array.getElem?_modify,h];simp
theorem Inv.mlt(h:Inv w0 f X s t vb vp nb np w):∀g,f.mem g->g<w.heap.size:=by
 rintro g (rfl|rfl|rfl|⟨k,hk2,rfl|rfl⟩)
 ·exact h.wlt
 ·exact World.block_lt_of_cell? w (Aq f.SB 0) (h.sb 0 zza)
 ·exact World.block_lt_of_cell? w (Aq f.RB 0) (h.rb 0 zza)
 ·exact (h.sc k hk2).lt
 ·exact (h.rs k hk2).cells.lt
theorem zof{p:Prop} (q:p:=by
 refine zcZ ho he ⟨hn.1,?_⟩ hE hkb hbad;rcases hn.2 with q|⟨g2,c2,cur,q,hbg,hgg,r⟩
 ·exact .inl q
 ·refine .inr ⟨g2,c2,cur,q,hbg,?_,r⟩;have eg:g'=g2:=by injection q with q1;injection q1 with q1;injection q1 with q1
  rw [Below.heap_setCell _ _ _ _ (by simp only;omega)];exact hgg):p:=q
theorem znB{p:Prop} (q:p:=by
 intro k hk2;rw [World.cell?_of_block (a:=(Aq f.RB k)) (hmem f.RB (.inr (.inr (.inl rfl))) (fun e=>h.ap.wr e.symm))];exact h.rb k hk2):p:=q
theorem zn1{p:Prop} (q:p:=by
 intro k hk2;rw [World.cell?_of_block (a:=(Aq f.SB k)) (hmem f.SB (.inr (.inl rfl)) (fun e=>h.ap.ws e.symm))];exact h.sb k hk2):p:=q
theorem zoh{p:Prop} (q:p:=by
 intro k hk2;exact (h.sc k hk2).sameBlock (hmem _ (.inr (.inr (.inr ⟨k,hk2,.inl rfl⟩))) (fun e=>(h.ap.wb k hk2).1 e.symm))):p:=q
theorem zl7{p:Prop} (q:p:=by
 intro k hk2;exact (h.rs k hk2).sameBlock (hmem _ (.inr (.inr (.inr ⟨k,hk2,.inr rfl⟩))) (fun e=>(h.ap.wb k hk2).2 e.symm))):p:=q
theorem zp3{p:Prop} (q:p:=by
 have h1:=h.bel.size;exact (h.bel.grown hg h1 (fun k e=>(ho.lt k e).1)).setCell (h.lo _ hWm) _):p:=q
theorem Inv.pushB{xs:List Value}{v v1 v2 v3:Value}{g' cap':Nat}(h:Inv w0 f X s t vb vp nb np w)(hXlt:∀g,X g->g<w.heap.size)
  (ho:w.ownsRow w0.heap.size 139 5 vb nb xs) (he:∀i,i<nb->∃v v1 v2 v3,xs[i*5]?=some v/\xs[i*5+1]?=some v1/\xs[i*5+2]?=some v2/\xs[i*5+3]?=some v3/\xs[i*5+4]?=some (Iq (i:Int))/\Ent 5 1 xfB w (Bad f X vb vp) i v v1 v2 v3)
  (hE:Ent 5 1 xfB w (Bad f X vb vp) nb v v1 v2 v3)
  (hn:w3.ownsRow w0.heap.size 139 5 (Sq g' (nb+1) cap') (nb+1) (xs++ [v,v1,v2,v3,Iq (nb:Int)])) (hg:w.grownBy w3 vb.ownBlock) (hat:vb.ownBlock=some g'\/g'=w.heap.size):
  Inv w0 f X s t (Sq g' (nb+1) cap') vp (nb+1) np (w3.setCell (Aq f.W 4) (Sq g' (nb+1) cap')):=by
 have hWm:f.mem f.W:=.inl rfl;have hvW:∀k,f.mem k->some k≠vb.ownBlock:=fun k hk e=>(h.vbm k e.symm).1 hk
 have hgW:g'≠f.W:=by
  rcases hat with e|e
  ·intro e2;subst e2;exact (h.vbm _ e).1 hWm
  ·have:=h.wlt;omega
 have hkeep:∀k,k<w.heap.size->k≠f.W->vb.ownBlock≠some k->(w3.setCell (Aq f.W 4) (Sq g' (nb+1) cap')).heap[k]?=w.heap[k]?:=fun k hl hW hv=>
  (Below.heap_setCell _ _ _ _ hW).trans (hg.block k hl (fun e=>hv e.symm))
 have hmem:∀k,f.mem k->k≠f.W->(w3.setCell (Aq f.W 4) (Sq g' (nb+1) cap')).heap[k]?=w.heap[k]?:=fun k hk hW=>hkeep k (h.mlt k hk) hW (fun e=>hvW k hk e.symm)
 have hkb:∀k,k<w.heap.size->¬Bad f X vb vp k->(w3.setCell (Aq f.W 4) (Sq g' (nb+1) cap')).heap[k]?=w.heap[k]?:=fun k hl hB=>hkeep k hl (fun e=>hB (.inl (by rw [e];exact hWm))) (fun e=>hB (.inr (.inl e)))
 have hbad:∀k,k<w.heap.size->Bad f X (Sq g' (nb+1) cap') vp k->Bad f X vb vp k:=by
  rintro k hl (q|q|q|q)
  ·exact .inl q
  ·simp [Value.ownBlock] at q;rcases hat with e|e
   ·subst q;exact .inr (.inl e)
   ·omega
  ·exact .inr (.inr (.inl q))
  ·exact .inr (.inr (.inr q))
 have hgX:¬X g':=by
  rcases hat with e|e
  ·exact (h.vbm _ e).2.2
  ·intro hX;have:=hXlt g' hX;omega
 have hgp:vp.ownBlock≠some g':=by
  rcases hat with e|e
  ·exact (h.vbm _ e).2.1
  ·intro e2;have:=(h.pk.vlt e2).2;omega
 have hgm:¬f.mem g':=by
  rcases hat with e|e
  ·exact (h.vbm _ e).1
  ·intro hm;have:=h.mlt g' hm;omega
 have hsz:=hg.size;refine ⟨?_,h.ap,h.lo,?_,?_,?_,?_,?_,?_,?_,?_,?_,?_⟩
 ·exact zp3
 ·have:=(hg.block f.W h.wlt (hvW _ hWm)).trans h.blk;exact XW this _
 ·exact zn1
 ·exact znB
 ·exact zoh
 ·exact zl7
 ·exact zof
 ·exact h.pk.kept (fun k hk=>hkeep k (h.pk.vlt hk).2 (fun e=>by subst e;exact (h.vpm _ hk).1 hWm) (fun e=>(h.vbm k e).2.1 hk)) hkb hbad
 ·intro k hk;simp [Value.ownBlock] at hk;subst hk;exact ⟨hgm,hgp,hgX⟩
 ·intro k hk;exact ⟨(h.vpm k hk).1,(h.vpm k hk).2⟩
 ·intro k hk;exact h.xm k hk
theorem Inv.pushP{xs:List Value}{v v1 v2 v3:Value}{g' cap':Nat}(h:Inv w0 f X s t vb vp nb np w)(hXlt:∀g,X g->g<w.heap.size)
  (ho:w.ownsRow w0.heap.size 142 5 vp np xs) (he:∀i,i<np->∃v v1 v2 v3,xs[i*5]?=some v/\xs[i*5+1]?=some v1/\xs[i*5+2]?=some v2/\xs[i*5+3]?=some v3/\xs[i*5+4]?=some (Iq (i:Int))/\Ent 152 3 xfP w (Bad f X vb vp) i v v1 v2 v3)
  (hE:Ent 152 3 xfP w (Bad f X vb vp) np v v1 v2 v3)
  (hn:w3.ownsRow w0.heap.size 142 5 (Sq g' (np+1) cap') (np+1) (xs++ [v,v1,v2,v3,Iq (np:Int)])) (hg:w.grownBy w3 vp.ownBlock) (hat:vp.ownBlock=some g'\/g'=w.heap.size):
  Inv w0 f X s t vb (Sq g' (np+1) cap') nb (np+1) (w3.setCell (Aq f.W 5) (Sq g' (np+1) cap')):=by
 have hWm:f.mem f.W:=.inl rfl;have hvW:∀k,f.mem k->some k≠vp.ownBlock:=fun k hk e=>(h.vpm k e.symm).1 hk
 have hgW:g'≠f.W:=by
  rcases hat with e|e
  ·intro e2;subst e2;exact (h.vpm _ e).1 hWm
  ·have:=h.wlt;omega
 have hkeep:∀k,k<w.heap.size->k≠f.W->vp.ownBlock≠some k->(w3.setCell (Aq f.W 5) (Sq g' (np+1) cap')).heap[k]?=w.heap[k]?:=fun k hl hW hv=>
  (Below.heap_setCell _ _ _ _ hW).trans (hg.block k hl (fun e=>hv e.symm))
 have hmem:∀k,f.mem k->k≠f.W->(w3.setCell (Aq f.W 5) (Sq g' (np+1) cap')).heap[k]?=w.heap[k]?:=fun k hk hW=>hkeep k (h.mlt k hk) hW (fun e=>hvW k hk e.symm)
 have hkb:∀k,k<w.heap.size->¬Bad f X vb vp k->(w3.setCell (Aq f.W 5) (Sq g' (np+1) cap')).heap[k]?=w.heap[k]?:=fun k hl hB=>hkeep k hl (fun e=>hB (.inl (by rw [e];exact hWm))) (fun e=>hB (.inr (.inr (.inl e))))
 have hbad:∀k,k<w.heap.size->Bad f X vb (Sq g' (np+1) cap') k->Bad f X vb vp k:=by
  rintro k hl (q|q|q|q)
  ·exact .inl q
  ·exact .inr (.inl q)
  ·simp [Value.ownBlock] at q;rcases hat with e|e
   ·subst q;exact .inr (.inr (.inl e))
   ·omega
  ·exact .inr (.inr (.inr q))
 have hgX:¬X g':=by
  rcases hat with e|e
  ·exact (h.vpm _ e).2
  ·intro hX;have:=hXlt g' hX;omega
 have hgb:vb.ownBlock≠some g':=by
  rcases hat with e|e
  ·intro e2;exact (h.vbm _ e2).2.1 e
  ·intro e2;have:=(h.bk.vlt e2).2;omega
 have hgm:¬f.mem g':=by
  rcases hat with e|e
  ·exact (h.vpm _ e).1
  ·intro hm;have:=h.mlt g' hm;omega
 have hsz:=hg.size;refine ⟨?_,h.ap,h.lo,?_,?_,?_,?_,?_,?_,?_,?_,?_,?_⟩
 ·exact zp3
 ·have:=(hg.block f.W h.wlt (hvW _ hWm)).trans h.blk;exact XW this _
 ·exact zn1
 ·exact znB
 ·exact zoh
 ·exact zl7
 ·exact h.bk.kept (fun k hk=>hkeep k (h.bk.vlt hk).2 (fun e=>by subst e;exact (h.vbm _ hk).1 hWm) (fun e=>(h.vbm k hk).2.1 e)) hkb hbad
 ·exact zof
 ·intro k hk;refine ⟨(h.vbm k hk).1,?_,(h.vbm k hk).2.2⟩;intro e;simp [Value.ownBlock] at e;subst e;exact hgb hk
 ·intro k hk;simp [Value.ownBlock] at hk;subst hk;exact ⟨hgm,hgX⟩
 ·intro k hk;exact h.xm k hk
end
structure DF where
 Q:Nat
 Z:Nat
 R:Nat
 M:Nat
 vh:Value
 vp:Value
 vb:Value
 vw:Value
 vr:Value
 vl:Value
 ps:List Value
def DF.cells(f:DF)(S:SB):Array Value:=
 #[Pq f.R,Pq f.Z,Tq S.nmi,Tq S.irq,f.vp,f.vb,f.vw,Tq S.re,f.vr,Iq (S.due.toNat:Int),Tq S.bg,f.vl]
def XA:List Pat->List Value->List Value
 |p::l,v::r=>Iq p.at_::v::XA l r
 |_,_=>[]
structure PtA (w:World) (base:Nat) (vp:Value) (ps:List Value) (l:List Pat):Prop where
 len:ps.length=l.length
 own:w.ownsRow base 272 2 vp l.length (XA l ps)
 each:∀i,(h:i<l.length)->∃v,ps[i]?=some v/\w.ownsRow base 3 1 v l[i].bytes.length (xY l[i].bytes)
def LB(w:World)(base:Nat)(v:Value)(l:List UInt8):Prop:= ∃g c,v=Sq g l.length c/\l.length<=c/\base<=g/\g<w.heap.size/\zy w g 0 l
def qq(r:Rcs):List Value:=r.list.map fun b=>Zq ⟨(xE b).toArray⟩
structure DC (w:World) (base:Nat) (tag:Nat->Nat) (f:DF) (S:SB):Prop where
 mch:Mch w base f.R f.M f.vh S.pc
 sc:RsAt w f.Z S.sc
 pat:PtA w base f.vp f.ps S.pa
 bk:∃l,w.ownsRow base 3 1 f.vb l.length (xY l)/\PtL l S.bp
 wt:∃l,w.ownsRow base 3 1 f.vw l.length (xY l)/\PtL l S.wp
 rg:w.ownsRow base 9 1 f.vr S.rc.n (qq S.rc)
 ls:(S.bg=false/\f.vl=Nq)\/LB w base f.vl (zH (S.due-1) S.rp)
 lo:base<=f.Q/\base<=f.Z/\base<=f.R/\base<=f.M
 tQ:tag f.Q=1
 tZ:tag f.Z=2
 tR:tag f.R=3
 tM:tag f.M=4
 th:∀g,f.vh.ownBlock=some g->tag g=5
 tp:∀g,f.vp.ownBlock=some g->tag g=6
 tb:∀g,f.vb.ownBlock=some g->tag g=7
 tw:∀g,f.vw.ownBlock=some g->tag g=8
 tr:∀g,f.vr.ownBlock=some g->tag g=9
 tl:∀g,f.vl.ownBlock=some g->tag g=10
 ts:∀ (i:Nat) v,f.ps[i]?=some v->∀g,v.ownBlock=some g->tag g=11
structure DS (w:World) (base:Nat) (tag:Nat->Nat) (f:DF) (S:SB):Prop where
 blk:Blk w f.Q (f.cells S) 198
 c:DC w base tag f S
theorem DS.mch{w:World}{base:Nat}{tag:Nat->Nat}{f:DF}{S:SB}(h:DS w base tag f S):Mch w base f.R f.M f.vh S.pc:=h.c.mch
structure Chg (tag tag':Nat->Nat) (w w':World):Prop where
 os:w'.os=w.os
 tape:w'.tape=w.tape
 output:w'.output=w.output
 size:w.heap.size<=w'.heap.size
 block:∀g,g<w.heap.size->tag g=0->w'.heap[g]?=w.heap[g]?
 tags:∀g,g<w.heap.size->tag g=0->tag' g=0
theorem Chg.refl(tag:Nat->Nat)(w:World):Chg tag tag w w:=⟨rfl,rfl,rfl,Nat.le_refl _,fun _ _ _=>rfl,fun _ _ h=>h⟩
theorem Chg.trans{t1 t2 t3:Nat->Nat}{a b c:World}(h:Chg t1 t2 a b)(k:Chg t2 t3 b c):Chg t1 t3 a c:=
 ⟨k.os.trans h.os,k.tape.trans h.tape,k.output.trans h.output,Nat.le_trans h.size k.size,fun g h1 h2=>(k.block g (Nat.lt_of_lt_of_le h1 h.size) (h.tags g h1 h2)).trans (h.block g h1 h2),fun g h1 h2=>k.tags g (Nat.lt_of_lt_of_le h1 h.size) (h.tags g h1 h2)⟩
theorem Chg.below(tag:Nat->Nat){a b:World}(h:Bq a b):Chg tag tag a b:=⟨h.os,h.tape,h.output,h.size,fun g h1 _=>h.block g h1,fun _ _ h=>h⟩
def Dn(tag:Nat->Nat)(w:World)(base Q:Nat)(S:SB)(w':World):Prop:= ∃tag' f',f'.Q=Q/\DS w' base tag' f' S/\Chg tag tag' w w'
section
variable {w w':World} {base:Nat} {tag tag':Nat->Nat} {f:DF} {S:SB}
theorem LB.same{v:Value}{l:List UInt8}(h:LB w base v l)(hs:w.heap.size<=w'.heap.size)(e:∀g,v.ownBlock=some g->w'.heap[g]?=w.heap[g]?):LB w' base v l:=by
 obtain ⟨g,c,rfl,h1,h2,h3,h4⟩:=h;exact ⟨g,c,rfl,h1,h2,by omega,fun i hi=>(World.cell?_of_block (a:=⟨g,0+i,none⟩) (show w'.heap[g]?=_ from e g rfl)).trans (h4 i hi)⟩
theorem LB.blk{v:Value}{l:List UInt8}(h:LB w base v l):∀g,v.ownBlock=some g->g<w.heap.size:=by
 obtain ⟨g,c,rfl,_,_,h3,_⟩:=h;intro g' e;injection e with e;exact e ▸ h3
theorem PtA.same{vp:Value}{ps:List Value}{l:List Pat}(h:PtA w base vp ps l)(e:∀g,vp.ownBlock=some g->w'.heap[g]?=w.heap[g]?)(e2:∀ (i:Nat) v,ps[i]?=some v->∀g,v.ownBlock=some g->w'.heap[g]?=w.heap[g]?):PtA w' base vp ps l:=
 ⟨h.len,zG h.own e,fun i hi=>by obtain ⟨v,h1,h2⟩:=h.each i hi;exact ⟨v,h1,zG h2 (e2 i v h1)⟩⟩
theorem PtA.blk{vp:Value}{ps:List Value}{l:List Pat}(h:PtA w base vp ps l){i:Nat}{v:Value}(hv:ps[i]?=some v):∀g,v.ownBlock=some g->g<w.heap.size:=fun g e=>by
 have hi:i<l.length:=by
  rw [<-h.len];rcases Nat.lt_or_ge i ps.length with q|q
  ·exact q
  ·rw [List.getElem?_eq_none q] at hv;cases hv
 obtain ⟨u,h1,h2⟩:=h.each i hi;rw [hv] at h1;injection h1 with h1;subst h1;exact (h2.lt g e).2
theorem DC.kept(h:DC w base tag f S)(hQ:f.Q<w.heap.size)(hs:w.heap.size<=w'.heap.size)(hk:∀g,g<w.heap.size->tag g≠0->tag g≠1->w'.heap[g]?=w.heap[g]?)(ht:∀g,g<w.heap.size->tag' g=tag g):DC w' base tag' f S:=by
 obtain ⟨m1,m2,m3,m4⟩:=h.mch.lt;have k:∀g n,g<w.heap.size->tag g=n+2->w'.heap[g]?=w.heap[g]?:=fun g n h1 h2=>hk g h1 zza zza
 have own:∀ {te size n:Nat} {v:Value} {xs:List Value} {m:Nat},w.ownsRow base te size v n xs->(∀g,v.ownBlock=some g->tag g=m+2)->∀g,v.ownBlock=some g->w'.heap[g]?=w.heap[g]?:=fun ho hm g e=>k g _ (ho.lt g e).2 (hm g e)
 have hZ:=h.sc.cells.lt;obtain ⟨lb,b1,b2⟩:=h.bk;obtain ⟨lw,w1,w2⟩:=h.wt
 refine ⟨h.mch.same (k _ _ m1 h.tR) (k _ _ m2 h.tM) (fun g e=>k g _ (m4 g e).1 (h.th g e)),h.sc.sameBlock (k _ _ hZ h.tZ),h.pat.same (own h.pat.own h.tp) (fun i v hv g e=>k g _ (h.pat.blk hv g e) (h.ts i v hv g e)),⟨lb,zG b1 (own b1 h.tb),b2⟩,⟨lw,zG w1 (own w1 h.tw),w2⟩,zG h.rg (own h.rg h.tr),?_,h.lo,
  (ht _ hQ).trans h.tQ,(ht _ hZ).trans h.tZ,(ht _ m1).trans h.tR,(ht _ m2).trans h.tM,fun g e=>(ht g (m4 g e).1).trans (h.th g e),fun g e=>(ht g (h.pat.own.lt g e).2).trans (h.tp g e),fun g e=>(ht g (b1.lt g e).2).trans (h.tb g e),fun g e=>(ht g (w1.lt g e).2).trans (h.tw g e),fun g e=>(ht g (h.rg.lt g e).2).trans (h.tr g e),fun g e=>?_,fun i v hv g e=>(ht g (h.pat.blk hv g e)).trans (h.ts i v hv g e)⟩
 ·rcases h.ls with q|q
  ·exact .inl q
  ·exact .inr (q.same hs (fun g e=>k g _ (q.blk g e) (h.tl g e)))
 ·rcases h.ls with q|q
  ·rw [q.2] at e;cases e
  ·exact (ht g (q.blk g e)).trans (h.tl g e)
theorem DS.kept(h:DS w base tag f S)(hs:w.heap.size<=w'.heap.size)(hk:∀g,g<w.heap.size->tag g≠0->w'.heap[g]?=w.heap[g]?)(ht:∀g,g<w.heap.size->tag' g=tag g):DS w' base tag' f S:=
 ⟨h.blk.same (hk _ h.blk.lt (by rw [h.c.tQ];decide)),h.c.kept h.blk.lt hs (fun g h1 h2 _=>hk g h1 h2) ht⟩
theorem DC.put{w1:World}{i:Nat}{v:Value}(h:DS w base tag f S)(hb:Bq w w1)(ht:∀g,g<w.heap.size->tag' g=tag g):DC (w1.setCell (Aq f.Q i) v) base tag' f S:=
 h.c.kept h.blk.lt (by simpa using hb.size) (fun g h1 _ h3=>(Below.heap_setCell _ _ _ _ (fun e=>h3 (by rw [e];exact h.c.tQ))).trans (hb.block g h1)) ht
theorem Chg.put{w1:World}{i:Nat}{v:Value}(h:DS w base tag f S)(hb:Bq w w1)(ht:∀g,g<w.heap.size->tag' g=tag g):Chg tag tag' w (w1.setCell (Aq f.Q i) v):=
 ⟨hb.os,hb.tape,hb.output,by simpa using hb.size,fun g h1 h2=>(Below.heap_setCell _ _ _ _ (fun e=>by rw [e,h.c.tQ] at h2;cases h2)).trans (hb.block g h1),fun g h1 h2=>(ht g h1).trans h2⟩
def GX(w:World)(tag:Nat->Nat)(k:Nat):Nat->Nat:=fun g=>if w.heap.size<=g then k else tag g
theorem zbC{w:World}{tag:Nat->Nat}{k:Nat}:∀g,g<w.heap.size->GX w tag k g=tag g:=fun g h=>if_neg zza
theorem zbD{w:World}{tag:Nat->Nat}{k g:Nat}(h:w.heap.size<=g):GX w tag k g=k:=if_pos h
theorem DS.below(h:DS w base tag f S)(hb:Bq w w'):DS w' base tag f S:=h.kept hb.size (fun g hg _=>hb.block g hg) (fun _ _=>rfl)
end
theorem zcJ:(prog.info? 139).map (fun i=>(i.zero,i.size,i.bytes))=some (some (.agg #[Nq,Nq,Nq,Nq,Iq 0]),5,104):=by kernel_rfl
theorem zoR:(prog.info? 142).map (fun i=>(i.zero,i.size,i.bytes))=some (some (.agg #[Nq,Nq,Nq,Nq,Iq 0]),5,104):=by kernel_rfl
theorem zcK:prog.underlying 77=some (.slice 139):=by kernel_rfl
theorem zoS:prog.underlying 78=some (.slice 142):=by kernel_rfl
section
variable {w0:World} {f:Fix} {X:Nat->Prop} {s t:Nat->Sc} {vb vp:Value} {nb np:Nat} {w w1:World}
theorem Out.blk{e size:Nat}{v:Value}{n g:Nat}(h:Out e size w X v n)(hg:v.ownBlock=some g):X g:=by
 rcases h with ⟨rfl,_⟩|⟨g',cap,rfl,_,_,hX⟩
 ·simp [Value.ownBlock] at hg
 ·simp [Value.ownBlock] at hg;subst hg;exact hX
theorem Inv.own{e size:Nat}{v:Value}{n:Nat}(h:Inv w0 f X s t vb vp nb np w)(hv:Out e size w X v n)(hg:w.grownBy w1 v.ownBlock):Inv w0 f (fun g=>X g/\v.ownBlock≠some g) s t vb vp nb np w1:=
 h.kept hg.os hg.tape hg.output hg.size (fun k hl hnX=>hg.block k hl (fun e=>hnX (hv.blk e.symm))) (fun _ hX=>.inl hX.1)
theorem zin{e size:Nat}{xf:Nat->Nat->Value}{i n:Nat}{v v1 v2 v3:Value}(h:Inv w0 f X s t vb vp nb np w)(hXlt:∀g,X g->g<w.heap.size)(hv:Out e size w X v n)(hn:n<=100000000)
  (h0:AllX e size (xf i) v.ownBlock w.heap.size w1 v n) (h1:AllX e size (xf i) v.ownBlock w.heap.size w1 v1 (n+1)) (h2:AllX e size (xf i) v.ownBlock w.heap.size w1 v2 (n+2)) (h3:AllX e size (xf i) v.ownBlock w.heap.size w1 v3 (n+64)):
  Ent e size xf w1 (Bad f (fun g=>X g/\v.ownBlock≠some g) vb vp) i v v1 v2 v3:=by
 refine ⟨n,hn,h0.free,h1.free,h2.free,h3.free,?_⟩;intro g hg;have hok:Ok v.ownBlock w.heap.size g:=by
  rcases hg with q|q|q|q
  ·exact (h0.blk q).2
  ·exact (h1.blk q).2
  ·exact (h2.blk q).2
  ·exact (h3.blk q).2
 rintro (q|q|q|q)
 ·rcases hok with e|e
  ·exact (h.xm g (hv.blk e.symm)).1 q
  ·have:=h.mlt g q;omega
 ·rcases hok with e|e
  ·exact (h.vbm g q).2.2 (hv.blk e.symm)
  ·have:=(h.bk.vlt q).2;omega
 ·rcases hok with e|e
  ·exact (h.vpm g q).2 (hv.blk e.symm)
  ·have:=(h.pk.vlt q).2;omega
 ·rcases hok with e|e
  ·exact q.2 e.symm
  ·have:=hXlt g q.1;omega
theorem Inv.cell(h:Inv w0 f X s t vb vp nb np w):w.cell? (Aq f.W 2)=some (Sq f.SB 2 f.cs)/\w.cell? (Aq f.W 3)=some (Sq f.RB 2 f.cr)/\w.cell? (Aq f.W 4)=some vb/\w.cell? (Aq f.W 5)=some vp/\∀o,w.frozen? (Aq f.W o)=false:=by
 have hc:∀o,w.cell? (Aq f.W o)=_:=fun o=>cell_of_row w f.W o _ _ (0,0) h.blk
 exact ⟨hc 2,hc 3,hc 4,hc 5,fun o=>by simp [World.frozen?,h.blk]⟩
theorem V7{te base n:Nat}{v:Value}{xs:List Value}(h:w.ownsRow base te 5 v n xs):(n=0/\v=Nq)\/ ∃g c,v=Sq g n c:=by
 exact zpQ
theorem Z0{te base n:Nat}{v:Value}{xs:List Value}(h:w.ownsRow base te 5 v n xs):∃a c,v=.slice a n c:=by
 rcases V7 h with ⟨rfl,rfl⟩|⟨g,c,rfl⟩
 ·exact ⟨_,_,rfl⟩
 ·exact ⟨_,_,rfl⟩
theorem zfl(w:World)(n:Nat)(hn:n=w.heap.size)(a b c d m:Value)(T:TypeId):∀j u,([a,b,c,d,m]:List Value)[j]?=some u->((w.alloc (.cells #[a,b,c,d,m] T)).drew).cell? (((Aq n 0):Addr).add j)=some u:=by
 subst hn;exact World.news_of_block (w:=(w.alloc (.cells #[a,b,c,d,m] T)).drew) (cs:=#[a,b,c,d,m]) (t:=T) (fr:=(0,0)) (heap_alloc_new w _)
end
theorem zfm(a1 a2 a3 a4:Option Addr)(k1 k2 k3 k4 c1 c2 c3 c4:Nat)(m:Int):∀u∈ ([.slice a1 k1 c1,.slice a2 k2 c2,.slice a3 k3 c3,.slice a4 k4 c4,Iq m]:List Value),u.oneCell'=true:=by
 intro u hu;simp at hu;rcases hu with rfl|rfl|rfl|rfl|rfl<;>rfl
theorem zfn{e size:Nat}{xf:Nat->Nat->Value}{w0:World}{f:Fix}{X X':Nat->Prop}{s t:Nat->Sc}{vb vp:Value}{nb np i:Nat}{w w1:World}{v v1 v2 v3:Value}(h:Inv w0 f X s t vb vp nb np w1)(hE:Ent e size xf w1 (Bad f X vb vp) i v v1 v2 v3)(hX:∀g,X g->g<w1.heap.size)
  (hk:∀g,X' g->v.ownBlock≠some g->w1.heap[g]?=w.heap[g]?) (o p:Obj) (hXX:∀g,X' g->v.ownBlock≠some g->X g:=by intro g a b;exact ⟨a,b⟩):
  Inv w0 f X s t vb vp nb np ((w1.alloc o).alloc p).drew/\Ent e size xf ((w1.alloc o).alloc p).drew (Bad f X vb vp) i v v1 v2 v3/\(∀g,X g->g<((w1.alloc o).alloc p).drew.heap.size)/\(∀g,X' g->v.ownBlock≠some g->((w1.alloc o).alloc p).drew.heap[g]?=w.heap[g]?/\g<((w1.alloc o).alloc p).drew.heap.size):=by
 have hb:Bq w1 ((w1.alloc o).alloc p).drew:=(xI w1 o p).drew;refine ⟨h.below hb,hE.kept (fun g hl _=>hb.block g hl) (fun _ _ q=>q),fun g hg=>Nat.lt_of_lt_of_le (hX g hg) hb.size,fun g a b=>?_⟩;have hl:=hX g (hXX g a b);exact ⟨(hb.block g hl).trans (hk g a b),Nat.lt_of_lt_of_le hl hb.size⟩
section
variable {w0:World} {f:Fix} {X:Nat->Prop} {s t:Nat->Sc} {vb vp:Value} {nb np:Nat} {w w1 w3:World}
theorem zio(h:Inv w0 f X s t vb vp nb np w)(hg:w.grownBy w3 vb.ownBlock):w3.cell? (Aq f.W 4)=some vb/\w3.frozen? (Aq f.W 4)=false:=by
 have hb:=hg.block f.W h.wlt (fun e=>(h.vbm _ e.symm).1 (.inl rfl));exact ⟨(World.cell?_of_block (a:=(Aq f.W 4)) hb).trans h.cell.2.2.1,(World.frozen?_of_block (a:=(Aq f.W 4)) hb).trans (h.cell.2.2.2.2 4)⟩
theorem zpB(h:Inv w0 f X s t vb vp nb np w)(hg:w.grownBy w3 vp.ownBlock):w3.cell? (Aq f.W 5)=some vp/\w3.frozen? (Aq f.W 5)=false:=by
 have hb:=hg.block f.W h.wlt (fun e=>(h.vpm _ e.symm).1 (.inl rfl));exact ⟨(World.cell?_of_block (a:=(Aq f.W 5)) hb).trans h.cell.2.2.2.1,(World.frozen?_of_block (a:=(Aq f.W 5)) hb).trans (h.cell.2.2.2.2 5)⟩
theorem zlm{X':Nat->Prop}{b:Value}{u:Value}{i:Nat}(h:Inv w0 f (fun g=>X' g/\b.ownBlock≠some g) s t vb vp nb np w)(hg:w.grownBy w3 vb.ownBlock)(hk:∀g,X' g->b.ownBlock≠some g->w.heap[g]?=w1.heap[g]?/\g<w.heap.size):∀g,X' g->b.ownBlock≠some g->(w3.setCell (Aq f.W i) u).heap[g]?=w1.heap[g]?:=by
 intro g a c;have hX:=h.xm g ⟨a,c⟩;rw [Below.heap_setCell _ _ _ _ (fun e=>hX.1 (by subst e;exact .inl rfl)),hg.block g (hk g a c).2 (fun e=>(h.vbm g e.symm).2.2 ⟨a,c⟩)];exact (hk g a c).1
theorem zpC{X':Nat->Prop}{b:Value}{u:Value}{i:Nat}(h:Inv w0 f (fun g=>X' g/\b.ownBlock≠some g) s t vb vp nb np w)(hg:w.grownBy w3 vp.ownBlock)(hk:∀g,X' g->b.ownBlock≠some g->w.heap[g]?=w1.heap[g]?/\g<w.heap.size):∀g,X' g->b.ownBlock≠some g->(w3.setCell (Aq f.W i) u).heap[g]?=w1.heap[g]?:=by
 intro g a c;have hX:=h.xm g ⟨a,c⟩;rw [Below.heap_setCell _ _ _ _ (fun e=>hX.1 (by subst e;exact .inl rfl)),hg.block g (hk g a c).2 (fun e=>(h.vpm g e.symm).2 ⟨a,c⟩)];exact (hk g a c).1
end
theorem ziq{e size:Nat}{w:World}{X:Nat->Prop}{v:Value}{n:Nat}(h:Out e size w X v n):(∃a k c,v=.slice a k c):=by
 rcases h with ⟨rfl,_⟩|⟨g,cap,rfl,_⟩
 ·exact ⟨_,_,_,rfl⟩
 ·exact ⟨_,_,_,rfl⟩
theorem QK(w0:World)(f:Fix)(X:Nat->Prop)(s t:Nat->Sc)(vb vp:Value)(nb np n:Nat)(v:Value)(w:World)(h:Inv w0 f X s t vb vp nb np w)(hXlt:∀g,X g->g<w.heap.size)(hv:Out 5 1 w X v n)(hn:n<=100000000)(hnb:nb<=10000000):Cq 69 #[.pointer (some (Aq f.W 4)),v] w (.tuple #[]) fun w'=>∃vb',Inv w0 f (fun g=>X g/\v.ownBlock≠some g) s t vb' vp (nb+1) np w'/\(∀g,X g->v.ownBlock≠some g->w'.heap[g]?=w.heap[g]?)/\w.heap.size<=w'.heap.size:=by
 obtain ⟨i0,hi,hz0,hz1,hz2⟩:=info_parts zcJ;obtain ⟨xs0,ho0,_⟩:=h.bk;obtain ⟨ao,cb,rfl⟩:=Z0 ho0;obtain ⟨va,vk,vc,hve⟩:=ziq hv;have HI:=qH3 h hXlt hv;have c4:=h.cell.2.2.1;clear h hXlt hv ho0;subst hve;go_enter func69,ntmps69;go_wp2_with fail;refine (UO nb n (.slice va vk vc) X _ zza hn HI.out.2.2).mono ?_;rintro e w1 ⟨v1,v2,v3,rfl,hg1,a0,a1,a2,a3⟩;have HZ:=qH1 hg1.size;obtain ⟨ga,ca,rfl⟩:=xL a1 zza;obtain ⟨gq,cq,rfl⟩:=xL a2 zza;obtain ⟨gc,cc,rfl⟩:=xL a3 zza;have HI1:=zol (And.intro (HI.out.1.own HI.out.2.2 hg1) (And.intro (zin (xf:=xfB) HI.out.1 HI.out.2.1 HI.out.2.2 hn a0 a1 a2 a3) (And.intro (show ∀g,X g->(Value.slice va vk vc).ownBlock≠some g->w1.heap[g]?=w.heap[g]? from fun g hX hne=>hg1.block g (HI.out.2.1 g hX) (fun e=>hne e.symm)) (show ∀g,(X g/\(Value.slice va vk vc).ownBlock≠some g)->g<w1.heap.size from fun g hX=>Nat.lt_of_lt_of_le (HI.out.2.1 g hX.1) hg1.size))));clear hg1 a0 a1 a2 a3 HI c4;have k4:=HI1.out.1.cell.2.2.1;have kf:=HI1.out.1.cell.2.2.2.2 4;have kW:=HI1.out.1.wlt;have hsz1:=HI1.out.1.bel.size;go_wp2_with fail;have HA:=zol (zfn HI1.out.1 HI1.out.2.1 HI1.out.2.2.2 HI1.out.2.2.1 (.cells #[.slice va vk vc,Sq ga (n+1) ca,Sq gq (n+2) cq,Sq gc (n+64) cc,Iq (nb:Int)] 139) (.cells #[.slice va vk vc,Sq ga (n+1) ca,Sq gq (n+2) cq,Sq gc (n+64) cc,Iq (nb:Int)] 139))
 obtain ⟨xs,ho,he⟩:=HA.out.1.bk;have HB:=zol (And.intro ho he);clear ho he HI1;go_region_law (first|(refine step_append_lies _ rfl (.tmp 16) (.tmp 18) 77 rfl w0.heap.size 139 i0 _ 5 104 zcK hi hz0 hz1 hz2 rfl zzb (.slice ao nb cb) nb xs rfl ?_ ⟨w1.heap.size+1,0,none⟩ 1 1 [.slice va vk vc,Sq ga (n+1) ca,Sq gq (n+2) cq,Sq gc (n+64) cc,Iq (nb:Int)] rfl rfl ?_ ?_ zzb ?_ ?_ ?_ _ rfl ?_;exact HB.out.1;exact zfl _ _ zzc _ _ _ _ _ _;exact zfm _ _ _ _ _ _ _ _ _ _ _ _ _;(unfold maxLen;omega);omega;(simp;omega);intro g' cap' w3 hown' hgrow hat hlt';obtain ⟨j4,jf⟩:=zio HA.out.1 hgrow;have HF:=zol (And.intro (HA.out.1.pushB HA.out.2.2.1 HB.out.1 HB.out.2 HA.out.2.1 hown' hgrow hat) (And.intro (zlm (i:=4) (u:=Sq g' (nb+1) cap') HA.out.1 hgrow HA.out.2.2.2) (show w.heap.size<=(w3.setCell (Aq f.W 4) (Sq g' (nb+1) cap')).heap.size from by have q1:=hgrow.size;have q2:=HZ.out;simp at q1⊢;omega)));clear hown' hgrow hat hlt'))
 all_goals
  go_wp2;go_end0;exact ⟨rfl,_,HF.out⟩
