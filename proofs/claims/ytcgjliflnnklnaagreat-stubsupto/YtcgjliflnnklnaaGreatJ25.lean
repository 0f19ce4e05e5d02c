import Derived.Lib.Strings
import Derived.Deep.QuietTactic
import Derived.BigQuiet
import Derived.Lib.SliceRun
import Derived.Deep.Upon
import Derived.Deep.AppendSrc
import Derived.Deep.RegionLaw
import Derived.Deep.Cut
import Derived.Test.YtcgjliflnnklnaaGreatJ24
import Derived.Test.YtcgjliflnnklnaaGreatJ19
import Derived.Test.YtcgjliflnnklnaaGreatQIz
import Derived.Test.YtcgjliflnnklnaaGreatJ18
import Derived.Test.YtcgjliflnnklnaaGreatJ23
namespace Go.Proofs.YtcgjliflnnklnaaGreat
open Go.RowKit Tryz
set_option maxRecDepth 100000
set_option maxHeartbeats 4000000
theorem zhF(t3:RS)(q:BusI)(h:t3.r.jam=true->t3.h=[]):(if t3.r.jam=true then (t3,q) else if (zo t3.op t3.md t3.r (t3.h++ [q.data])).2=true then ({t3 with h:=t3.h++ [q.data] },q) else ({t3 with h:=[],r:=zV t3.op t3.md t3.r (t3.h++ [q.data])},q)).1.r.jam=true->
  (if t3.r.jam=true then (t3,q) else if (zo t3.op t3.md t3.r (t3.h++ [q.data])).2=true then ({t3 with h:=t3.h++ [q.data] },q) else ({t3 with h:=[],r:=zV t3.op t3.md t3.r (t3.h++ [q.data])},q)).1.h=[]:=by
 by_cases h1:t3.r.jam=true
 ·rw [if_pos h1];exact fun _=>h h1
 ·rw [if_neg h1];by_cases h2:(zo t3.op t3.md t3.r (t3.h++ [q.data])).2=true
  ·rw [if_pos h2];exact fun z=>absurd z h1
  ·rw [if_neg h2];exact fun _=>rfl
theorem KS(t:RS)(nmi irq:Bool)(hj:t.r.jam=false):(t.cycle nmi irq).1.r.jam=true->(t.cycle nmi irq).1.h=[]:=by
 refine zhF _ _ ?_;rw [(qQ _ _).1,(qQ _ _).2.2.2.1];intro z;by_cases h0:t.h.length=0
 ·rw [if_pos h0,(qR _ _ _).1,(Xc _ _).2.2.2.1];exact List.length_eq_zero_iff.1 h0
 ·rw [if_neg h0,(Xc _ _).1] at z;rw [show ({t.r with cyc:=IntKind.wrap .i64 (t.r.cyc+1)}:RG).jam=t.r.jam from rfl,hj] at z;cases z
def Mch(w:World)(base R M:Nat)(vh:Value)(s:PC):Prop:= ∃t,MAt w R M (MV M vh t) t.mem/\HV w base R M vh t.h/\Alike s t/\(t.r.jam=true->t.h=[])
theorem Mch.same{w w':World}{base R M:Nat}{vh:Value}{s:PC}(h:Mch w base R M vh s)(e1:w'.heap[R]?=w.heap[R]?)(e2:w'.heap[M]?=w.heap[M]?)(e3:∀g,vh.ownBlock=some g->w'.heap[g]?=w.heap[g]?):Mch w' base R M vh s:=by
 obtain ⟨t,h1,h2,h3⟩:=h;exact ⟨t,h1.same e1 e2,⟨zG h2.o e3,h2.ne⟩,h3⟩
theorem Mch.lt{w:World}{base R M:Nat}{vh:Value}{s:PC}(h:Mch w base R M vh s):R<w.heap.size/\M<w.heap.size/\R≠M/\∀g,vh.ownBlock=some g->g<w.heap.size/\g≠R/\g≠M:=by
 obtain ⟨t,h1,h2,_⟩:=h;exact ⟨h1.lt,h1.ltM,h1.ne,fun g e=>⟨(h2.o.lt g e).2,(h2.ne g e).1,(h2.ne g e).2⟩⟩
theorem zkZ{w:World}{base R M:Nat}{vh:Value}{s:PC}(h:Mch w base R M vh s)(hbs:base<=w.heap.size)(rn:Rn s)(h5:s.st≠5)(nmi irq:Bool):Calls prog 63 #[.pointer (some ⟨R,0,none⟩),.bool nmi,.bool irq] w fun e w'=>e=.returned (.tuple #[(s.cycle nmi irq).2.val,.bool true])/\
   (∃vh',Mch w' base R M vh' (s.cycle nmi irq).1/\Tri R M vh.ownBlock w w'/\∀g,vh'.ownBlock=some g->vh.ownBlock=some g\/w.heap.size<g):=by
 obtain ⟨t,h0,hv,al,_⟩:=h;have hjm:=qj s t al;have hj:t.r.jam=false:=by rw [<-hjm];simpa using h5
 obtain ⟨q1,q2,q3,q4⟩:=GF al hj;have rg:=al.rg rn;have hmem:∀i,i<65536->0<=t.mem i/\t.mem i<256:=al.mem ▸ rn.bytes.1
 have hcnt:0<=t.cnt/\t.cnt<256:=al.cnt ▸ rn.bytes.2;obtain ⟨e1,e2⟩:=Zx s t nmi irq al rn hj;obtain ⟨d,ad⟩:=Xu nmi irq rg q4 hmem hcnt;refine (zkm h0 hv hbs hj (RgR.of rg) hcnt q1 q2 q3 (fun i _=>qO t.h q4 i) nmi irq d ad).mono ?_;rintro e w' ⟨rfl,vh',p1,p2,p3,p4⟩;exact ⟨by rw [e1],vh',⟨(t.cycle nmi irq).1,p1,p2,e2,KS t nmi irq hj⟩,p3,p4⟩
theorem zk0{w:World}{base R M:Nat}{vh:Value}{s:PC}(h:Mch w base R M vh s)(rn:Rn s)(h5:s.st≠5)(nmi irq:Bool):(0<=(s.cycle nmi irq).2.addr/\(s.cycle nmi irq).2.addr<65536)/\0<=(s.cycle nmi irq).2.data/\(s.cycle nmi irq).2.data<256:=by
 obtain ⟨t,h0,hv,al,_⟩:=h;have hj:t.r.jam=false:=by rw [<-qj s t al];simpa using h5
 obtain ⟨q1,q2,q3,q4⟩:=GF al hj;obtain ⟨e1,e2⟩:=Zx s t nmi irq al rn hj;obtain ⟨d,ad⟩:=Xu nmi irq (al.rg rn) q4 (al.mem ▸ rn.bytes.1) (al.cnt ▸ rn.bytes.2);rw [e1];exact ⟨ad,d⟩
theorem zcp{s:PC}{t:RS}(al:Alike s t)(hb:s.st=0\/s.st=5)(m:Nat->Int):Alike {s with mem:=m} {t with mem:=m}:=by
 refine ⟨rfl,al.rom,al.cnt,al.calls,al.on,al.due,al.cyc,?_⟩;cases al.way with
 |idle h1 h2 f=>exact .idle h1 h2 ⟨f.st,⟨f.b.a,f.b.x,f.b.y,f.b.sp,f.b.p,f.b.pc⟩,f.a,f.x,f.y,f.sp,f.p,f.pc⟩
 |midst i m hne _ _ _ _ _ _ _ _ hM=>have:=Jr hM;omega
 |jam h1 h5 b=>exact .jam h1 h5 ⟨b.a,b.x,b.y,b.sp,b.p,b.pc⟩
theorem zac{s:PC}{t:RS}(al:Alike s t)(hj:t.r.jam=true->t.h=[]):(s.st=0\/s.st=5) ↔ t.h=[]:=by
 cases al.way with
 |idle h1 h2 f=>exact ⟨fun _=>h1,fun _=>.inl f.st⟩
 |midst i m hne _ _ _ _ _ _ _ _ hM=>exact ⟨fun q=>by have:=Jr hM;omega,fun q=>absurd q hne⟩
 |jam h1 h5 _=>exact ⟨fun _=>hj h1,fun _=>.inr h5⟩
theorem Uw{w:World}{base R M:Nat}{vh:Value}{s:PC}(h:Mch w base R M vh s):Calls prog 200 #[.pointer (some ⟨R,0,none⟩)] w fun e w'=>e=.returned (.bool (s.st==0||s.st==5))/\w'=w:=by
 obtain ⟨t,h0,hv,al,hj⟩:=h;have hb:=zac al hj;have c16:w.cell? ⟨R,16,none⟩=some vh:=h0.c 16 zzb;rcases hv.shape with ⟨e,p,c,rfl⟩|⟨e,g,c,rfl⟩
 ·have HB:Hid ((s.st==0||s.st==5)=true):=by show _=_;simpa using hb.2 e
  rw [HB.out];clear h0 hv al hj hb;go_enter func200,ntmps200;go_wp2;go_ret;exact ⟨rfl,rfl⟩
 ·have HB:Hid ((s.st==0||s.st==5)=false):=by
   show _=_;rw [Bool.eq_false_iff];intro q;exact e (hb.1 (by simpa using q))
  have hn:((t.h.length:Int)==0)=false:=by
   rw [beq_eq_false_iff_ne];intro q;exact e (List.length_eq_zero_iff.1 zza)
  rw [HB.out];clear h0 hv al hj hb e;go_enter func200,ntmps200;go_wp2;go_ret;exact ⟨rfl,rfl⟩
section
def SB.ans(S:SB)(p:Pk):SB × List UInt8:=
 if p.bad=true then (S,[45])
 else if p.seq=S.due.toNat then
  ({(S.doI p.body).1 with rp:=(S.doI p.body).2,bg:=true,due:=(S.doI p.body).1.due+1},43::zH S.due (S.doI p.body).2)
 else if S.bg=true/\p.seq=(S.due-1).toNat then (S,43::zH (S.due-1) S.rp)
 else (S,[63])
def zni(B:Nat)(N:Int)(w0 w w':World)(S:SB)(L:List UInt8)(e:Ending):Prop:=
 ∃g cap s',e=.returned (.slice (some ⟨g,0,none⟩) L.length cap)/\zy w' g 0 L/\w.heap.size<=g/\g<w'.heap.size/\Tn B s' w0 w'/\SV S s'/\SI S (N+1000000)
theorem zal{w0 w w':World}{B:Nat}{s:PC}{r:Option Nat}(h:Tn B s w0 w)(g:w.grownBy w' r)(hr:∀k,r=some k->k≠B/\w0.heap.size<=k):Tn B s w0 w':=
 ⟨h.c.same (g.block B h.c.lt (fun e=>(hr B e.symm).1 rfl)),⟨g.os.trans h.g.os,g.tape.trans h.g.tape,g.output.trans h.g.output,Nat.le_trans h.g.size g.size,fun k hk hne=>(g.block k (Nat.lt_of_lt_of_le hk h.g.size) (fun e=>by have:=(hr k e.symm).2;omega)).trans (h.g.block k hk hne)⟩⟩
theorem ze1(w:World)(x:UInt8)(t:TypeId):zy (w.alloc (.cells #[.int .u8 (x.toNat:Int)] t)) w.heap.size 0 [x]:=by
 intro i hi;have e:i=0:=by simp at hi;exact hi
 subst e;exact World.cell?_alloc_at _ _ _ _ rfl
theorem zbl(w:World)(o:Obj)(k:Nat)(x:UInt8)(t:TypeId):zy (((w.alloc o).drewN k).alloc (.cells #[.int .u8 (x.toNat:Int)] t)) (w.heap.size+1) 0 [x]:=by
 have q:=ze1 ((w.alloc o).drewN k) x t;rw [x8,World.size_alloc] at q;exact q
theorem VY{B:Nat}{s:PC}{w0 w:World}{S:SB}{N:Int}(h:Tn B s w0 w)(hS:SV S s)(hI:SI S N)(hN0:0<=N)(hN:N<3000000000000000000)(p:Pk)(hl:p.body.length<=200)(hrp:S.rp.length<=80):Calls prog 58 #[.pointer (some ⟨B,0,none⟩),p.val] w fun e w'=>zni B N w0 w w' (S.ans p).1 (S.ans p).2 e:=by
 obtain ⟨i0,hi,hz0,hz1,hz2⟩:=info_parts xP;obtain ⟨sq,body,bad⟩:=p;have hlt:=h.c.lt;have hsz:=h.g.size;have n0:w.heap.size≠B:=by omega
 have m0:B≠w.heap.size:=by omega
 have cd:w.cell? ⟨B,65765,none⟩=some (.int .u8 (S.due.toNat:Int)):=h.rest zzb hS.cd;have cb:w.cell? ⟨B,65766,none⟩=some (.bool S.bg):=h.rest zzb hS.cb;have cr:w.cell? ⟨B,65767,none⟩=some (.string ⟨S.rp.toArray⟩):=h.rest zzb hS.cr;have fz:=h.c.free;have hd:=zd6 S.due;have hw:IntKind.i64.wrap (S.due.toNat:Int)=(S.due.toNat:Int):=jv _ hd.1 hd.2;have hl:body.length<=200:=hl;have HT:=hid h;have HS:=hid hS;have HI:=hid (hI.mono (show N<=N+1000000 by omega));unfold SB.ans;rw [Uj];cases bad
 ·rw [if_neg zzc];by_cases hq:sq=S.due.toNat
  ·rw [if_pos hq];show Calls _ _ _ _ fun e w'=>zni B N w0 w w' {(S.doI body).1 with rp:=(S.doI body).2,bg:=true,due:=(S.doI body).1.due+1} (43::zH S.due (S.doI body).2) e
   have D:=fun {x w:World} (h:Tn B s x w)=>zlP h hS hI hN0 hN body hl
   have htl:=XX S body;subst hq;generalize hG:S.doI body=G0 at*;obtain ⟨S2,t⟩:=G0;have htl:t.length<=80:=htl;obtain ⟨d,hdd⟩:∃d,S.due=d:=⟨_,rfl⟩
   rw [hdd] at cd hw hd⊢;clear h hG cb cr;go_enter func58,ntmps58;go_wp2_with fail;go_region_held3 (fun w'=>w'.cell? ⟨w.heap.size,0,none⟩=some (.int .i64 (d.toNat:Int))/\w'.cell? ⟨B,65765,none⟩=some (.int .u8 (d.toNat:Int))) (go_keep) (fail);go_wp2_with fail;refine (D (Tn.refl (HT.out.alloc _).drew.c)).mono ?_;rintro e w1 ⟨rfl,s2,T2,V2,I2⟩;have K:=kept T2;have e4:=(K.1 w.heap.size 0 n0 zzc).trans (World.cell?_alloc_at _ _ _ _ rfl);have e1:w1.cell? ⟨B,65765,none⟩=some (.int .u8 (S2.due.toNat:Int)):=T2.rest zzb V2.cd;have e2:w1.cell? ⟨B,65766,none⟩=some (.bool S2.bg):=T2.rest zzb V2.cb;have e3:w1.cell? ⟨B,65767,none⟩=some (.string ⟨S2.rp.toArray⟩):=T2.rest zzb V2.cr;have fz1:=T2.c.free;have hs1:w.heap.size<w1.heap.size:=by have:=T2.g.size;simp at this;omega
   have HT2:=hid ((HT.out.alloc _).drew.trans T2);have HV2:=hid V2;have HI3:Hid (SI {S2 with rp:=t,bg:=true,due:=S2.due+1} (N+1000000)):=I2.like rfl rfl;clear K T2 V2 I2 D cd fz;have ed:((S2.due.toNat:Int)+1)%256=((S2.due+1).toNat:Int):=by rw [UInt8.toNat_add];show _=(((S2.due.toNat+1)%256:Nat):Int);omega
   have HTX:Hid (Tn B (((s2.put 65767 (.string ⟨t.toArray⟩)).put 65766 (.bool true)).put 65765 (.int .u8 ((S2.due+1).toNat:Int))) w0 (((w1.setCell ⟨B,65767,none⟩ (.string ⟨t.toArray⟩)).setCell ⟨B,65766,none⟩ (.bool true)).setCell ⟨B,65765,none⟩ (.int .u8 (((S2.due.toNat:Int)+1)%256)))):=by
    rw [ed];exact ((HT2.out.put _ _ _ zzb HV2.out.cr).put _ _ _ zzb ((zh _ _ _ _ zzb).trans HV2.out.cb)).put _ _ _ zzb ((zh _ _ _ _ zzb).trans ((zh _ _ _ _ zzb).trans HV2.out.cd))
   have HV3:Hid (SV {S2 with rp:=t,bg:=true,due:=S2.due+1} (((s2.put 65767 (.string ⟨t.toArray⟩)).put 65766 (.bool true)).put 65765 (.int .u8 ((S2.due+1).toNat:Int)))):=
    HV2.out.hd (((RsO.put s2 65767 _ _ _ zzb zzb).trans (RsO.put _ 65766 _ _ _ zzb zzb)).trans (RsO.put _ 65765 _ _ _ zzb zzb)) (HV2.out.sc.keep fun k _ _=>by rw [zh _ _ _ _ zza,zh _ _ _ _ zza,zh _ _ _ _ zza]) (yj _ _ _) ((zh _ _ _ _ zzb).trans (yj _ _ _)) ((zh _ _ _ _ zzb).trans ((zh _ _ _ _ zzb).trans (yj _ _ _)))
   clear ed;go_wp2_with fail;have x0:(((w1.setCell ⟨B,65767,none⟩ (.string ⟨t.toArray⟩)).setCell ⟨B,65766,none⟩ (.bool true)).setCell ⟨B,65765,none⟩ (.int .u8 (((S2.due.toNat:Int)+1)%256))).cell? ⟨w.heap.size,0,none⟩=some (.int .i64 (d.toNat:Int)):=by
    have ne:∀i,(⟨B,i,none⟩:Addr)≠ ⟨w.heap.size,0,none⟩:=fun i e=>by injection e with e1 e2;exact m0 e1
    rw [World.cell?_setCell_other _ _ _ _ (ne _),World.cell?_setCell_other _ _ _ _ (ne _),World.cell?_setCell_other _ _ _ _ (ne _)];exact e4
   have x3:=HTX.out.rest (o:=65767) zzb ((zh _ _ _ _ zzb).trans ((zh _ _ _ _ zzb).trans (yj _ _ _)));have zW:w.heap.size<(((w1.setCell ⟨B,65767,none⟩ (.string ⟨t.toArray⟩)).setCell ⟨B,65766,none⟩ (.bool true)).setCell ⟨B,65765,none⟩ (.int .u8 (((S2.due.toNat:Int)+1)%256))).heap.size:=by simpa using hs1
   generalize ((s2.put 65767 (.string ⟨t.toArray⟩)).put 65766 (.bool true)).put 65765 (.int .u8 ((S2.due+1).toNat:Int))=s3 at*;generalize (((w1.setCell ⟨B,65767,none⟩ (.string ⟨t.toArray⟩)).setCell ⟨B,65766,none⟩ (.bool true)).setCell ⟨B,65765,none⟩ (.int .u8 (((S2.due.toNat:Int)+1)%256)))=W at*;have HTW:=HTX;have bW:B<W.heap.size:=HTX.out.c.lt;clear e1 e2 e3 e4 fz1 HT2 HV2 HTX;go_region_held3 (fun w'=>w'.cell? ⟨w.heap.size,0,none⟩=some (.int .i64 (d.toNat:Int))/\w'.cell? ⟨B,65767,none⟩=some (.string ⟨t.toArray⟩)) (go_keep) (first|(go_at_call 56;refine (ZO d ⟨t.toArray⟩ _ (by show t.toArray.size<=80;simpa using htl)).mono ?_;rintro e w3 ⟨v,rfl,O⟩;obtain ⟨g,cap,rfl,o1,o2,o3⟩:=O;have y0:=(o2.cell (p:=⟨w.heap.size,0,none⟩) zW).trans x0;have y3:=(o2.cell (p:=⟨B,65767,none⟩) bW).trans x3));have HN:Hid (zy w3 g 0 (zH d t)):=vB o1;have hfl:(zH d t).length<=200:=by have:=ZA t;simp [zH,vx];omega
   have hfp:0<(zH d t).length:=by simp [zH]
   have hgl:=(o1.lt g rfl);have HT3:Hid (Tn B s3 w0 w3):=ym HTW.out.drew o2;have hs3:W.heap.size<=w3.heap.size:=o2.size;clear o1 o2 o3 x0 x3 y0 y3 HTW;obtain ⟨F,HF⟩:∃F,Hid (zH d t=F):=⟨_,rfl⟩
   rw [HF.out] at HN hfl hfp;rw [HF.out];have hg3:g<w3.heap.size:=hgl.2;clear hgl;have hB3:B<w3.heap.size:=HT3.out.c.lt;go_wp2_with (first|(at_builtin;go_must (refine wpList_append_lies _ rfl (.tmp 65) (.tmp 66) 35 rfl w3.heap.size 5 i0 (.int .u8 0) 1 1 zx hi hz0 hz1 hz2 rfl zzb (.slice (some ⟨w3.heap.size,0,none⟩) 1 1) 1 [.int .u8 43] rfl (World.ownsRow_lit w3 #[.int .u8 43] 1 (Nat.le_refl _) zzb rfl) ⟨g,0,none⟩ F.length cap (zS F) rfl (by rw [yR];simp) (jt (y8 HN.out hg3 _)) (Zo F) hfp zze zza zzc _ rfl ?_;intro g' cap' w4 hown' hgrow hat hlt';have H4:Hid (zy w4 g' 0 (43::F)/\w.heap.size<=g'/\g'<w4.heap.size/\Tn B s3 w0 w4):=⟨vB (l:=43::F) (by rw [List.length_cons,Nat.add_comm];exact hown'),(by have:=(hown'.lt g' rfl).1;omega),hlt',zal (HT3.out.alloc _) hgrow (fun k e=>by simp [Value.ownBlock] at e;omega)⟩;clear hown' hgrow hat hlt')));go_ret;obtain ⟨b1,b2,b3,b4⟩:=H4.out;exact ⟨g',cap',s3,by rw [HF.out,List.length_cons,Nat.add_comm];rfl,by rw [HF.out];exact b1,b2,b3,b4,HV3.out,HI3.out⟩
  ·rw [if_neg hq];have hq':((sq:Int)==(S.due.toNat:Int))=false:=by rw [beq_eq_false_iff_ne];omega
   cases hbg:S.bg
   ·rw [if_neg zzc];rw [hbg] at cb;clear h hS;go_enter func58,ntmps58;go_wp2_with fail;go_quiet (fail);rename_i nq1;go_wp2_with fail;go_quiet (fail);go_wp2;go_ret;refine ⟨w.heap.size+1,1,s,rfl,?_,by omega,by simp,((HT.out.alloc _).drewN _).alloc _,HS.out,HI.out⟩;exact zbl w _ _ 63 5
   ·rw [hbg] at cb;obtain ⟨d,hd1⟩:∃d,Hid (S.due-1=d):=⟨_,rfl⟩
    rw [hd1.out];have ed:((S.due.toNat:Int)-1)%256=(d.toNat:Int):=by
     rw [<-hd1.out,UInt8.toNat_sub];have:=S.due.toNat_lt;show _=(((256-1+S.due.toNat)%256:Nat):Int);omega
    have hd2:=zd6 d;have hwd:IntKind.i64.wrap (d.toNat:Int)=(d.toNat:Int):=jv _ hd2.1 hd2.2;have ed2:IntKind.u8.wrap ((S.due.toNat:Int)-1)=(d.toNat:Int):=by rw [IntKind.wrap_u8];exact ed
    by_cases hq2:sq=d.toNat
    ·rw [if_pos ⟨rfl,hq2⟩];subst hq2;clear h hS;have htl:=hrp;have HV3:=HS;go_enter func58,ntmps58;go_wp2_with fail;go_quiet (fail);have HT1:=hid ((HT.out.alloc (.cells #[.int .i64 (d.toNat:Int),.string ⟨body.toArray⟩,.bool false] 152)).drewN nq);have z0:((w.alloc (.cells #[.int .i64 (d.toNat:Int),.string ⟨body.toArray⟩,.bool false] 152)).drewN nq).cell? ⟨w.heap.size,0,none⟩=some (.int .i64 (d.toNat:Int)):=(zU _ _ _).trans (World.cell?_alloc_at _ _ _ _ rfl);have zs:w.heap.size<((w.alloc (.cells #[.int .i64 (d.toNat:Int),.string ⟨body.toArray⟩,.bool false] 152)).drewN nq).heap.size:=by rw [x8];simp
     generalize (w.alloc (.cells #[.int .i64 (d.toNat:Int),.string ⟨body.toArray⟩,.bool false] 152)).drewN nq=W1 at*;have cd:=HT1.out.rest zzb HS.out.cd;have cb:W1.cell? ⟨B,65766,none⟩=some (.bool true):=by rw [<-hbg];exact HT1.out.rest zzb HS.out.cb
     go_wp2_with fail;go_quiet (fail);have HTW:=hid (HT1.out.drewN nq);have x0:=(zU W1 nq _).trans z0;have x3:(W1.drewN nq).cell? ⟨B,65767,none⟩=some (.string ⟨S.rp.toArray⟩):=HTW.out.rest zzb HS.out.cr;have zW:w.heap.size<(W1.drewN nq).heap.size:=by rw [x8];exact zs
     have bW:B<(W1.drewN nq).heap.size:=HTW.out.c.lt;generalize W1.drewN nq=W at*;clear z0 zs HT1 cd cb cr fz;go_wp2_with fail;go_region_held3 (fun w'=>w'.cell? ⟨w.heap.size,0,none⟩=some (.int .i64 (d.toNat:Int))/\w'.cell? ⟨B,65767,none⟩=some (.string ⟨S.rp.toArray⟩)) (go_keep) (first|(go_at_call 56;refine (ZO d ⟨S.rp.toArray⟩ _ (by show S.rp.toArray.size<=80;simpa using htl)).mono ?_;rintro e w3 ⟨v,rfl,O⟩;obtain ⟨g,cap,rfl,o1,o2,o3⟩:=O;have y0:=(o2.cell (p:=⟨w.heap.size,0,none⟩) zW).trans x0;have y3:=(o2.cell (p:=⟨B,65767,none⟩) bW).trans x3));have HN:Hid (zy w3 g 0 (zH d S.rp)):=vB o1;have hfl:(zH d S.rp).length<=200:=by have:=ZA S.rp;simp [zH,vx];omega
     have hfp:0<(zH d S.rp).length:=by simp [zH]
     have hgl:=(o1.lt g rfl);have HT3:Hid (Tn B s w0 w3):=ym HTW.out.drew o2;have hs3:W.heap.size<=w3.heap.size:=o2.size;clear o1 o2 o3 x0 x3 y0 y3 HTW;obtain ⟨F,HF⟩:∃F,Hid (zH d S.rp=F):=⟨_,rfl⟩
     rw [HF.out] at HN hfl hfp;rw [HF.out];have hg3:g<w3.heap.size:=hgl.2;clear hgl;have hB3:B<w3.heap.size:=HT3.out.c.lt;go_wp2_with (first|(at_builtin;go_must (refine wpList_append_lies _ rfl (.tmp 65) (.tmp 66) 35 rfl w3.heap.size 5 i0 (.int .u8 0) 1 1 zx hi hz0 hz1 hz2 rfl zzb (.slice (some ⟨w3.heap.size,0,none⟩) 1 1) 1 [.int .u8 43] rfl (World.ownsRow_lit w3 #[.int .u8 43] 1 (Nat.le_refl _) zzb rfl) ⟨g,0,none⟩ F.length cap (zS F) rfl (by rw [yR];simp) (jt (y8 HN.out hg3 _)) (Zo F) hfp zze zza zzc _ rfl ?_;intro g' cap' w4 hown' hgrow hat hlt';have H4:Hid (zy w4 g' 0 (43::F)/\w.heap.size<=g'/\g'<w4.heap.size/\Tn B s w0 w4):=⟨vB (l:=43::F) (by rw [List.length_cons,Nat.add_comm];exact hown'),(by have:=(hown'.lt g' rfl).1;omega),hlt',zal (HT3.out.alloc _) hgrow (fun k e=>by simp [Value.ownBlock] at e;omega)⟩;clear hown' hgrow hat hlt')));go_ret;obtain ⟨b1,b2,b3,b4⟩:=H4.out;exact ⟨g',cap',s,by rw [HF.out,List.length_cons,Nat.add_comm];rfl,by rw [HF.out];exact b1,b2,b3,b4,HV3.out,HI.out⟩
    ·rw [if_neg (fun q=>hq2 q.2)];have hq3:((sq:Int)==(d.toNat:Int))=false:=by rw [beq_eq_false_iff_ne];omega
     have hq4:((sq:Int) !=(d.toNat:Int))=true:=by rw [bne,hq3];rfl
     clear h hS;go_enter func58,ntmps58;go_wp2_with fail;go_quiet (fail);go_wp2_with fail;go_quiet (fail);go_wp2;go_ret;refine ⟨w.heap.size+1,1,s,rfl,?_,by omega,by simp,((HT.out.alloc _).drewN _).alloc _,HS.out,HI.out⟩;exact zbl w _ _ 63 5
 ·rw [if_pos rfl];clear h hS;go_enter func58,ntmps58;go_wp2;go_ret;refine ⟨w.heap.size+1,1,s,rfl,?_,by omega,by simp,(HT.out.alloc _).alloc _,HS.out,HI.out⟩;have q:=ze1 (w.alloc (.cells #[.int .i64 (sq:Int),.string ⟨body.toArray⟩,.bool true] 152)) 45 5;simpa using q
end
section
def SB.answers:SB->List Pk->SB × List UInt8
 |S,[]=>(S,[])
 |S,p::r=>(((S.ans p).1.answers r).1,(S.ans p).2++((S.ans p).1.answers r).2)
theorem Yw(S:SB)(l:List Pk)(p:Pk):S.answers (l++ [p])=(((S.answers l).1.ans p).1,(S.answers l).2++((S.answers l).1.ans p).2):=by
 induction l generalizing S with
 |nil=>simp [SB.answers]
 |cons q r ih=>simp only [List.cons_append,SB.answers,ih,List.append_assoc]
def SB.feed(S:SB)(l:List UInt8):SB × List UInt8:=({S with sc:=yA S.sc l}:SB).answers (zR S.sc l)
theorem jW(d:UInt8)(t:List UInt8)(h:t.length<=80):(zH d t).length<=200:=by have:=ZA t;simp [zH,vx];omega
theorem UG(S:SB)(p:Pk)(h:S.rp.length<=80):0<(S.ans p).2.length/\(S.ans p).2.length<=201:=by
 unfold SB.ans;split
 ·simp
 ·split
  ·have:=jW S.due (S.doI p.body).2 (XX S p.body);simp only [List.length_cons];omega
  ·split
   ·have:=jW (S.due-1) S.rp h;simp only [List.length_cons];omega
   ·simp
theorem zam(S:SB)(p:Pk)(h:S.rp.length<=80):(S.ans p).1.rp.length<=80:=by
 unfold SB.ans;split
 ·exact h
 ·split
  ·exact XX S p.body
  ·split<;>exact h
theorem Gj(l:List UInt8)(a b:UInt8):(yM l a b).body.length<=200:=by
 unfold yM xp;repeat' split
 all_goals first
  |(simp [xH];done)
  |(dsimp only;omega)
theorem ZZ:∀ (l:List UInt8) (s:Sc),∀p∈zR s l,p.body.length<=200
 | [],_,p,h=>by simp [zR] at h
 |c::r,s,p,h=>by
  rw [zR] at h;rcases List.mem_append.1 h with h|h
  ·split at h
   ·simp at h;subst h;exact Gj _ _ _
   ·simp at h
  ·exact ZZ r _ p h
theorem jX:∀ (l:List UInt8) (s:Sc),(zR s l).length<=l.length
 | [],_=>by simp [zR]
 |c::r,s=>by
  rw [zR,List.length_append];have:=jX r (s.step c);split
  ·simp only [List.length_cons,List.length_nil];omega
  ·simp only [List.length_cons,List.length_nil];omega
theorem CAt.re{w:World}{B:Nat}{s:PC}(h:CAt w B s)(R:Nat->Option Value)(e:∀o,65562<=o->R o=s.rest o):CAt w B (s.rr R):=
 {h with crest:=fun o ho=>(h.crest o ho).trans (e o ho).symm}
theorem SV.scs{S:SB}{s:PC}{w0 w:World}{B:Nat}(h:Tn B s w0 w)(hS:SV S s):ScS (fun o=>w.cell? ⟨B,o,none⟩) w B S.sc:=
 ⟨hS.sc.st3,hS.sc.len,h.rest zzb hS.sc.cst,h.rest zzb hS.sc.cnt,h.rest zzb hS.sc.csum,fun i hi=>h.rest zza (hS.sc.bytes i hi),fun i hi=>by obtain ⟨v,hv⟩:=hS.sc.there i hi;exact ⟨v,h.rest zza hv⟩,h.c.free,fun o _=>rfl⟩
theorem scanned{S:SB}{s:PC}{w0 w w1:World}{B:Nat}{v:Value}{c:Sc}{ps:List Pk}(h:Tn B s w0 w)(hS:SV S s)(F:FedS (fun o=>w.cell? ⟨B,o,none⟩) B w w1 v c ps):∃s1,Tn B s1 w0 w1/\SV {S with sc:=c} s1:=by
 have C1:=h.c.scanned (w':=w1) (fun o ho=>F.sc.keep o (.inl ho)) F.sc.free;have C2:=C1.re (fun o=>if o<65562 then s.rest o else w1.cell? ⟨B,o,none⟩) (fun o ho=>if_neg zza);have k:∀o,65562<=o->(if o<65562 then s.rest o else w1.cell? ⟨B,o,none⟩)=w1.cell? ⟨B,o,none⟩:=fun o ho=>if_neg zza
 have kk:∀o,65765<=o->(if o<65562 then s.rest o else w1.cell? ⟨B,o,none⟩)=s.rest o:=fun o ho=>(k o zza).trans ((F.sc.keep o (.inr ho)).trans (h.c.crest o zza))
 refine ⟨s.rr (fun o=>if o<65562 then s.rest o else w1.cell? ⟨B,o,none⟩),⟨C2,zJ h.g F.grown⟩,?_⟩;refine hS.hd (c:=c) (d:=S.due) (b:=S.bg) (r:=S.rp) ⟨rfl,fun o ho=>?_⟩ ?_ ((kk _ zzb).trans hS.cd) ((kk _ zzb).trans hS.cb) ((kk _ zzb).trans hS.cr)
 ·rcases ho with ho|ho
  ·exact if_pos ho
  ·exact kk o zza
 ·exact ⟨F.sc.st3,F.sc.len,(k _ zzb).trans F.sc.cst,(k _ zzb).trans F.sc.cnt,(k _ zzb).trans F.sc.csum,fun i hi=>(k _ zza).trans (F.sc.bytes i hi),fun i hi=>by obtain ⟨v,hv⟩:=F.sc.there i hi;exact ⟨v,(k _ zza).trans hv⟩⟩
theorem Qx(ps:List Pk)(k j:Nat)(hk:k<ps.length)(hj:j<3):(vZ ps)[k*3+j]?=(ps[k].cells)[j]?:=by
 induction ps generalizing k with
 |nil=>simp at hk
 |cons p r ih=>
  have e:vZ (p::r)=p.cells++vZ r:=by simp [vZ]
  have hc:p.cells.length=3:=rfl;rw [e];cases k with
  |zero=>rw [List.getElem?_append_left zza];simp
  |succ k=>rw [List.getElem?_append_right zza,hc,show (k+1)*3+j-3=k*3+j from by omega,ih k (by simpa using hk)];simp
end
section
def SB.ws(S:SB)(c:Sc):SB:={S with sc:=c}
variable {c:Sc}
end
def xfP(m:Nat):Nat->Value:=fun i=>if i=0 then .int .i64 (-1000-(m:Int)) else if i=1 then .string ⟨#[]⟩ else .bool false
theorem vn(row:Option Nat)(H m n:Nat)(v:Value)(w:World)(hm:m<=1000000000)(hn:n<=1000000000)(h:AllX 152 3 (xfP m) row H w v n):Calls prog 78 #[v,.int .i64 m] w fun e w'=>e=.returned (.bool true)/\w'=w:=by
 rcases h with ⟨rfl,rfl⟩|⟨g,cap,rfl,_,hnc,hr,hc⟩
 ·go_enter func78,ntmps78;exact znA
 ·have HC:Hid (∀i,i<n*3->w.cell? ⟨g,i,none⟩=some (xfP m (i%3))):=hc;clear hc hr;go_enter func78,ntmps78;go_wp2;go_loop [5] (fun i=> ∃k:Nat,k<=n/\i=.int .i64 k) (fun i=>n-(intOf i).toNat);case atStart=>exact ⟨0,Nat.zero_le _,rfl⟩
  case round=>
   obtain ⟨k,hk,rfl⟩:=hrel;by_cases hlt:k<n
   ·have c0:w.cell? ⟨g,k*3,none⟩=some (.int .i64 (-1000-(m:Int))):=by have:=HC.out (k*3) zza;rw [this,show k*3%3=0 from by omega];rfl
    have c1:w.cell? ⟨g,k*3+1,none⟩=some (.string ⟨#[]⟩):=by have:=HC.out (k*3+1) zza;rw [this,show (k*3+1)%3=1 from by omega];rfl
    have c2:w.cell? ⟨g,k*3+2,none⟩=some (.bool false):=by have:=HC.out (k*3+2) zza;rw [this,show (k*3+2)%3=2 from by omega];rfl
    exact znB
   ·go_wp2;go_ret;exact ⟨rfl,rfl⟩
theorem zaa(row:Option Nat)(H m n:Nat)(v v1 v2 v3:Value)(w:World)(hm:m<=1000000000)(hn:n<=100000000)(h0:AllX 152 3 (xfP m) row H w v n)(h1:AllX 152 3 (xfP m) row H w v1 (n+1))(h2:AllX 152 3 (xfP m) row H w v2 (n+2))(h3:AllX 152 3 (xfP m) row H w v3 (n+64))(hH:H<=w.heap.size):Calls prog 48 #[.agg #[v,v1,v2,v3,.int .i64 m]] w fun e w'=>e=.returned (.bool true)/\Below w.heap.size w w':=by
 have HH:Hid (AllX 152 3 (xfP m) row H w v n/\AllX 152 3 (xfP m) row H w v1 (n+1)/\AllX 152 3 (xfP m) row H w v2 (n+2)/\AllX 152 3 (xfP m) row H w v3 (n+64)):=⟨h0,h1,h2,h3⟩;clear h0 h1 h2 h3;go_enter func48,ntmps48;go_wp2_with fail;refine (vn row H m n v _ hm zza (HH.out.1.alloc _ hH)).mono ?_;rintro e w1 ⟨rfl,rfl⟩;go_wp2_with fail;refine (vn row H m (n+1) v1 _ hm zza (HH.out.2.1.alloc _ hH)).mono ?_;rintro e w1 ⟨rfl,rfl⟩;go_wp2_with fail;refine (vn row H m (n+2) v2 _ hm zza (HH.out.2.2.1.alloc _ hH)).mono ?_;rintro e w1 ⟨rfl,rfl⟩;go_wp2_with fail;refine (vn row H m (n+64) v3 _ hm zza (HH.out.2.2.2.alloc _ hH)).mono ?_;rintro e w1 ⟨rfl,rfl⟩;go_wp2;go_ret;exact ⟨rfl,(Below.refl _ _).alloc (Nat.le_refl _) _⟩
theorem XE{P:Program}(w:World){ops:Array Oper}{rest:List Oper}{o:Oper}{a:Go.Act}{Q:Exit->Go.Act->World->Prop}(hgd:o.guard=none)(d s:Operand)(dT sT:TypeId)
  (ho:o.op=.call {callee:=.builtin .copy,args:=#[d,s],argTypes:=#[dT,sT] }) (elem:TypeId) (i:TypeInfo) (hu:P.underlying dT=some (.slice elem)) (hi:P.info? elem=some i)
  (g dLen dCap:Nat) (hd:a.eval d=.slice (some ⟨g,0,none⟩) dLen dCap) (x:ByteArray) (hs:a.eval s=.string x) (hle:x.size<=dLen)
  (hth:∀j,j<x.size->(w.cell? ⟨g,j,none⟩).isSome=true) (hfr:∀j,j<x.size->w.frozen? ⟨g,j,none⟩=false)
  (h:wpList P ops Q rest (a.put o.dst (goInt x.size)) (w.setCells g 0 (zS x.data.toList))):wpList P ops Q (o::rest) a w:=by
 refine wpList_plain hgd fun K hK=>?_
 have hmin:Nat.min x.size dLen=x.size:=Nat.min_eq_left hle;have hl:(zS x.data.toList).length=x.size:=by rw [yR];simp
 have hst:=run_storeCells_cells (P:=P) g 0 (zS x.data.toList) 0 w (fun j hj=>by rw [hl] at hj;simpa using hth j hj) (fun j hj=>by rw [hl] at hj;simpa using hfr j hj) (by intro v hv;simp [zS] at hv;obtain ⟨c,_,rfl⟩:=hv;rfl);have hrun:(Builtin.copy_ #[dT,sT] o.type #[.slice (some ⟨g,0,none⟩) dLen dCap,.string x]).run P w=.ok (goInt x.size) (w.setCells g 0 (zS x.data.toList)):=by
  simp [Builtin.copy_,run_underlying hu,Builtin.lenOf,Builtin.firstCells,sizeOf,typeInfo,hi,hmin];have e:List.map (fun b:UInt8=>Value.int .u8 (b.toNat:Int)) x.data.toList=zS x.data.toList:=rfl;rw [e,List.take_of_length_le (by rw [hl];omega),hst];rfl
 unfold Oper.wp;simp [execOp,ho,resolve,invoke,builtin,hd,hs,hrun,Result.andThen];exact hK _ _ h
structure LentAt (w:World) (g:Nat) (l:List UInt8):Prop where
 row:RowAt w g 5 1 (l.length+8)
 bytes:zy w g 0 l
 spare:∀j,j<8->w.cell? ⟨g,l.length+j,none⟩=some (.int .u8 77)
theorem zkJ{w:World}{g:Nat}{l:List UInt8}{cap:Nat}(hr:RowAt w g 5 1 cap)(hl:l.length<=cap):zy (w.setCells g 0 (zS l)) g 0 l:=by
 intro i hi;have:=World.cell?_setCells_in g (zS l) 0 w (fun j hj=>by rw [yR] at hj;obtain ⟨u,hu⟩:=hr.there (0+j) zza;rw [hu];rfl) i (by rw [yR];exact hi);rw [this];simp [zS]
theorem Zh(g:Nat):∀ (vs:List Value) (o:Nat) (w:World),w.grownBy (w.setCells g o vs) (some g)/\(w.setCells g o vs).heap.size=w.heap.size
 | [],_,w=>⟨World.grownBy.refl _ _,rfl⟩
 |v::r,o,w=>by
  obtain ⟨h1,h2⟩:=Zh g r (o+1) (w.setCell ⟨g,o,none⟩ v);exact ⟨yQ (yU w g o v) h1,h2.trans zzc⟩
theorem Vp{w0 w w':World}{g:Nat}(hb:Below w0.heap.size w0 w)(hg:w.grownBy w' (some g))(hl:w0.heap.size<=g):Below w0.heap.size w0 w':=hb.grown hg hb.size (fun k e=>by injection e with e;omega)
theorem zb2{w:World}{g o:Nat}{l:List UInt8}{v:Value}(h:zy w g 0 l)(ho:l.length<=o):zy (w.setCell ⟨g,o,none⟩ v) g 0 l:=by
 intro i hi;rw [World.cell?_setCell_other _ _ _ _ (zQ _ _ _ zza)];exact h i hi
theorem zb3{w:World}{g n k:Nat}{u:Value}(h:∀j,j<k->w.cell? ⟨g,n+j,none⟩=some (.int .u8 77))(hu:w.cell? ⟨g,n+k,none⟩=some u):∀j,j<k+1->(w.setCell ⟨g,n+k,none⟩ (.int .u8 77)).cell? ⟨g,n+j,none⟩=some (.int .u8 77):=by
 intro j hj;by_cases e:j=k
 ·subst e;exact World.cell?_setCell_same _ _ _ hu
 ·rw [World.cell?_setCell_other _ _ _ _ (zQ _ _ _ zza)];exact h j zza
theorem zmu{p:Prop} (q:p:=by
 rcases h.2 with ⟨e,_⟩|⟨g',cap,cur,e,_,h1,_,_,h2,_⟩
 ·simp at e
 ·injection e with e1 e2 e3;injection e1 with e1;injection e1 with e1;subst e1 e3;exact ⟨cur,h1,h2⟩):p:=q
theorem Hq{w:World}{base g n:Nat}{xs:List Value}(h:w.ownsRow base 5 1 (.slice (some ⟨g,0,none⟩) n n) n xs):RowAt w g 5 1 n:=by
 exact zmu
theorem Hr{s:ByteArray}(h:s.toList.isEmpty=true):s.size=0:=by
 rw [Lib.toList_data] at h;rw [Zy,List.isEmpty_iff.1 h];rfl
theorem Kv(s:ByteArray)(b:Bool)(w:World)(hs:s.size<=10000000)(hn:¬(s.size=0/\b=true)):Calls prog 70 #[.string s,.bool b] w fun e w'=>e=.returned (.slice (some ⟨w.heap.size,0,none⟩) s.size (s.size+8))/\LentAt w' w.heap.size s.data.toList/\Below w.heap.size w w':=by
 obtain ⟨i0,hi,hz0,hz1,hz2⟩:=info_parts xP;have hm:i0.bytes*(s.size+8)<=281474976710656:=by rw [hz2];omega
 have hcase:(s.toList.isEmpty=false)\/(s.toList.isEmpty=true/\b=false):=by
  cases hq:s.toList.isEmpty with
  |false=>exact .inl rfl
  |true=>exact .inr ⟨rfl,by cases b with
   |false=>rfl
   |true=>exact absurd ⟨Hr hq,rfl⟩ hn⟩
 clear hn;have hlen:s.data.toList.length=s.size:=by simp
 rcases hcase with hq|⟨hq,rfl⟩
 all_goals
  go_enter func70,ntmps70;go_wp2_with (first|(at_make;go_must (refine wpList_make_full _ rfl _ _ 35 rfl w.heap.size 5 i0 (.int .u8 0) 1 zx hi hz0 hz1 .i64 .i64 _ _ (s.size+8) rfl rfl zza zza hm zze (Nat.le_refl _) ?_;intro w1 hown1 hgrow1;have HR:Hid (RowAt w1 w.heap.size 5 1 (s.size+8)/\Below w.heap.size w w1):=⟨Hq hown1,(Below.refl _ _).grown hgrow1 (Nat.le_refl _) zzc⟩;clear hown1 hgrow1))|(refine XE _ rfl (.tmp 16) (.tmp 17) 35 9 rfl 5 i0 zx hi w.heap.size (s.size+8) (s.size+8) rfl s rfl zza ?_ ?_ ?_;(intro j hj;obtain ⟨u,hu⟩:=HR.out.1.there j zza;rw [hu];rfl);(intro j hj;exact HR.out.1.free j)));have HC:Hid (RowAt (w1.setCells w.heap.size 0 (zS s.data.toList)) w.heap.size 5 1 (s.size+8)/\zy (w1.setCells w.heap.size 0 (zS s.data.toList)) w.heap.size 0 s.data.toList/\Below w.heap.size w (w1.setCells w.heap.size 0 (zS s.data.toList))):=
   ⟨RowAt.setCells _ _ _ _ HR.out.1,zkJ HR.out.1 zza,Vp HR.out.2 (Zh _ _ _ _).1 (Nat.le_refl _)⟩
  generalize w1.setCells w.heap.size 0 (zS s.data.toList)=w2 at*;clear HR;go_loopw [6] (fun i wr=> ∃k:Nat,k<=8/\i=.int .i64 ((s.size:Int)+(k:Int))/\RowAt wr w.heap.size 5 1 (s.size+8)/\zy wr w.heap.size 0 s.data.toList/\Below w.heap.size w wr/\∀j,j<k->wr.cell? ⟨w.heap.size,s.size+j,none⟩=some (.int .u8 77)) (fun i _=>s.size+8-(intOf i).toNat);case atStart=>exact ⟨0,by omega,by go_num,HC.out.1,HC.out.2.1,HC.out.2.2,by simp⟩
  case round=>
   clear HC;obtain ⟨k,hk,rfl,p0,p1,p2,p3⟩:=hrel;have HP:Hid (RowAt wr w.heap.size 5 1 (s.size+8)/\zy wr w.heap.size 0 s.data.toList/\Below w.heap.size w wr/\∀j,j<k->wr.cell? ⟨w.heap.size,s.size+j,none⟩=some (.int .u8 77)):=⟨p0,p1,p2,p3⟩;clear p0 p1 p2 p3;by_cases hlt:k<8
   ·obtain ⟨u,hu⟩:=HP.out.1.there (s.size+k) zza;have hfu:=HP.out.1.free (s.size+k);go_wp2;go_roundw;case rel=>exact ⟨k+1,by omega,by go_num,HP.out.1.setCell _ _ _,zb2 HP.out.2.1 zza,HP.out.2.2.1.setCell (Nat.le_refl _) _,zb3 HP.out.2.2.2 hu⟩
    case measure=>simp [intOf];omega
   ·have hk8:k=8:=by omega
    subst hk8;go_wp2;go_ret;exact ⟨rfl,⟨by rw [hlen];exact HP.out.1,HP.out.2.1,by rw [hlen];exact HP.out.2.2.2⟩,HP.out.2.2.1⟩
theorem Kz(w:World):Calls prog 70 #[.string ⟨#[]⟩,.bool true] w fun e w'=>e=.returned (.slice none 0 0)/\w'=w:=by
 go_enter func70,ntmps70;go_wp2;go_ret;exact ⟨rfl,rfl⟩
theorem KB(w:World):Calls prog 72 #[.slice none 0 0,.string ⟨#[]⟩] w fun e w'=>e=.returned (.bool true)/\w'=w:=by
 have hnil:=fun (w:World) (a:Option Addr) (n c:Nat)=>Lib.run_eql_slice_nil (P:=prog) w 35 5 a n c 0 0 zx
 go_enter func72,ntmps72;go_wp2;go_ret;exact ⟨rfl,rfl⟩
theorem zee{w:World}{g c:Nat}{s:ByteArray}(h:LentAt w g s.data.toList):(convert 35 9 (.slice (some ⟨g,0,none⟩) s.size c)).run prog w=.ok (.string s) w:=by
 have hl:s.data.toList.length=s.size:=by simp
 have:=run_convert_bytes_back (P:=prog) w 35 9 5 ⟨g,0,none⟩ c s.data.toList zx jq vj
  (fun j hj=>by
   have hb:=h.bytes j hj;rw [Nat.zero_add] at hb;rw [show (⟨g,0,none⟩:Addr).add j=⟨g,j,none⟩ from by unfold Addr.add;split<;>simp_all];exact hb)
 rw [hl] at this;rw [this, <-zew (h:=s) rfl]
theorem KE(s:ByteArray)(g:Nat)(w:World)(hs:s.size<=10000000)(h:LentAt w g s.data.toList):Calls prog 72 #[.slice (some ⟨g,0,none⟩) s.size (s.size+8),.string s] w fun e w'=>e=.returned (.bool true)/\w.grownBy w' (some g)/\w'.heap.size=w.heap.size:=by
 have hconv:=zee (c:=s.size+8) h;have hlen:s.data.toList.length=s.size:=by simp
 have HR:Hid (RowAt w g 5 1 (s.size+8)/\∀j,j<8->w.cell? ⟨g,s.size+j,none⟩=some (.int .u8 77)):=by have:=h.row;have h2:=h.spare;rw [hlen] at this h2;exact ⟨this,h2⟩
 clear h;have hnil:=fun (w:World) (a:Option Addr) (n c:Nat)=>Lib.run_eql_slice_nil (P:=prog) w 35 5 a n c 0 0 zx
 go_enter func72,ntmps72;go_wp2;go_loopw [5,7] (fun b i wr=> ∃k:Nat,k<=s.size+8/\b=.bool true/\i=.int .i64 k/\RowAt wr g 5 1 (s.size+8)/\(∀j,k<=s.size+j->j<8->wr.cell? ⟨g,s.size+j,none⟩=some (.int .u8 77))/\w.grownBy wr (some g)/\wr.heap.size=w.heap.size) (fun _ i _=>s.size+8-(intOf i).toNat);case atStart=>exact ⟨0,by omega,by simp,rfl,HR.out.1,fun j _ hj=>HR.out.2 j hj,World.grownBy.refl _ _,rfl⟩
 case round=>
  obtain ⟨k,hk,rfl,rfl,p0,p1,p2,p3⟩:=hrel;have HP:Hid (RowAt wr g 5 1 (s.size+8)/\(∀j,k<=s.size+j->j<8->wr.cell? ⟨g,s.size+j,none⟩=some (.int .u8 77))/\w.grownBy wr (some g)/\wr.heap.size=w.heap.size):=⟨p0,p1,p2,p3⟩;clear p0 p1 p2 p3 HR hconv;by_cases hlt:k<s.size+8
  ·obtain ⟨u,hu⟩:=HP.out.1.there k zza;have hfu:=HP.out.1.free k;have HN:Hid (RowAt (wr.setCell ⟨g,k,none⟩ (.int .u8 78)) g 5 1 (s.size+8)/\(∀j,k+1<=s.size+j->j<8->(wr.setCell ⟨g,k,none⟩ (.int .u8 78)).cell? ⟨g,s.size+j,none⟩=some (.int .u8 77))/\w.grownBy (wr.setCell ⟨g,k,none⟩ (.int .u8 78)) (some g)/\(wr.setCell ⟨g,k,none⟩ (.int .u8 78)).heap.size=w.heap.size):=
    ⟨HP.out.1.setCell _ _ _,fun j h1 h2=>by rw [World.cell?_setCell_other _ _ _ _ (zQ _ _ _ zza)];exact HP.out.2.1 j zza h2,yQ HP.out.2.2.1 (yU _ _ _ _),by simpa using HP.out.2.2.2⟩
   by_cases hin:k<s.size
   ·have hin':(k:Int)<(s.size:Int):=by omega
    clear HP;go_wp2;go_roundw;case rel=>exact ⟨k+1,by omega,rfl,by go_num,HN.out⟩
    case measure=>simp [intOf];omega
   ·have hcell:wr.cell? ⟨g,k,none⟩=some (.int .u8 77):=by
     have:=HP.out.2.1 (k-s.size) zza zza;rw [show s.size+(k-s.size)=k from by omega] at this;exact this
    have hd:decide ((k:Int)<(s.size:Int))=false:=by rw [decide_eq_false_iff_not];omega
    clear HP hu;go_wp2;go_roundw;case rel=>exact ⟨k+1,by omega,rfl,by go_num,HN.out⟩
    case measure=>simp [intOf];omega
  ·go_wp2;go_ret;exact ⟨rfl,HP.out.2.2⟩
def Ent(e size:Nat)(xf:Nat->Nat->Value)(w:World)(Bad:Nat->Prop)(i:Nat)(v v1 v2 v3:Value):Prop:=
 ∃n,n<=100000000/\AllX e size (xf i) none 0 w v n/\AllX e size (xf i) none 0 w v1 (n+1)/\AllX e size (xf i) none 0 w v2 (n+2)/\AllX e size (xf i) none 0 w v3 (n+64)/\
  ∀g,(v.ownBlock=some g\/v1.ownBlock=some g\/v2.ownBlock=some g\/v3.ownBlock=some g)->¬Bad g
theorem AllX.blk{e size:Nat}{xf:Nat->Value}{row:Option Nat}{H:Nat}{w:World}{v:Value}{n g:Nat}(h:AllX e size xf row H w v n)(hg:v.ownBlock=some g):g<w.heap.size/\Ok row H g:=by
 rcases h with ⟨rfl,_⟩|⟨g',cap,rfl,ho,_,hr,_⟩
 ·simp [Value.ownBlock] at hg
 ·simp [Value.ownBlock] at hg;subst hg;exact ⟨hr.lt,ho⟩
theorem AllX.same{e size:Nat}{xf:Nat->Value}{w w':World}{v:Value}{n:Nat}(h:AllX e size xf none 0 w v n)(hk:∀g,v.ownBlock=some g->w'.heap[g]?=w.heap[g]?):AllX e size xf none 0 w' v n:=by
 rcases h with h|⟨g,cap,rfl,ho,hn,⟨cur,h1,h2⟩,hc⟩
 ·exact .inl h
 ·have hb:=hk g rfl;exact .inr ⟨g,cap,rfl,ho,hn,⟨cur,hb.trans h1,h2⟩,fun i hi=>by rw [World.cell?_of_block (a:=⟨g,i,none⟩) hb];exact hc i hi⟩
theorem AllX.free{e size:Nat}{xf:Nat->Value}{row:Option Nat}{H:Nat}{w:World}{v:Value}{n:Nat}(h:AllX e size xf row H w v n):AllX e size xf none 0 w v n:=by
 rcases h with h|⟨g,cap,rfl,_,hn,hr,hc⟩
 ·exact .inl h
 ·exact .inr ⟨g,cap,rfl,.inr (Nat.zero_le _),hn,hr,hc⟩
theorem Ent.kept{e size:Nat}{xf:Nat->Nat->Value}{w w':World}{Bad Bad':Nat->Prop}{i:Nat}{v v1 v2 v3:Value}(h:Ent e size xf w Bad i v v1 v2 v3)
  (hk:∀g,g<w.heap.size->¬Bad g->w'.heap[g]?=w.heap[g]?) (hb:∀g,g<w.heap.size->Bad' g->Bad g):Ent e size xf w' Bad' i v v1 v2 v3:=by
 obtain ⟨n,hn,h0,h1,h2,h3,hB⟩:=h;refine ⟨n,hn,h0.same (fun g hg=>hk g (h0.blk hg).1 (hB g (.inl hg))),h1.same (fun g hg=>hk g (h1.blk hg).1 (hB g (.inr (.inl hg)))),h2.same (fun g hg=>hk g (h2.blk hg).1 (hB g (.inr (.inr (.inl hg))))),h3.same (fun g hg=>hk g (h3.blk hg).1 (hB g (.inr (.inr (.inr hg))))),?_⟩;intro g hg hb';have hlt:g<w.heap.size:=by
  rcases hg with h|h|h|h
  ·exact (h0.blk h).1
  ·exact (h1.blk h).1
  ·exact (h2.blk h).1
  ·exact (h3.blk h).1
 exact hB g hg (hb g hlt hb')
def BookX(e size:Nat)(xf:Nat->Nat->Value)(te:Nat)(w:World)(base:Nat)(Bad:Nat->Prop)(V:Value)(nb:Nat):Prop:=
 ∃xs,w.ownsRow base te 5 V nb xs/\∀i,i<nb->∃v v1 v2 v3,xs[i*5]?=some v/\xs[i*5+1]?=some v1/\xs[i*5+2]?=some v2/\xs[i*5+3]?=some v3/\xs[i*5+4]?=some (.int .i64 (i:Int))/\Ent e size xf w Bad i v v1 v2 v3
theorem BookX.kept{e size:Nat}{xf:Nat->Nat->Value}{te:Nat}{w w':World}{base:Nat}{Bad Bad':Nat->Prop}{V:Value}{nb:Nat}(h:BookX e size xf te w base Bad V nb)
  (hV:∀g,V.ownBlock=some g->w'.heap[g]?=w.heap[g]?) (hk:∀g,g<w.heap.size->¬Bad g->w'.heap[g]?=w.heap[g]?) (hb:∀g,g<w.heap.size->Bad' g->Bad g):BookX e size xf te w' base Bad' V nb:=by
 obtain ⟨xs,ho,he⟩:=h;refine ⟨xs,⟨ho.1,?_⟩,fun i hi=>?_⟩
 ·rcases ho.2 with h|⟨g,cap,cur,rfl,hbg,hgg,r⟩
  ·exact .inl h
  ·exact .inr ⟨g,cap,cur,rfl,hbg,(hV g rfl).trans hgg,r⟩
 ·obtain ⟨v,v1,v2,v3,q0,q1,q2,q3,q4,hE⟩:=he i hi;exact ⟨v,v1,v2,v3,q0,q1,q2,q3,q4,hE.kept hk hb⟩
structure Fix where
 W:Nat
 SB:Nat
 RB:Nat
 cs:Nat
 cr:Nat
 B:Nat->Nat
 R:Nat->Nat
 vm:Value
 vs:Value
def Fix.mem(f:Fix)(g:Nat):Prop:=g=f.W\/g=f.SB\/g=f.RB\/ ∃k,k<2/\(g=f.B k\/g=f.R k)
structure Fix.Apart (f:Fix):Prop where
 ws:f.W≠f.SB
 wr:f.W≠f.RB
 sr:f.SB≠f.RB
 wb:∀k,k<2->f.W≠f.B k/\f.W≠f.R k
 sb:∀k,k<2->f.SB≠f.B k/\f.SB≠f.R k
 rb:∀k,k<2->f.RB≠f.B k/\f.RB≠f.R k
 br:∀k j,k<2->j<2->f.B k≠f.R j
 bb:∀k j,k<2->j<2->f.B k=f.B j->k=j
 rr:∀k j,k<2->j<2->f.R k=f.R j->k=j
def Bad(f:Fix)(X:Nat->Prop)(vb vp:Value)(g:Nat):Prop:=f.mem g\/vb.ownBlock=some g\/vp.ownBlock=some g\/X g
structure Inv (w0:World) (f:Fix) (X:Nat->Prop) (s t:Nat->Sc) (vb vp:Value) (nb np:Nat) (w:World):Prop where
 bel:Below w0.heap.size w0 w
 ap:f.Apart
 lo:∀g,f.mem g->w0.heap.size<=g
 blk:w.heap[f.W]?=some (.cells #[f.vm,f.vs,.slice (some ⟨f.SB,0,none⟩) 2 f.cs,.slice (some ⟨f.RB,0,none⟩) 2 f.cr,vb,vp] 82 (0,0))
 sb:∀k,k<2->w.cell? ⟨f.SB,k,none⟩=some (.pointer (some ⟨f.B k,0,none⟩))
 rb:∀k,k<2->w.cell? ⟨f.RB,k,none⟩=some (.pointer (some ⟨f.R k,0,none⟩))
 sc:∀k,k<2->ScAt w (f.B k) (s k)
 rs:∀k,k<2->RsAt w (f.R k) (t k)
 bk:BookX 5 1 xfB 139 w w0.heap.size (Bad f X vb vp) vb nb
 pk:BookX 152 3 xfP 142 w w0.heap.size (Bad f X vb vp) vp np
 vbm:∀g,vb.ownBlock=some g->¬f.mem g/\vp.ownBlock≠some g/\¬X g
 vpm:∀g,vp.ownBlock=some g->¬f.mem g/\¬X g
 xm:∀g,X g->¬f.mem g/\w0.heap.size<=g
section
variable {w0:World} {f:Fix} {X:Nat->Prop} {s t:Nat->Sc} {vb vp:Value} {nb np:Nat} {w:World}
theorem ScAt.sameBlock{w w':World}{B:Nat}{s:Sc}(h:ScAt w B s)(hb:w'.heap[B]?=w.heap[B]?):ScAt w' B s:=by
 exact zl4
theorem RsAt.sameBlock{w w':World}{R:Nat}{s:Sc}(h:RsAt w R s)(hb:w'.heap[R]?=w.heap[R]?):RsAt w' R s:=by
 have hc:∀o,w'.cell? ⟨R,o,none⟩=w.cell? ⟨R,o,none⟩:=fun o=>World.cell?_of_block (a:=⟨R,o,none⟩) hb
 have hf:∀o,w'.frozen? ⟨R,o,none⟩=w.frozen? ⟨R,o,none⟩:=fun o=>World.frozen?_of_block (a:=⟨R,o,none⟩) hb
 exact ⟨h.st3,h.len,⟨by rw [hc];exact h.cells.c0,by rw [hc];exact h.cells.c1,by rw [hc];exact h.cells.c2,fun o=>by rw [hf];exact h.cells.free o⟩⟩
theorem BookX.vlt{e size:Nat}{xf:Nat->Nat->Value}{te:Nat}{w:World}{base:Nat}{Bad:Nat->Prop}{V:Value}{nb g:Nat}(h:BookX e size xf te w base Bad V nb)(hg:V.ownBlock=some g):base<=g/\g<w.heap.size:=by
 obtain ⟨xs,ho,_⟩:=h;exact ho.lt g hg
theorem Inv.wlt(h:Inv w0 f X s t vb vp nb np w):f.W<w.heap.size:=(Array.getElem?_eq_some_iff.1 h.blk).1
theorem Inv.kept{w':World}{X':Nat->Prop}(h:Inv w0 f X s t vb vp nb np w)(h1:w'.os=w.os)(h2:w'.tape=w.tape)(h3:w'.output=w.output)(h4:w.heap.size<=w'.heap.size)
  (hk:∀g,g<w.heap.size->¬X g->w'.heap[g]?=w.heap[g]?) (hx:∀g,X' g->X g\/w.heap.size<=g):Inv w0 f X' s t vb vp nb np w':=by
 have hmem:∀g,f.mem g->g<w.heap.size->w'.heap[g]?=w.heap[g]?:=fun g hg hl=>hk g hl (fun hX=>(h.xm g hX).1 hg)
 have hsb:f.SB<w.heap.size:=World.block_lt_of_cell? w ⟨f.SB,0,none⟩ (h.sb 0 zza);have hrb:f.RB<w.heap.size:=World.block_lt_of_cell? w ⟨f.RB,0,none⟩ (h.rb 0 zza);have hbad:∀g,g<w.heap.size->Bad f X' vb vp g->Bad f X vb vp g:=by
  rintro g hl (h|h|h|h)
  ·exact .inl h
  ·exact .inr (.inl h)
  ·exact .inr (.inr (.inl h))
  ·rcases hx g h with h'|h'
   ·exact .inr (.inr (.inr h'))
   ·omega
 have hkb:∀g,g<w.heap.size->¬Bad f X vb vp g->w'.heap[g]?=w.heap[g]?:=fun g hl hB=>hk g hl (fun hX=>hB (.inr (.inr (.inr hX))))
 have hmlt:∀g,f.mem g->g<w.heap.size:=by
  rintro g (rfl|rfl|rfl|⟨k,hk2,rfl|rfl⟩)
  ·exact h.wlt
  ·exact hsb
  ·exact hrb
  ·exact (h.sc k hk2).lt
  ·exact (h.rs k hk2).cells.lt
 refine ⟨?_,h.ap,h.lo,(hmem f.W (.inl rfl) h.wlt).trans h.blk,?_,?_,?_,?_,?_,?_,?_,?_,?_⟩
 ·refine ⟨h1.trans h.bel.os,h2.trans h.bel.tape,h3.trans h.bel.output,Nat.le_trans h.bel.size h4,fun k hk'=>(hk k (Nat.lt_of_lt_of_le hk' h.bel.size) (fun hX=>by have:=(h.xm k hX).2;omega)).trans (h.bel.block k hk')⟩
 ·intro k hk2;rw [World.cell?_of_block (a:=⟨f.SB,k,none⟩) (hmem f.SB (.inr (.inl rfl)) hsb)];exact h.sb k hk2
 ·intro k hk2;rw [World.cell?_of_block (a:=⟨f.RB,k,none⟩) (hmem f.RB (.inr (.inr (.inl rfl))) hrb)];exact h.rb k hk2
 ·intro k hk2;exact (h.sc k hk2).sameBlock (hmem _ (.inr (.inr (.inr ⟨k,hk2,.inl rfl⟩))) (h.sc k hk2).lt)
 ·intro k hk2;exact (h.rs k hk2).sameBlock (hmem _ (.inr (.inr (.inr ⟨k,hk2,.inr rfl⟩))) (h.rs k hk2).cells.lt)
 ·exact h.bk.kept (fun g hg=>hk g (h.bk.vlt hg).2 (h.vbm g hg).2.2) hkb hbad
 ·exact h.pk.kept (fun g hg=>hk g (h.pk.vlt hg).2 (h.vpm g hg).2) hkb hbad
 ·intro g hg;refine ⟨(h.vbm g hg).1,(h.vbm g hg).2.1,fun hX=>?_⟩;rcases hx g hX with h'|h'
  ·exact (h.vbm g hg).2.2 h'
  ·have:=(h.bk.vlt hg).2;omega
 ·intro g hg;refine ⟨(h.vpm g hg).1,fun hX=>?_⟩;rcases hx g hX with h'|h'
  ·exact (h.vpm g hg).2 h'
  ·have:=(h.pk.vlt hg).2;omega
 ·intro g hX;rcases hx g hX with h'|h'
  ·exact h.xm g h'
  ·exact ⟨fun hm=>by have:=hmlt g hm;omega,by have:=h.bel.size;omega⟩
theorem Inv.below{w':World}(h:Inv w0 f X s t vb vp nb np w)(hb:Below w.heap.size w w'):Inv w0 f X s t vb vp nb np w':=
 h.kept hb.os hb.tape hb.output hb.size (fun g hl _=>hb.block g hl) (fun _ hX=>.inl hX)
theorem Inv.fresh{w':World}(h:Inv w0 f X s t vb vp nb np w)(hb:Below w.heap.size w w'):Inv w0 f (fun g=>X g\/w.heap.size<=g) s t vb vp nb np w':=
 h.kept hb.os hb.tape hb.output hb.size (fun g hl _=>hb.block g hl) (fun _ hX=>hX)
theorem Inv.lessX{X':Nat->Prop}(h:Inv w0 f X s t vb vp nb np w)(hx:∀g,X' g->X g):Inv w0 f X' s t vb vp nb np w:=
 h.kept rfl rfl rfl (Nat.le_refl _) (fun _ _ _=>rfl) (fun g hX=>.inl (hx g hX))
end
section
variable {w0:World} {f:Fix} {X:Nat->Prop} {s t:Nat->Sc} {vb vp:Value} {nb np:Nat} {w w3:World}
theorem YE{xs:List Value}{n:Nat}{v v1 v2 v3:Value}(hl:xs.length=n*5)(i:Nat)(hi:i<n)(k:Nat)(hk:k<5):(xs++ [v,v1,v2,v3,.int .i64 (n:Int)])[i*5+k]?=xs[i*5+k]?:=
 List.getElem?_append_left zza
theorem ziQ{xs:List Value}{n:Nat}{v v1 v2 v3:Value}(hl:xs.length=n*5):(xs++ [v,v1,v2,v3,.int .i64 (n:Int)])[n*5]?=some v/\(xs++ [v,v1,v2,v3,.int .i64 (n:Int)])[n*5+1]?=some v1/\(xs++ [v,v1,v2,v3,.int .i64 (n:Int)])[n*5+2]?=some v2/\(xs++ [v,v1,v2,v3,.int .i64 (n:Int)])[n*5+3]?=some v3/\(xs++ [v,v1,v2,v3,.int .i64 (n:Int)])[n*5+4]?=some (.int .i64 (n:Int)):=by
 refine ⟨?_,?_,?_,?_,?_⟩
 ·rw [List.getElem?_append_right zza,hl,Nat.sub_self];rfl
 ·rw [List.getElem?_append_right zza,hl,show n*5+1-n*5=1 from by omega];rfl
 ·rw [List.getElem?_append_right zza,hl,show n*5+2-n*5=2 from by omega];rfl
 ·rw [List.getElem?_append_right zza,hl,show n*5+3-n*5=3 from by omega];rfl
 ·rw [List.getElem?_append_right zza,hl,show n*5+4-n*5=4 from by omega];rfl
theorem zcZ{e size:Nat}{xf:Nat->Nat->Value}{te base:Nat}{B B':Nat->Prop}{V V':Value}{n:Nat}{w':World}{xs:List Value}{v v1 v2 v3:Value}
  (ho:w.ownsRow base te 5 V n xs) (he:∀i,i<n->∃v v1 v2 v3,xs[i*5]?=some v/\xs[i*5+1]?=some v1/\xs[i*5+2]?=some v2/\xs[i*5+3]?=some v3/\xs[i*5+4]?=some (.int .i64 (i:Int))/\Ent e size xf w B i v v1 v2 v3)
  (hn:w'.ownsRow base te 5 V' (n+1) (xs++ [v,v1,v2,v3,.int .i64 (n:Int)])) (hE:Ent e size xf w B n v v1 v2 v3)
  (hk:∀g,g<w.heap.size->¬B g->w'.heap[g]?=w.heap[g]?) (hb:∀g,g<w.heap.size->B' g->B g):BookX e size xf te w' base B' V' (n+1):=by
 have hl:xs.length=n*5:=ho.1;refine ⟨_,hn,fun i hi=>?_⟩;by_cases hin:i<n
 ·obtain ⟨a,a1,a2,a3,q0,q1,q2,q3,q4,hA⟩:=he i hin;have p0:=YE (v:=v) (v1:=v1) (v2:=v2) (v3:=v3) hl i hin 0 zza;exact ⟨a,a1,a2,a3,p0.trans q0,(YE hl i hin 1 zza).trans q1,(YE hl i hin 2 zza).trans q2,(YE hl i hin 3 zza).trans q3,(YE hl i hin 4 zza).trans q4,hA.kept hk hb⟩
 ·have:i=n:=by omega
  subst this;obtain ⟨q0,q1,q2,q3,q4⟩:=ziQ (v:=v) (v1:=v1) (v2:=v2) (v3:=v3) hl;exact ⟨v,v1,v2,v3,q0,q1,q2,q3,q4,hE.kept hk hb⟩
theorem XW{w:World}{W k:Nat}{cs:Array Value}{T:TypeId}(h:w.heap[W]?=some (.cells cs T (0,0)))(v:Value):(w.setCell ⟨W,k,none⟩ v).heap[W]?=some (.cells (cs.setIfInBounds k v) T (0,0)):=by
 simp only [World.setCell,Array.getElem?_modify,h];simp
theorem Inv.mlt(h:Inv w0 f X s t vb vp nb np w):∀g,f.mem g->g<w.heap.size:=by
 rintro g (rfl|rfl|rfl|⟨k,hk2,rfl|rfl⟩)
 ·exact h.wlt
 ·exact World.block_lt_of_cell? w ⟨f.SB,0,none⟩ (h.sb 0 zza)
 ·exact World.block_lt_of_cell? w ⟨f.RB,0,none⟩ (h.rb 0 zza)
 ·exact (h.sc k hk2).lt
 ·exact (h.rs k hk2).cells.lt
theorem Inv.pushB{xs:List Value}{v v1 v2 v3:Value}{g' cap':Nat}(h:Inv w0 f X s t vb vp nb np w)(hXlt:∀g,X g->g<w.heap.size)
  (ho:w.ownsRow w0.heap.size 139 5 vb nb xs) (he:∀i,i<nb->∃v v1 v2 v3,xs[i*5]?=some v/\xs[i*5+1]?=some v1/\xs[i*5+2]?=some v2/\xs[i*5+3]?=some v3/\xs[i*5+4]?=some (.int .i64 (i:Int))/\Ent 5 1 xfB w (Bad f X vb vp) i v v1 v2 v3)
  (hE:Ent 5 1 xfB w (Bad f X vb vp) nb v v1 v2 v3)
  (hn:w3.ownsRow w0.heap.size 139 5 (.slice (some ⟨g',0,none⟩) (nb+1) cap') (nb+1) (xs++ [v,v1,v2,v3,.int .i64 (nb:Int)])) (hg:w.grownBy w3 vb.ownBlock) (hat:vb.ownBlock=some g'\/g'=w.heap.size):
  Inv w0 f X s t (.slice (some ⟨g',0,none⟩) (nb+1) cap') vp (nb+1) np (w3.setCell ⟨f.W,4,none⟩ (.slice (some ⟨g',0,none⟩) (nb+1) cap')):=by
 have hWm:f.mem f.W:=.inl rfl;have hvW:∀k,f.mem k->some k≠vb.ownBlock:=fun k hk e=>(h.vbm k e.symm).1 hk
 have hgW:g'≠f.W:=by
  rcases hat with e|e
  ·intro e2;subst e2;exact (h.vbm _ e).1 hWm
  ·have:=h.wlt;omega
 have hkeep:∀k,k<w.heap.size->k≠f.W->vb.ownBlock≠some k->(w3.setCell ⟨f.W,4,none⟩ (.slice (some ⟨g',0,none⟩) (nb+1) cap')).heap[k]?=w.heap[k]?:=fun k hl hW hv=>
  (Below.heap_setCell _ _ _ _ hW).trans (hg.block k hl (fun e=>hv e.symm))
 have hmem:∀k,f.mem k->k≠f.W->(w3.setCell ⟨f.W,4,none⟩ (.slice (some ⟨g',0,none⟩) (nb+1) cap')).heap[k]?=w.heap[k]?:=fun k hk hW=>hkeep k (h.mlt k hk) hW (fun e=>hvW k hk e.symm)
 have hkb:∀k,k<w.heap.size->¬Bad f X vb vp k->(w3.setCell ⟨f.W,4,none⟩ (.slice (some ⟨g',0,none⟩) (nb+1) cap')).heap[k]?=w.heap[k]?:=fun k hl hB=>hkeep k hl (fun e=>hB (.inl (by rw [e];exact hWm))) (fun e=>hB (.inr (.inl e)))
 have hbad:∀k,k<w.heap.size->Bad f X (.slice (some ⟨g',0,none⟩) (nb+1) cap') vp k->Bad f X vb vp k:=by
  rintro k hl (q|q|q|q)
  ·exact .inl q
  ·simp [Value.ownBlock] at q;rcases hat with e|e
   ·subst q;exact .inr (.inl e)
   ·omega
  ·exact .inr (.inr (.inl q))
  ·exact .inr (.inr (.inr q))
 have hgX:¬X g':=by
  rcases hat with e|e
  ·exact (h.vbm _ e).2.2
  ·intro hX;have:=hXlt g' hX;omega
 have hgp:vp.ownBlock≠some g':=by
  rcases hat with e|e
  ·exact (h.vbm _ e).2.1
  ·intro e2;have:=(h.pk.vlt e2).2;omega
 have hgm:¬f.mem g':=by
  rcases hat with e|e
  ·exact (h.vbm _ e).1
  ·intro hm;have:=h.mlt g' hm;omega
 have hsz:=hg.size;refine ⟨?_,h.ap,h.lo,?_,?_,?_,?_,?_,?_,?_,?_,?_,?_⟩
 ·have h1:=h.bel.size;exact (h.bel.grown hg h1 (fun k e=>(ho.lt k e).1)).setCell (h.lo _ hWm) _
 ·have:=(hg.block f.W h.wlt (hvW _ hWm)).trans h.blk;exact XW this _
 ·intro k hk2;rw [World.cell?_of_block (a:=⟨f.SB,k,none⟩) (hmem f.SB (.inr (.inl rfl)) (fun e=>h.ap.ws e.symm))];exact h.sb k hk2
 ·intro k hk2;rw [World.cell?_of_block (a:=⟨f.RB,k,none⟩) (hmem f.RB (.inr (.inr (.inl rfl))) (fun e=>h.ap.wr e.symm))];exact h.rb k hk2
 ·intro k hk2;exact (h.sc k hk2).sameBlock (hmem _ (.inr (.inr (.inr ⟨k,hk2,.inl rfl⟩))) (fun e=>(h.ap.wb k hk2).1 e.symm))
 ·intro k hk2;exact (h.rs k hk2).sameBlock (hmem _ (.inr (.inr (.inr ⟨k,hk2,.inr rfl⟩))) (fun e=>(h.ap.wb k hk2).2 e.symm))
 ·refine zcZ ho he ⟨hn.1,?_⟩ hE hkb hbad;rcases hn.2 with q|⟨g2,c2,cur,q,hbg,hgg,r⟩
  ·exact .inl q
  ·refine .inr ⟨g2,c2,cur,q,hbg,?_,r⟩;have eg:g'=g2:=by injection q with q1;injection q1 with q1;injection q1 with q1
   rw [Below.heap_setCell _ _ _ _ (by simp only;omega)];exact hgg
 ·exact h.pk.kept (fun k hk=>hkeep k (h.pk.vlt hk).2 (fun e=>by subst e;exact (h.vpm _ hk).1 hWm) (fun e=>(h.vbm k e).2.1 hk)) hkb hbad
 ·intro k hk;simp [Value.ownBlock] at hk;subst hk;exact ⟨hgm,hgp,hgX⟩
 ·intro k hk;exact ⟨(h.vpm k hk).1,(h.vpm k hk).2⟩
 ·intro k hk;exact h.xm k hk
end
structure DF where
 Q:Nat
 Z:Nat
 R:Nat
 M:Nat
 vh:Value
 vp:Value
 vb:Value
 vw:Value
 vr:Value
 vl:Value
 ps:List Value
def DF.cells(f:DF)(S:SB):Array Value:=
 #[.pointer (some ⟨f.R,0,none⟩),.pointer (some ⟨f.Z,0,none⟩),.bool S.nmi,.bool S.irq,f.vp,f.vb,f.vw,.bool S.re,f.vr,.int .i64 (S.due.toNat:Int),.bool S.bg,f.vl]
def XA:List Pat->List Value->List Value
 |p::l,v::r=>.int .i64 p.at_::v::XA l r
 |_,_=>[]
structure PtA (w:World) (base:Nat) (vp:Value) (ps:List Value) (l:List Pat):Prop where
 len:ps.length=l.length
 own:w.ownsRow base 272 2 vp l.length (XA l ps)
 each:∀i,(h:i<l.length)->∃v,ps[i]?=some v/\w.ownsRow base 3 1 v l[i].bytes.length (xY l[i].bytes)
def LB(w:World)(base:Nat)(v:Value)(l:List UInt8):Prop:= ∃g c,v=.slice (some ⟨g,0,none⟩) l.length c/\l.length<=c/\base<=g/\g<w.heap.size/\zy w g 0 l
def qq(r:Rcs):List Value:=r.list.map fun b=>.string ⟨(xE b).toArray⟩
structure DC (w:World) (base:Nat) (tag:Nat->Nat) (f:DF) (S:SB):Prop where
 mch:Mch w base f.R f.M f.vh S.pc
 sc:RsAt w f.Z S.sc
 pat:PtA w base f.vp f.ps S.pa
 bk:∃l,w.ownsRow base 3 1 f.vb l.length (xY l)/\PtL l S.bp
 wt:∃l,w.ownsRow base 3 1 f.vw l.length (xY l)/\PtL l S.wp
 rg:w.ownsRow base 9 1 f.vr S.rc.n (qq S.rc)
 ls:(S.bg=false/\f.vl=.slice none 0 0)\/LB w base f.vl (zH (S.due-1) S.rp)
 lo:base<=f.Q/\base<=f.Z/\base<=f.R/\base<=f.M
 tQ:tag f.Q=1
 tZ:tag f.Z=2
 tR:tag f.R=3
 tM:tag f.M=4
 th:∀g,f.vh.ownBlock=some g->tag g=5
 tp:∀g,f.vp.ownBlock=some g->tag g=6
 tb:∀g,f.vb.ownBlock=some g->tag g=7
 tw:∀g,f.vw.ownBlock=some g->tag g=8
 tr:∀g,f.vr.ownBlock=some g->tag g=9
 tl:∀g,f.vl.ownBlock=some g->tag g=10
 ts:∀ (i:Nat) v,f.ps[i]?=some v->∀g,v.ownBlock=some g->tag g=11
structure DS (w:World) (base:Nat) (tag:Nat->Nat) (f:DF) (S:SB):Prop where
 blk:Blk w f.Q (f.cells S) 198
 c:DC w base tag f S
theorem DS.mch{w:World}{base:Nat}{tag:Nat->Nat}{f:DF}{S:SB}(h:DS w base tag f S):Mch w base f.R f.M f.vh S.pc:=h.c.mch
structure Chg (tag tag':Nat->Nat) (w w':World):Prop where
 os:w'.os=w.os
 tape:w'.tape=w.tape
 output:w'.output=w.output
 size:w.heap.size<=w'.heap.size
 block:∀g,g<w.heap.size->tag g=0->w'.heap[g]?=w.heap[g]?
 tags:∀g,g<w.heap.size->tag g=0->tag' g=0
theorem Chg.refl(tag:Nat->Nat)(w:World):Chg tag tag w w:=⟨rfl,rfl,rfl,Nat.le_refl _,fun _ _ _=>rfl,fun _ _ h=>h⟩
theorem Chg.trans{t1 t2 t3:Nat->Nat}{a b c:World}(h:Chg t1 t2 a b)(k:Chg t2 t3 b c):Chg t1 t3 a c:=
 ⟨k.os.trans h.os,k.tape.trans h.tape,k.output.trans h.output,Nat.le_trans h.size k.size,fun g h1 h2=>(k.block g (Nat.lt_of_lt_of_le h1 h.size) (h.tags g h1 h2)).trans (h.block g h1 h2),fun g h1 h2=>k.tags g (Nat.lt_of_lt_of_le h1 h.size) (h.tags g h1 h2)⟩
theorem Chg.below(tag:Nat->Nat){a b:World}(h:Below a.heap.size a b):Chg tag tag a b:=⟨h.os,h.tape,h.output,h.size,fun g h1 _=>h.block g h1,fun _ _ h=>h⟩
def Dn(tag:Nat->Nat)(w:World)(base Q:Nat)(S:SB)(w':World):Prop:= ∃tag' f',f'.Q=Q/\DS w' base tag' f' S/\Chg tag tag' w w'
section
variable {w w':World} {base:Nat} {tag tag':Nat->Nat} {f:DF} {S:SB}
theorem LB.same{v:Value}{l:List UInt8}(h:LB w base v l)(hs:w.heap.size<=w'.heap.size)(e:∀g,v.ownBlock=some g->w'.heap[g]?=w.heap[g]?):LB w' base v l:=by
 obtain ⟨g,c,rfl,h1,h2,h3,h4⟩:=h;exact ⟨g,c,rfl,h1,h2,by omega,fun i hi=>(World.cell?_of_block (a:=⟨g,0+i,none⟩) (show w'.heap[g]?=_ from e g rfl)).trans (h4 i hi)⟩
theorem LB.blk{v:Value}{l:List UInt8}(h:LB w base v l):∀g,v.ownBlock=some g->g<w.heap.size:=by
 obtain ⟨g,c,rfl,_,_,h3,_⟩:=h;intro g' e;injection e with e;exact e ▸ h3
theorem PtA.same{vp:Value}{ps:List Value}{l:List Pat}(h:PtA w base vp ps l)(e:∀g,vp.ownBlock=some g->w'.heap[g]?=w.heap[g]?)(e2:∀ (i:Nat) v,ps[i]?=some v->∀g,v.ownBlock=some g->w'.heap[g]?=w.heap[g]?):PtA w' base vp ps l:=
 ⟨h.len,zG h.own e,fun i hi=>by obtain ⟨v,h1,h2⟩:=h.each i hi;exact ⟨v,h1,zG h2 (e2 i v h1)⟩⟩
theorem PtA.blk{vp:Value}{ps:List Value}{l:List Pat}(h:PtA w base vp ps l){i:Nat}{v:Value}(hv:ps[i]?=some v):∀g,v.ownBlock=some g->g<w.heap.size:=fun g e=>by
 have hi:i<l.length:=by
  rw [<-h.len];rcases Nat.lt_or_ge i ps.length with q|q
  ·exact q
  ·rw [List.getElem?_eq_none q] at hv;cases hv
 obtain ⟨u,h1,h2⟩:=h.each i hi;rw [hv] at h1;injection h1 with h1;subst h1;exact (h2.lt g e).2
theorem DC.kept(h:DC w base tag f S)(hQ:f.Q<w.heap.size)(hs:w.heap.size<=w'.heap.size)(hk:∀g,g<w.heap.size->tag g≠0->tag g≠1->w'.heap[g]?=w.heap[g]?)(ht:∀g,g<w.heap.size->tag' g=tag g):DC w' base tag' f S:=by
 obtain ⟨m1,m2,m3,m4⟩:=h.mch.lt;have k:∀g n,g<w.heap.size->tag g=n+2->w'.heap[g]?=w.heap[g]?:=fun g n h1 h2=>hk g h1 zza zza
 have own:∀ {te size n:Nat} {v:Value} {xs:List Value} {m:Nat},w.ownsRow base te size v n xs->(∀g,v.ownBlock=some g->tag g=m+2)->∀g,v.ownBlock=some g->w'.heap[g]?=w.heap[g]?:=fun ho hm g e=>k g _ (ho.lt g e).2 (hm g e)
 have hZ:=h.sc.cells.lt;obtain ⟨lb,b1,b2⟩:=h.bk;obtain ⟨lw,w1,w2⟩:=h.wt
 refine ⟨h.mch.same (k _ _ m1 h.tR) (k _ _ m2 h.tM) (fun g e=>k g _ (m4 g e).1 (h.th g e)),h.sc.sameBlock (k _ _ hZ h.tZ),h.pat.same (own h.pat.own h.tp) (fun i v hv g e=>k g _ (h.pat.blk hv g e) (h.ts i v hv g e)),⟨lb,zG b1 (own b1 h.tb),b2⟩,⟨lw,zG w1 (own w1 h.tw),w2⟩,zG h.rg (own h.rg h.tr),?_,h.lo,
  (ht _ hQ).trans h.tQ,(ht _ hZ).trans h.tZ,(ht _ m1).trans h.tR,(ht _ m2).trans h.tM,fun g e=>(ht g (m4 g e).1).trans (h.th g e),fun g e=>(ht g (h.pat.own.lt g e).2).trans (h.tp g e),fun g e=>(ht g (b1.lt g e).2).trans (h.tb g e),fun g e=>(ht g (w1.lt g e).2).trans (h.tw g e),fun g e=>(ht g (h.rg.lt g e).2).trans (h.tr g e),fun g e=>?_,fun i v hv g e=>(ht g (h.pat.blk hv g e)).trans (h.ts i v hv g e)⟩
 ·rcases h.ls with q|q
  ·exact .inl q
  ·exact .inr (q.same hs (fun g e=>k g _ (q.blk g e) (h.tl g e)))
 ·rcases h.ls with q|q
  ·rw [q.2] at e;cases e
  ·exact (ht g (q.blk g e)).trans (h.tl g e)
theorem DS.kept(h:DS w base tag f S)(hs:w.heap.size<=w'.heap.size)(hk:∀g,g<w.heap.size->tag g≠0->w'.heap[g]?=w.heap[g]?)(ht:∀g,g<w.heap.size->tag' g=tag g):DS w' base tag' f S:=
 ⟨h.blk.same (hk _ h.blk.lt (by rw [h.c.tQ];decide)),h.c.kept h.blk.lt hs (fun g h1 h2 _=>hk g h1 h2) ht⟩
theorem DC.put{w1:World}{i:Nat}{v:Value}(h:DS w base tag f S)(hb:Below w.heap.size w w1)(ht:∀g,g<w.heap.size->tag' g=tag g):DC (w1.setCell ⟨f.Q,i,none⟩ v) base tag' f S:=
 h.c.kept h.blk.lt (by simpa using hb.size) (fun g h1 _ h3=>(Below.heap_setCell _ _ _ _ (fun e=>h3 (by rw [e];exact h.c.tQ))).trans (hb.block g h1)) ht
theorem Chg.put{w1:World}{i:Nat}{v:Value}(h:DS w base tag f S)(hb:Below w.heap.size w w1)(ht:∀g,g<w.heap.size->tag' g=tag g):Chg tag tag' w (w1.setCell ⟨f.Q,i,none⟩ v):=
 ⟨hb.os,hb.tape,hb.output,by simpa using hb.size,fun g h1 h2=>(Below.heap_setCell _ _ _ _ (fun e=>by rw [e,h.c.tQ] at h2;cases h2)).trans (hb.block g h1),fun g h1 h2=>(ht g h1).trans h2⟩
def GX(w:World)(tag:Nat->Nat)(k:Nat):Nat->Nat:=fun g=>if w.heap.size<=g then k else tag g
theorem zbC{w:World}{tag:Nat->Nat}{k:Nat}:∀g,g<w.heap.size->GX w tag k g=tag g:=fun g h=>if_neg zza
theorem zbD{w:World}{tag:Nat->Nat}{k g:Nat}(h:w.heap.size<=g):GX w tag k g=k:=if_pos h
theorem DS.below(h:DS w base tag f S)(hb:Below w.heap.size w w'):DS w' base tag f S:=h.kept hb.size (fun g hg _=>hb.block g hg) (fun _ _=>rfl)
end
theorem zak(n:Nat)(w:World)(hn:n<=4611686018427387904):Calls prog 97 #[.int .i64 n,.int .i64 2] w fun e w'=>e=.returned (.string ⟨(zX n 2).toArray⟩)/\w'=w:=Yy n 2 w hn zzb
theorem zne(n:Nat)(w:World)(hn:n<=4611686018427387904):Calls prog 97 #[.int .i64 n,.int .i64 4] w fun e w'=>e=.returned (.string ⟨(zX n 4).toArray⟩)/\w'=w:=Yy n 4 w hn zzb
theorem dig8(n:Nat)(w:World)(hn:n<=4611686018427387904):Calls prog 97 #[.int .i64 n,.int .i64 8] w fun e w'=>e=.returned (.string ⟨(zX n 8).toArray⟩)/\w'=w:=Yy n 8 w hn zzb
def zeT(a x y s p pc cyc:Nat):List UInt8:=zX a 2++zX x 2++zX y 2++zX s 2++zX p 2++zX pc 4++zX cyc 8
theorem qG{x:Int}{n:Int}(h:0<=x/\x<n):∃k:Nat,x=(k:Int)/\(k:Int)<n:=⟨x.toNat,by omega,by omega⟩
theorem zld{w:World}{base:Nat}{tag:Nat->Nat}{f:DF}{S:SB}(h:DS w base tag f S)(rn:Rn S.pc)(c0:0<=S.pc.cyc)(c1:S.pc.cyc<=4611686018427387904):Calls prog 161 #[.pointer (some ⟨f.Q,0,none⟩)] w fun e w'=>e=.returned (.string ⟨(xF S.pc).toArray⟩)/\Below w.heap.size w w':=by
 have q0:w.cell? ⟨f.Q,0,none⟩=some (.pointer (some ⟨f.R,0,none⟩)):=h.blk.cell 0;obtain ⟨t,h0,hv,al,hj⟩:=h.mch;have rg:=al.rg rn;have hc:=al.cyc;obtain ⟨a,ea,la⟩:=qG rg.A;obtain ⟨x,ex,lx⟩:=qG rg.X;obtain ⟨y,ey,ly⟩:=qG rg.Y;obtain ⟨s,es,ls⟩:=qG rg.S;obtain ⟨p,ep,lp⟩:=qG rg.P;obtain ⟨pc,epc,lpc⟩:=qG rg.PC;obtain ⟨cy,ecy⟩:∃k:Nat,S.pc.cyc=(k:Int):=⟨S.pc.cyc.toNat,by omega⟩
 have HT:Hid (xF S.pc=zeT a x y s p pc cy):=by
  show _=_;have b:=al.way.beh;unfold xF xd zeT;rw [b.a,b.x,b.y,b.sp,b.p,b.pc,ea,ex,ey,es,ep,epc,ecy];simp
 rw [HT.out];have c2:w.cell? ⟨f.R,2,none⟩=some (.int .i64 a):=by rw [<-ea];exact h0.c 2 zzb
 have c3:w.cell? ⟨f.R,3,none⟩=some (.int .i64 x):=by rw [<-ex];exact h0.c 3 zzb
 have c4:w.cell? ⟨f.R,4,none⟩=some (.int .i64 y):=by rw [<-ey];exact h0.c 4 zzb
 have c5:w.cell? ⟨f.R,5,none⟩=some (.int .i64 s):=by rw [<-es];exact h0.c 5 zzb
 have c6:w.cell? ⟨f.R,6,none⟩=some (.int .i64 p):=by rw [<-ep];exact h0.c 6 zzb
 have c7:w.cell? ⟨f.R,7,none⟩=some (.int .i64 pc):=by rw [<-epc];exact h0.c 7 zzb
 have c8:w.cell? ⟨f.R,8,none⟩=some (.int .i64 cy):=by rw [<-ecy,hc];exact h0.c 8 zzb
 have c9:w.cell? ⟨f.R,9,none⟩=some (.bool t.r.jam):=h0.c 9 zzb;have D2a:=fun w=>zak a w zza
 have D2x:=fun w=>zak x w zza
 have D2y:=fun w=>zak y w zza
 have D2s:=fun w=>zak s w zza
 have D2p:=fun w=>zak p w zza
 have D4:=fun w=>zne pc w zza
 have D8:=fun w=>dig8 cy w zza
 have l1:=yz a 2;have l2:=yz x 2;have l3:=yz y 2;have l4:=yz s 2;have l5:=yz p 2;have l6:=yz pc 4;have l7:=yz cy 8;have lR:=h0.lt;unfold zeT;generalize zX a 2=ta at*;generalize zX x 2=tx at*;generalize zX y 2=ty at*;generalize zX s 2=ts at*;generalize zX p 2=tp at*;generalize zX pc 4=tpc at*;generalize zX cy 8=tcy at*;clear h h0 hv al hj rg hc HT ea ex ey es ep epc ecy c0 c1 rn la lx ly ls lp lpc;go_enter func161,ntmps161;go_wp2_with fail;go_quiet (first|(go_at_call 97;first|with_reducible exact Calls.quiet_of_same (D2a _)|with_reducible exact Calls.quiet_of_same (D2x _)|with_reducible exact Calls.quiet_of_same (D2y _)|with_reducible exact Calls.quiet_of_same (D2s _)|with_reducible exact Calls.quiet_of_same (D2p _)|with_reducible exact Calls.quiet_of_same (D4 _)|with_reducible exact Calls.quiet_of_same (D8 _)));go_wp2;go_ret;exact ⟨by simp only [xh];rfl,below_drewN ((Below.refl _ _).alloc (Nat.le_refl _) _) _⟩
theorem znf{w:World}{base R M:Nat}{vh:Value}{s:PC}(h:Mch w base R M vh s)(b:Int):Calls prog 67 #[.pointer (some ⟨R,0,none⟩),.int .i64 b] w fun e w'=>e=.returned (.int .i64 (s.peek b))/\w'=w:=by
 obtain ⟨t,h0,_,al,_⟩:=h;rw [zaQ al];exact zkc (TM.refl h0) b
theorem zh3{s:PC}(rn:Rn s)(b:Int):0<=s.peek b/\s.peek b<256:=by
 unfold PC.peek PC.look;split
 ·exact rn.bytes.2
 ·split
  ·split<;>decide
  ·exact rn.bytes.1 _ zza
theorem zng{p:Prop} (q:p:=by
 unfold eT;go_enter func164,ntmps164;go_wp2;go_ret;exact ⟨rfl,rfl⟩):p:=q
theorem zle{w:World}{base:Nat}{tag:Nat->Nat}{f:DF}{S:SB}(h:DS w base tag f S)(rn:Rn S.pc)(a n:Int)(a0:0<=a)(a1:a<65536):Calls prog 164 #[.pointer (some ⟨f.Q,0,none⟩),.int .i64 a,.int .i64 n] w fun e w'=>e=.returned (.string ⟨(S.tellMem a n).toArray⟩)/\w'=w:=by
 have q0:w.cell? ⟨f.Q,0,none⟩=some (.pointer (some ⟨f.R,0,none⟩)):=h.blk.cell 0;have HP:=fun b=>znf h.mch b
 have HR:=fun b=>zh3 rn b
 unfold SB.tellMem;clear h rn;by_cases hn:n<1\/32<n
 ·rw [if_pos hn];rcases hn with h1|h1
  ·have h1':¬1<=n:=by omega
   exact zng
  ·have h2:¬n<1:=by omega
   exact zng
 ·rw [if_neg hn];have h1:¬n<1:=by omega
  have h2:¬32<n:=by omega
  obtain ⟨m,rfl⟩:∃m:Nat,n=(m:Int):=⟨n.toNat,by omega⟩
  have hm:m<=32:=by omega
  rw [Int.toNat_natCast];clear hn;go_enter func164,ntmps164;go_wp2_with fail;go_loopw [7,8] (fun t i wr=> ∃k:Nat,k<=m/\i=.int .i64 k/\t=.string ⟨(xV S.pc a k).toArray⟩/\wr=w) (fun _ i _=>m-(intOf i).toNat);case atStart=>exact ⟨0,by omega,rfl,rfl,rfl⟩
  case round=>
   obtain ⟨k,hk,rfl,rfl,rfl⟩:=hrel;by_cases hlt:k<m
   ·have hk1:(k:Int)<(m:Int):=by omega
    have HM:Hid (xV S.pc a (k+1)=xV S.pc a k++zX (S.pc.peek (a+k)).toNat 2):=YV _ _ _;obtain ⟨x,ex,lx⟩:=qG (HR (a+k));have HPk:=HP (a+k);rw [ex] at HPk HM;rw [Int.toNat_natCast] at HM;have D:=fun w=>zak x w zza
    have hw:IntKind.wrap .i64 (a+(k:Int))=a+k:=by rw [IntKind.wrap_i64];omega
    have lt:=yz x 2;have lm:(xV S.pc a k).length<=64:=by rw [jE];omega
    generalize zX x 2=tx at*;generalize xV S.pc a k=tm at*;clear HP HR ex;go_wp2_with (first|(go_at_call 67;refine HPk.mono ?_;rintro e w1 ⟨rfl,hw1⟩;subst w1)|(go_at_call 97;refine (D _).mono ?_;rintro e w1 ⟨rfl,hw1⟩;subst w1));go_roundw;case rel=>exact ⟨k+1,by omega,by go_num,by rw [HM.out,xh],trivial⟩
    case measure=>simp [intOf];omega
   ·obtain rfl:k=m:=by omega
    go_wp2;go_ret;exact ⟨rfl,rfl⟩
theorem jn{P:Program}{w:World}{ops:Array Oper}{rest:List Oper}{o:Oper}{a:Go.Act}{Q:Exit->Go.Act->World->Prop}(hgd:o.guard=none)(s x:Operand)(t:TypeId)
  (ho:o.op=.call {callee:=.builtin .append,args:=#[s,x],argTypes:=#[t,t] }) (e:TypeId) (i:TypeInfo) (ht:P.underlying t=some (.slice e)) (hi:P.info? e=some i)
  (b:Option Addr) (n c:Nat) (hle:n<=c) (hs:a.eval s=.slice b n c) (p:Option Addr) (c2:Nat) (hx:a.eval x=.slice p 0 c2)
  (h:wpList P ops Q rest (a.put o.dst (.slice b n c)) w):wpList P ops Q (o::rest) a w:=by
 refine wpList_plain hgd fun K hK=>?_
 have hsrc:Src P i.size t (.slice p 0 c2) 0 [] w:=by
  cases p with
  |none=>exact Src.ofNil w ht c2
  |some q=>exact Src.ofSlice w ht q 0 c2 [] zzc zzc zzc
 have hrun:=run_append_nothing (P:=P) w t t o.type e i ht hi b n c hle (.slice p 0 c2) hsrc;unfold Oper.wp;simp [execOp,ho,resolve,invoke,builtin,hs,hx,hrun,Result.andThen];exact hK _ _ h
theorem zjW:(prog.info? 9).map (fun i=>(i.zero,i.size,i.bytes))=some (some (.string ⟨#[]⟩),1,16):=by kernel_rfl
theorem JN:prog.underlying 196=some (.slice 9):=by kernel_rfl
theorem zmc{p:Prop} (q:p:=by
 rcases h.2 with ⟨e,_⟩|⟨g',cap,cur,e,_,hg,_,_,hc⟩
 ·cases e
 ·injection e with e _ _;injection e with e;injection e with e _;subst e;rw [cell_of_row w g i cur te (0,0) hg, <-Array.getElem?_toList, <-hc.2];exact (List.getElem?_take_of_lt zza).symm):p:=q
theorem Hc{w:World}{base te n g c:Nat}{xs:List Value}(h:w.ownsRow base te 1 (.slice (some ⟨g,0,none⟩) n c) n xs)(i:Nat)(hi:i<n):w.cell? ⟨g,i,none⟩=xs[i]?:=by
 exact zmc
theorem Kd{w:World}{base te size n g c:Nat}{xs:List Value}(h:w.ownsRow base te size (.slice (some ⟨g,0,none⟩) n c) n xs):n<=c:=by
 rcases h.2 with ⟨e,_⟩|⟨g',cap,cur,e,_,_,h1,_⟩
 ·cases e
 ·injection e with _ _ e;subst e;exact h1
theorem za6(g n cap k:Nat)(hk:k<=n)(hc:n<=cap):∃P0,(∀w,Sem.run prog (Instr.slice 196 (.slice (some ⟨g,0,none⟩) n cap) (some (.int .i64 (k:Int))) none none) w=.ok (.slice P0 (n-k) (cap-k)) w)/\(k<n->P0=some ⟨g,k,none⟩):=by
 have hel:prog.elem 196=9:=by kernel_rfl
 have hsz:∀w,(sizeOf 9).run prog w=.ok 1 w:=fun w=>by kernel_rfl
 by_cases h:cap=k
 ·refine ⟨some ⟨g,0,none⟩,fun w=>?_,fun e=>by omega⟩;rw [run_slice_l (P:=prog) (ht:=by rw [hel];exact JN) (h0:=by omega) (h1:=by omega),hel,hsz];simp [go_sem,sliced,h,Result.andThen]
 ·refine ⟨some ⟨g,k,none⟩,fun w=>?_,fun _=>rfl⟩;rw [run_slice_l (P:=prog) (ht:=by rw [hel];exact JN) (h0:=by omega) (h1:=by omega),hel,hsz];simp [go_sem,sliced,Addr.add,Result.andThen,show ¬cap=k from h];try omega
def jo(r:Rcs)(k:Nat):List UInt8:=(r.list.take k).flatMap xE
theorem Ke(r:Rcs)(k:Nat)(hk:k<r.n):∃t,t.length=7/\(qq r)[k]?=some (.string ⟨t.toArray⟩)/\jo r (k+1)=jo r k++t:=by
 have hl:k<r.list.length:=by simpa [Rcs.list] using hk
 refine ⟨xE r.list[k],Xq _,by simp [qq,List.getElem?_eq_getElem hl],?_⟩;unfold jo;rw [List.take_succ_eq_append_getElem hl,List.flatMap_append];simp
theorem Hd(r:Rcs)(k:Nat)(hk:k<=r.n):(jo r k).length=7*k:=by
 induction k with
 |zero=>rfl
 |succ k ih=>
  obtain ⟨t,h1,_,h2⟩:=Ke r k zza;rw [h2,List.length_append,ih zza,h1];omega
theorem zeh(r:Rcs):∀u∈qq r,u.oneCell'=true:=by
 intro u hu;obtain ⟨b,_,rfl⟩:=List.mem_map.1 hu;rfl
theorem KH(r:Rcs):(qq r).length=r.n:=by simp [qq,Rcs.list]
theorem Qb(r:Rcs)(k:Nat)(hf:r.first<64):qq (r.takes k).1=(qq r).drop k:=by unfold qq;rw [zaL r k hf,List.map_drop]
theorem DS.ring{w w1:World}{base:Nat}{tag tag':Nat->Nat}{f:DF}{S:SB}(h:DS w base tag f S)(hb:Below w.heap.size w w1)(ht:∀g,g<w.heap.size->tag' g=tag g)(v:Value)(rc:Rcs)(hr:w1.ownsRow base 9 1 v rc.n (qq rc))(hv:∀g,v.ownBlock=some g->g≠f.Q/\tag' g=9):Dn tag w base f.Q {S with rc:=rc} (w1.setCell ⟨f.Q,8,none⟩ v):=by
 have d:=DC.put (i:=8) (v:=v) h hb ht;refine ⟨tag',{f with vr:=v},rfl,⟨(h.blk.below hb).put 8 v,d.mch,d.sc,d.pat,d.bk,d.wt,zG hr (fun g e=>Below.heap_setCell _ _ _ _ (hv g e).1),d.ls,d.lo,d.tQ,d.tZ,d.tR,d.tM,d.th,d.tp,d.tb,d.tw,fun g e=>(hv g e).2,d.tl,d.ts⟩,Chg.put h hb ht⟩
theorem zb9(w:World):Sem.run prog (Instr.slice 196 (.slice none 0 0) (some (.int .i64 0)) none none) w=.ok (.slice none 0 0) w:=by kernel_rfl
theorem Qc{w:World}{base N c:Nat}{a:Option Addr}{xs:List Value}(hrg:w.ownsRow base 9 1 (.slice a N c) N xs):∃P0 c',∀w,Sem.run prog (Instr.slice 196 (.slice a N c) (some (.int .i64 (N:Int))) none none) w=.ok (.slice P0 0 c') w:=by
 rcases hrg.2 with ⟨e,e2⟩|⟨g,cap,cur,e,_⟩
 ·injection e with e1 e2 e3;subst e1;subst e2;subst e3;exact ⟨none,0,zb9⟩
 ·injection e with e _ _;subst e;obtain ⟨P0,h1,_⟩:=za6 g N c N (Nat.le_refl _) (Kd hrg);exact ⟨P0,c-N,fun w=>by rw [h1 w,Nat.sub_self]⟩
theorem VE{w:World}{base te size N c:Nat}{a:Option Addr}{xs:List Value}(hrg:w.ownsRow base te size (.slice a N c) N xs)(h:0<N):∃g,a=some ⟨g,0,none⟩:=by
 rcases hrg.2 with ⟨_,e2⟩|⟨g,cap,cur,e,_⟩
 ·omega
 ·injection e with e _ _;exact ⟨g,e⟩
theorem zbc{w:World}{base:Nat}{tag:Nat->Nat}{f:DF}{S:SB}(h:DS w base tag f S)(hf:S.rc.first<64):Dn tag w base f.Q {S with rc:=(S.rc.takes S.rc.n).1} (w.setCell ⟨f.Q,8,none⟩ (.slice none 0 0)):=by
 refine h.ring (Below.refl _ _) (fun _ _=>rfl) _ _ ?_ (fun g e=>by cases e);rw [Qb _ _ hf,Yv,Nat.sub_self,List.drop_of_length_le (by rw [KH];omega)];exact World.ownsRow_nil _ _ _ _
theorem zc4{p:Prop} (q:p:=by
 obtain ⟨t,lt,ct,HP⟩:=Ke S.rc j (by rw [HN.out];omega);have HP:Hid (jo S.rc (j+1)=jo S.rc j++t):=HP;have lp:(jo S.rc j).length<=56:=by rw [Hd S.rc j (by rw [HN.out];omega)];omega
 obtain ⟨g,rfl⟩:=VE hrg zza;have cj:=(Hc hrg j zza).trans ct;have jN:(j:Int)<(N:Int):=by omega
 generalize jo S.rc j=tm at*;clear ct hrg;go_wp2;go_roundw;case rel=>exact ⟨j+1,by omega,by go_num,by rw [HP.out,xh],trivial⟩
 case measure=>simp [intOf];omega):p:=q
theorem zkM{w:World}{base:Nat}{tag:Nat->Nat}{f:DF}{S:SB}(h:DS w base tag f S)(hf:S.rc.first<64)(hn:S.rc.n<=64)(hb:base<=w.heap.size):Calls prog 162 #[.pointer (some ⟨f.Q,0,none⟩)] w fun e w'=>e=.returned (.string ⟨S.takeRecs.2.toArray⟩)/\Dn tag w base f.Q S.takeRecs.1 w':=by
 obtain ⟨i0,hi,hz0,hz1,hz2⟩:=info_parts zjW;have HD:Hid (DS w base tag f S/\S.rc.first<64):=⟨h,hf⟩;have q8:w.cell? ⟨f.Q,8,none⟩=some f.vr:=h.blk.cell 8;have fz:=h.blk.free 8;have lQ:=h.blk.lt;have HT:Hid (S.takeRecs.2=jo S.rc (min S.rc.n 8)):=zaM _ _ hf (Nat.min_le_left _ _);have HE:Hid (S.takeRecs.1={S with rc:=(S.rc.takes (min S.rc.n 8)).1}):=rfl;rw [HT.out];rcases yG h.c.rg with ⟨a,c,e,ha⟩;have hrg:=h.c.rg;rw [e] at q8 hrg;generalize S.takeRecs.1=S' at*;obtain ⟨N,HN⟩:∃N,Hid (S.rc.n=N):=⟨_,rfl⟩
 rw [HN.out] at hn q8 hrg HE;rw [HN.out];clear HT e ha h hf;rcases Nat.lt_or_ge N 8 with h8|h8
 ·rw [show min N 8=N from by omega] at HE⊢;have h8':(N:Int)<8:=by omega
  have HZ:Hid (Dn tag w base f.Q S' (w.setCell ⟨f.Q,8,none⟩ (.slice none 0 0))):=by
   have:=zbc HD.out.1 HD.out.2;rw [HN.out] at this;rw [HE.out];exact this
  go_enter func162,ntmps162;go_wp2_with fail;go_loopw [3,5] (fun t i wr=> ∃j:Nat,j<=N/\i=.int .i64 j/\t=.string ⟨(jo S.rc j).toArray⟩/\wr=w) (fun _ i _=>N-(intOf i).toNat);case atStart=>exact ⟨0,by omega,rfl,rfl,rfl⟩
  case round=>
   obtain ⟨j,hj,rfl,rfl,hw⟩:=hrel;subst wr;by_cases hlt:j<N
   ·have hj1:(j:Int)<(N:Int):=by omega
    exact zc4
   ·obtain rfl:j=N:=by omega
    obtain ⟨P0,c',SL⟩:=Qc hrg;clear hrg;go_wp2_with (first|(at_builtin;go_must (refine jn rfl (.tmp 28) (.tmp 34) 196 rfl 9 i0 JN hi none 0 0 (Nat.le_refl _) rfl P0 c' rfl ?_)));go_ret;exact ⟨rfl,HZ.out⟩
 ·rw [show min N 8=8 from by omega] at HE⊢;have h8':¬(N:Int)<8:=by omega
  go_enter func162,ntmps162;go_wp2_with fail;go_loopw [3,5] (fun t i wr=> ∃j:Nat,j<=8/\i=.int .i64 j/\t=.string ⟨(jo S.rc j).toArray⟩/\wr=w) (fun _ i _=>8-(intOf i).toNat);case atStart=>exact ⟨0,by omega,rfl,rfl,rfl⟩
  case round=>
   obtain ⟨j,hj,rfl,rfl,hw⟩:=hrel;subst wr;by_cases hlt:j<8
   ·have hj1:(j:Int)<8:=by omega
    exact zc4
   ·obtain rfl:j=8:=by omega
    rcases Nat.lt_or_ge 8 N with h9|h9
    ·obtain ⟨g,rfl⟩:=VE hrg zza;obtain ⟨P0,SL',hP0⟩:=za6 g N c 8 zza (Kd hrg);obtain rfl:=hP0 h9;have SL:∀w,Sem.run prog (Instr.slice 196 (.slice (some ⟨g,0,none⟩) N c) (some (.int .i64 8)) none none) w=.ok (.slice (some ⟨g,8,none⟩) (N-8) (c-8)) w:=SL'
     have HO:Hid (w.ownsRow base 9 1 (.slice (some ⟨g,0,none⟩) N c) N (qq S.rc)):=hrg;have hrl:(qq S.rc).length=N:=by rw [KH];exact HN.out
     clear hrg SL' hP0;go_wp2_with (first|(at_builtin;go_must (refine wpList_append_lies _ rfl (.tmp 28) (.tmp 34) 196 rfl w.heap.size 9 i0 (.string ⟨#[]⟩) 1 16 JN hi hz0 hz1 hz2 rfl zzb (.slice none 0 0) 0 [] rfl (World.ownsRow_nil _ _ _ _) ⟨g,8,none⟩ (N-8) (c-8) ((qq S.rc).drop 8) rfl (by rw [List.length_drop,hrl,Nat.mul_one]) (fun q u hu=>?_) (fun u hu=>zeh _ u (List.mem_of_mem_drop hu)) zza zze zza (Nat.le_refl _) _ rfl ?_)))
     ·rw [List.getElem?_drop] at hu;have hq:8+q<N:=by rw [<-hrl];exact (List.getElem?_eq_some_iff.1 hu).1
      rw [show (⟨g,8,none⟩:Addr).add q=⟨g,8+q,none⟩ from by simp [Addr.add]];exact (Hc HO.out (8+q) hq).trans hu
     ·intro g' cap' w1 hown hgrow hat hlt';have hb1:Below w.heap.size w w1:=⟨hgrow.os,hgrow.tape,hgrow.output,hgrow.size,fun b hb=>hgrow.block b hb (by simp [Value.ownBlock])⟩;have q8':w1.cell? ⟨f.Q,8,none⟩=some (.slice (some ⟨g,0,none⟩) N c):=hb1.cell (p:=⟨f.Q,8,none⟩) lQ ▸ q8;have HZ:Hid (Dn tag w base f.Q S' (w1.setCell ⟨f.Q,8,none⟩ (.slice (some ⟨g',0,none⟩) (N-8) cap'))):=by
       show Dn _ _ _ _ _ _;rw [HE.out];refine HD.out.1.ring hb1 zbC (tag':=GX w tag 9) _ _ ?_ (fun b e=>?_)
       ·rw [Qb _ _ HD.out.2,Yv,HN.out];exact Ys hown hb
       ·have hbw:=Uq hown b e;exact ⟨by omega,zbD hbw⟩
      have fz1:w1.frozen? ⟨f.Q,8,none⟩=false:=(World.frozen?_of_block (a:=⟨f.Q,8,none⟩) (hb1.block f.Q lQ)).trans fz;clear hown hgrow hat hlt' hb1;go_wp2;go_ret;exact ⟨rfl,HZ.out⟩
    ·obtain rfl:N=8:=by omega
     obtain ⟨P0,c',SL'⟩:=Qc hrg;have SL:∀w,Sem.run prog (Instr.slice 196 (.slice a 8 c) (some (.int .i64 8)) none none) w=.ok (.slice P0 0 c') w:=SL'
     have HZ:Hid (Dn tag w base f.Q S' (w.setCell ⟨f.Q,8,none⟩ (.slice none 0 0))):=by
      have:=zbc HD.out.1 HD.out.2;rw [HN.out] at this;show Dn _ _ _ _ _ _;rw [HE.out];exact this
     clear hrg SL';go_wp2_with (first|(at_builtin;go_must (refine jn rfl (.tmp 28) (.tmp 34) 196 rfl 9 i0 JN hi none 0 0 (Nat.le_refl _) rfl P0 c' rfl ?_)));go_ret;exact ⟨rfl,HZ.out⟩
def yF(w:World)(tag:Nat->Nat):Nat->Nat:=fun g=>if w.heap.size<=g then 0 else tag g
theorem xM{w:World}{tag:Nat->Nat}:∀g,g<w.heap.size->yF w tag g=tag g:=fun g h=>if_neg zza
theorem xN{w:World}{tag:Nat->Nat}{g:Nat}(h:w.heap.size<=g):yF w tag g=0:=if_pos h
theorem DS.old{w:World}{base:Nat}{tag:Nat->Nat}{f:DF}{S:SB}(h:DS w base tag f S):DS w base (yF w tag) f S:=h.kept (Nat.le_refl _) (fun _ _ _=>rfl) xM
theorem Chg.old(tag:Nat->Nat)(w:World):Chg tag (yF w tag) w w:=⟨rfl,rfl,rfl,Nat.le_refl _,fun _ _ _=>rfl,fun g h1 h2=>(xM g h1).trans h2⟩
def Z3(w:World)(tag:Nat->Nat)(v:Value)(k:Nat):Nat->Nat:=fun g=>if w.heap.size<=g then (if v.ownBlock=some g then k else 0) else tag g
theorem DS.cyc{w w1:World}{base:Nat}{tag:Nat->Nat}{f:DF}{S:SB}{vh':Value}{s':PC}(h:DS w base tag f S)(hM:Mch w1 base f.R f.M vh' s')(hT:Tri f.R f.M f.vh.ownBlock w w1)(ho:∀g,vh'.ownBlock=some g->f.vh.ownBlock=some g\/w.heap.size<g):DS w1 base (Z3 w tag vh' 5) {f with vh:=vh'} {S with pc:=s'} /\Chg tag (Z3 w tag vh' 5) w w1:=by
 have hk:∀g,g<w.heap.size->tag g≠3->tag g≠4->tag g≠5->w1.heap[g]?=w.heap[g]?:=fun g h1 h3 h4 h5=>hT.block g h1 (fun e=>h3 (by rw [e];exact h.c.tR)) (fun e=>h4 (by rw [e];exact h.c.tM)) (fun e=>h5 (h.c.th g e.symm))
 obtain ⟨m1,m2,m3,m4⟩:=h.c.mch.lt;have hQ:=h.blk.lt;have hZ:=h.c.sc.cells.lt;obtain ⟨lb,b1,b2⟩:=h.c.bk;obtain ⟨lw,e1,e2⟩:=h.c.wt;have own:∀ {te size n:Nat} {v:Value} {xs:List Value} {m:Nat},w.ownsRow base te size v n xs->(∀g,v.ownBlock=some g->tag g=m+6)->∀g,v.ownBlock=some g->w1.heap[g]?=w.heap[g]?:=fun o hm g e=>hk g (o.lt g e).2 (by rw [hm g e];omega) (by rw [hm g e];omega) (by rw [hm g e];omega)
 have t:∀g,g<w.heap.size->Z3 w tag vh' 5 g=tag g:=fun g h=>if_neg zza
 refine ⟨⟨h.blk.same (hk _ hQ (by rw [h.c.tQ];decide) (by rw [h.c.tQ];decide) (by rw [h.c.tQ];decide)),hM,h.c.sc.sameBlock (hk _ hZ (by rw [h.c.tZ];decide) (by rw [h.c.tZ];decide) (by rw [h.c.tZ];decide)),h.c.pat.same (own h.c.pat.own h.c.tp) (fun i v hv g e=>hk g (h.c.pat.blk hv g e) (by rw [h.c.ts i v hv g e];decide) (by rw [h.c.ts i v hv g e];decide) (by rw [h.c.ts i v hv g e];decide)),⟨lb,zG b1 (own b1 h.c.tb),b2⟩,⟨lw,zG e1 (own e1 h.c.tw),e2⟩,zG h.c.rg (own h.c.rg h.c.tr),?_,h.c.lo,
  (t _ hQ).trans h.c.tQ,(t _ hZ).trans h.c.tZ,(t _ m1).trans h.c.tR,(t _ m2).trans h.c.tM,fun g e=>?_,fun g e=>(t g (h.c.pat.own.lt g e).2).trans (h.c.tp g e),fun g e=>(t g (b1.lt g e).2).trans (h.c.tb g e),fun g e=>(t g (e1.lt g e).2).trans (h.c.tw g e),fun g e=>(t g (h.c.rg.lt g e).2).trans (h.c.tr g e),fun g e=>?_,fun i v hv g e=>(t g (h.c.pat.blk hv g e)).trans (h.c.ts i v hv g e)⟩,
  ⟨hT.os,hT.tape,hT.output,hT.size,fun g h1 h2=>hk g h1 zza zza zza,fun g h1 h2=>(t g h1).trans h2⟩⟩
 ·rcases h.c.ls with q|q
  ·exact .inl q
  ·exact .inr (q.same hT.size (fun g e=>hk g (q.blk g e) (by rw [h.c.tl g e];decide) (by rw [h.c.tl g e];decide) (by rw [h.c.tl g e];decide)))
 ·rcases ho g e with z|z
  ·exact (t g (m4 g z).1).trans (h.c.th g z)
  ·unfold Z3;rw [if_pos zza,if_pos e]
 ·rcases h.c.ls with q|q
  ·rw [q.2] at e;cases e
  ·exact (t g (q.blk g e)).trans (h.c.tl g e)
theorem zfy{w w0 w1:World}{base:Nat}{tag:Nat->Nat}{f:DF}{S:SB}{vh':Value}{s':PC}(h:DS w base tag f S)(hw:Below w.heap.size w w0)(hz:∀g,w.heap.size<=g->tag g=0)(hM:Mch w1 base f.R f.M vh' s')(hT:Tri f.R f.M f.vh.ownBlock w0 w1)(ho:∀g,vh'.ownBlock=some g->f.vh.ownBlock=some g\/w0.heap.size<g):∃tag1,DS w1 base tag1 {f with vh:=vh'} {S with pc:=s'} /\Chg tag tag1 w w1/\∀g,w.heap.size<=g->vh'.ownBlock≠some g->tag1 g=0:=by
 obtain ⟨d,c⟩:=(h.below hw).cyc hM hT ho;refine ⟨_,d,(Chg.below tag hw).trans c,fun g h1 h2=>?_⟩;unfold Z3;rw [if_neg h2];split
 ·rfl
 ·exact hz g h1
theorem DS.laid{w w1:World}{base:Nat}{tag:Nat->Nat}{f:DF}{S:SB}{t:RS}{m:Nat->Int}(h:DS w base tag f S)(hb:S.pc.st=0\/S.pc.st=5)(hv:HV w base f.R f.M f.vh t.h)(al:Alike S.pc t)(hj:t.r.jam=true->t.h=[])(hm:TM f.R f.M (MV f.M f.vh t) m w w1):DS w1 base (Z3 w tag f.vh 5) f {S with pc:={S.pc with mem:=m} } /\Chg tag (Z3 w tag f.vh 5) w w1:=
 h.cyc (vh':=f.vh) (s':={S.pc with mem:=m}) ⟨{t with mem:=m},hm.c,hv.kept hm.g,zcp al hb m,hj⟩ (Tri.two hm.g) (fun _ e=>.inl e)
theorem DS.nopat{w:World}{base:Nat}{tag:Nat->Nat}{f:DF}{S:SB}(h:DS w base tag f S):DS (w.setCell ⟨f.Q,4,none⟩ (.slice none 0 0)) base tag {f with vp:=.slice none 0 0,ps:=[] } {S with pa:=[] } /\Chg tag tag w (w.setCell ⟨f.Q,4,none⟩ (.slice none 0 0)):=by
 have d:=DC.put (i:=4) (v:=.slice none 0 0) h (Below.refl _ _) (fun _ _=>rfl) (tag':=tag);exact ⟨⟨h.blk.put 4 _,d.mch,d.sc,⟨rfl,World.ownsRow_nil _ _ _ _,fun i hi=>(by simp at hi)⟩,d.bk,d.wt,d.rg,d.ls,d.lo,d.tQ,d.tZ,d.tR,d.tM,d.th,(fun g e=>by cases e),d.tb,d.tw,d.tr,d.tl,fun i v hv=>(by simp at hv)⟩,Chg.put h (Below.refl _ _) (fun _ _=>rfl)⟩
theorem zbt:∀ (l:List Pat) (ps:List Value) (i:Nat) (hi:i<l.length) (v:Value),ps.length=l.length->ps[i]?=some v->(XA l ps)[i*2]?=some (.int .i64 l[i].at_)/\(XA l ps)[i*2+1]?=some v
 |p::l,u::r,0,_,v,_,h=>by simp at h;subst h;simp [XA]
 |p::l,u::r,i+1,hi,v,hl,h=>by
  have:=zbt l r i (by simpa using hi) v (by simpa using hl) (by simpa using h);rw [show (i+1)*2=i*2+1+1 from by omega];simpa [XA] using this
 |p::l,[],i,_,v,hl,_=>by simp at hl
 | [],_,i,hi,_,_,_=>by simp at hi
theorem zbu{w:World}{base te n g c:Nat}{xs:List Value}(h:w.ownsRow base te 2 (.slice (some ⟨g,0,none⟩) n c) n xs)(i:Nat)(hi:i<n*2):w.cell? ⟨g,i,none⟩=xs[i]?:=by
 exact zmc
theorem Vb{P:Program}{w:World}{ops:Array Oper}{o:Oper}{a:Go.Act}{K:Go.Act->World->Prop}{Q:Exit->Go.Act->World->Prop}{E:Prop}(hg:o.guard=none)(F:FuncId)(x y:Operand)(tx ty:TypeId)
  (ho:o.op=.call {callee:=.value (.func F),args:=#[x,y],argTypes:=#[tx,ty] }) (u v:Value) (hx:a.eval x=u) (hy:a.eval y=v) (he:∀args w,Sem.run P (callFunc F args) w=.ok (.enter F args) w)
  (r:Value) (hc:Calls P F #[u,v] w fun e w'=>e=.returned r/\w'=w) (hK:K (a.put o.dst r) w):if Region.wanted o (yielded ops a.tmps)=true then Oper.wp P o a w K Q else E:=by
 have hw:Region.wanted o (yielded ops a.tmps)=true:=by simp [Region.wanted,hg]
 rw [if_pos hw];have hf:a.eval (.func F)=.func (.func F) #[] #[]:=rfl;have hq:(execOp a.eval o).run P w=.ok (.enter F #[u,v]) w:=by
  unfold execOp;simp only [ho,resolve,invoke,Sem.run_bind,List.map_toArray,List.map_cons,List.map_nil,hx,hy,hf,Deferred.ofValue];simp [Result.andThen,he]
 show o.upon P a K Q ((execOp a.eval o).run P w);rw [hq,Oper.upon_enter];refine hc.mono ?_;rintro e w' ⟨rfl,rfl⟩;exact hK
theorem mft{w:World}{base R M:Nat}{vh:Value}{s:PC}(h:Mch w base R M vh s)(rn:Rn s)(h5:s.st≠5)(nmi irq:Bool):(s.cycle nmi irq).2.ft=true->(s.cycle nmi irq).2.wr=false:=by
 obtain ⟨t,h0,hv,al,_⟩:=h;have hj:t.r.jam=false:=by rw [<-qj s t al];simpa using h5
 rw [(Zx s t nmi irq al rn hj).1];exact zek t nmi irq
theorem Vc:∀args w,Sem.run prog (callFunc 97 args) w=.ok (.enter 97 args) w:=fun _ _=>by kernel_rfl
def Gone(tag:Nat->Nat)(w:World)(base Q N bB:Nat)(b:BusI)(S:SB)(wx:World):Prop:=
 ∃tag1 f1,f1.Q=Q/\DS wx base tag1 f1 S/\Chg tag tag1 w wx/\Blk wx N #[.int .i64 0,.int .i64 0,.bool false,.bool false] 53/\Blk wx bB #[.int .i64 b.addr,.int .i64 b.data,.bool b.wr,.bool b.ft] 53/\tag1 N=0/\tag1 bB=0/\N≠bB
theorem zkt{W w1:World}{base N:Nat}{tag tag1:Nat->Nat}{f:DF}{S:SB}{b:BusI}(d:DS w1 base tag1 f S)(c:Chg tag tag1 W w1)(z:∀g,W.heap.size<=g->f.vh.ownBlock≠some g->tag1 g=0)(hN:N<W.heap.size)(tN:tag N=0)(bN:Blk W N #[.int .i64 0,.int .i64 0,.bool false,.bool false] 53):Gone tag W base f.Q N w1.heap.size b S (w1.alloc (.cells #[.int .i64 b.addr,.int .i64 b.data,.bool b.wr,.bool b.ft] 53)):=by
 have hb:Below w1.heap.size w1 (w1.alloc (.cells #[.int .i64 b.addr,.int .i64 b.data,.bool b.wr,.bool b.ft] 53)):=(Below.refl _ _).alloc (Nat.le_refl _) _;have h1:=c.size;exact ⟨tag1,f,rfl,d.below hb,c.trans (Chg.below tag1 hb),(bN.same (c.block N hN tN)).alloc _,Blk.new w1 _ _,c.tags N hN tN,z _ h1 (fun e=>by have:=(d.mch.lt.2.2.2 _ e).1;omega),by omega⟩
theorem zku{W w1:World}{base N:Nat}{tag tag1:Nat->Nat}{f:DF}{S:SB}{b:BusI}(d:DS w1 base tag1 f S)(c:Chg tag tag1 W w1)(z:∀g,W.heap.size<=g->f.vh.ownBlock≠some g->tag1 g=0)(hN:N<W.heap.size)(tN:tag N=0)(bN:Blk W N #[.int .i64 0,.int .i64 0,.bool false,.bool false] 53)
  (bb:Blk w1 W.heap.size #[.int .i64 0,.int .i64 0,.bool false,.bool false] 53) (hv:f.vh.ownBlock≠some W.heap.size):
  Gone tag W base f.Q N W.heap.size b S ((((w1.setCell ⟨W.heap.size,0,none⟩ (.int .i64 b.addr)).setCell ⟨W.heap.size,1,none⟩ (.int .i64 b.data)).setCell ⟨W.heap.size,2,none⟩ (.bool b.wr)).setCell ⟨W.heap.size,3,none⟩ (.bool b.ft)):=by
 have tz:=z _ (Nat.le_refl _) hv;have hk:∀g,g≠W.heap.size->((((w1.setCell ⟨W.heap.size,0,none⟩ (.int .i64 b.addr)).setCell ⟨W.heap.size,1,none⟩ (.int .i64 b.data)).setCell ⟨W.heap.size,2,none⟩ (.bool b.wr)).setCell ⟨W.heap.size,3,none⟩ (.bool b.ft)).heap[g]?=w1.heap[g]?:=fun g hg=>
  (Below.heap_setCell _ _ _ _ hg).trans ((Below.heap_setCell _ _ _ _ hg).trans ((Below.heap_setCell _ _ _ _ hg).trans (Below.heap_setCell _ _ _ _ hg)))
 refine ⟨tag1,f,rfl,d.kept zzc (fun g _ h2=>hk g (fun e=>h2 (by rw [e];exact tz))) (fun _ _=>rfl),⟨c.os,c.tape,c.output,by simpa using c.size,fun g h1 h2=>(hk g zza).trans (c.block g h1 h2),c.tags⟩,(bN.same (c.block N hN tN)).same (hk N zza),(((bb.put 0 _).put 1 _).put 2 _).put 3 _,c.tags N hN tN,tz,by omega⟩
theorem zbM(m:Nat->Int)(l:List Pat)(k:Nat)(hk:k<l.length):xw m (l.take (k+1))=lay (xw m (l.take k)) l[k].at_ l[k].bytes l[k].bytes.length:=by
 rw [QW,List.take_succ_eq_append_getElem hk];unfold xw;rw [List.foldl_append];rfl
theorem Gone.move{tag tag1 tag2:Nat->Nat}{W w1 w2:World}{base Q N bB:Nat}{b:BusI}{S:SB}{f:DF}(hQ:f.Q=Q)(d:DS w2 base tag2 f S)(c:Chg tag tag1 W w1)(c2:Chg tag1 tag2 w1 w2)(bN:Blk w1 N #[.int .i64 0,.int .i64 0,.bool false,.bool false] 53)(bb:Blk w1 bB #[.int .i64 b.addr,.int .i64 b.data,.bool b.wr,.bool b.ft] 53)(tN:tag1 N=0)(tB:tag1 bB=0)(ne:N≠bB):Gone tag W base Q N bB b S w2:=
 ⟨tag2,f,hQ,d,c.trans c2,bN.same (c2.block N bN.lt tN),bb.same (c2.block bB bb.lt tB),c2.tags N bN.lt tN,c2.tags bB bb.lt tB,ne⟩
theorem zkv{w:World}{base:Nat}{tag:Nat->Nat}{f:DF}{S:SB}(d:DS w base tag f S)(k:Nat)(hk:k<S.pa.length):∃g c p c2,f.vp=.slice (some ⟨g,0,none⟩) S.pa.length c/\w.cell? ⟨g,k*2,none⟩=some (.int .i64 S.pa[k].at_)/\w.cell? ⟨g,k*2+1,none⟩=some (.slice p S.pa[k].bytes.length c2)/\IntsAt w p S.pa[k].bytes/\∀x,p=some x->x.block≠f.R/\x.block≠f.M/\x.block<w.heap.size:=by
 obtain ⟨a,c,e,_⟩:=yG d.c.pat.own;have ho:=d.c.pat.own;rw [e] at ho;obtain ⟨g,rfl⟩:=VE ho zza;obtain ⟨v,hv,hvo⟩:=d.c.pat.each k hk;obtain ⟨p,c2,rfl,hp⟩:=yG hvo;obtain ⟨h1,h2⟩:=zbt S.pa f.ps k hk _ d.c.pat.len hv;refine ⟨g,c,p,c2,e,(zbu ho _ zza).trans h1,(zbu ho _ zza).trans h2,Zg hvo rfl,fun x ex=>?_⟩;have hb:=(hp x ex).1;have ht:=d.c.ts k _ hv _ hb;exact ⟨fun q=>(by rw [q,d.c.tR] at ht;cases ht),fun q=>(by rw [q,d.c.tM] at ht;cases ht),d.c.pat.blk hv _ hb⟩
theorem zbN(S:SB):S.settle.re=S.re/\S.settle.rc=S.rc:=by unfold SB.settle;split<;>exact ⟨rfl,rfl⟩
theorem G9(S:SB)(rc:Rcs):({S with rc:=rc}:SB).settle={S.settle with rc:=rc}:=by
 unfold SB.settle;by_cases h:S.pc.betw=true
 ·rw [if_pos h,if_pos (show ({S with rc:=rc}:SB).pc.betw=true from h)]
 ·rw [if_neg h,if_neg (show ¬({S with rc:=rc}:SB).pc.betw=true from h)]
theorem zma{p:Prop} (q:p:=by
 rcases d.c.ls with q|q
 ·exact .inl q
 ·exact .inr (q.same zzd (fun g e=>k g (q.blk g e) (by rw [d.c.tl g e];decide) (by rw [d.c.tl g e];decide)))):p:=q
theorem Gone.rec{tag tag1:Nat->Nat}{W w1 wa w2:World}{base N bB:Nat}{b:BusI}{S:SB}{f:DF}{g' cap':Nat}{rc:Rcs}(d:DS w1 base tag1 f S)(c:Chg tag tag1 W w1)(bN:Blk w1 N #[.int .i64 0,.int .i64 0,.bool false,.bool false] 53)(bb:Blk w1 bB #[.int .i64 b.addr,.int .i64 b.data,.bool b.wr,.bool b.ft] 53)(tN:tag1 N=0)(tB:tag1 bB=0)(ne:N≠bB)
  (ha:Below w1.heap.size w1 wa) (hg:wa.grownBy w2 f.vr.ownBlock) (hat:f.vr.ownBlock=some g'\/g'=wa.heap.size) (hown:w2.ownsRow base 9 1 (.slice (some ⟨g',0,none⟩) rc.n cap') rc.n (qq rc)):
  Gone tag W base f.Q N bB b {S with rc:=rc} (w2.setCell ⟨f.Q,8,none⟩ (.slice (some ⟨g',0,none⟩) rc.n cap')):=by
 have s1:=ha.size;have s2:=hg.size;have hv9:∀g,f.vr.ownBlock=some g->g<w1.heap.size:=fun g e=>(d.c.rg.lt g e).2
 have hgt:∀g,g<w1.heap.size->g=g'->tag1 g=9:=fun g h e=>by
  rcases hat with z|z
  ·exact d.c.tr g (e ▸ z)
  ·omega
 have k0:∀g,g<w1.heap.size->tag1 g≠9->w2.heap[g]?=w1.heap[g]?:=fun g h1 h2=>(hg.block g zza (fun e=>h2 (d.c.tr g e.symm))).trans (ha.block g h1)
 have k:∀g,g<w1.heap.size->tag1 g≠9->tag1 g≠1->(w2.setCell ⟨f.Q,8,none⟩ (.slice (some ⟨g',0,none⟩) rc.n cap')).heap[g]?=w1.heap[g]?:=fun g h1 h2 h3=>(Below.heap_setCell _ _ _ _ (fun e=>h3 (by rw [e];exact d.c.tQ))).trans (k0 g h1 h2)
 have t:∀g,g<w1.heap.size->(fun g=>if g=g' then 9 else tag1 g) g=tag1 g:=fun g h=>by
  show (if g=g' then 9 else tag1 g)=_;by_cases e:g=g'
  ·rw [if_pos e,hgt g h e]
  ·rw [if_neg e]
 have hQg:g'≠f.Q:=fun e=>by have h1:=hgt f.Q d.blk.lt e.symm;rw [d.c.tQ] at h1;cases h1
 obtain ⟨m1,m2,m3,m4⟩:=d.mch.lt;have hZ:=d.c.sc.cells.lt;obtain ⟨lb,b1,b2⟩:=d.c.bk;obtain ⟨lw,e1,e2⟩:=d.c.wt;have own:∀ {te size n:Nat} {v:Value} {xs:List Value} {m:Nat},m≠9->m≠1->w1.ownsRow base te size v n xs->(∀g,v.ownBlock=some g->tag1 g=m)->∀g,v.ownBlock=some g->(w2.setCell ⟨f.Q,8,none⟩ (.slice (some ⟨g',0,none⟩) rc.n cap')).heap[g]?=w1.heap[g]?:=fun n9 n1 o hm g e=>k g (o.lt g e).2 (by rw [hm g e];exact n9) (by rw [hm g e];exact n1)
 refine ⟨fun g=>if g=g' then 9 else tag1 g,{f with vr:=.slice (some ⟨g',0,none⟩) rc.n cap'},rfl,⟨(d.blk.same (k0 _ d.blk.lt (by rw [d.c.tQ];decide))).put 8 _,d.mch.same (k _ m1 (by rw [d.c.tR];decide) (by rw [d.c.tR];decide)) (k _ m2 (by rw [d.c.tM];decide) (by rw [d.c.tM];decide)) (fun g e=>k g (m4 g e).1 (by rw [d.c.th g e];decide) (by rw [d.c.th g e];decide)),d.c.sc.sameBlock (k _ hZ (by rw [d.c.tZ];decide) (by rw [d.c.tZ];decide)),d.c.pat.same (own zzb zzb d.c.pat.own d.c.tp) (fun i v hv g e=>k g (d.c.pat.blk hv g e) (by rw [d.c.ts i v hv g e];decide) (by rw [d.c.ts i v hv g e];decide)),⟨lb,zG b1 (own zzb zzb b1 d.c.tb),b2⟩,⟨lw,zG e1 (own zzb zzb e1 d.c.tw),e2⟩,zG hown (fun g e=>Below.heap_setCell _ _ _ _ (by injection e with e;rw [<-e];exact hQg)),?_,d.c.lo,
  (t _ d.blk.lt).trans d.c.tQ,(t _ hZ).trans d.c.tZ,(t _ m1).trans d.c.tR,(t _ m2).trans d.c.tM,fun g e=>(t g (m4 g e).1).trans (d.c.th g e),fun g e=>(t g (d.c.pat.own.lt g e).2).trans (d.c.tp g e),fun g e=>(t g (b1.lt g e).2).trans (d.c.tb g e),fun g e=>(t g (e1.lt g e).2).trans (d.c.tw g e),fun g e=>(by injection e with e;exact if_pos e.symm),fun g e=>?_,fun i v hv g e=>(t g (d.c.pat.blk hv g e)).trans (d.c.ts i v hv g e)⟩,
  c.trans ⟨hg.os.trans ha.os,hg.tape.trans ha.tape,hg.output.trans ha.output,by simp;omega,fun g h1 h2=>k g h1 zza zza,fun g h1 h2=>(t g h1).trans h2⟩,bN.same (k _ bN.lt zza zza),bb.same (k _ bb.lt zza zza),(t _ bN.lt).trans tN,(t _ bb.lt).trans tB,ne⟩
 ·exact zma
 ·rcases d.c.ls with q|q
  ·rw [q.2] at e;cases e
  ·exact (t g (q.blk g e)).trans (d.c.tl g e)
theorem zlQ{c d:UInt8}(h:(hb c d).2=true):(hv c).2=true/\(hv d).2=true/\(hb c d).1.toNat=16*(hv c).1.toNat+(hv d).1.toNat:=by
 have h1:(hv c).2=true/\(hv d).2=true:=by
  unfold hb at h;by_cases q:(hv c).2=true/\(hv d).2=true
  ·exact q
  ·rw [if_neg q] at h;cases h
 have:=ZE c d h1.1 h1.2;unfold vz at this;rw [if_pos h] at this;exact ⟨h1.1,h1.2,by omega⟩
theorem zn2{c d:UInt8}(h:(hb c d).2=false):(hv c).2=false\/(hv d).2=false:=by
 unfold hb at h;by_cases q:(hv c).2=true/\(hv d).2=true
 ·rw [if_pos q] at h;cases h
 ·cases h1:(hv c).2
  ·exact .inl rfl
  ·cases h2:(hv d).2
   ·exact .inr rfl
   ·exact absurd ⟨h1,h2⟩ q
def num256(a:Nat)(l:List UInt8):Nat:=l.foldl (fun m b=>256*m+b.toNat) a
theorem Jo:∀ (n:Nat) (l:List UInt8) (a:Nat),l.length=2*n->l.foldl qK (some a)=(yP l).map (num256 a)
 |0,[],a,_=>by simp [yP,num256]
 |0,_::_,_,h=>by simp at h
 |n+1,[],_,h=>by simp at h
 |n+1,[_],_,h=>by simp at h;omega
 |n+1,x::y::r,a,h=>by
  rw [xz];simp only [List.foldl_cons];cases q:(hb x y).2
  ·have e:qK (qK (some a) x) y=none:=by
    rcases zn2 q with z|z
    ·simp [qK,z]
    ·simp only [qK,Option.bind_some];split<;>simp [z]
   rw [e,YZ];simp
  ·obtain ⟨h1,h2,h3⟩:=zlQ q;have e:qK (qK (some a) x) y=some (256*a+(hb x y).1.toNat):=by
    simp only [qK,Option.bind_some,h1,h2,if_true];congr 1
    omega
   rw [e,Jo n r _ (by simp at h;omega),if_pos rfl,Option.map_map];rfl
theorem vJ{n:Nat}{l:List UInt8}(h:l.length=2*n):yJ l=match yP l with
  |some bs=>(num256 0 bs:Int)
  |none=> -1:=by
 unfold yJ;rw [qL,Jo n l 0 h];cases yP l<;>rfl
theorem zjf(x y:UInt8):(num256 0 [x,y]:Int)=zn (y.toNat:Int) (x.toNat:Int):=by
 unfold zn num256;simp only [List.foldl_cons,List.foldl_nil];omega
theorem zc8(x y z:UInt8):(num256 0 [x,y,z]:Int)=256*zn (y.toNat:Int) (x.toNat:Int)+(z.toNat:Int):=by
 unfold zn num256;simp only [List.foldl_cons,List.foldl_nil];omega
theorem GR(c:UInt8):yJ [c]=if (hv c).2=true then ((hv c).1.toNat:Int) else -1:=by
 unfold yJ;rw [qL];simp only [List.foldl_cons,List.foldl_nil,qK,Option.bind_some];cases h:(hv c).2<;>simp
theorem U4:∀ (l:List Pat) (ps:List Value) (p:Pat) (v:Value),ps.length=l.length->XA (l++ [p]) (ps++ [v])=XA l ps++ [.int .i64 p.at_,v]
 | [],[],_,_,_=>rfl
 | [],_::_,_,_,h=>by simp at h
 |_::_,[],_,_,h=>by simp at h
 |q::l,u::ps,p,v,h=>by simp [XA,U4 l ps p v (by simpa using h)]
theorem DS.pat{tag tag1:Nat->Nat}{w0 w1 wa w2:World}{base:Nat}{S:SB}{f:DF}{g' cap':Nat}{p:Pat}{v:Value}(d:DS w1 base tag1 f S)(c:Chg tag tag1 w0 w1)(ha:Below w1.heap.size w1 wa)(hg:wa.grownBy w2 f.vp.ownBlock)(hat:f.vp.ownBlock=some g'\/g'=wa.heap.size)
  (hown:w2.ownsRow base 272 2 (.slice (some ⟨g',0,none⟩) (S.pa.length+1) cap') (S.pa.length+1) (XA S.pa f.ps++ [.int .i64 p.at_,v])) (hv:w1.ownsRow base 3 1 v p.bytes.length (xY p.bytes)) (tv:∀g,v.ownBlock=some g->tag1 g=0/\w0.heap.size<=g):
  Dn tag w0 base f.Q {S with pa:=S.pa++ [p] } (w2.setCell ⟨f.Q,4,none⟩ (.slice (some ⟨g',0,none⟩) (S.pa.length+1) cap')):=by
 have s1:=ha.size;have s2:=hg.size;have s0:=c.size;have hgt:∀g,g<w1.heap.size->g=g'->tag1 g=6:=fun g h e=>by
  rcases hat with z|z
  ·exact d.c.tp g (e ▸ z)
  ·omega
 have k0:∀g,g<w1.heap.size->tag1 g≠6->w2.heap[g]?=w1.heap[g]?:=fun g h1 h2=>(hg.block g zza (fun e=>h2 (d.c.tp g e.symm))).trans (ha.block g h1)
 have k:∀g,g<w1.heap.size->tag1 g≠6->tag1 g≠1->(w2.setCell ⟨f.Q,4,none⟩ (.slice (some ⟨g',0,none⟩) (S.pa.length+1) cap')).heap[g]?=w1.heap[g]?:=fun g h1 h2 h3=>(Below.heap_setCell _ _ _ _ (fun e=>h3 (by rw [e];exact d.c.tQ))).trans (k0 g h1 h2)
 have hvg:∀g,v.ownBlock=some g->g≠g':=fun g e q=>by
  have h1:=(hv.lt g e).2;have h2:=hgt g h1 q;rw [(tv g e).1] at h2;cases h2
 have t:∀g,g<w1.heap.size->tag1 g≠0->(fun g=>if g=g' then 6 else if v.ownBlock=some g then 11 else tag1 g) g=tag1 g:=fun g h h0=>by
  show (if g=g' then 6 else if v.ownBlock=some g then 11 else tag1 g)=_;by_cases e:g=g'
  ·rw [if_pos e,hgt g h e]
  ·rw [if_neg e,if_neg (fun q=>h0 (tv g q).1)]
 have hQg:g'≠f.Q:=fun e=>by have h1:=hgt f.Q d.blk.lt e.symm;rw [d.c.tQ] at h1;cases h1
 obtain ⟨m1,m2,m3,m4⟩:=d.mch.lt;have hZ:=d.c.sc.cells.lt;obtain ⟨lb,b1,b2⟩:=d.c.bk;obtain ⟨lw,e1,e2⟩:=d.c.wt;have own:∀ {te size n:Nat} {u:Value} {xs:List Value} {m:Nat},m≠6->m≠1->w1.ownsRow base te size u n xs->(∀g,u.ownBlock=some g->tag1 g=m)->∀g,u.ownBlock=some g->(w2.setCell ⟨f.Q,4,none⟩ (.slice (some ⟨g',0,none⟩) (S.pa.length+1) cap')).heap[g]?=w1.heap[g]?:=fun n9 n1 o hm g e=>k g (o.lt g e).2 (by rw [hm g e];exact n9) (by rw [hm g e];exact n1)
 refine ⟨fun g=>if g=g' then 6 else if v.ownBlock=some g then 11 else tag1 g,{f with vp:=.slice (some ⟨g',0,none⟩) (S.pa.length+1) cap',ps:=f.ps++ [v] },rfl,⟨(d.blk.same (k0 _ d.blk.lt (by rw [d.c.tQ];decide))).put 4 _,d.mch.same (k _ m1 (by rw [d.c.tR];decide) (by rw [d.c.tR];decide)) (k _ m2 (by rw [d.c.tM];decide) (by rw [d.c.tM];decide)) (fun g e=>k g (m4 g e).1 (by rw [d.c.th g e];decide) (by rw [d.c.th g e];decide)),d.c.sc.sameBlock (k _ hZ (by rw [d.c.tZ];decide) (by rw [d.c.tZ];decide)),⟨by simp [d.c.pat.len],?_,?_⟩,⟨lb,zG b1 (own zzb zzb b1 d.c.tb),b2⟩,⟨lw,zG e1 (own zzb zzb e1 d.c.tw),e2⟩,zG d.c.rg (own zzb zzb d.c.rg d.c.tr),?_,d.c.lo,
  (t _ d.blk.lt (by rw [d.c.tQ];decide)).trans d.c.tQ,(t _ hZ (by rw [d.c.tZ];decide)).trans d.c.tZ,(t _ m1 (by rw [d.c.tR];decide)).trans d.c.tR,(t _ m2 (by rw [d.c.tM];decide)).trans d.c.tM,fun g e=>(t g (m4 g e).1 (by rw [d.c.th g e];decide)).trans (d.c.th g e),fun g e=>(by injection e with e;exact if_pos e.symm),fun g e=>(t g (b1.lt g e).2 (by rw [d.c.tb g e];decide)).trans (d.c.tb g e),fun g e=>(t g (e1.lt g e).2 (by rw [d.c.tw g e];decide)).trans (d.c.tw g e),fun g e=>(t g (d.c.rg.lt g e).2 (by rw [d.c.tr g e];decide)).trans (d.c.tr g e),fun g e=>?_,fun i u hu g e=>?_⟩,
  ?_⟩
 ·rw [List.length_append,U4 _ _ _ _ d.c.pat.len];exact zG hown (fun g e=>Below.heap_setCell _ _ _ _ (by injection e with e;rw [<-e];exact hQg))
 ·intro i hi;rw [List.length_append] at hi;by_cases q:i<S.pa.length
  ·obtain ⟨u,h1,h2⟩:=d.c.pat.each i q;exact ⟨u,by rw [List.getElem?_append_left (by rw [d.c.pat.len];exact q)];exact h1,by
    show World.ownsRow _ _ _ _ _ (S.pa++ [p])[i].bytes.length (xY (S.pa++ [p])[i].bytes);rw [List.getElem_append_left q];exact zG h2 (fun g e=>k g (h2.lt g e).2 (by rw [d.c.ts i u h1 g e];decide) (by rw [d.c.ts i u h1 g e];decide))⟩
  ·have qi:i=S.pa.length:=by have hi:i<S.pa.length+1:=hi;omega
   subst qi;exact ⟨v,by rw [List.getElem?_append_right (by rw [d.c.pat.len];exact Nat.le_refl _),d.c.pat.len];simp,by
    show World.ownsRow _ _ _ _ _ (S.pa++ [p])[S.pa.length].bytes.length (xY (S.pa++ [p])[S.pa.length].bytes);rw [List.getElem_append_right (Nat.le_refl _)];simp only [Nat.sub_self,List.getElem_cons_zero];exact zG hv (fun g e=>k g (hv.lt g e).2 (by rw [(tv g e).1];decide) (by rw [(tv g e).1];decide))⟩
 ·exact zma
 ·rcases d.c.ls with q|q
  ·rw [q.2] at e;cases e
  ·exact (t g (q.blk g e) (by rw [d.c.tl g e];decide)).trans (d.c.tl g e)
 ·by_cases q:i<f.ps.length
  ·rw [List.getElem?_append_left q] at hu;exact (t g (d.c.pat.blk hu g e) (by rw [d.c.ts i u hu g e];decide)).trans (d.c.ts i u hu g e)
  ·rw [List.getElem?_append_right zza] at hu;have:u=v:=by
    rcases h:i-f.ps.length with _|j
    ·rw [h] at hu;simpa using hu.symm
    ·rw [h] at hu;simp at hu
   subst this;show (if g=g' then 6 else if u.ownBlock=some g then 11 else tag1 g)=11;rw [if_neg (hvg g e),if_pos e]
 ·exact ⟨hg.os.trans (ha.os.trans c.os),hg.tape.trans (ha.tape.trans c.tape),hg.output.trans (ha.output.trans c.output),by simp;omega,fun g h1 h2=>(k g zza (by rw [c.tags g h1 h2];decide) (by rw [c.tags g h1 h2];decide)).trans (c.block g h1 h2),fun g h1 h2=>by
   have h3:=c.tags g h1 h2;show (if g=g' then 6 else if v.ownBlock=some g then 11 else tag1 g)=0;rw [if_neg (fun e=>by have:=hgt g zza e;omega),if_neg (fun e=>by have:=(tv g e).2;omega),h3]⟩
theorem JI:∀ (n:Nat) (l:List UInt8) (x y:UInt8),l.length=2*n->yP (l++ [x,y])=(yP l).bind fun o=>if (hb x y).2=true then some (o++ [(hb x y).1]) else none
 |0,[],x,y,_=>by simp [yP]
 |0,_::_,_,_,h=>by simp at h
 |n+1,[],_,_,h=>by simp at h
 |n+1,[_],_,_,h=>by simp at h;omega
 |n+1,a::b::r,x,y,h=>by
  rw [List.cons_append,List.cons_append,xz,xz,JI n r x y (by simp at h;omega)];cases (hb a b).2<;>cases yP r<;>cases (hb x y).2<;>simp
theorem U5(x y:UInt8):yJ [x,y]=if (hb x y).2=true then ((hb x y).1.toNat:Int) else -1:=by
 rw [vJ (n:=1) rfl,xz];cases (hb x y).2<;>simp [yP,num256]
structure Prs (a:List UInt8) (k:Nat) (ok:Bool) (B:List Int):Prop where
 ok:ok=(yP (a.take (2*k))).isSome
 len:B.length=k-2
 val:∀o,yP (a.take (2*k))=some o->B=(o.drop 2).map fun b=>(b.toNat:Int)
theorem zdq(a:List UInt8)(k:Nat)(h:2*k+2<=a.length):a.take (2*(k+1))=a.take (2*k)++ [a.getD (2*k) 0,a.getD (2*k+1) 0]:=by
 have h1:2*k+1<a.length:=by omega
 have h0:2*k<a.length:=by omega
 rw [show 2*(k+1)=2*k+1+1 from by omega,List.take_succ_eq_append_getElem h1,List.take_succ_eq_append_getElem h0,List.append_assoc,List.getD_eq_getElem?_getD,List.getD_eq_getElem?_getD,List.getElem?_eq_getElem h1,List.getElem?_eq_getElem h0];rfl
theorem Prs.next{a:List UInt8}{k:Nat}{ok:Bool}{B:List Int}(h:Prs a k ok B)(hk:2*k+2<=a.length)(h2:2<=k):Prs a (k+1) (ok&&decide (0<=yJ [a.getD (2*k) 0,a.getD (2*k+1) 0])) (B++ [yJ [a.getD (2*k) 0,a.getD (2*k+1) 0]]):=by
 have e:=JI k (a.take (2*k)) (a.getD (2*k) 0) (a.getD (2*k+1) 0) (by rw [List.length_take];omega);rw [<-zdq a k hk] at e;generalize a.getD (2*k) 0=x at*;generalize a.getD (2*k+1) 0=y at*;refine ⟨?_,by rw [List.length_append,h.len];simp;omega,fun o ho=>?_⟩
 ·rw [h.ok,e,U5];cases yP (a.take (2*k))<;>cases (hb x y).2<;>simp
 ·rw [e] at ho;cases hq:yP (a.take (2*k)) with
  |none=>rw [hq] at ho;cases ho
  |some q=>
   rw [hq] at ho;have hl:=vu _ _ _ (Nat.le_refl _) hq;rw [List.length_take] at hl;simp only [Option.bind_some] at ho;split at ho
   ·next hb=>
    injection ho with ho;subst ho;rw [h.val q hq,U5,if_pos hb,List.drop_append_of_le_length zza,List.map_append];rfl
   ·cases ho
theorem Prs.first{a:List UInt8}(h:4<=a.length):Prs a 2 (decide (0<=yJ (a.take 4))) []:=by
 have hl:(a.take 4).length=2*2:=by rw [List.length_take];omega
 have e:=vJ hl;refine ⟨?_,rfl,fun o ho=>?_⟩
 ·rw [e];show _=(yP (a.take 4)).isSome;cases yP (a.take 4)<;>simp
 ·have:=vu _ _ _ (Nat.le_refl _) ho;have hl:(a.take (2*2)).length=4:=hl;rw [List.drop_of_length_le zza];rfl
theorem JJ{a o:List UInt8}(h:yP a=some o)(h2:2<=o.length):yJ (a.take 4)=yo o:=by
 have hl:=vu _ _ _ (Nat.le_refl _) h;match a,h,hl with
 |x::y::z::t::r,h,hl=>
  rw [xz,xz] at h;show yJ [x,y,z,t]=_;rw [vJ (n:=2) rfl,xz,xz];split at h
  ·next h1=>
   rw [if_pos h1];split at h
   ·next h3=>
    rw [if_pos h3];cases hr:yP r with
    |none=>rw [hr] at h;cases h
    |some q=>
     rw [hr] at h;injection h with h;subst h;exact zjf _ _
   ·cases h
  ·cases h
 | [],h,hl=>simp at hl;omega
 | [_],h,hl=>simp at hl;omega
 | [_,_],h,hl=>simp at hl;omega
 | [_,_,_],h,hl=>simp at hl;omega
def Sat(S:SB)(N:Int):Prop:= ∃w B s,CAt w B s/\SV S s/\SI S N
theorem Z1{P:Program}{f:FuncId}{args:Array Value}{w:World}{R:Ending->World->Prop}(h:Calls P f args w R):∃e w',R e w':=by
 obtain ⟨e,w',_,hR,_⟩:=h [];exact ⟨e,w',hR⟩
section
variable {S:SB} {N:Int}
theorem Sat.rn(h:Sat S N):Rn S.pc:=by
 obtain ⟨w,B,s,hc,hS,_⟩:=h;have r:=zlF hc;rw [hS.core] at r;exact ⟨⟨r.bytes.1,r.bytes.2⟩,r.data,r.a,r.x,r.y,r.sp,r.p,r.pc⟩
theorem Sat.pa(h:Sat S N):(∀p∈S.pa,PatOk p)/\S.pa.length<=4:=by
 obtain ⟨w,B,s,hc,hS,_⟩:=h;obtain ⟨H,h1,_⟩:=hS.pa.h;exact ⟨hS.pa.ok,h1.n4⟩
theorem Sat.rc(h:Sat S N):S.rc.first<64/\S.rc.n<=64:=by
 obtain ⟨w,B,s,hc,hS,_⟩:=h;exact ⟨hS.rc.f64,hS.rc.n64⟩
theorem Sat.pts(h:Sat S N):S.bp.n<=4/\S.wp.n<=4:=by
 obtain ⟨w,B,s,hc,hS,_⟩:=h;exact ⟨hS.bp.n4,hS.wp.n4⟩
theorem Sat.cycs(h:Sat S N):0<=S.pc.cyc/\S.pc.cyc<=N:=by
 obtain ⟨w,B,s,hc,hS,hI⟩:=h;exact ⟨hI.c0,hI.c1⟩
theorem Sat.cyc(h:Sat S N)(h5:S.pc.st≠5)(hr:S.re=true->S.rc.n<64)(hN:N<4611686018427387904):Sat S.cyc1.1 (N+1)/\(0<=S.cyc1.2.addr/\S.cyc1.2.addr<65536)/\∀k,Left S.pc k->∃k',Left S.cyc1.1.pc k'/\k'<=9/\(S.cyc1.1.pc.betw=true\/k'+1<=k):=by
 obtain ⟨w,B,s,hc,hS,hI⟩:=h;obtain ⟨e,w',_,s',hT,hS'⟩:=Z1 (Xg (Tn.refl hc) hS h5 hI.wf hr);obtain ⟨h1,h2,h3,h4⟩:=zbh hc hS hI h5 hN hT.c hS';exact ⟨⟨w',B,s',hT.c,hS',h1⟩,⟨h2,h3⟩,h4⟩
end
theorem Left.pos{s:PC}{k:Nat}(h:Left s k):1<=k:=by
 cases h with
 |idle=>omega
 |mid n _ h7 _=>omega
structure GoP (F:Nat) (N:Int) (wh:Bool) (Gv:SB × List UInt8) (S:SB) (l c:Int) (f:Nat):Prop where
 s:Sat S (N+c)
 l0:0<=l
 l1:l<=65535
 c0:0<=c
 cf:c+f<=F
 lf:∃k,Left S.pc k/\10*l.toNat+k<=f
 g:S.go f l wh c=Gv
theorem GoP.first{S:SB}{N l:Int}{wh:Bool}(h:Sat S N)(l0:0<=l)(l1:l<=65535):GoP (10*l.toNat+9) N wh (S.go (10*l.toNat+9) l wh 0) S l 0 (10*l.toNat+9):=by
 have hI:∃k,Left S.pc k/\k<=9:=by obtain ⟨_,_,_,_,_,hI⟩:=h;exact hI.left
 obtain ⟨k,hk,h9⟩:=hI;exact ⟨by rw [Int.add_zero];exact h,l0,l1,Int.le_refl _,by omega,⟨k,hk,by omega⟩,rfl⟩
section
variable {F f:Nat} {N l c:Int} {wh:Bool} {Gv:SB × List UInt8} {S:SB}
theorem GoP.pos(h:GoP F N wh Gv S l c f):0<f:=by
 obtain ⟨k,hk,hf⟩:=h.lf;have:=hk.pos;omega
theorem GoP.stops(h:GoP F N wh Gv S l c f){why:Nat}(hk:S.look l c=some why):Gv=(S,xD why c):=by
 obtain ⟨f',rfl⟩:∃f',f=f'+1:=⟨f-1,by have:=h.pos;omega⟩
 rw [<-h.g,SB.go,hk]
theorem GoP.goes(h:GoP F N wh Gv S l c f)(hk:S.look l c=none)(hN:N+c<4611686018427387904):(S.cyc1.1.wp.has S.cyc1.2.addr=true->Gv=(S.cyc1.1,xD 2 (c+1)))/\
  (S.cyc1.1.wp.has S.cyc1.2.addr=false->GoP F N wh Gv S.cyc1.1 (if wh=false\/S.cyc1.1.pc.betw=true then l-1 else l) (c+1) (f-1)):=by
 obtain ⟨f',rfl⟩:∃f',f=f'+1:=⟨f-1,by have:=h.pos;omega⟩
 obtain ⟨ln,h5,hr⟩:=Qr hk;have hrc:=h.s.rc;obtain ⟨s2,_,hL⟩:=h.s.cyc h5 (fun e=>by have:=hrc.2;by_cases q:S.rc.n=64;exact absurd ⟨e,q⟩ hr;omega) hN;have hg:=h.g;rw [SB.go,hk] at hg;simp only at hg;refine ⟨fun q=>?_,fun q=>?_⟩
 ·rw [if_pos q] at hg;exact hg.symm
 ·rw [if_neg (by rw [q];decide)] at hg;have hl0:=h.l0;have hl1:=h.l1;obtain ⟨k,hk1,hk2⟩:=h.lf;have hp:=hk1.pos;obtain ⟨k',k1,k2,k3⟩:=hL k hk1;refine ⟨by rw [<-Int.add_assoc];exact s2,?_,?_,by have:=h.c0;omega,by have:=h.cf;omega,⟨k',k1,?_⟩,by simpa using hg⟩
  ·split<;>omega
  ·split<;>omega
  ·split
   ·omega
   ·rename_i hb;have hb2:¬S.cyc1.1.pc.betw=true:=fun z=>hb (.inr z)
    have:k'+1<=k:=k3.resolve_left hb2;omega
end
theorem zb7(why c:Nat)(h:why<=4):[84]++zX why 1++zX c 6=xD why (c:Int):=by
 unfold xD;rw [Int.toNat_natCast];congr 1
 match why,h with
 |0,_|1,_|2,_|3,_|4,_=>rfl
 |n+5,h=>omega
theorem zb8(most c d:Int)(wh bt:Bool):(if wh=false\/bt=true then (most-if wh=true then d else c)-1 else most-if wh=true then d else c)=most-if wh=true then (if bt=true then d+1 else d) else c+1:=by
 cases wh<;>cases bt<;>simp<;>omega
