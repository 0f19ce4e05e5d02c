import Derived.BigRegion
import Derived.Test.YtcgjliflnnklnaaGreatJ22
import Derived.Test.YtcgjliflnnklnaaGreatJ18
namespace Go.Proofs.YtcgjliflnnklnaaGreat
open Go.RowKit Tryz
set_option maxRecDepth 100000
set_option maxHeartbeats 4000000
section
theorem zel{B:Nat}{s:PC}{w0 w:World}(h:Tn B s w0 w)(a d:Int)(h0:0<=a)(h1:a<65536)(d0:0<=d)(d1:d<256):Cq 288 #[Pq B,.int .u16 a,Uq d] w (.tuple #[]) fun w'=>Tn B {s with mem:=vH s.mem a.toNat d} w0 w':=by
 have HT:=hid h;obtain ⟨n,rfl⟩:=Int.eq_ofNat_of_zero_le h0;have fz:=h.c.free;have c:=h.c.mem n zza;have hn:n<65536:=by omega
 clear h;go_enter func288,ntmps288;go_wp2;go_end0;exact ⟨rfl,HT.out.setMem n d hn ⟨d0,d1⟩⟩
theorem Xn{B:Nat}{s:PC}{w0 w:World}(h:Tn B s w0 w):Calls prog 278 #[.pointer (some ⟨B,0,none⟩)] w fun e w'=>e=.returned (.bool (s.st==0))/\w'=w:=by
 have c:=h.c.cst;clear h;go_enter func278,ntmps278;go_wp2;go_ret;exact ⟨rfl,rfl⟩
theorem KI{B:Nat}{s:PC}{w0 w:World}(h:Tn B s w0 w):Cq 53 #[Pq B] w (Tq (s.st==5)) fun w'=>w'=w:=by
 have c:=h.c.cst;clear h;go_enter func53,ntmps53;go_wp2;go_ret;exact ⟨rfl,rfl⟩
def PC.betw(s:PC):Bool:=s.st==0||s.st==5
theorem Zk{B:Nat}{s:PC}{w0 w:World}(h:Tn B s w0 w):Cq 214 #[Pq B] w (Tq s.betw) fun w'=>w'=w:=by
 have F:=Xn h;have J:=KI h;unfold PC.betw;clear h;cases hb:(s.st==0)
 ·rw [hb] at F;go_enter func214,ntmps214;go_wp2_with (first|(go_at_call 278;refine F.mono ?_;rintro e w1 ⟨rfl,rfl⟩)|(go_at_call 53;refine J.mono ?_;rintro e w1 ⟨rfl,rfl⟩));go_ret;exact ⟨rfl,rfl⟩
 ·rw [hb] at F;go_enter func214,ntmps214;go_wp2_with (first|(go_at_call 278;refine F.mono ?_;rintro e w1 ⟨rfl,rfl⟩));go_ret;exact ⟨rfl,rfl⟩
structure Pat where
 turn:Int
 at_:Int
 b:Nat->Int
 n:Nat
def Pat.val(p:Pat):Value:=.agg #[Iq p.turn,.int .u16 p.at_,Uq (p.b 0),Uq (p.b 1),Uq (p.b 2),Uq (p.b 3),Uq (p.b 4),Uq (p.b 5),Uq (p.b 6),Uq (p.b 7),Iq (p.n:Int)]
structure PatR (R:Nat->Option Value) (o:Nat) (p:Pat):Prop where
 ct:R o=some (Iq p.turn)
 ca:R (o+1)=some (.int .u16 p.at_)
 cb:∀j,j<8->R (o+2+j)=some (Uq (p.b j))
 cn:R (o+10)=some (Iq (p.n:Int))
theorem Zl{B:Nat}{s:PC}{w0 w:World}(h:Tn B s w0 w)(i j:Nat)(hi:i<4)(hj:j<4)(p q:Pat)(hp:PatR s.rest (65778+i*11) p)(hq:PatR s.rest (65778+j*11) q):Cq 286 #[.pointer (some (Aq B 65778)),Iq i,Iq j] w (Tq (decide (p.turn<q.turn))) fun w'=>∃n,w'=w.drewN n:=by
 have c1:=h.rest zza hp.ct;have c2:=h.rest zza hq.ct;clear h hp hq;go_enter func286,ntmps286;go_wp2;go_quiet (fail);go_wp2;go_ret;exact ⟨rfl,_,rfl⟩
def putPat(s:PC)(o:Nat)(p:Pat):PC:=
 ((((((((((s.put o (Iq p.turn)).put (o+1) (.int .u16 p.at_)).put (o+2) (Uq (p.b 0))).put (o+3) (Uq (p.b 1))).put (o+4) (Uq (p.b 2))).put (o+5) (Uq (p.b 3))).put (o+6) (Uq (p.b 4))).put (o+7) (Uq (p.b 5))).put (o+8) (Uq (p.b 6))).put (o+9) (Uq (p.b 7))).put (o+10) (Iq (p.n:Int))
def jI(w:World)(B o:Nat)(p:Pat):World:=
 ((((((((((w.setCell (Aq B o) (Iq p.turn)).setCell ⟨B,o+1,none⟩ (.int .u16 p.at_)).setCell ⟨B,o+2,none⟩ (Uq (p.b 0))).setCell ⟨B,o+3,none⟩ (Uq (p.b 1))).setCell ⟨B,o+4,none⟩ (Uq (p.b 2))).setCell ⟨B,o+5,none⟩ (Uq (p.b 3))).setCell ⟨B,o+6,none⟩ (Uq (p.b 4))).setCell ⟨B,o+7,none⟩ (Uq (p.b 5))).setCell ⟨B,o+8,none⟩ (Uq (p.b 6))).setCell ⟨B,o+9,none⟩ (Uq (p.b 7))).setCell ⟨B,o+10,none⟩ (Iq (p.n:Int))
theorem xi(s:PC)(o k:Nat)(p:Pat)(h:k<o\/o+11<=k):(putPat s o p).rest k=s.rest k:=by
 unfold putPat;rw [zh _ _ _ _ zza,zh _ _ _ _ zza,zh _ _ _ _ zza,zh _ _ _ _ zza,zh _ _ _ _ zza,zh _ _ _ _ zza,zh _ _ _ _ zza,zh _ _ _ _ zza,zh _ _ _ _ zza,zh _ _ _ _ zza,zh _ _ _ _ zza]
theorem ZD(s:PC)(o j:Nat)(p:Pat)(hj:j<11):(putPat s o p).rest (o+j)=#[Iq p.turn,.int .u16 p.at_,Uq (p.b 0),Uq (p.b 1),Uq (p.b 2),Uq (p.b 3),Uq (p.b 4),Uq (p.b 5),Uq (p.b 6),Uq (p.b 7),Iq (p.n:Int)][j]?:=by
 unfold putPat
 rcases (show j=0\/j=1\/j=2\/j=3\/j=4\/j=5\/j=6\/j=7\/j=8\/j=9\/j=10 from by omega) with rfl|rfl|rfl|rfl|rfl|rfl|rfl|rfl|rfl|rfl|rfl<;>
  simp [PC.put,PC.rr]
theorem zqm{p:Prop} (q:p:=by
 rcases (show j=0\/j=1\/j=2\/j=3\/j=4\/j=5\/j=6\/j=7 from by omega) with rfl|rfl|rfl|rfl|rfl|rfl|rfl|rfl<;>rfl):p:=q
theorem KJ(s:PC)(o:Nat)(p:Pat):PatR (putPat s o p).rest o p:=by
 refine ⟨ZD s o 0 p zzb,ZD s o 1 p zzb,fun j hj=>?_,ZD s o 10 p zzb⟩;rw [Nat.add_assoc,ZD s o (2+j) p zza];exact zqm
theorem Tn.putPat{w0 w:World}{B:Nat}{s:PC}{q:Pat}(h:Tn B s w0 w)(o:Nat)(p:Pat)(ho:65562<=o)(h0:PatR s.rest o q):Tn B (putPat s o p) w0 (jI w B o p):=by
 have c:∀j,2<=j->j<10->s.rest (o+j)=some (Uq (q.b (j-2))):=fun j h1 h2=>by have:=h0.cb (j-2) zza;rwa [show o+2+(j-2)=o+j from by omega] at this
 unfold Go.Proofs.YtcgjliflnnklnaaGreat.putPat jI;refine Tn.put (Tn.put (Tn.put (Tn.put (Tn.put (Tn.put (Tn.put (Tn.put (Tn.put (Tn.put (Tn.put h o _ _ ho h0.ct) (o+1) _ (.int .u16 q.at_) zza ?_) (o+2) _ (Uq (q.b 0)) zza ?_) (o+3) _ (Uq (q.b 1)) zza ?_) (o+4) _ (Uq (q.b 2)) zza ?_) (o+5) _ (Uq (q.b 3)) zza ?_) (o+6) _ (Uq (q.b 4)) zza ?_) (o+7) _ (Uq (q.b 5)) zza ?_) (o+8) _ (Uq (q.b 6)) zza ?_) (o+9) _ (Uq (q.b 7)) zza ?_) (o+10) _ (Iq (q.n:Int)) zza ?_;all_goals (repeat rw [zh _ _ _ _ zza])
 ·exact h0.ca
 ·exact c 2 zza zza
 ·exact c 3 zza zza
 ·exact c 4 zza zza
 ·exact c 5 zza zza
 ·exact c 6 zza zza
 ·exact c 7 zza zza
 ·exact c 8 zza zza
 ·exact c 9 zza zza
 ·exact h0.cn
end
section
structure RsO (lo hi:Nat) (s s':PC):Prop where
 core:s'=s.rr s'.rest
 keep:∀o,o<lo\/hi<=o->s'.rest o=s.rest o
theorem RsO.refl(lo hi:Nat)(s:PC):RsO lo hi s s:=⟨rfl,fun _ _=>rfl⟩
theorem RsO.trans{lo hi:Nat}{s t u:PC}(h:RsO lo hi s t)(k:RsO lo hi t u):RsO lo hi s u:=⟨by rw [k.core,h.core];rfl,fun o ho=>(k.keep o ho).trans (h.keep o ho)⟩
theorem RsO.mono{lo hi lo' hi':Nat}{s t:PC}(h:RsO lo hi s t)(h1:lo'<=lo)(h2:hi<=hi'):RsO lo' hi' s t:=⟨h.core,fun o ho=>h.keep o zza⟩
theorem RsO.put(s:PC)(o:Nat)(v:Value)(lo hi:Nat)(h1:lo<=o)(h2:o<hi):RsO lo hi s (s.put o v):=⟨rfl,fun k hk=>zh _ _ _ _ zza⟩
theorem RsO.putPat(s:PC)(o:Nat)(p:Pat)(lo hi:Nat)(h1:lo<=o)(h2:o+11<=hi):RsO lo hi s (putPat s o p):=
 ((((((((((RsO.put s o _ lo hi zza zza).trans (RsO.put _ (o+1) _ lo hi zza zza)).trans (RsO.put _ (o+2) _ lo hi zza zza)).trans (RsO.put _ (o+3) _ lo hi zza zza)).trans (RsO.put _ (o+4) _ lo hi zza zza)).trans (RsO.put _ (o+5) _ lo hi zza zza)).trans (RsO.put _ (o+6) _ lo hi zza zza)).trans (RsO.put _ (o+7) _ lo hi zza zza)).trans (RsO.put _ (o+8) _ lo hi zza zza)).trans (RsO.put _ (o+9) _ lo hi zza zza)).trans (RsO.put _ (o+10) _ lo hi zza zza)
theorem PatR.facts{B o:Nat}{s:PC}{w0 w:World}{p:Pat}(h:Tn B s w0 w)(hp:PatR s.rest o p)(ho:65562<=o):w.cell? (Aq B o)=some (Iq p.turn)/\w.cell? ⟨B,o+1,none⟩=some (.int .u16 p.at_)/\w.cell? ⟨B,o+2,none⟩=some (Uq (p.b 0))/\w.cell? ⟨B,o+3,none⟩=some (Uq (p.b 1))/\w.cell? ⟨B,o+4,none⟩=some (Uq (p.b 2))/\w.cell? ⟨B,o+5,none⟩=some (Uq (p.b 3))/\w.cell? ⟨B,o+6,none⟩=some (Uq (p.b 4))/\w.cell? ⟨B,o+7,none⟩=some (Uq (p.b 5))/\w.cell? ⟨B,o+8,none⟩=some (Uq (p.b 6))/\w.cell? ⟨B,o+9,none⟩=some (Uq (p.b 7))/\w.cell? ⟨B,o+10,none⟩=some (Iq (p.n:Int)):=
 ⟨h.rest ho hp.ct,h.rest zza hp.ca,h.rest zza (hp.cb 0 zzb),h.rest zza (hp.cb 1 zzb),h.rest zza (hp.cb 2 zzb),h.rest zza (hp.cb 3 zzb),h.rest zza (hp.cb 4 zzb),h.rest zza (hp.cb 5 zzb),h.rest zza (hp.cb 6 zzb),h.rest zza (hp.cb 7 zzb),h.rest zza hp.cn⟩
theorem Hy{B:Nat}{s:PC}{w0 w:World}(h:Tn B s w0 w)(p q:Pat)(hp:PatR s.rest 65778 p)(hq:PatR s.rest 65789 q):Cq 287 #[.pointer (some (Aq B 65778)),Iq 0,Iq 1] w (.tuple #[]) fun w'=>Tn B (putPat (putPat s 65778 q) 65789 p) w0 w':=by
 obtain ⟨a0,a1,a2,a3,a4,a5,a6,a7,a8,a9,a10⟩:=hp.facts h zzb;obtain ⟨b0,b1,b2,b3,b4,b5,b6,b7,b8,b9,b10⟩:=hq.facts h zzb;have fz:=h.c.free;have HT:=hid h;have HP:=hid hp;have HQ:=hid hq;clear h hp hq;go_enter func287,ntmps287;go_wp2;go_region;go_wp2;go_end0;refine ⟨rfl,Tn.drew (Tn.putPat (Tn.putPat HT.out 65778 q zzb HP.out) 65789 p zzb (q:=q) ?_)⟩;exact ⟨(xi _ _ _ _ zza).trans HQ.out.ct,(xi _ _ _ _ zza).trans HQ.out.ca,fun j hj=>(xi _ _ _ _ zza).trans (HQ.out.cb j hj),(xi _ _ _ _ zza).trans HQ.out.cn⟩
end
section
structure PasR (R:Nat->Option Value) (H:Nat->Pat) (n:Nat):Prop where
 n4:n<=4
 cn:R 65822=some (Iq (n:Int))
 ch:∀i,i<4->PatR R (65778+i*11) (H i)
def upd(H:Nat->Pat)(i:Nat)(p:Pat):Nat->Pat:=fun k=>if k=i then p else H k
theorem PatR.keep{R Q:Nat->Option Value}{o:Nat}{p:Pat}(h:PatR R o p)(e:∀k,o<=k->k<o+11->Q k=R k):PatR Q o p:=
 ⟨(e _ zza zza).trans h.ct,(e _ zza zza).trans h.ca,fun j hj=>(e _ zza zza).trans (h.cb j hj),(e _ zza zza).trans h.cn⟩
theorem PasR.putPat{s:PC}{H:Nat->Pat}{n:Nat}(h:PasR s.rest H n)(i:Nat)(hi:i<4)(p:Pat):PasR (putPat s (65778+i*11) p).rest (upd H i p) n:=by
 refine ⟨h.n4,by rw [xi _ _ _ _ zza];exact h.cn,fun k hk=>?_⟩;unfold upd;by_cases e:k=i
 ·subst e;rw [if_pos rfl];exact KJ _ _ _
 ·rw [if_neg e];exact (h.ch k hk).keep fun o h1 h2=>xi _ _ _ _ zza
theorem PasR.count{s:PC}{H:Nat->Pat}{n:Nat}(h:PasR s.rest H n)(m:Nat)(hm:m<=4):PasR (s.put 65822 (Iq (m:Int))).rest H m:=
 ⟨hm,yj _ _ _,fun k hk=>(h.ch k hk).keep fun o h1 h2=>zh _ _ _ _ zza⟩
def VF(s:PC)(H:Nat->Pat)(n:Nat):PC:=if 2<=n/\(H 1).turn<(H 0).turn then putPat (putPat s 65778 (H 1)) 65789 (H 0) else s
def VG(H:Nat->Pat)(n:Nat):Nat->Pat:=if 2<=n/\(H 1).turn<(H 0).turn then upd (upd H 0 (H 1)) 1 (H 0) else H
theorem zkO{s:PC}{H:Nat->Pat}{n:Nat}(h:PasR s.rest H n):PasR (VF s H n).rest (VG H n) n:=by
 unfold VF VG;by_cases e:2<=n/\(H 1).turn<(H 0).turn
 ·rw [if_pos e,if_pos e];exact (h.putPat 0 zzb (H 1)).putPat 1 zzb (H 0)
 ·rw [if_neg e,if_neg e];exact h
theorem zkP(s:PC)(H:Nat->Pat)(n:Nat):RsO 65778 65823 s (VF s H n):=by
 unfold VF;split
 ·exact (RsO.putPat s 65778 _ _ _ zzb zzb).trans (RsO.putPat _ 65789 _ _ _ zzb zzb)
 ·exact RsO.refl _ _ _
theorem znE{p:Prop} (q:p:=by
 go_wp2_with fail;go_loopw [1] (fun i wr=>i=Iq 0/\wr=w) (fun i _=>1);case atStart=>exact ⟨rfl,rfl⟩
 case round=>
  obtain ⟨rfl,rfl⟩:=hrel;go_wp2;go_end0;exact ⟨rfl,HT.out⟩):p:=q
theorem zpR{p:Prop} (q:p:=by
 have c2:=cn2.out _ hT;have HT2:=hid hT;clear hT;go_wp2;go_end0;exact ⟨rfl,HT2.out⟩):p:=q
theorem zem{B:Nat}{s:PC}{w0 w:World}{H:Nat->Pat}{n:Nat}(h:Tn B s w0 w)(hp:PasR s.rest H n)(hn:n<=3)(h3:n=3->¬(H 2).turn<(H 1).turn):Cq 289 #[.pointer (some (Aq B 65778)),Iq 0] w (.tuple #[]) fun w'=>Tn B (VF s H n) w0 w':=by
 have cn:w.cell? (Aq B 65822)=some (Iq (n:Int)):=h.rest zzb hp.cn;have HT:=hid h;have HP:=hid hp;unfold VF;by_cases h2:2<=n
 ·have E10:=fun {w:World} (h:Tn B s w0 w)=>Zl h 1 0 zzb zzb (H 1) (H 0) (hp.ch 1 zzb) (hp.ch 0 zzb)
  have E21:=fun {w:World} (h:Tn B s w0 w)=>Zl h 2 1 zzb zzb (H 2) (H 1) (hp.ch 2 zzb) (hp.ch 1 zzb)
  have SW:=fun {w:World} (h:Tn B s w0 w)=>Hy h (H 0) (H 1) (hp.ch 0 zzb) (hp.ch 1 zzb)
  by_cases ht:(H 1).turn<(H 0).turn
  ·rw [if_pos ⟨h2,ht⟩];have hE:decide ((H 1).turn<(H 0).turn)=true:=by simpa using ht
   simp only [hE] at E10;have cn2:Hid (∀w',Tn B (putPat (putPat s 65778 (H 1)) 65789 (H 0)) w0 w'->w'.cell? (Aq B 65822)=some (Iq (n:Int))):=fun w' h'=>h'.rest zzb (by rw [xi _ _ _ _ zza,xi _ _ _ _ zza];exact HP.out.cn)
   rcases (show n=2\/n=3 from by omega) with rfl|rfl
   ·clear h hp h3 E21 ht hE;go_enter func289,ntmps289;go_wp2_with fail;go_loopw [1] (fun i wr=>(i=Iq 0/\wr=w)\/(i=Iq 1/\Tn B (putPat (putPat s 65778 (H 1)) 65789 (H 0)) w0 wr)) (fun i _=>1-(intOf i).toNat);case atStart=>exact .inl ⟨rfl,rfl⟩
    case round=>
     rcases hrel with ⟨rfl,rfl⟩|⟨rfl,hT⟩
     ·go_wp2_with (first|(go_at_call 286;refine (E10 HT.out).mono ?_;rintro e w1 ⟨rfl,k,rfl⟩)|(go_at_call 287;refine (SW (HT.out.drewN k)).mono ?_;rintro e w2 ⟨rfl,T2⟩;have HT2:=hid T2;clear T2));go_roundw;case rel=>exact .inr ⟨rfl,HT2.out⟩
      case measure=>simp [intOf]
     ·exact zpR
   ·have h3':=h3 rfl;have hE2:decide ((H 2).turn<(H 1).turn)=false:=by simpa using h3'
    simp only [hE2] at E21;clear h hp h3 ht hE h3' hE2;go_enter func289,ntmps289;go_wp2_with fail;go_loopw [1] (fun i wr=>(i=Iq 0/\wr=w)\/(i=Iq 1/\Tn B (putPat (putPat s 65778 (H 1)) 65789 (H 0)) w0 wr)) (fun i _=>1-(intOf i).toNat);case atStart=>exact .inl ⟨rfl,rfl⟩
    case round=>
     rcases hrel with ⟨rfl,rfl⟩|⟨rfl,hT⟩
     ·go_wp2_with fail;refine (E21 HT.out).mono ?_;rintro e w1 ⟨rfl,k,rfl⟩;have HTk:=hid (HT.out.drewN k);generalize wr.drewN k=wk at*;go_wp2_with fail;refine (E10 HTk.out).mono ?_;rintro e w1 ⟨rfl,k2,rfl⟩;have HTk2:=hid (HTk.out.drewN k2);generalize wk.drewN k2=wk2 at*;go_wp2_with fail;refine (SW HTk2.out).mono ?_;rintro e w2 ⟨rfl,T2⟩;have HT2:=hid T2;clear T2;go_wp2;go_roundw;case rel=>exact .inr ⟨rfl,HT2.out⟩
      case measure=>simp [intOf]
     ·exact zpR
  ·rw [if_neg (fun e=>ht e.2)];have hE:decide ((H 1).turn<(H 0).turn)=false:=by simpa using ht
   simp only [hE] at E10;rcases (show n=2\/n=3 from by omega) with rfl|rfl
   ·clear h hp h3 E21 ht hE;go_enter func289,ntmps289;go_wp2_with fail;go_loopw [1] (fun i wr=>i=Iq 0/\wr=w) (fun i _=>1);case atStart=>exact ⟨rfl,rfl⟩
    case round=>
     obtain ⟨rfl,rfl⟩:=hrel;go_wp2_with (first|(go_at_call 286;refine (E10 HT.out).mono ?_;rintro e w1 ⟨rfl,k,rfl⟩));refine bodyPost_ret (results_none rfl _ _ _) rfl ?_;exact ⟨rfl,HT.out.drewN k⟩
   ·have h3':=h3 rfl;have hE2:decide ((H 2).turn<(H 1).turn)=false:=by simpa using h3'
    simp only [hE2] at E21;clear h hp h3 ht hE h3' hE2;go_enter func289,ntmps289;go_wp2_with fail;go_loopw [1] (fun i wr=>i=Iq 0/\wr=w) (fun i _=>1);case atStart=>exact ⟨rfl,rfl⟩
    case round=>
     obtain ⟨rfl,rfl⟩:=hrel;go_wp2_with fail;refine (E21 HT.out).mono ?_;rintro e w1 ⟨rfl,k,rfl⟩;have HTk:=hid (HT.out.drewN k);generalize wr.drewN k=wk at*;go_wp2_with fail;refine (E10 HTk.out).mono ?_;rintro e w1 ⟨rfl,k2,rfl⟩;go_wp2;refine bodyPost_ret (results_none rfl _ _ _) rfl ?_;exact ⟨rfl,HTk.out.drewN k2⟩
 ·rw [if_neg (fun e=>h2 e.1)];have n1:¬((1:Int)<(n:Int)):=by omega
  clear h hp h3;go_enter func289,ntmps289;exact znE
end
section
def yw(p:Pat):Array Value:=#[Iq p.turn,.int .u16 p.at_,Uq (p.b 0),Uq (p.b 1),Uq (p.b 2),Uq (p.b 3),Uq (p.b 4),Uq (p.b 5),Uq (p.b 6),Uq (p.b 7),Iq (p.n:Int)]
def JA:Pat:=⟨0,0,fun _=>0,0⟩
theorem KK(w:World)(B o:Nat)(p:Pat):(jI w B o p).heap.size=w.heap.size:=by unfold jI;simp
def Qe(s:PC)(H:Nat->Pat)(n:Nat):PC:=VF (putPat (s.put 65822 (Iq (((n-1:Nat)):Int))) 65778 (H (n-1))) (upd H 0 (H (n-1))) (n-1)
def ZQ(H:Nat->Pat)(n:Nat):Nat->Pat:=VG (upd H 0 (H (n-1))) (n-1)
theorem zkQ{s:PC}{H:Nat->Pat}{n:Nat}(h:PasR s.rest H n):PasR (Qe s H n).rest (ZQ H n) (n-1):=by
 have:=h.n4;exact zkO ((h.count (n-1) zza).putPat 0 zzb _)
theorem zkR(s:PC)(H:Nat->Pat)(n:Nat):RsO 65778 65823 s (Qe s H n):=
 ((RsO.put s 65822 _ _ _ zzb zzb).trans (RsO.putPat _ 65778 _ _ _ zzb zzb)).trans (zkP _ _ _)
theorem KM{B:Nat}{s:PC}{w0 w:World}{H:Nat->Pat}{n:Nat}(h:Tn B s w0 w)(hp:PasR s.rest H n)(hn:1<=n)(h3:n=4->¬(H 2).turn<(H 1).turn):Calls prog 273 #[.pointer (some (Aq B 65778))] w fun e w'=>e=.returned (H 0).val/\Tn B (Qe s H n) w0 w':=by
 have n4:=hp.n4;have hlt:=h.c.lt;have hsz:=h.g.size;have n0:w.heap.size≠B:=by omega
 have m0:B≠w.heap.size:=by omega
 have n1:w.heap.size+1≠B:=by omega
 have m1:B≠w.heap.size+1:=by omega
 have cn:w.cell? (Aq B 65822)=some (Iq (n:Int)):=h.rest zzb hp.cn;obtain ⟨a0,a1,a2,a3,a4,a5,a6,a7,a8,a9,a10⟩:=(hp.ch 0 zzb).facts h zzb;obtain ⟨b0,b1,b2,b3,b4,b5,b6,b7,b8,b9,b10⟩:=(hp.ch (n-1) zza).facts h zza;have fz:=h.c.free;have hP1:=(hp.count (n-1) zza);have SK:=fun {a w:World} (h:Tn B (putPat (s.put 65822 (Iq (((n-1:Nat)):Int))) 65778 (H (n-1))) a w)=>zem h (hP1.putPat 0 zzb (H (n-1))) zza (fun e=>by unfold upd;rw [if_neg zzb,if_neg zzb];exact h3 zza)
 have HX:Hid (Tn B (putPat (s.put 65822 (Iq (((n-1:Nat)):Int))) 65778 (H (n-1))) w0 (jI (w.setCell (Aq B 65822) (Iq (((n-1:Nat)):Int))) B 65778 (H (n-1)))):=
  Tn.putPat (Tn.put h 65822 _ _ zzb hp.cn) 65778 _ zzb (hP1.ch 0 zzb)
 have hn1:((n:Int)-1)=((n-1:Nat):Int):=by omega
 have k1:n-1<4:=by omega
 have HT:=hid h;have HP:=hid hp;unfold Qe;unfold Pat.val;clear h hp h3 hP1;go_enter func273,ntmps273;go_wp2_with fail;go_region;go_wp2_with fail;change Calls _ _ _ (((jI (w.setCell (Aq B 65822) (Iq (((n-1:Nat)):Int))) B 65778 (H (n-1))).alloc (.cells (yw JA) 116)).alloc (.cells (yw (H 0)) 116)).drew _;have hX:(jI (w.setCell (Aq B 65822) (Iq (((n-1:Nat)):Int))) B 65778 (H (n-1))).heap.size=w.heap.size:=by rw [KK];simp
 generalize jI (w.setCell (Aq B 65822) (Iq (((n-1:Nat)):Int))) B 65778 (H (n-1))=X at*;have TW:=((HX.out.alloc (.cells (yw JA) 116)).alloc (.cells (yw (H 0)) 116)).drew;have q1:∀j,((X.alloc (.cells (yw JA) 116)).alloc (.cells (yw (H 0)) 116)).drew.cell? ⟨w.heap.size+1,j,none⟩=(yw (H 0))[j]?:=fun j=>World.cell?_alloc_at _ _ _ _ (by simp [hX])
 have q0:∀j,((X.alloc (.cells (yw JA) 116)).alloc (.cells (yw (H 0)) 116)).drew.cell? (Aq w.heap.size j)=(yw JA)[j]?:=fun j=>by
  show World.cell? ((X.alloc _).alloc _) _=_;rw [World.cell?_of_block (a:=(Aq w.heap.size j)) (Below.heap_alloc _ _ _ (by simp [hX]))];exact World.cell?_alloc_at _ _ _ _ (by simp [hX])
 have f0:∀j,((X.alloc (.cells (yw JA) 116)).alloc (.cells (yw (H 0)) 116)).drew.frozen? (Aq w.heap.size j)=false:=fun j=>by
  show World.frozen? ((X.alloc _).alloc _) _=_;rw [World.frozen?_of_block (a:=(Aq w.heap.size j)) (Below.heap_alloc _ _ _ (by simp [hX]))];exact World.frozen?_alloc_at _ _ _ _ (by simp [hX])
 have hZ:((X.alloc (.cells (yw JA) 116)).alloc (.cells (yw (H 0)) 116)).drew.heap.size=w.heap.size+2:=by show ((X.alloc _).alloc _).heap.size=_;simp [hX]
 generalize ((X.alloc (.cells (yw JA) 116)).alloc (.cells (yw (H 0)) 116)).drew=W at*;refine (SK (Tn.refl TW.c)).mono ?_;rintro e w2 ⟨rfl,T2⟩;obtain ⟨K1,K2⟩:=kept T2;have g1:∀j,w2.cell? ⟨w.heap.size+1,j,none⟩=(yw (H 0))[j]?:=fun j=>(K1 _ j n1 zza).trans (q1 j)
 have g0:∀j,w2.cell? (Aq w.heap.size j)=(yw JA)[j]?:=fun j=>(K1 _ j n0 zza).trans (q0 j)
 have gf:∀j,w2.frozen? (Aq w.heap.size j)=false:=fun j=>(K2 _ j n0 zza).trans (f0 j)
 have d0:w2.cell? ⟨w.heap.size+1,0,none⟩=some (Iq (H 0).turn):=g1 0;have d1:w2.cell? ⟨w.heap.size+1,1,none⟩=some (.int .u16 (H 0).at_):=g1 1;have d2:w2.cell? ⟨w.heap.size+1,2,none⟩=some (Uq ((H 0).b 0)):=g1 2;have d3:w2.cell? ⟨w.heap.size+1,3,none⟩=some (Uq ((H 0).b 1)):=g1 3;have d4:w2.cell? ⟨w.heap.size+1,4,none⟩=some (Uq ((H 0).b 2)):=g1 4;have d5:w2.cell? ⟨w.heap.size+1,5,none⟩=some (Uq ((H 0).b 3)):=g1 5;have d6:w2.cell? ⟨w.heap.size+1,6,none⟩=some (Uq ((H 0).b 4)):=g1 6;have d7:w2.cell? ⟨w.heap.size+1,7,none⟩=some (Uq ((H 0).b 5)):=g1 7;have d8:w2.cell? ⟨w.heap.size+1,8,none⟩=some (Uq ((H 0).b 6)):=g1 8;have d9:w2.cell? ⟨w.heap.size+1,9,none⟩=some (Uq ((H 0).b 7)):=g1 9;have d10:w2.cell? ⟨w.heap.size+1,10,none⟩=some (Iq ((H 0).n:Int)):=g1 10;have z0:w2.cell? (Aq w.heap.size 0)=some (Iq 0):=g0 0;have z1:w2.cell? (Aq w.heap.size 1)=some (.int .u16 0):=g0 1;have z2:w2.cell? (Aq w.heap.size 2)=some (Uq 0):=g0 2;have z3:w2.cell? (Aq w.heap.size 3)=some (Uq 0):=g0 3;have z4:w2.cell? (Aq w.heap.size 4)=some (Uq 0):=g0 4;have z5:w2.cell? (Aq w.heap.size 5)=some (Uq 0):=g0 5;have z6:w2.cell? (Aq w.heap.size 6)=some (Uq 0):=g0 6;have z7:w2.cell? (Aq w.heap.size 7)=some (Uq 0):=g0 7;have z8:w2.cell? (Aq w.heap.size 8)=some (Uq 0):=g0 8;have z9:w2.cell? (Aq w.heap.size 9)=some (Uq 0):=g0 9;have z10:w2.cell? (Aq w.heap.size 10)=some (Iq 0):=g0 10;have HT2:=hid (TW.trans T2);have hz2:w.heap.size<w2.heap.size:=by have:=T2.g.size;omega
 clear K1 K2 g1 g0 T2 TW q1 q0 f0 SK HX a0 a1 a2 a3 a4 a5 a6 a7 a8 a9 a10 b0 b1 b2 b3 b4 b5 b6 b7 b8 b9 b10 fz cn;go_wp2;refine bodyPost_ret (v:=(H 0).val) (by simp [results,results273,go_sem,Pat.val, *]) rfl (And.intro rfl ?_);repeat (first|with_reducible exact HT2.out|((with_reducible apply Tn.other);(case hne=>omega);(case hb=>omega)))
end
section
theorem zen{B:Nat}{s:PC}{w0 w:World}{H:Nat->Pat}{n m:Nat}(h:Tn B s w0 w)(hp:PasR s.rest H m)(hn:n<4)(ht:0<n->¬(H n).turn<(H ((n-1)/2)).turn):Cq 271 #[.pointer (some (Aq B 65778)),Iq n] w (.tuple #[]) fun w'=>Tn B s w0 w':=by
 have HT:=hid h;by_cases h0:0<n
 ·have E:=Zl h n ((n-1)/2) hn zza (H n) (H ((n-1)/2)) (hp.ch n hn) (hp.ch _ zza);have hE:decide ((H n).turn<(H ((n-1)/2)).turn)=false:=by simpa using ht h0
  rw [hE] at E;have n0:(0:Int)<(n:Int):=by omega
  have e1:((n:Int)-1).tdiv 2=(((n-1)/2:Nat):Int):=by rw [Int.tdiv_eq_ediv_of_nonneg zza];omega
  have e2:((n:Int)-1)/2=(((n-1)/2:Nat):Int):=by omega
  clear h hp ht hE;go_enter func271,ntmps271;go_wp2_with fail;go_loopw [1] (fun i wr=>i=Iq n/\wr=w) (fun i _=>1);case atStart=>exact ⟨rfl,rfl⟩
  case round=>
   obtain ⟨rfl,rfl⟩:=hrel;go_wp2_with fail;refine E.mono ?_;rintro e w1 ⟨rfl,k,rfl⟩;go_wp2;refine bodyPost_ret (results_none rfl _ _ _) rfl ?_;exact ⟨rfl,HT.out.drewN k⟩
 ·have n0:n=0:=by omega
  subst n0;clear h hp ht;go_enter func271,ntmps271;exact znE
theorem Hz{B:Nat}{s:PC}{w0 w:World}{H:Nat->Pat}{n:Nat}(h:Tn B s w0 w)(hp:PasR s.rest H n)(hn:n<4)(p:Pat)(ht:0<n->¬p.turn<(H ((n-1)/2)).turn):Cq 207 #[.pointer (some (Aq B 65778)),p.val] w (.tuple #[]) fun w'=>Tn B ((putPat s (65778+n*11) p).put 65822 (Iq ((n+1:Nat):Int))) w0 w':=by
 have hlt:=h.c.lt;have hsz:=h.g.size;have n0:w.heap.size≠B:=by omega
 have m0:B≠w.heap.size:=by omega
 have cn:w.cell? (Aq B 65822)=some (Iq (n:Int)):=h.rest zzb hp.cn;obtain ⟨a0,a1,a2,a3,a4,a5,a6,a7,a8,a9,a10⟩:=(hp.ch n hn).facts h zza;have fz:=h.c.free;have HX:Hid (Tn B (putPat s (65778+n*11) p) w0 (jI w B (65778+n*11) p)):=Tn.putPat h _ _ zza (hp.ch n hn);have HP:=hid (hp.putPat n hn p);have RI:=fun {w:World} (h:Tn B (putPat s (65778+n*11) p) w0 w)=>zen h (hp.putPat n hn p) hn (fun e=>by unfold upd;rw [if_pos rfl,if_neg zza];exact ht e)
 have h5:(n:Int)<4:=by omega
 unfold Pat.val;clear h hp ht;go_enter func207,ntmps207;go_wp2_with fail;go_region;go_wp2_with fail;change Calls _ _ _ ((jI w B (65778+n*11) p).alloc (.cells (yw p) 116)).drew _;refine (RI (HX.out.alloc _).drew).mono ?_;rintro e w2 ⟨rfl,T2⟩;have c2:=T2.rest zzb HP.out.cn;have HT2:=hid T2;have fz2:=T2.c.free;clear RI T2 HX a0 a1 a2 a3 a4 a5 a6 a7 a8 a9 a10 cn fz;go_wp2;go_end0;exact ⟨rfl,HT2.out.put _ _ _ zzb HP.out.cn⟩
theorem zeo{s:PC}{H:Nat->Pat}{n:Nat}(hp:PasR s.rest H n)(hn:n<4)(p:Pat):PasR ((putPat s (65778+n*11) p).put 65822 (Iq ((n+1:Nat):Int))).rest (upd H n p) (n+1):=
 (hp.putPat n hn p).count (n+1) zza
theorem zep(s:PC)(n:Nat)(hn:n<4)(p:Pat)(v:Value):RsO 65778 65823 s ((putPat s (65778+n*11) p).put 65822 v):=
 (RsO.putPat s _ p _ _ zza zza).trans (RsO.put _ 65822 _ _ _ zzb zzb)
end
section
structure PatOk (p:Pat):Prop where
 n8:p.n<=8
 a0:0<=p.at_
 a1:p.at_<65536
 b0:∀j,j<8->0<=p.b j/\p.b j<256
def ZV(m:Nat->Int)(p:Pat):Nat->(Nat->Int)
 |0=>m
 |k+1=>vH (ZV m p k) ((p.at_+k)%65536).toNat (p.b k)
theorem KN(m:Nat->Int)(p:Pat)(k:Nat):ZV m p (k+1)=vH (ZV m p k) ((p.at_+k)%65536).toNat (p.b k):=rfl
def zeq(m:Nat->Int)(p:Pat):Nat->Int:=ZV m p p.n
theorem zkS(B n:Nat)(h:n<=8)(w:World):Sem.run prog (Instr.sliceAt 114 (.pointer (some (Aq B 2))) none (some (Iq (n:Int))) none) w=.ok (.slice (some (Aq B 2)) n 8) w:=by
 have hal:prog.arrayLen 114=8:=by kernel_rfl
 have hel:prog.elem 114=5:=by kernel_rfl
 rw [run_sliceAt_array_h (P:=prog) w 114 (Aq B 2) (by rw [hal,hel];exact underlying114) .i64 (n:Int) zza (by rw [hal];omega),hal,hel];simp [sizeOf,go_sem,slicedAt,Addr.add]
theorem zer(p:Pat)(j:Nat)(hj:j<8):(yw p)[2+j]?=some (Uq (p.b j)):=by
 exact zqm
theorem Us{B:Nat}{s:PC}{w0 w:World}(h:Tn B s w0 w)(p:Pat)(hp:PatOk p):Cq 272 #[Pq B,p.val] w (.tuple #[]) fun w'=>Tn B {s with mem:=zeq s.mem p} w0 w':=by
 have hlt:=h.c.lt;have hsz:=h.g.size;have n0:w.heap.size≠B:=by omega
 have m0:B≠w.heap.size:=by omega
 have HT:=hid (h.alloc (.cells (yw p) 116));have HP:=hid hp;have q:∀j,(w.alloc (.cells (yw p) 116)).cell? (Aq w.heap.size j)=(yw p)[j]?:=fun j=>World.cell?_alloc_at _ _ _ _ rfl
 have SL:=zkS w.heap.size p.n hp.n8;have n8:=hp.n8;unfold Pat.val;clear h hp;go_enter func272,ntmps272;go_wp2_with fail;go_loopw [11] (fun i wr=> ∃k:Nat,k<=p.n/\i=Iq k/\Tn B {s with mem:=ZV s.mem p k} w0 wr/\w.heap.size<wr.heap.size/\∀j,wr.cell? (Aq w.heap.size j)=(yw p)[j]?) (fun i _=>p.n-(intOf i).toNat);case atStart=>exact ⟨0,by omega,rfl,HT.out,by simp,q⟩
 case round=>
  obtain ⟨k,hk,rfl,hT,hw,hq⟩:=hrel;by_cases hlt1:k<p.n
  ·have c1:wr.cell? (Aq w.heap.size 1)=some (.int .u16 p.at_):=hq 1;have c2:wr.cell? ⟨w.heap.size,2+k,none⟩=some (Uq (p.b k)):=(hq _).trans (zer p k zza);have b:=HP.out.b0 k zza;have HS:=hid (KN s.mem p k);generalize ZV s.mem p k=M at*;have ew:IntKind.u16.wrap (p.at_+IntKind.u16.wrap (k:Int))=(p.at_+k)%65536:=by rw [IntKind.wrap_u16,IntKind.wrap_u16];omega
   have PK:=fun {a w:World} (h:Tn B {s with mem:=M} a w)=>zel h (IntKind.u16.wrap (p.at_+IntKind.u16.wrap (k:Int))) (p.b k) (by rw [ew];omega) (by rw [ew];omega) b.1 b.2
   rw [<-ew] at HS;clear ew;have HTk:=hid hT;have HQ:=hid hq;have k6:(k:Int)%65536=k:=by omega
   clear hT hq;go_wp2_with fail;go_region_with (first|(go_at_call 288;refine (PK (Tn.refl HTk.out.drew.c)).mono ?_;rintro e w2 ⟨rfl,T2⟩;have HT2:=hid (HTk.out.drew.trans T2);have HK:=hid (kept T2);have hz:=T2.g.size;clear T2));all_goals go_wp2
   all_goals go_roundw
   case rel=>exact ⟨k+1,by omega,by go_num,by rw [HS.out];exact HT2.out,by have:wr.drew.heap.size=wr.heap.size:=rfl;omega,fun j=>(HK.out.1 _ j n0 hw).trans (HQ.out j)⟩
   case measure=>simp [intOf];omega
  ·have e1:k=p.n:=by omega
   subst e1;have HTk:=hid hT;clear hT hq;go_wp2;go_end0;exact ⟨rfl,HTk.out⟩
inductive Arr:(Nat->Pat)->Nat->List Pat->Prop
 |zero (H:Nat->Pat):Arr H 0 []
 |one (H:Nat->Pat):Arr H 1 [H 0]
 |two (H:Nat->Pat):Arr H 2 [H 0,H 1]
 |three (H:Nat->Pat):(H 1).turn<(H 2).turn->Arr H 3 [H 0,H 1,H 2]
 |turned (H:Nat->Pat):(H 2).turn<(H 1).turn->Arr H 3 [H 0,H 2,H 1]
 |four (H:Nat->Pat):(H 1).turn<(H 2).turn->(H 1).turn<(H 3).turn->(H 2).turn<(H 3).turn->Arr H 4 [H 0,H 1,H 2,H 3]
theorem Arr.len{H:Nat->Pat}{n:Nat}{l:List Pat}(h:Arr H n l):l.length=n:=by cases h<;>rfl
theorem Arr.take{H:Nat->Pat}{n:Nat}{p:Pat}{l:List Pat}(h:Arr H n (p::l)):H 0=p/\Arr (ZQ H n) (n-1) l:=by
 cases h with
 |one=>exact ⟨rfl,.zero _⟩
 |two=>
  refine ⟨rfl,?_⟩;have e:ZQ H 2=upd H 0 (H 1):=by unfold ZQ VG;rw [if_neg zza]
  rw [e];exact .one (upd H 0 (H 1))
 |three h1=>
  refine ⟨rfl,?_⟩;have e:ZQ H 3=upd (upd (upd H 0 (H 2)) 0 (H 1)) 1 (H 2):=by unfold ZQ VG;rw [if_pos ⟨by omega,h1⟩];rfl
  rw [e];exact .two (upd (upd (upd H 0 (H 2)) 0 (H 1)) 1 (H 2))
 |turned h1=>
  refine ⟨rfl,?_⟩;have e:ZQ H 3=upd H 0 (H 2):=by unfold ZQ VG;rw [if_neg (fun q=>by have q2:(H 1).turn<(H 2).turn:=q.2;omega)]
  rw [e];exact .two (upd H 0 (H 2))
 |four h1 h2 h3=>
  refine ⟨rfl,?_⟩;have e:ZQ H 4=upd (upd (upd H 0 (H 3)) 0 (H 1)) 1 (H 3):=by unfold ZQ VG;rw [if_pos ⟨by omega,h2⟩];rfl
  rw [e];exact .turned (upd (upd (upd H 0 (H 3)) 0 (H 1)) 1 (H 3)) h3
theorem Arr.four_le{H:Nat->Pat}{n:Nat}{l:List Pat}(h:Arr H n l):n=4->¬(H 2).turn<(H 1).turn:=by
 intro e;cases h with
 |four h1 _ _=>omega
 |_=>omega
structure PasL (R:Nat->Option Value) (l:List Pat):Prop where
 h:∃H,PasR R H l.length/\Arr H l.length l
 ok:∀p∈l,PatOk p
structure PasS (R:Nat->Option Value) (l:List Pat):Prop where
 h:∃H,PasR R H l.length/\∀i,(h:i<l.length)->H i=l[i]
 tn:∀i,(h:i<l.length)->l[i].turn=(i:Int)
 ok:∀p∈l,PatOk p
theorem PasS.l{R:Nat->Option Value}{l:List Pat}(h:PasS R l):PasL R l:=by
 obtain ⟨⟨H,h1,h2⟩,ht,ho⟩:=h;refine ⟨⟨H,h1,?_⟩,ho⟩;have n4:=h1.n4;have t:∀i,(h:i<l.length)->(H i).turn=(i:Int):=fun i hi=>by rw [h2 i hi];exact ht i hi
 match l,n4,h2,t with
 | [],_,_,_=>exact .zero H
 | [a],_,h2,_=>
  have e0:H 0=a:=h2 0 zzc;rw [<-e0];exact .one H
 | [a,b],_,h2,_=>
  have e0:H 0=a:=h2 0 zzc;have e1:H 1=b:=h2 1 zzc;rw [<-e0, <-e1];exact .two H
 | [a,b,c],_,h2,t=>
  have e0:H 0=a:=h2 0 zzc;have e1:H 1=b:=h2 1 zzc;have e2:H 2=c:=h2 2 zzc;have t1:=t 1 zzc;have t2:=t 2 zzc;rw [<-e0, <-e1, <-e2];exact .three H zza
 | [a,b,c,d],_,h2,t=>
  have e0:H 0=a:=h2 0 zzc;have e1:H 1=b:=h2 1 zzc;have e2:H 2=c:=h2 2 zzc;have e3:H 3=d:=h2 3 zzc;have t1:=t 1 zzc;have t2:=t 2 zzc;have t3:=t 3 zzc;rw [<-e0, <-e1, <-e2, <-e3];exact .four H zza zza zza
 |a::b::c::d::e::r,n4,_,_=>simp only [List.length_cons] at n4;omega
theorem PasL.nil{R:Nat->Option Value}(h:PasL R []):PasS R []:=by
 obtain ⟨⟨H,h1, -⟩, -⟩:=h;exact ⟨⟨H,h1,fun i hi=>by simp at hi⟩,fun i hi=>by simp at hi,fun p hp=>by simp at hp⟩
end
section
def xw(m:Nat->Int)(l:List Pat):Nat->Int:=l.foldl zeq m
def Qf:Option Value->Nat
 |some (.int _ n)=>n.toNat
 |_=>0
structure MsO (lo hi:Nat) (s s':PC) (M:Nat->Int):Prop where
 core:s'=({s with mem:=M}:PC).rr s'.rest
 keep:∀o,o<lo\/hi<=o->s'.rest o=s.rest o
theorem MsO.refl(lo hi:Nat)(s:PC):MsO lo hi s s s.mem:=⟨rfl,fun _ _=>rfl⟩
theorem MsO.rest{lo hi:Nat}{s t u:PC}{M:Nat->Int}(h:MsO lo hi s t M)(k:RsO lo hi t u):MsO lo hi s u M:=⟨by rw [k.core,h.core];rfl,fun o ho=>(k.keep o ho).trans (h.keep o ho)⟩
theorem MsO.mem{lo hi:Nat}{s t:PC}{M:Nat->Int}(h:MsO lo hi s t M)(Q:Nat->Int):MsO lo hi s {t with mem:=Q} Q:=⟨by rw [h.core];rfl,h.keep⟩
theorem MsO.st{lo hi:Nat}{s t:PC}{M:Nat->Int}(h:MsO lo hi s t M):t.betw=s.betw:=by rw [h.core];rfl
theorem MsO.m{lo hi:Nat}{s t:PC}{M:Nat->Int}(h:MsO lo hi s t M):t.mem=M:=by rw [h.core];rfl
theorem ZW{B:Nat}{s:PC}{w0 w:World}{l:List Pat}(h:Tn B s w0 w)(hl:PasL s.rest l):Cq 208 #[Pq B] w (.tuple #[]) fun w'=>
   ∃s',Tn B s' w0 w'/\MsO 65778 65823 s s' (if s.betw=true then xw s.mem l else s.mem)/\PasL s'.rest (if s.betw=true then [] else l)/\(s.betw=false->s'=s):=by
 have HT:=hid h;have HL:=hid hl;cases hb:s.betw
 ·have BT:=Zk h;rw [hb] at BT;clear h hl hb;simp only [Bool.false_eq_true,if_false];go_enter func208,ntmps208;go_wp2_with fail;go_loopw [] (fun wr=>wr=w) (fun _=>1);case atStart=>rfl
  case round=>
   obtain rfl:=hrel;go_wp2_with (first|(go_at_call 214;refine BT.mono ?_;rintro e w1 ⟨rfl,rfl⟩));go_end0;exact ⟨rfl,s,HT.out,MsO.refl _ _ _,HL.out,fun _=>rfl⟩
 ·have HB:=hid hb;clear h hl hb;simp only [if_true];go_enter func208,ntmps208;go_wp2_with fail;go_loopw [] (fun wr=> ∃(t:PC) (M:Nat->Int) (r:List Pat),Tn B t w0 wr/\MsO 65778 65823 s t M/\PasL t.rest r/\xw M r=xw s.mem l) (fun wr=>Qf (wr.cell? (Aq B 65822)));case atStart=>exact ⟨s,s.mem,l,HT.out,MsO.refl _ _ _,HL.out,rfl⟩
  case round=>
   obtain ⟨t,M,r,hT,hM,hR,hS⟩:=hrel;obtain ⟨⟨H,hH,hA⟩,hok⟩:=hR;have BT:=Zk hT;rw [hM.st,HB.out] at BT;have cn:wr.cell? (Aq B 65822)=some (Iq (r.length:Int)):=hT.rest zzb hH.cn;cases r with
   |nil=>
    have HTt:=hid hT;have HR:Hid (PasL t.rest []):=⟨⟨H,hH,hA⟩,hok⟩;have HM:Hid (MsO 65778 65823 s t (xw s.mem l)):=by rw [<-hS];exact hM
    have cn:wr.cell? (Aq B 65822)=some (Iq 0):=cn;clear hT hM hH hA hok hS;go_wp2_with (first|(go_at_call 214;refine BT.mono ?_;rintro e w1 ⟨rfl,rfl⟩));go_end0;exact ⟨rfl,t,HTt.out,HM.out,HR.out,fun e=>by cases e⟩
   |cons p r=>
    have hA2:=hA.take;have TK:=KM hT hH zzc hA.four_le;rw [hA2.1] at TK;have HA2:=hid hA2.2;have HR2:=hid (zkQ hH);have HO2:=hid (zkR t H (p::r).length);have WR:=fun {w:World} (h:Tn B (Qe t H (p::r).length) w0 w)=>Us h p (hok p zzc)
    have HOK:=hid hok;have HM:=hid hM;have HS:=hid hS;have cp:(0:Int)<((p::r).length:Int):=by simp only [List.length_cons];omega
    generalize Qe t H (p::r).length=u at*;clear hT hM hH hA hok hS hA2;have HCn:=qH1 cn;go_wp2_with (first|(go_at_call 214;refine BT.mono ?_;rintro e w1 ⟨rfl,rfl⟩)|(go_at_call 273;refine TK.mono ?_;rintro e w1 ⟨rfl,T1⟩)|(go_at_call 272;refine (WR T1).mono ?_;rintro e w2 ⟨rfl,T2⟩;have HT2:=hid T2;clear T2));go_roundw;case rel=>exact ⟨_,_,r,HT2.out,(HM.out.rest HO2.out).mem _,⟨⟨_,HR2.out,HA2.out⟩,fun q hq=>HOK.out q (by simp [hq])⟩,by have e:u.mem=M:=(HM.out.rest HO2.out).m;rw [e];exact HS.out⟩
    case measure=>
     have e:=HT2.out.rest (o:=65822) zzb HR2.out.cn;rw [HCn.out,e];simp [Qf]
end
