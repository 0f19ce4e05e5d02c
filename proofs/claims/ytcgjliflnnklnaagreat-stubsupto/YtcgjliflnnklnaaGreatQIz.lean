import Derived.Laws.CopyRow
import Derived.Deep.RegionHeld3
import Derived.Test.YtcgjliflnnklnaaGreatJ24
import Derived.Test.YtcgjliflnnklnaaGreatJ01
import Derived.Test.YtcgjliflnnklnaaGreatJ13
namespace Go.Proofs.YtcgjliflnnklnaaGreat
open Go.RowKit Tryz
set_option maxRecDepth 100000
set_option maxHeartbeats 8000000
section
def yP:List UInt8->Option (List UInt8)
 | []=>some []
 | [_]=>none
 |a::b::r=>if (hb a b).2=true then (yP r).map ((hb a b).1::·) else none
theorem xz(a b:UInt8)(r:List UInt8):yP (a::b::r)=if (hb a b).2=true then (yP r).map ((hb a b).1::·) else none:=by rw [yP]
theorem vu:∀ (n:Nat) (l out:List UInt8),l.length<=n->yP l=some out->l.length=2*out.length
 |_,[],out,_,h=>by rw [yP] at h;injection h with h;subst h;rfl
 |_,[_],out,_,h=>by rw [yP] at h;cases h
 |0,a::b::r,_,hn,_=>by simp at hn
 |n+1,a::b::r,out,hn,h=>by
  rw [xz] at h;split at h
  ·cases hr:yP r with
   |none=>rw [hr] at h;cases h
   |some o=>
    rw [hr] at h;injection h with h;subst h;have:=vu n r o (by simp only [List.length_cons] at hn;omega) hr;simp only [List.length_cons];omega
  ·cases h
theorem GG:∀ (n:Nat) (l:List UInt8),l.length<=n->l.length%2=1->yP l=none
 |_,[],_,h=>by simp at h
 |_,[_],_,_=>by rw [yP]
 |0,a::b::r,hn,_=>by simp at hn
 |n+1,a::b::r,hn,h=>by
  rw [xz,GG n r (by simp only [List.length_cons] at hn;omega) (by simp only [List.length_cons] at h;omega)];split<;>rfl
def Jj(l:List UInt8)(k:Nat)(out:List UInt8):Prop:=yP l=(yP (l.drop (2*k))).map (out++·)/\out.length=k
theorem zi2(l:List UInt8):Jj l 0 []:=⟨by simp,rfl⟩
theorem GH(l:List UInt8)(k:Nat)(h:2*k+1<l.length):l.drop (2*k)=l[2*k]::l[2*k+1]::l.drop (2*(k+1)):=by
 rw [List.drop_eq_getElem_cons zza,List.drop_eq_getElem_cons zza];rfl
theorem zi3{l:List UInt8}{k:Nat}{out:List UInt8}(h:Jj l k out)(hk:2*k+1<l.length)(hv:(hb l[2*k] l[2*k+1]).2=true):Jj l (k+1) (out++ [(hb l[2*k] l[2*k+1]).1]):=by
 refine ⟨?_,by rw [List.length_append,h.2];rfl⟩;rw [h.1,GH l k hk,xz,if_pos hv];cases yP (l.drop (2*(k+1)))<;>simp
theorem zi4{l:List UInt8}{k:Nat}{out:List UInt8}(h:Jj l k out)(hk:2*k+1<l.length)(hv:(hb l[2*k] l[2*k+1]).2=false):yP l=none:=by
 rw [h.1,GH l k hk,xz,if_neg (by simp [hv])];rfl
theorem zi5{l:List UInt8}{k:Nat}{out:List UInt8}(h:Jj l k out)(hk:l.length=2*k):yP l=some out:=by
 rw [h.1,List.drop_eq_nil_of_le zza,yP];simp
def qe(w w':World)(l:List UInt8)(e:Ending):Prop:=match yP l with
 |none=>e=.returned (.tuple #[.slice none 0 0,.bool false])/\Below w.heap.size w w'
 |some out=> ∃v,e=.returned (.tuple #[v,.bool true])/\Owns w.heap.size w w' v out
theorem GI(w:World)(n:Nat):w.grownBy (w.drewN n) none:=by
 induction n with
 |zero=>exact UH _ _
 |succ n ih=>exact zJ ih (XT _ _)
theorem zi6(s:ByteArray)(j:Nat)(h:j+1<s.size)(w:World):Sem.run prog (Instr.index 9 (.string s) (.int .i64 ((j:Int)+1))) w=.ok (.int .u8 (s[j+1].toNat:Int)) w:=by
 rw [show (j:Int)+1=((j+1:Nat):Int) from by omega,run_index_string (P:=prog) (h:=underlying9),dif_pos (show 0<=((j+1:Nat):Int)/\((j+1:Nat):Int)<(s.size:Int) from by omega)];rfl
theorem YF(w:World)(s:ByteArray)(hs:s.size<=1000):Calls prog 139 #[.string s] w fun e w'=>qe w w' s.data.toList e:=by
 obtain ⟨i0,hi,hz0,hz1,hz2⟩:=info_parts xP;have hlen:s.data.toList.length=s.size:=by simp
 by_cases ho:s.size%2=1
 ·unfold qe;rw [GG _ s.data.toList (Nat.le_refl _) (by rw [hlen];exact ho)];have e1:((s.size:Int)).tmod 2=1:=by rw [Int.tmod_eq_emod_of_nonneg zza];omega
  have e2:(s.size:Int)%2=1:=by omega
  go_enter func139,ntmps139;go_wp2;go_ret2;exact ⟨rfl,Below.refl _ _⟩
 ·obtain ⟨m,hm⟩:∃m,s.size=2*m:=⟨s.size/2,by omega⟩
  have e1:((s.size:Int)).tmod 2=0:=by rw [Int.tmod_eq_emod_of_nonneg zza];omega
  have e2:(s.size:Int)%2=0:=by omega
  have e3:(s.size:Int).tdiv 2=(m:Int):=by rw [Int.tdiv_eq_ediv_of_nonneg zza];omega
  have e4:(s.size:Int)/2=(m:Int):=by omega
  have hm1:i0.bytes*m<=281474976710656:=by rw [hz2];omega
  have hm9:m<=500:=by omega
  have HM:=hid hm;clear hm ho;go_enter func139,ntmps139;go_wp2_with (first|(at_make;go_must (refine wpList_make_own _ rfl _ _ 35 rfl w.heap.size 5 i0 (.int .u8 0) 1 zx hi hz0 hz1 .i64 .i64 _ m rfl rfl rfl hm1 zze (Nat.le_refl _) ?_;intro w1 hown1 hgrow1)));have HO:Hid (Owns w.heap.size w w1 (.slice (some ⟨w.heap.size,0,none⟩) 0 m) []):=⟨w.heap.size,m,rfl,hown1,(Below.refl _ _).grown hgrow1 (Nat.le_refl _) zzc,hgrow1.size⟩;clear hown1 hgrow1 hm1 e1 e2 e3 e4;go_loopw [4,5] (fun v i wr=> ∃(j k:Nat) (out:List UInt8),k<=m/\j<=s.size/\i=.int .i64 j/\Hid (j=2*k)/\Hid (Jj s.data.toList k out)/\Owns w.heap.size w wr v out) (fun _ i _=>s.size-(intOf i).toNat);case atStart=>exact ⟨0,0,[],Nat.zero_le _,Nat.zero_le _,rfl,rfl,zi2 _,HO.out⟩
  case round=>
   obtain ⟨j,k,out,hk,hj9,rfl,hj,hP,hO⟩:=hrel;clear HO;obtain ⟨g1,cap1,rfl,hown,hbel,hsz⟩:=hO;have hol:out.length=k:=hP.out.2;have hok:out.length<=500:=by omega
   by_cases hlt:j<s.size
   ·have q1:j+1<s.size:=by have h1:=hj.out;have h2:=HM.out;omega
    have HBY:=ve (s[j]) (s[j+1]);have wj:IntKind.i64.wrap ((j:Int)+1)=(j:Int)+1:=by rw [IntKind.wrap_i64];omega
    have IX:=zi6 s j q1;have HW:=hid (And.intro hown (And.intro hbel hsz));have HJ2:Hid (j+2=2*(k+1)):=by have h1:=hj.out;show _=_;omega
    have hk2:k+1<=m:=by have h1:=hj.out;have h2:=HM.out;omega
    have HPN:Hid ((hb s[j] s[j+1]).2=false->yP s.data.toList=none):=by
     have h1:=hj.out;subst h1;exact fun hv=>zi4 hP.out (by rw [hlen];exact q1) hv
    have HPS:Hid ((hb s[j] s[j+1]).2=true->Jj s.data.toList (k+1) (out++ [(hb s[j] s[j+1]).1])):=by
     have h1:=hj.out;subst h1;exact fun hv=>zi3 hP.out (by rw [hlen];exact q1) hv
    cases hv:(hb s[j] s[j+1]).2
    ·have HN:=hid (HPN.out hv);simp only [hv] at HBY;clear hown hbel hsz hP HPN HPS hv hol;go_wp2_with fail;go_quiet (first|(go_at_call 135;exact Calls.quiet_of_same (HBY _)));go_wp2;go_ret2;unfold qe;rw [HN.out];exact ⟨rfl,HW.out.2.1.trans (Yi (Below.refl _ _) _|>.mono HW.out.2.2)⟩
    ·have HPN:=hid (HPS.out hv);simp only [hv] at HBY;generalize (hb s[j] s[j+1]).1=bb at*;clear hown hbel hsz hP HPS hv hol;go_wp2_with fail;go_quiet (first|(go_at_call 135;exact Calls.quiet_of_same (HBY _)));have HW2:Hid (Owns w.heap.size w (wr.drewN nq) (.slice (some ⟨g1,0,none⟩) out.length cap1) out):=⟨g1,cap1,rfl,HW.out.1.kept (GI wr nq) (.inr (by intro e;cases e)),HW.out.2.1.trans (Yi (Below.refl _ _) _|>.mono HW.out.2.2),by rw [x8];exact HW.out.2.2⟩;generalize wr.drewN nq=W3 at*;obtain ⟨g2,cap2,e2,hown,hbel,hsz⟩:=HW2.out;injection e2 with e3 e4 e5;injection e3 with e3;injection e3 with e3;subst e3 e5;clear HW2 HW e4;go_wp2_with (first|(at_builtin;go_must (refine wpList_append_lies _ rfl (.tmp 35) (.tmp 37) 35 rfl w.heap.size 5 i0 (.int .u8 0) 1 1 zx hi hz0 hz1 hz2 rfl zzb (.slice (some ⟨g1,0,none⟩) out.length cap1) out.length (zS out) rfl (by exact (hown.alloc _)) ⟨W3.heap.size,0,none⟩ 1 1 [.int .u8 bb.toNat] rfl rfl (ye _ _ _) (xa _) zzb zze zza zzd _ rfl ?_;intro g' cap' w1 hown' hgrow hat hlt')));have HO:=xe (m:=[bb]) hown hbel hsz hown' hgrow;clear hown hbel hsz hown' hgrow hat hlt';go_roundw;case rel=>exact ⟨j+2,k+1,out++ [bb],by omega,by omega,by go_num,HJ2,HPN,HO⟩
     case measure=>simp [intOf];omega
   ·have HE:Hid (yP s.data.toList=some out):=zi5 hP.out (by have h1:=hj.out;have h2:=HM.out;rw [hlen];omega);have HW:Hid (Owns w.heap.size w wr (.slice (some ⟨g1,0,none⟩) out.length cap1) out):=⟨g1,cap1,rfl,hown,hbel,hsz⟩;clear hown hbel hsz hP hol;go_wp2;go_ret2;unfold qe;rw [HE.out];exact ⟨_,rfl,HW.out⟩
end
section
def xt(n:Nat)(a:Int)(bs:List UInt8):Pat:=⟨n,a,fun j=>((bs.getD j 0).toNat:Int),bs.length⟩
def SB.addPat(S:SB)(a:Int)(bs:List UInt8):SB × List UInt8:=
 if bs.length<1\/8<bs.length then (S,eT 50) else if S.pa.length=4 then (S,eT 52) else (SB.settle {S with pa:=S.pa++ [xt S.pa.length a bs] },okT)
theorem zfQ(n:Nat)(a:Int)(bs:List UInt8)(h8:bs.length<=8)(a0:0<=a)(a1:a<65536):PatOk (xt n a bs):=
 ⟨h8,a0,a1,fun j _=>by show 0<=((bs.getD j 0).toNat:Int)/\_;have:=(bs.getD j 0).toNat_lt;exact ⟨by omega,by show ((bs.getD j 0).toNat:Int)<256;omega⟩⟩
theorem PasS.add{R Q:Nat->Option Value}{l:List Pat}{H:Nat->Pat}{p:Pat}(h:PasS R l)(hH:∀i,(h:i<l.length)->H i=l[i])(hp:PatOk p)(ht:p.turn=(l.length:Int))(hq:PasR Q (upd H l.length p) (l.length+1)):PasS Q (l++ [p]):=by
 refine ⟨⟨upd H l.length p,by rw [List.length_append];exact hq,fun i hi=>?_⟩,fun i hi=>?_,fun q hq=>?_⟩
 ·unfold upd;rw [List.length_append] at hi;have hi:i<l.length+1:=hi;by_cases e:i=l.length
  ·subst e;rw [if_pos rfl,List.getElem_append_right (Nat.le_refl _)];simp
  ·rw [if_neg e,List.getElem_append_left zza];exact hH i zza
 ·rw [List.length_append] at hi;have hi:i<l.length+1:=hi;by_cases e:i=l.length
  ·subst e;rw [List.getElem_append_right (Nat.le_refl _)];simpa using ht
  ·rw [List.getElem_append_left zza];exact h.tn i zza
 ·rcases List.mem_append.1 hq with q1|q1
  ·exact h.ok q q1
  ·simp at q1;subst q1;exact hp
theorem MsO.ofR{lo hi:Nat}{s t:PC}(h:RsO lo hi s t):MsO lo hi s t s.mem:=⟨h.core,h.keep⟩
theorem zi7(n:Nat)(a:Int)(bs:List UInt8)(h1:1<=bs.length)(h8:bs.length<=8):((yw ⟨n,a,fun _=>0,bs.length⟩).toList.take 2++zS bs++(yw ⟨n,a,fun _=>0,bs.length⟩).toList.drop (2+(zS bs).length)).toArray=yw (xt n a bs):=by
 match bs,h1,h8 with
 | [_],_,_=>rfl
 | [_,_],_,_=>rfl
 | [_,_,_],_,_=>rfl
 | [_,_,_,_],_,_=>rfl
 | [_,_,_,_,_],_,_=>rfl
 | [_,_,_,_,_,_],_,_=>rfl
 | [_,_,_,_,_,_,_],_,_=>rfl
 | [_,_,_,_,_,_,_,_],_,_=>rfl
 |_::_::_::_::_::_::_::_::_::_,_,h8=>simp only [List.length_cons] at h8;omega
theorem zi8(B:Nat)(w:World):Sem.run prog (Instr.sliceAt 114 (.pointer (some ⟨B,2,none⟩)) none none none) w=.ok (.slice (some ⟨B,2,none⟩) 8 8) w:=by
 have hal:prog.arrayLen 114=8:=by kernel_rfl
 have hel:prog.elem 114=5:=by kernel_rfl
 rw [run_sliceAt_array_all (P:=prog) w 114 ⟨B,2,none⟩ (by rw [hal,hel];exact underlying114),hal,hel];simp [sizeOf,go_sem,slicedAt,Addr.add]
theorem UW{w:World}{g:Nat}{cs:Array Value}{t:TypeId}{fr:Nat × Nat}(h:w.heap[g]?=some (.cells cs t fr))(j:Nat):w.cell? ⟨g,j,none⟩=cs[j]?:=by simp [World.cell?,h]
theorem GJ{w:World}{b off:Nat}{l:List UInt8}(h:zy w b off l):∀j u,(zS l)[j]?=some u->w.cell? ((⟨b,off,none⟩:Addr).add j)=some u:=by
 intro j u hu;unfold zS at hu;rw [List.getElem?_map] at hu;cases e:l[j]? with
 |none=>rw [e] at hu;cases hu
 |some c=>
  rw [e] at hu;obtain ⟨hj,ec⟩:=List.getElem?_eq_some_iff.1 e;have:=h j hj;rw [show (⟨b,off,none⟩:Addr).add j=⟨b,off+j,none⟩ from by unfold Addr.add;split<;>simp_all];rw [this,ec];simpa using hu
theorem zc1(l:List UInt8):∀u∈zS l,u.oneCell'=true:=by
 exact zna
theorem Tn.row{w0 w:World}{B g:Nat}{s:PC}(h:Tn B s w0 w)(cs:Array Value)(hne:g≠B)(hb:w0.heap.size<=g):Tn B s w0 (w.setRow g cs):=
 ⟨h.c.same (setRow_other w g B cs (fun e=>hne e.symm)),⟨h.g.os,h.g.tape,h.g.output,by rw [size_setRow];exact h.g.size,fun k hk hn=>(setRow_other w g k cs zza).trans (h.g.block k hk hn)⟩⟩
theorem GK{B:Nat}{s:PC}{w0 w:World}{H:Nat->Pat}{n:Nat}(h:Tn B s w0 w)(hp:PasR s.rest H n):Calls prog 206 #[.pointer (some ⟨B,65778,none⟩)] w fun e w'=>e=.returned (.bool (n==4))/\w'=w:=by
 have c4:w.cell? ⟨B,65822,none⟩=some (.int .i64 (n:Int)):=h.rest zzb hp.cn;have e:(n==4)=((n:Int)==4):=by rw [Bool.eq_iff_iff];simp;omega
 rw [e];clear h hp;go_enter func206,ntmps206;go_wp2;go_ret;exact ⟨rfl,rfl⟩
theorem znX{p:Prop} (q:p:=by
 clear h hS hH hHl hPt hPo FU;go_enter func188,ntmps188;go_wp2;go_ret;exact ⟨rfl,s,HT.out,HS.out⟩):p:=q
theorem zaR{B:Nat}{s:PC}{w0 w:World}{S:SB}(h:Tn B s w0 w)(hS:SV S s)(a:Int)(a0:0<=a)(a1:a<65536)(p:Option Addr)(bs:List UInt8)(cap:Nat)(hl:bs.length<=1000)
  (hb:bs≠ [] ->∃b off,p=some ⟨b,off,none⟩/\b<w.heap.size/\zy w b off bs):
  Calls prog 188 #[.pointer (some ⟨B,0,none⟩),.int .u16 a,.slice p bs.length cap] w fun e w'=>e=.returned (.string ⟨(S.addPat a bs).2.toArray⟩)/\∃s',Tn B s' w0 w'/\SV (S.addPat a bs).1 s':=by
 unfold SB.addPat;have HT:=hid h;have HS:=hid hS;obtain ⟨⟨H,hH,hHl⟩,hPt,hPo⟩:=hS.pa;have FU:=GK h hH;by_cases h1:bs.length<1
 ·rw [if_pos (.inl h1)];have h1':(bs.length:Int)<1:=by omega
  exact znX
 ·by_cases h8:8<bs.length
  ·rw [if_pos (.inr h8)];have h1':¬(bs.length:Int)<1:=by omega
   have h8':(8:Int)<bs.length:=by omega
   exact znX
  ·rw [if_neg zza];have h1':¬(bs.length:Int)<1:=by omega
   have h8':¬(8:Int)<bs.length:=by omega
   by_cases h4:S.pa.length=4
   ·rw [if_pos h4];have e4:(S.pa.length==4)=true:=by simpa using h4
    rw [e4] at FU;clear h hS hH hHl hPt hPo;go_enter func188,ntmps188;go_wp2_with (first|(go_at_call 206;refine FU.mono ?_;rintro e w1 ⟨rfl,rfl⟩));go_ret;exact ⟨rfl,s,HT.out,HS.out⟩
   ·rw [if_neg h4];have e4:(S.pa.length==4)=false:=by simpa using h4
    rw [e4] at FU;have n4:=hH.n4;have cn:w.cell? ⟨B,65822,none⟩=some (.int .i64 (S.pa.length:Int)):=h.rest zzb hH.cn;obtain ⟨b,off,rfl,hbl,hby⟩:=hb (by intro e;subst e;simp at h1);have hlt:=h.c.lt;have hsz:=h.g.size;have n0:w.heap.size≠B:=by omega
    have m0:B≠w.heap.size:=by omega
    have SL:=zi8 w.heap.size;have HZ:Hid (∀j,(((w.alloc (.cells #[.int .i64 (S.pa.length:Int),.int .u16 a,.int .u8 0,.int .u8 0,.int .u8 0,.int .u8 0,.int .u8 0,.int .u8 0,.int .u8 0,.int .u8 0,.int .i64 (bs.length:Int)] 116)).setRow w.heap.size (yw (xt S.pa.length a bs))).cell? ⟨w.heap.size,j,none⟩=(yw (xt S.pa.length a bs))[j]?)):=fun j=>by
     have hg:=setRow_heap (w.alloc (.cells #[.int .i64 (S.pa.length:Int),.int .u16 a,.int .u8 0,.int .u8 0,.int .u8 0,.int .u8 0,.int .u8 0,.int .u8 0,.int .u8 0,.int .u8 0,.int .i64 (bs.length:Int)] 116)) w.heap.size _ (yw (xt S.pa.length a bs)) 116 (0,0) (heap_alloc_new w _);exact UW hg j
    have CP:(Builtin.copy_ #[35,35] 3 #[.slice (some ⟨w.heap.size,2,none⟩) 8 8,.slice (some ⟨b,off,none⟩) bs.length cap]).run prog (w.alloc (.cells #[.int .i64 (S.pa.length:Int),.int .u16 a,.int .u8 0,.int .u8 0,.int .u8 0,.int .u8 0,.int .u8 0,.int .u8 0,.int .u8 0,.int .u8 0,.int .i64 (bs.length:Int)] 116))=
      .ok (goInt bs.length) ((w.alloc (.cells #[.int .i64 (S.pa.length:Int),.int .u16 a,.int .u8 0,.int .u8 0,.int .u8 0,.int .u8 0,.int .u8 0,.int .u8 0,.int .u8 0,.int .u8 0,.int .i64 (bs.length:Int)] 116)).setRow w.heap.size (yw (xt S.pa.length a bs))):=by
     have q:=run_copy_row prog (w.alloc (.cells (yw ⟨S.pa.length,a,fun _=>0,bs.length⟩) 116)) 35 35 3 5 w.heap.size 2 8 8 ⟨b,off,none⟩ bs.length cap (yw ⟨S.pa.length,a,fun _=>0,bs.length⟩) 116 (zS bs) zx zzf (heap_alloc_new w _) (by rw [yR];show bs.length=min bs.length 8;omega) (fun j u hu=>by
       have q:=GJ hby j u hu;have ea:(⟨b,off,none⟩:Addr).add j=⟨b,off+j,none⟩:=by unfold Addr.add;split<;>simp_all
       rw [ea] at q⊢;exact (World.cell?_of_block (a:=⟨b,off+j,none⟩) (Below.heap_alloc _ _ _ hbl)).trans q) (by rw [yR];show 2+bs.length<=11;omega) (zc1 bs)
     rw [zi7 S.pa.length a bs zza zza,yR] at q;exact q
    have HP1:Hid (PatOk (xt S.pa.length a bs)):=zfQ _ _ _ zza a0 a1;have htn:0<S.pa.length->¬(xt S.pa.length a bs).turn<(H ((S.pa.length-1)/2)).turn:=fun h0=>by
     rw [hHl _ zza,hPt _ zza];show ¬((S.pa.length:Int)<(((S.pa.length-1)/2:Nat):Int));omega
    have PU:=fun {x w:World} (h:Tn B s x w)=>Hz h hH zza (xt S.pa.length a bs) htn
    have HR:Hid (PasS ((Go.Proofs.YtcgjliflnnklnaaGreat.putPat s (65778+S.pa.length*11) (xt S.pa.length a bs)).put 65822 (.int .i64 ((S.pa.length+1:Nat):Int))).rest (S.pa++ [xt S.pa.length a bs])):=hS.pa.add hHl HP1.out rfl (zeo hH zza _);have HSV:Hid (SV {S with pa:=S.pa++ [xt S.pa.length a bs] } ((Go.Proofs.YtcgjliflnnklnaaGreat.putPat s (65778+S.pa.length*11) (xt S.pa.length a bs)).put 65822 (.int .i64 ((S.pa.length+1:Nat):Int)))):=by
     have q:=hS.ms (MsO.ofR (zep s S.pa.length zza (xt S.pa.length a bs) (.int .i64 ((S.pa.length+1:Nat):Int)))) HR.out;have e:s.mem=S.pc.mem:=by rw [hS.core];rfl
     rw [e] at q;exact q
    generalize xt S.pa.length a bs=P0 at*;generalize (Go.Proofs.YtcgjliflnnklnaaGreat.putPat s (65778+S.pa.length*11) P0).put 65822 (.int .i64 ((S.pa.length+1:Nat):Int))=s3 at*;have SE:=fun {x w:World} (h:Tn B s3 x w)=>ZW h HSV.out.pa.l
    clear h hS hH hHl hPt hPo hby hb htn HR;go_enter func188,ntmps188;go_wp2_with (first|(go_at_call 206;refine FU.mono ?_;rintro e w1 ⟨rfl,hw1⟩;have hw2:=hw1.symm;subst hw2;clear hw1));have TX:Tn B s w0 ((w.alloc (.cells #[.int .i64 (S.pa.length:Int),.int .u16 a,.int .u8 0,.int .u8 0,.int .u8 0,.int .u8 0,.int .u8 0,.int .u8 0,.int .u8 0,.int .u8 0,.int .i64 (bs.length:Int)] 116)).setRow w.heap.size (yw P0)):=(HT.out.alloc _).row _ n0 hsz;generalize (w.alloc (.cells #[.int .i64 (S.pa.length:Int),.int .u16 a,.int .u8 0,.int .u8 0,.int .u8 0,.int .u8 0,.int .u8 0,.int .u8 0,.int .u8 0,.int .u8 0,.int .i64 (bs.length:Int)] 116)).setRow w.heap.size (yw P0)=X at*;have z0:X.cell? ⟨w.heap.size,0,none⟩=some (.int .i64 P0.turn):=HZ.out 0;have z1:X.cell? ⟨w.heap.size,1,none⟩=some (.int .u16 P0.at_):=HZ.out 1;have z2:X.cell? ⟨w.heap.size,2,none⟩=some (.int .u8 (P0.b 0)):=HZ.out 2;have z3:X.cell? ⟨w.heap.size,3,none⟩=some (.int .u8 (P0.b 1)):=HZ.out 3;have z4:X.cell? ⟨w.heap.size,4,none⟩=some (.int .u8 (P0.b 2)):=HZ.out 4;have z5:X.cell? ⟨w.heap.size,5,none⟩=some (.int .u8 (P0.b 3)):=HZ.out 5;have z6:X.cell? ⟨w.heap.size,6,none⟩=some (.int .u8 (P0.b 4)):=HZ.out 6;have z7:X.cell? ⟨w.heap.size,7,none⟩=some (.int .u8 (P0.b 5)):=HZ.out 7;have z8:X.cell? ⟨w.heap.size,8,none⟩=some (.int .u8 (P0.b 6)):=HZ.out 8;have z9:X.cell? ⟨w.heap.size,9,none⟩=some (.int .u8 (P0.b 7)):=HZ.out 9
    have z10:X.cell? ⟨w.heap.size,10,none⟩=some (.int .i64 (P0.n:Int)):=HZ.out 10;have HTX:=hid TX;clear TX HZ CP SL cn;go_region_with (first|(go_at_call 207;refine (PU HTX.out.drew).mono ?_;rintro e w3 ⟨rfl,T3⟩;have HT3:=hid T3;clear T3 PU));clear z0 z1 z2 z3 z4 z5 z6 z7 z8 z9 z10;go_wp2_with (first|(go_at_call 208;refine (SE HT3.out).mono ?_;rintro e w4 ⟨rfl,s4,T4,M4,L4,E4⟩;have HV4:=hid (HSV.out.settle M4 L4 E4);have HT4:=hid T4;clear T4 M4 L4 E4 SE));go_ret;exact ⟨rfl,s4,HT4.out,HV4.out⟩
end
section
theorem SI.settle{S:SB}{N:Int}(h:SI S N):SI S.settle N:=by
 obtain ⟨M,hM⟩:=Qp S;obtain ⟨n,t⟩:=h.tr;refine ⟨⟨n,?_⟩,?_,?_,fun i=>?_⟩
 ·rw [hM];exact t.like rfl rfl rfl rfl rfl
 ·rw [hM];exact h.c0
 ·rw [hM];exact h.c1
 ·rw [Qq];exact h.rr i
theorem SI.like{S Q:SB}{N:Int}(h:SI S N)(e1:Q.pc=S.pc)(e2:Q.rc=S.rc):SI Q N:=⟨by rw [e1];exact h.tr,by rw [e1];exact h.c0,by rw [e1];exact h.c1,by rw [e2];exact h.rr⟩
theorem SI.addPat{S:SB}{N:Int}(h:SI S N)(a:Int)(bs:List UInt8):SI (S.addPat a bs).1 N:=by
 unfold SB.addPat;split
 ·exact h
 ·split
  ·exact h
  ·exact SI.settle (S:={S with pa:=S.pa++ [xt S.pa.length a bs] }) (h.like rfl rfl)
theorem zby(p:Pts)(a:Int):(p.add a).2.length=2:=by
 unfold Pts.add;split
 ·rfl
 ·split<;>rfl
theorem zbz(p:Pts)(a:Int):(p.remove a).2.length=2:=by
 unfold Pts.remove;split<;>rfl
def SB.doW(S:SB)(c:UInt8)(n:Int)(m:List UInt8):SB × List UInt8:=
 if c=119 then S.addPat n m
 else if c=109/\m.length=1 then (S,S.tellMem n ((m.getD 0 0).toNat:Int))
 else if 0<m.length then (S,eT 49)
 else if c=98 then ({S with bp:=(S.bp.add n).1},(S.bp.add n).2)
 else if c=100 then ({S with bp:=(S.bp.remove n).1},(S.bp.remove n).2)
 else if c=118 then ({S with wp:=(S.wp.add n).1},(S.wp.add n).2)
 else if c=120 then ({S with wp:=(S.wp.remove n).1},(S.wp.remove n).2)
 else if c=115 then S.go (10*n.toNat+9) n false 0
 else if c=105 then S.goIns n
 else (S,eT 49)
theorem zi9(S:SB)(c:UInt8)(n:Int)(m:List UInt8):(S.doW c n m).2.length<=80:=by
 unfold SB.doW;repeat' split
 ·unfold SB.addPat;split
  ·simp [eT]
  ·split<;>simp [eT,okT]
 ·show (S.tellMem n _).length<=80;unfold SB.tellMem;split
  ·simp [eT]
  ·rw [jE];omega
 ·simp [eT]
 ·show (S.bp.add n).2.length<=80;rw [zby];omega
 ·show (S.bp.remove n).2.length<=80;rw [zbz];omega
 ·show (S.wp.add n).2.length<=80;rw [zby];omega
 ·show (S.wp.remove n).2.length<=80;rw [zbz];omega
 ·rw [zeE];omega
 ·unfold SB.goIns;split
  ·simp [eT]
  ·rw [zeE];omega
 ·simp [eT]
theorem c_t{c:UInt8}{n:Nat}(h:c=UInt8.ofNat n)(hn:n<256):((c.toNat:Int)==(n:Int))=true:=by subst h;simp;omega
theorem c_f{c:UInt8}{n:Nat}(h:¬c=UInt8.ofNat n)(hn:n<256):((c.toNat:Int)==(n:Int))=false:=by
 rw [beq_eq_false_iff_ne];intro e;exact h (by apply UInt8.toNat.inj;rw [UInt8.toNat_ofNat_of_lt' zza];omega)
theorem znY{p:Prop} (q:p:=by
 clear h hS hI hcc;go_enter func140,ntmps140;go_wp2_with (first|(go_at_call 190;refine CA.mono ?_;rintro e w1 ⟨rfl,T1⟩;have HH:=hid T1;clear T1 CA));go_ret;exact ⟨rfl,_,HH.out,HV.out,HI2.out⟩):p:=q
theorem znZ{p:Prop} (q:p:=by
 clear h hS hI hcc;go_enter func140,ntmps140;go_wp2_with (first|(go_at_call 191;refine CA.mono ?_;rintro e w1 ⟨rfl,T1⟩;have HH:=hid T1;clear T1 CA));go_ret;exact ⟨rfl,_,HH.out,HV.out,HI2.out⟩):p:=q
theorem zn0{p:Prop} (q:p:=by
 go_enter func140,ntmps140;go_wp2;all_goals go_ret
 all_goals exact ⟨rfl,s,HT.out,HS.out,HI.out⟩):p:=q
theorem zn1{p:Prop} (q:p:=by
 go_enter func140,ntmps140;go_wp2;go_ret;exact ⟨rfl,s,HT.out,HS.out,HI.out⟩):p:=q
theorem zja{B:Nat}{s:PC}{w0 w:World}{S:SB}{N:Int}(h:Tn B s w0 w)(hS:SV S s)(hI:SI S N)(hN0:0<=N)(hN:N<3000000000000000000)(c:UInt8)(n:Int)(n0:0<=n)(n1:n<65536)(p:Option Addr)(m:List UInt8)(cap:Nat)(hl:m.length<=1000)
  (hb:m≠ [] ->∃b off,p=some ⟨b,off,none⟩/\b<w.heap.size/\zy w b off m):
  Calls prog 140 #[.pointer (some ⟨B,0,none⟩),.int .u8 c.toNat,.int .u16 n,.slice p m.length cap] w fun e w'=>e=.returned (.string ⟨(S.doW c n m).2.toArray⟩)/\∃s',Tn B s' w0 w'/\SV (S.doW c n m).1 s'/\SI (S.doW c n m).1 (N+1000000):=by
 unfold SB.doW;have HT:=hid h;have HS:=hid hS;have HI:=hid (hI.mono (show N<=N+1000000 by omega));have hwn:IntKind.i64.wrap n=n:=by rw [IntKind.wrap_i64];omega
 by_cases h119:c=119
 ·rw [if_pos h119];have t1:=c_t (n:=119) h119 zzb;have AP:=zaR h hS n n0 n1 p m cap hl hb;have HI2:=hid (HI.out.addPat n m);generalize S.addPat n m=G0 at*;clear h hS hI hb;go_enter func140,ntmps140;go_wp2_with (first|(go_at_call 188;refine AP.mono ?_;rintro e w1 ⟨rfl,H⟩;have HH:=hid H;clear H AP));go_ret;obtain ⟨s2,T2,V2⟩:=HH.out;exact ⟨rfl,s2,T2,V2,HI2.out⟩
 ·rw [if_neg h119];have t1:=c_f (n:=119) h119 zzb;by_cases h109:c=109/\m.length=1
  ·rw [if_pos h109];obtain ⟨h109,hm1⟩:=h109;have t2:=c_t (n:=109) h109 zzb;obtain ⟨b,off,rfl,hbl,hby⟩:=hb (by intro e;subst e;cases hm1);obtain ⟨x,rfl⟩:∃x,m=[x]:=List.length_eq_one_iff.1 hm1
   have cx:w.cell? ⟨b,off,none⟩=some (.int .u8 (x.toNat:Int)):=hby 0 zzc;have hx:(x.toNat:Int)<256:=by have:=x.toNat_lt;omega
   have TM:=KU h hS n (x.toNat:Int) n0 zza zza zza;have hg:(([x]:List UInt8).getD 0 0)=x:=rfl;have hwx:IntKind.i64.wrap (x.toNat:Int)=(x.toNat:Int):=by rw [IntKind.wrap_i64];omega
   rw [hg];generalize S.tellMem n (x.toNat:Int)=G0 at*;clear h hS hI hb hby hm1 hg;go_enter func140,ntmps140;go_wp2_with (first|(go_at_call 189;refine TM.mono ?_;rintro e w1 ⟨rfl,hb1⟩;have HH:=hid (ym HT.out hb1);clear hb1 TM));go_ret;exact ⟨rfl,s,HH.out,HS.out,HI.out⟩
  ·rw [if_neg h109];by_cases hm:0<m.length
   ·rw [if_pos hm];have hm':(0:Int)<(m.length:Int):=by omega
    clear h hS hI hb;by_cases hc:c=109
    ·have t2:=c_t (n:=109) hc zzb;have t3:((m.length:Int)==1)=false:=by rw [beq_eq_false_iff_ne];intro e;exact h109 ⟨hc,by omega⟩
     exact zn1
    ·have t2:=c_f (n:=109) hc zzb;exact zn1
   ·rw [if_neg hm];have hm0:m.length=0:=by omega
    have hm1:(m.length:Int)=0:=by omega
    have hcc:c=109\/¬c=109:=Decidable.em _;obtain rfl:=List.eq_nil_of_length_eq_zero hm0;clear hb hm hm0 hm1;by_cases h98:c=98
    ·rw [if_pos h98];have u98:=c_t (n:=98) h98 zzb;have u109:=c_f (c:=c) (n:=109) (by rw [h98];decide) zzb;have CA:=QT h zzb hS.bp n;have HV:Hid (SV {S with bp:=(S.bp.add n).1} (Zu s 65768 S.bp n)):=hS.bps (za7 s 65768 S.bp hS.bp.n4 n) (zbv hS.bp n);have HI2:Hid (SI {S with bp:=(S.bp.add n).1} (N+1000000)):=HI.out.like rfl rfl;generalize S.bp.add n=G0 at*;exact znY
    ·rw [if_neg h98];have u98:=c_f (n:=98) h98 zzb;by_cases h100:c=100
     ·rw [if_pos h100];have u100:=c_t (n:=100) h100 zzb;have u109:=c_f (c:=c) (n:=109) (by rw [h100];decide) zzb;have CA:=QU h zzb hS.bp n;have HV:Hid (SV {S with bp:=(S.bp.remove n).1} (Zv s 65768 S.bp n)):=hS.bps (za8 s 65768 S.bp hS.bp.n4 n) (zbw hS.bp n);have HI2:Hid (SI {S with bp:=(S.bp.remove n).1} (N+1000000)):=HI.out.like rfl rfl;generalize S.bp.remove n=G0 at*;exact znZ
     ·rw [if_neg h100];have u100:=c_f (n:=100) h100 zzb;by_cases h118:c=118
      ·rw [if_pos h118];have u118:=c_t (n:=118) h118 zzb;have u109:=c_f (c:=c) (n:=109) (by rw [h118];decide) zzb;have CA:=QT h zzb hS.wp n;have HV:Hid (SV {S with wp:=(S.wp.add n).1} (Zu s 65773 S.wp n)):=hS.wps (za7 s 65773 S.wp hS.wp.n4 n) (zbv hS.wp n);have HI2:Hid (SI {S with wp:=(S.wp.add n).1} (N+1000000)):=HI.out.like rfl rfl;generalize S.wp.add n=G0 at*;exact znY
      ·rw [if_neg h118];have u118:=c_f (n:=118) h118 zzb;by_cases h120:c=120
       ·rw [if_pos h120];have u120:=c_t (n:=120) h120 zzb;have u109:=c_f (c:=c) (n:=109) (by rw [h120];decide) zzb;have CA:=QU h zzb hS.wp n;have HV:Hid (SV {S with wp:=(S.wp.remove n).1} (Zv s 65773 S.wp n)):=hS.wps (za8 s 65773 S.wp hS.wp.n4 n) (zbw hS.wp n);have HI2:Hid (SI {S with wp:=(S.wp.remove n).1} (N+1000000)):=HI.out.like rfl rfl;generalize S.wp.remove n=G0 at*;exact znZ
       ·rw [if_neg h120];have u120:=c_f (n:=120) h120 zzb;by_cases h115:c=115
        ·rw [if_pos h115];have u115:=c_t (n:=115) h115 zzb;have u109:=c_f (c:=c) (n:=109) (by rw [h115];decide) zzb;have CA:=KT h hS hI hN0 hN n n0 zza false;generalize S.go (10*n.toNat+9) n false 0=G0 at*;clear h hS hI hcc;go_enter func140,ntmps140;go_wp2_with (first|(go_at_call 192;refine CA.mono ?_;rintro e w1 ⟨rfl,H⟩;have HH:=hid H;clear H CA));go_ret;exact ⟨rfl,HH.out⟩
        ·rw [if_neg h115];have u115:=c_f (n:=115) h115 zzb;by_cases h105:c=105
         ·rw [if_pos h105];have u105:=c_t (n:=105) h105 zzb;have u109:=c_f (c:=c) (n:=109) (by rw [h105];decide) zzb;have CA:=zcq h hS hI hN0 hN n n0 zza;generalize S.goIns n=G0 at*;clear h hS hI hcc;go_enter func140,ntmps140;go_wp2_with (first|(go_at_call 193;refine CA.mono ?_;rintro e w1 ⟨rfl,H⟩;have HH:=hid H;clear H CA));go_ret;exact ⟨rfl,HH.out⟩
         ·rw [if_neg h105];have u105:=c_f (n:=105) h105 zzb;clear h hS hI;rcases hcc with hc|hc
          ·have t2:=c_t (n:=109) hc zzb;exact zn0
          ·have t2:=c_f (n:=109) hc zzb;exact zn0
end
section
def yo(l:List UInt8):Int:=zn ((l.getD 1 0).toNat:Int) ((l.getD 0 0).toNat:Int)
def SB.doI(S:SB)(b:List UInt8):SB × List UInt8:=
 if b=[] then (S,eT 49)
 else if b=[103] then (S,xF S.pc)
 else if b=[113] then S.takeRecs
 else if b=[116,48] then ({S with re:=false},okT)
 else if b=[116,49] then ({S with re:=true},okT)
 else if b=[112,48] then ({S with nmi:=false,irq:=false},okT)
 else if b=[112,49] then ({S with nmi:=true,irq:=false},okT)
 else if b=[112,50] then ({S with nmi:=false,irq:=true},okT)
 else if b=[112,51] then ({S with nmi:=true,irq:=true},okT)
 else match yP b.tail with
  |none=>(S,eT 49)
  |some l=>if l.length<2 then (S,eT 49) else S.doW (b.headD 0) (yo l) (l.drop 2)
theorem XX(S:SB)(b:List UInt8):(S.doI b).2.length<=80:=by
 unfold SB.doI;repeat' split
 all_goals first
  |(simp [eT];done)
  |(simp [okT];done)
  |(show (xF S.pc).length<=80;rw [KZ];omega)
  |(show (S.rc.takes _).2.length<=80;rw [Qs];omega)
  |exact zi9 _ _ _ _
theorem Jk(l:List UInt8)(i:Nat)(h:i<l.length):(zS l)[i]?=some (.int .u8 (l[i].toNat:Int)):=by
 unfold zS;rw [List.getElem?_map,List.getElem?_eq_getElem h];rfl
theorem zbA(l:List UInt8)(i:Nat)(h:i<l.length):(zS l)[i]?=some (.int .u8 ((l.getD i 0).toNat:Int)):=by
 rw [Jk l i h,List.getD_eq_getElem?_getD,List.getElem?_eq_getElem h];rfl
theorem zc2(g n cap:Nat)(hn:2<=n)(hc:n<=cap):∃P0,(∀w,Sem.run prog (Instr.slice 35 (.slice (some ⟨g,0,none⟩) n cap) (some (.int .i64 2)) none none) w=.ok (.slice P0 (n-2) (cap-2)) w)/\(n≠2->P0=some ⟨g,2,none⟩):=by
 have hel:prog.elem 35=5:=by kernel_rfl
 by_cases h:cap=2
 ·refine ⟨some ⟨g,0,none⟩,fun w=>?_,fun e=>by omega⟩;rw [run_slice_l (P:=prog) (ht:=by rw [hel];exact zx) (h0:=by decide) (h1:=by omega),hel];simp [sizeOf,go_sem,sliced,h]
 ·refine ⟨some ⟨g,2,none⟩,fun w=>?_,fun _=>rfl⟩;rw [run_slice_l (P:=prog) (ht:=by rw [hel];exact zx) (h0:=by decide) (h1:=by omega),hel];simp [sizeOf,go_sem,sliced,Addr.add,h];rfl
theorem zfR{w:World}{base n g cap:Nat}{xs:List Value}(h:w.ownsRow base 5 1 (.slice (some ⟨g,0,none⟩) n cap) n xs):n<=cap:=by
 rcases h.2 with ⟨e, -⟩|⟨g',cap',cur,e, -, -,h1, -⟩
 ·cases e
 ·injection e with _ _ e;subst e;exact h1
theorem qg(c:UInt8)(r:List UInt8)(w:World):Sem.run prog (Instr.slice 9 (.string ⟨(c::r).toArray⟩) (some (.int .i64 1)) none none) w=.ok (.string ⟨r.toArray⟩) w:=by
 rw [run_slice_string_l (P:=prog) (ht:=underlying9) (h0:=by decide) (h1:=by show (1:Int)<=(((c::r).toArray.size:Nat):Int);simp;omega)];have e:(⟨(c::r).toArray⟩:ByteArray).extract (1:Int).toNat (⟨(c::r).toArray⟩:ByteArray).size=⟨r.toArray⟩:=by
  have q:((⟨(c::r).toArray⟩:ByteArray).extract 1 (⟨(c::r).toArray⟩:ByteArray).size).data.toList=r:=by
   rw [ByteArray.data_extract,Array.toList_extract,List.extract_eq_take_drop];show ((c::r).drop 1).take ((c::r).toArray.size-1)=r;simp
  have q2:((⟨(c::r).toArray⟩:ByteArray).extract 1 (⟨(c::r).toArray⟩:ByteArray).size).data=r.toArray:=Array.ext' (q.trans zzc);exact congrArg ByteArray.mk q2
 rw [e]
theorem GM(c:UInt8)(r:List UInt8)(w:World):Sem.run prog (Instr.index 9 (.string ⟨(c::r).toArray⟩) (.int .i64 0)) w=.ok (.int .u8 (c.toNat:Int)) w:=by
 rw [run_index_string (P:=prog) (h:=underlying9),dif_pos (show 0<=(0:Int)/\(0:Int)<((⟨(c::r).toArray⟩:ByteArray).size:Int) from ⟨by decide,by show (0:Int)<(((c::r).toArray.size:Nat):Int);simp⟩)];rfl
theorem SI.sw{S Q:SB}{N:Int}(h:SI S N)(e1:Q.pc=S.pc)(e2:Q.rc=S.rc):SI Q (N+1000000):=(h.mono zza).like e1 e2
theorem zc3{B:Nat}{s:PC}{w0 w:World}{S:SB}{N:Int}(h:Tn B s w0 w)(hS:SV S s)(hI:SI S N)(hN0:0<=N)(hN:N<3000000000000000000)(c:UInt8)(r l:List UInt8)(hlr:r.length<=200)(hx:yP r=some l)(h2:¬l.length<2)
  (q0:(c::r).isEmpty=false) (q1:(c::r==[103])=false) (q2:(c::r==[113])=false) (q3:(c::r==[116,48])=false) (q4:(c::r==[116,49])=false) (q5:(c::r==[112,48])=false) (q6:(c::r==[112,49])=false) (q7:(c::r==[112,50])=false) (q8:(c::r==[112,51])=false):
  Calls prog 89 #[.pointer (some ⟨B,0,none⟩),.string ⟨(c::r).toArray⟩] w fun e w'=>e=.returned (.string ⟨(S.doW c (yo l) (l.drop 2)).2.toArray⟩)/\∃s',Tn B s' w0 w'/\SV (S.doW c (yo l) (l.drop 2)).1 s'/\SI (S.doW c (yo l) (l.drop 2)).1 (N+1000000):=by
 have HT:=hid h;have SLC:=qg c r;have IXC:=GM c r;have HX:=fun w=>YF w ⟨r.toArray⟩ (by show r.toArray.size<=1000;simp;omega)
 unfold qe at HX;simp only [] at HX;simp only [hx] at HX;have h2':¬(l.length:Int)<2:=by omega
 have hlen:=vu _ r l (Nat.le_refl _) hx;go_enter func89,ntmps89
 go_wp2_with fail;refine (HX _).mono ?_;rintro e w1 ⟨v,rfl,O1⟩;obtain ⟨g,cap,rfl,o1,o2,o3⟩:=O1;have hcap:l.length<=cap:=zfR o1;have c0:=o1.cellAt 0 zza;have c1:=o1.cellAt 1 zza;obtain ⟨y0,hy0⟩:∃y0,Hid (l.getD 0 0=y0):=⟨_,rfl⟩
 obtain ⟨y1,hy1⟩:∃y1,Hid (l.getD 1 0=y1):=⟨_,rfl⟩
 have d0:w1.cell? ⟨g,0,none⟩=some (.int .u8 (y0.toNat:Int)):=by rw [<-hy0.out];exact c0.trans (zbA l 0 zza)
 have d1:w1.cell? ⟨g,1,none⟩=some (.int .u8 (y1.toNat:Int)):=by rw [<-hy1.out];exact c1.trans (zbA l 1 zza)
 have HT1:=hid (ym HT.out o2);have hb2:Hid (l.drop 2≠ [] ->∃b off,some (⟨g,2,none⟩:Addr)=some ⟨b,off,none⟩/\b<w1.heap.size/\zy w1 b off (l.drop 2)):=fun _=>⟨g,2,rfl,(o1.lt g rfl).2,fun i hi=>by
  have q:=o1.cellAt (2+i) (by simp only [List.length_drop] at hi;omega);rw [q,List.getElem_drop];exact Jk l (2+i) _⟩
 obtain ⟨E0,hE0⟩:∃E0,Hid (bits .or .u16 (IntKind.u16.wrap (IntKind.u16.wrap (y0.toNat:Int)*256)) (IntKind.u16.wrap (y1.toNat:Int))=E0):=⟨_,rfl⟩
 have hEn:Hid (E0=yo l):=by
  show _=_;have x0:(y0.toNat:Int)<256:=by have:=y0.toNat_lt;omega
  have x1:(y1.toNat:Int)<256:=by have:=y1.toNat_lt;omega
  rw [<-hE0.out,IntKind.wrap_u16,IntKind.wrap_u16,IntKind.wrap_u16,Int.emod_eq_of_lt zza zza,Int.emod_eq_of_lt zza zza,Int.emod_eq_of_lt zza zza,zbk _ _ zza x1 zza x0];unfold yo;rw [hy0.out,hy1.out]
 have hn0:0<=E0/\E0<65536:=by
  rw [hEn.out];have x0:((l.getD 0 0).toNat:Int)<256:=by have:=(l.getD 0 0).toNat_lt;omega
  have x1:((l.getD 1 0).toNat:Int)<256:=by have:=(l.getD 1 0).toNat_lt;omega
  unfold yo zn;omega
 have hld:(l.drop 2).length=l.length-2:=List.length_drop;have b0:(0:Int)<(l.length:Int):=by omega
 have b1:(1:Int)<(l.length:Int):=by omega
 have b2:(2:Int)<=(l.length:Int):=by omega
 have b3:l≠ []:=by intro e;rw [e] at h2;exact h2 zzb
 have b4:0<l.length:=by omega
 have glt:g<w1.heap.size:=(o1.lt g rfl).2;have gB:g≠B:=by have:=(o1.lt g rfl).1;have:=h.c.lt;omega
 clear c0 c1 o1 o2 o3;obtain ⟨P0,SLN,hP0⟩:=zc2 g l.length cap zza hcap;have DW:=fun {x w:World} (h:Tn B s x w) (hb:l.drop 2≠ [] ->∃b off,P0=some ⟨b,off,none⟩/\b<w.heap.size/\zy w b off (l.drop 2))=>zja h hS hI hN0 hN c E0 hn0.1 hn0.2 P0 (l.drop 2) (cap-2) zza hb
 rw [hld] at DW;clear hy0 hy1;have HB3:Hid (l.drop 2≠ [] ->∃b off,P0=some ⟨b,off,none⟩/\b<w1.drew.heap.size/\zy w1.drew b off (l.drop 2)):=fun hne=>by
  have hp:P0=some ⟨g,2,none⟩:=hP0 (by intro e;exact hne (List.drop_eq_nil_of_le zza));rw [hp];exact hb2.out hne
 go_wp2_with fail;go_region_held3 (fun w'=>w'.cell? ⟨g,0,none⟩=some (.int .u8 (y0.toNat:Int))/\w'.cell? ⟨g,1,none⟩=some (.int .u8 (y1.toNat:Int))) (go_keep) (first|(go_at_call 140;rw [hE0.out];refine (DW (Tn.refl HT1.out.drew.c) HB3.out).mono ?_;rintro e w2 ⟨rfl,s2,T2,V2,I2⟩;have e0:=((kept T2).1 g 0 gB glt).trans d0;have e1:=((kept T2).1 g 1 gB glt).trans d1;have HH:Hid (∃s',Tn B s' w0 w2/\SV (S.doW c E0 (l.drop 2)).1 s'/\SI (S.doW c E0 (l.drop 2)).1 (N+1000000)):=⟨s2,HT1.out.drew.trans T2,V2,I2⟩;clear T2 V2 I2 DW));all_goals go_wp2
 all_goals go_ret
 all_goals (rw [<-hEn.out];exact ⟨rfl,HH.out⟩)
end
section
theorem znM{p:Prop} (q:p:=by
 clear h hS hI;go_enter func89,ntmps89
 go_wp2;go_ret;exact ⟨rfl,_,HTn.out,HV.out,HI2.out⟩):p:=q
theorem zlP{B:Nat}{s:PC}{w0 w:World}{S:SB}{N:Int}(h:Tn B s w0 w)(hS:SV S s)(hI:SI S N)(hN0:0<=N)(hN:N<3000000000000000000)(b:List UInt8)(hl:b.length<=200):Calls prog 89 #[.pointer (some ⟨B,0,none⟩),.string ⟨b.toArray⟩] w fun e w'=>e=.returned (.string ⟨(S.doI b).2.toArray⟩)/\∃s',Tn B s' w0 w'/\SV (S.doI b).1 s'/\SI (S.doI b).1 (N+1000000):=by
 unfold SB.doI;have HT:=hid h;have HS:=hid hS;have HI:=hid (hI.mono (show N<=N+1000000 by omega));have cre:∃v,w.cell? ⟨B,66081,none⟩=some (.bool v):=⟨_,h.rest zzb hS.re⟩
 have cnm:∃v,w.cell? ⟨B,66082,none⟩=some (.bool v):=⟨_,h.rest zzb hS.nm⟩
 have ciq:∃v,w.cell? ⟨B,66083,none⟩=some (.bool v):=⟨_,h.rest zzb hS.iq⟩
 obtain ⟨v1,cre⟩:=cre;obtain ⟨v2,cnm⟩:=cnm;obtain ⟨v3,ciq⟩:=ciq;have fz:=h.c.free;by_cases h0:b=[]
 ·rw [if_pos h0];subst h0;clear h hS hI;go_enter func89,ntmps89
  go_wp2;go_ret;exact ⟨rfl,s,HT.out,HS.out,HI.out⟩
 ·rw [if_neg h0];by_cases h1:b=[103]
  ·rw [if_pos h1];subst h1;have er:xF s=xF S.pc:=by rw [hS.core];rfl
   have TR:=Uz h (by have:=hI.c0;rw [hS.core];exact this);rw [er] at TR;generalize xF S.pc=G0 at*;clear h hS hI er;go_enter func89,ntmps89
   go_wp2_with (first|(go_at_call 137;refine TR.mono ?_;rintro e w1 ⟨rfl,hb1⟩;have HH:=hid (ym HT.out hb1);clear hb1 TR));go_ret;exact ⟨rfl,s,HH.out,HS.out,HI.out⟩
  ·rw [if_neg h1];by_cases h2:b=[113]
   ·rw [if_pos h2];subst h2;have TR:=Ux h hS hI;have HI2:=hid ((hI.takeRecs).mono (show N<=N+1000000 by omega));generalize S.takeRecs=G0 at*;clear h hS hI;go_enter func89,ntmps89
    go_wp2_with (first|(go_at_call 138;refine TR.mono ?_;rintro e w1 ⟨rfl,H⟩;have HH:=hid H;clear H TR));go_ret;obtain ⟨s2,T2,V2⟩:=HH.out;exact ⟨rfl,s2,T2,V2,HI2.out⟩
   ·rw [if_neg h2];by_cases h3:b=[116,48]
    ·rw [if_pos h3];subst h3;have HV:Hid (SV {S with re:=false} (s.put 66081 (.bool false))):=hS.sw (RsO.put s 66081 _ _ _ zzb zzb) (yj _ _ _) ((zh _ _ _ _ zzb).trans hS.nm) ((zh _ _ _ _ zzb).trans hS.iq);have HI2:Hid (SI {S with re:=false} (N+1000000)):=hI.sw rfl rfl;have HTn:Hid (Tn B (s.put 66081 (.bool false)) w0 (w.setCell ⟨B,66081,none⟩ (.bool false))):=h.put _ _ _ zzb hS.re;exact znM
    ·rw [if_neg h3];by_cases h4:b=[116,49]
     ·rw [if_pos h4];subst h4;have HV:Hid (SV {S with re:=true} (s.put 66081 (.bool true))):=hS.sw (RsO.put s 66081 _ _ _ zzb zzb) (yj _ _ _) ((zh _ _ _ _ zzb).trans hS.nm) ((zh _ _ _ _ zzb).trans hS.iq);have HI2:Hid (SI {S with re:=true} (N+1000000)):=hI.sw rfl rfl;have HTn:Hid (Tn B (s.put 66081 (.bool true)) w0 (w.setCell ⟨B,66081,none⟩ (.bool true))):=h.put _ _ _ zzb hS.re;exact znM
     ·rw [if_neg h4];by_cases h5:b=[112,48]
      ·rw [if_pos h5];subst h5;have HV:Hid (SV {S with nmi:=false,irq:=false} ((s.put 66082 (.bool false)).put 66083 (.bool false))):=hS.sw ((RsO.put s 66082 _ _ _ zzb zzb).trans (RsO.put _ 66083 _ _ _ zzb zzb)) ((zh _ _ _ _ zzb).trans ((zh _ _ _ _ zzb).trans hS.re)) ((zh _ _ _ _ zzb).trans (yj _ _ _)) (yj _ _ _);have HI2:Hid (SI {S with nmi:=false,irq:=false} (N+1000000)):=hI.sw rfl rfl;have HTn:Hid (Tn B ((s.put 66082 (.bool false)).put 66083 (.bool false)) w0 ((w.setCell ⟨B,66082,none⟩ (.bool false)).setCell ⟨B,66083,none⟩ (.bool false))):=(h.put _ _ _ zzb hS.nm).put _ _ _ zzb ((zh _ _ _ _ zzb).trans hS.iq);exact znM
      ·rw [if_neg h5];by_cases h6:b=[112,49]
       ·rw [if_pos h6];subst h6;have HV:Hid (SV {S with nmi:=true,irq:=false} ((s.put 66082 (.bool true)).put 66083 (.bool false))):=hS.sw ((RsO.put s 66082 _ _ _ zzb zzb).trans (RsO.put _ 66083 _ _ _ zzb zzb)) ((zh _ _ _ _ zzb).trans ((zh _ _ _ _ zzb).trans hS.re)) ((zh _ _ _ _ zzb).trans (yj _ _ _)) (yj _ _ _);have HI2:Hid (SI {S with nmi:=true,irq:=false} (N+1000000)):=hI.sw rfl rfl;have HTn:Hid (Tn B ((s.put 66082 (.bool true)).put 66083 (.bool false)) w0 ((w.setCell ⟨B,66082,none⟩ (.bool true)).setCell ⟨B,66083,none⟩ (.bool false))):=(h.put _ _ _ zzb hS.nm).put _ _ _ zzb ((zh _ _ _ _ zzb).trans hS.iq);exact znM
       ·rw [if_neg h6];by_cases h7:b=[112,50]
        ·rw [if_pos h7];subst h7;have HV:Hid (SV {S with nmi:=false,irq:=true} ((s.put 66082 (.bool false)).put 66083 (.bool true))):=hS.sw ((RsO.put s 66082 _ _ _ zzb zzb).trans (RsO.put _ 66083 _ _ _ zzb zzb)) ((zh _ _ _ _ zzb).trans ((zh _ _ _ _ zzb).trans hS.re)) ((zh _ _ _ _ zzb).trans (yj _ _ _)) (yj _ _ _);have HI2:Hid (SI {S with nmi:=false,irq:=true} (N+1000000)):=hI.sw rfl rfl;have HTn:Hid (Tn B ((s.put 66082 (.bool false)).put 66083 (.bool true)) w0 ((w.setCell ⟨B,66082,none⟩ (.bool false)).setCell ⟨B,66083,none⟩ (.bool true))):=(h.put _ _ _ zzb hS.nm).put _ _ _ zzb ((zh _ _ _ _ zzb).trans hS.iq);exact znM
        ·rw [if_neg h7];by_cases h8:b=[112,51]
         ·rw [if_pos h8];subst h8;have HV:Hid (SV {S with nmi:=true,irq:=true} ((s.put 66082 (.bool true)).put 66083 (.bool true))):=hS.sw ((RsO.put s 66082 _ _ _ zzb zzb).trans (RsO.put _ 66083 _ _ _ zzb zzb)) ((zh _ _ _ _ zzb).trans ((zh _ _ _ _ zzb).trans hS.re)) ((zh _ _ _ _ zzb).trans (yj _ _ _)) (yj _ _ _);have HI2:Hid (SI {S with nmi:=true,irq:=true} (N+1000000)):=hI.sw rfl rfl;have HTn:Hid (Tn B ((s.put 66082 (.bool true)).put 66083 (.bool true)) w0 ((w.setCell ⟨B,66082,none⟩ (.bool true)).setCell ⟨B,66083,none⟩ (.bool true))):=(h.put _ _ _ zzb hS.nm).put _ _ _ zzb ((zh _ _ _ _ zzb).trans hS.iq);exact znM
         ·rw [if_neg h8];have nq:∀l:List UInt8,¬b=l->(b==l)=false:=fun l hne=>by rw [beq_eq_false_iff_ne];exact hne
          have q0:b.isEmpty=false:=by cases b;exact absurd rfl h0;rfl
          have q1:=nq _ h1;have q2:=nq _ h2;have q3:=nq _ h3;have q4:=nq _ h4;have q5:=nq _ h5;have q6:=nq _ h6;have q7:=nq _ h7;have q8:=nq _ h8;obtain ⟨c,r,rfl⟩:∃c r,b=c::r:=by cases b;exact absurd rfl h0;exact ⟨_,_,rfl⟩
          have SLC:=qg c r;have IXC:=GM c r;have hlr:r.length<=200:=by simp only [List.length_cons] at hl;omega
          have HX:=fun w=>YF w ⟨r.toArray⟩ (by show r.toArray.size<=1000;simp;omega)
          have et:(c::r).tail=r:=rfl;have eh:(c::r).headD 0=c:=rfl;rw [et,eh];clear nq h0 h1 h2 h3 h4 h5 h6 h7 h8 et eh;have ER:(⟨r.toArray⟩:ByteArray).data.toList=r:=by simp
          unfold qe at HX;simp only [] at HX;cases hx:yP r with
          |none=>
           simp only [hx] at HX;simp only [];clear h hS hI hx;go_enter func89,ntmps89
           go_wp2_with (first|(go_at_call 139;refine (HX _).mono ?_;rintro e w1 ⟨rfl,hb1⟩;have HH:=hid (ym HT.out hb1);clear hb1 HX));go_ret;exact ⟨rfl,s,HH.out,HS.out,HI.out⟩
          |some l=>
           simp only [hx] at HX;simp only [];by_cases h2:l.length<2
           ·rw [if_pos h2];have h2':(l.length:Int)<2:=by omega
            clear h hS hI hx;go_enter func89,ntmps89
            go_wp2_with (first|(go_at_call 139;refine (HX _).mono ?_;rintro e w1 ⟨v,rfl,O1⟩;obtain ⟨g,cap,rfl,o1,o2,o3⟩:=O1;have HH:=hid (ym HT.out o2);clear HX o1 o2 o3));go_ret;exact ⟨rfl,s,HH.out,HS.out,HI.out⟩
           ·rw [if_neg h2];exact zc3 h hS hI hN0 hN c r l hlr hx h2 q0 q1 q2 q3 q4 q5 q6 q7 q8
end
