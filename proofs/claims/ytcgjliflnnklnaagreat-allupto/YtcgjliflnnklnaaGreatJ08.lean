import Derived.Test.YtcgjliflnnklnaaGreatJ07
import Derived.Test.YtcgjliflnnklnaaGreatRwIz
import Derived.Test.YtcgjliflnnklnaaGreatRwFz
import Derived.Test.YtcgjliflnnklnaaGreatJ06
import Derived.Test.YtcgjliflnnklnaaGreatRwTbz
import Derived.Test.YtcgjliflnnklnaaGreatJ20
import Derived.Test.YtcgjliflnnklnaaGreatRwUez
import Derived.Test.YtcgjliflnnklnaaGreatRwUfz
import Derived.Test.YtcgjliflnnklnaaGreatJ21
import Derived.Test.YtcgjliflnnklnaaGreatRwUhz
import Derived.Test.YtcgjliflnnklnaaGreatRwUiz
namespace Go.Proofs.YtcgjliflnnklnaaGreat
open Go.RowKit Tryz
inductive Cd (op md:BA):Prop
 |seq:(op=b3 78 77 73\/op=b3 73 82 81\/op=b3 66 82 75)->Cd op md
 |jsr:op=b3 74 83 82->Cd op md
 |ret:(op=b3 82 84 83\/op=b3 82 84 73)->Cd op md
 |jmp:op=b3 74 77 80->md∈mJ->Cd op md
 |imp:op∈lI->md=b3 105 109 112->Cd op md
 |acc:op∈lC->md=b3 97 99 99->Cd op md
 |imm:op∈lR->md=b3 105 109 109->Cd op md
 |rel:op∈lB->md=b3 114 101 108->Cd op md
 |plc:OpA op->md∈mA->Cd op md
def inL(l:List BA)(x:BA):Bool:=l.any fun y=>y.data.toList==x.data.toList
theorem vv{l:List BA}{x:BA}(h:inL l x=true):x∈l:=by
 obtain ⟨y,hy,e⟩:=List.any_eq_true.1 h;have e2:y=x:=by
  have:=eq_of_beq e;cases y;cases x;exact congrArg ByteArray.mk (Array.ext' this)
 exact e2 ▸ hy
def cdB(op md:BA):Bool:=
 inL [b3 66 82 75,b3 74 83 82,b3 82 84 83,b3 82 84 73] op||(inL [b3 74 77 80] op&&inL mJ md)||(inL lI op&&inL [b3 105 109 112] md)||(inL lC op&&inL [b3 97 99 99] md)||(inL lR op&&inL [b3 105 109 109] md)||(inL lB op&&inL [b3 114 101 108] md)||((inL lR op||inL lW op||inL lC op) &&inL mA md)
theorem zji:(yH.all fun e=>cdB e.2.1 e.2.2)=true:=by kernel_rfl
theorem YH{x y:BA}(h:inL [y] x=true):x=y:=by
 have:=vv h;simpa using this
theorem zf1{op md:BA}(h:cdB op md=true):Cd op md:=by
 unfold cdB at h;simp only [Bool.or_eq_true,Bool.and_eq_true] at h;rcases h with (((((h|h)|h)|h)|h)|h)|h
 ·have q:=vv h;simp only [List.mem_cons,List.not_mem_nil,or_false] at q;rcases q with q|q|q|q
  ·exact .seq (.inr (.inr q))
  ·exact .jsr q
  ·exact .ret (.inl q)
  ·exact .ret (.inr q)
 ·exact .jmp (YH h.1) (vv h.2)
 ·exact .imp (vv h.1) (YH h.2)
 ·exact .acc (vv h.1) (YH h.2)
 ·exact .imm (vv h.1) (YH h.2)
 ·exact .rel (vv h.1) (YH h.2)
 ·refine .plc ?_ (vv h.2);rcases h.1 with (q|q)|q
  ·exact .inl (vv q)
  ·exact .inr (.inl (vv q))
  ·exact .inr (.inr (vv q))
theorem zjj(b:Int)(h:((xc b).1==⟨#[]⟩)=false):Cd (xc b).1 (xc b).2:=by
 unfold xc at h⊢;cases hf:yH.find? fun e=>(e.1:Int)==b with
 |none=>rw [hf] at h;cases h
 |some e=>
  have hm:=List.mem_of_find?_eq_some hf;have:=List.all_eq_true.1 zji e hm;exact zf1 this
def RS.pins(t:RS)(nmi:Bool):RS:={t with due:=t.due||(nmi&& !t.nmi),nmi:=nmi,r:={t.r with cyc:=IntKind.wrap .i64 (t.r.cyc+1)} }
def RS.turnR(t1:RS)(irq:Bool):RS × BusI:=
 let a:=if t1.h.length>0 then (zo t1.op t1.md t1.r t1.h).1 else ⟨t1.r.PC,false,0,true⟩
 let q:=t1.bus a
 let t2:=if t1.h.length=0 then q.1.begins q.2.data irq else q.1
 let t3:=t2.counts q.2
 if t3.r.jam=true then (t3,q.2)
 else
  let h:=t3.h++ [q.2.data]
  if (zo t3.op t3.md t3.r h).2=true then ({t3 with h:=h},q.2)
  else ({t3 with h:=[],r:=zV t3.op t3.md t3.r h},q.2)
theorem Zw(t:RS)(nmi irq:Bool):t.cycle nmi irq=(t.pins nmi).turnR irq:=rfl
theorem zp6{p:Prop} (q:p:=by
 split
 ·exact ⟨rfl,rfl,rfl,rfl,rfl⟩
 ·split<;>exact ⟨rfl,rfl,rfl,rfl,rfl⟩):p:=q
theorem Xc(t:RS)(a:Act):(t.bus a).1.r=t.r/\(t.bus a).1.op=t.op/\(t.bus a).1.md=t.md/\(t.bus a).1.h=t.h/\(t.bus a).1.rom=t.rom:=by
 unfold RS.bus;split
 ·split<;>exact ⟨rfl,rfl,rfl,rfl,rfl⟩
 ·exact zp6
theorem qQ(t:RS)(b:BusI):(t.counts b).r=t.r/\(t.counts b).op=t.op/\(t.counts b).md=t.md/\(t.counts b).h=t.h/\(t.counts b).rom=t.rom:=by
 unfold RS.counts;exact zp6
theorem qR(t:RS)(b:Int)(irq:Bool):(t.begins b irq).h=t.h/\(t.begins b irq).cnt=t.cnt/\(t.begins b irq).rom=t.rom/\∃j,(t.begins b irq).r={t.r with jam:=j}:=by
 unfold RS.begins;split
 ·exact ⟨rfl,rfl,rfl,t.r.jam,rfl⟩
 ·split
  ·exact ⟨rfl,rfl,rfl,t.r.jam,rfl⟩
  ·exact ⟨rfl,rfl,rfl,_,rfl⟩
theorem zdb(t:RS)(b:Int)(irq:Bool)(h:(t.begins b irq).r.jam=false):Cd (t.begins b irq).op (t.begins b irq).md:=by
 unfold RS.begins at h⊢;split
 ·exact .seq (.inl rfl)
 ·rename_i h1;rw [if_neg h1] at h;split
  ·exact .seq (.inr (.inl rfl))
  ·rename_i h2;rw [if_neg h2] at h;exact zjj b h
theorem RgR.jam{r:RG}(h:RgR r)(c:Int)(j:Bool):RgR {r with cyc:=c,jam:=j}:=⟨h.a,h.x,h.y,h.s,h.p,h.pc⟩
structure Tri (B M:Nat) (r:Option Nat) (w w':World):Prop where
 os:w'.os=w.os
 tape:w'.tape=w.tape
 output:w'.output=w.output
 size:w.heap.size<=w'.heap.size
 block:∀k,k<w.heap.size->k≠B->k≠M->some k≠r->w'.heap[k]?=w.heap[k]?
structure HV (w:World) (base B M:Nat) (v:Value) (h:List Int):Prop where
 o:w.ownsRow base 3 1 v h.length (h.map fun x=>Iq x)
 ne:∀g,v.ownBlock=some g->g≠B/\g≠M
structure TR (B M base:Nat) (r:Option Nat) (L:List Value) (m:Nat->Int) (v:Value) (h:List Int) (w0 w:World):Prop where
 c:MAt w B M L m
 g:Tri B M r w0 w
 o:HV w base B M v h
theorem zG{w w':World}{base te size n:Nat}{V:Value}{xs:List Value}(h:w.ownsRow base te size V n xs)(hV:∀g,V.ownBlock=some g->w'.heap[g]?=w.heap[g]?):w'.ownsRow base te size V n xs:=by
 refine ⟨h.1,?_⟩;rcases h.2 with h|⟨g,cap,cur,rfl,hbg,hgg,r⟩
 ·exact .inl h
 ·exact .inr ⟨g,cap,cur,rfl,hbg,(hV g rfl).trans hgg,r⟩
theorem Tri.refl(B M:Nat)(r:Option Nat)(w:World):Tri B M r w w:=⟨rfl,rfl,rfl,Nat.le_refl _,fun _ _ _ _ _=>rfl⟩
theorem Tri.trans{B M:Nat}{r:Option Nat}{a b c:World}(h:Tri B M r a b)(k:Tri B M r b c):Tri B M r a c:=
 ⟨k.os.trans h.os,k.tape.trans h.tape,k.output.trans h.output,Nat.le_trans h.size k.size,fun i h1 h2 h3 h4=>(k.block i (Nat.lt_of_lt_of_le h1 h.size) h2 h3 h4).trans (h.block i h1 h2 h3 h4)⟩
theorem Tri.two{B M:Nat}{r:Option Nat}{a b:World}(h:Two B M a b):Tri B M r a b:=⟨h.os,h.tape,h.output,h.size,fun k hk h1 h2 _=>h.block k hk h1 h2⟩
section
variable {B M base:Nat} {r:Option Nat} {L:List Value} {m:Nat->Int} {v:Value} {h:List Int} {w0 w:World}
theorem HV.kept{w':World}(o:HV w base B M v h)(k:Two B M w w'):HV w' base B M v h:=
 ⟨zG o.o (fun g hg=>k.block g (o.o.lt g hg).2 (o.ne g hg).1 (o.ne g hg).2),o.ne⟩
theorem TR.lt(x:TR B M base r L m v h w0 w):B<w.heap.size:=x.c.lt
theorem TR.via{L':List Value}{m':Nat->Int}{w':World}(x:TR B M base r L m v h w0 w)(k:TM B M L' m' w w'):TR B M base r L' m' v h w0 w':=
 ⟨k.c,x.g.trans (Tri.two k.g),x.o.kept k.g⟩
theorem TR.below{w':World}(x:TR B M base r L m v h w0 w)(hb:Bq w w'):TR B M base r L m v h w0 w':=x.via ((TM.refl x.c).below hb)
theorem TR.alloc(x:TR B M base r L m v h w0 w)(o:Obj):TR B M base r L m v h w0 (w.alloc o):=x.via ((TM.refl x.c).alloc o)
theorem TR.drew(x:TR B M base r L m v h w0 w):TR B M base r L m v h w0 w.drew:=x.via ((TM.refl x.c).drew)
theorem TR.drewN(x:TR B M base r L m v h w0 w)(n:Nat):TR B M base r L m v h w0 (w.drewN n):=x.via ((TM.refl x.c).drewN n)
theorem TR.set{i:Nat}{u:Value}(x:TR B M base r L m v h w0 w)(hi:i<17):TR B M base r (L.set i u) m v h w0 (w.setCell (Aq B i) u):=x.via ((TM.refl x.c).set hi)
theorem TR.other{b o:Nat}{u:Value}(x:TR B M base r L m v h w0 w)(hb:w0.heap.size<=b)(h1:b≠B)(h2:b≠M)(h3:∀g,v.ownBlock=some g->b≠g):TR B M base r L m v h w0 (w.setCell (Aq b o) u):=
 ⟨x.c.same (Below.heap_setCell _ _ _ _ (fun e=>h1 e.symm)) (Below.heap_setCell _ _ _ _ (fun e=>h2 e.symm)),
  ⟨x.g.os,x.g.tape,x.g.output,by simpa using x.g.size,fun k hk q1 q2 q3=>(Below.heap_setCell _ _ _ _ (fun e:k=b=>by omega)).trans (x.g.block k hk q1 q2 q3)⟩,
  ⟨zG x.o.o (fun g hg=>Below.heap_setCell _ _ _ _ (fun e=>h3 g hg e.symm)),x.o.ne⟩⟩
theorem TR.eq{L':List Value}{m':Nat->Int}(x:TR B M base r L m v h w0 w)(e:L=L')(e2:m=m'):TR B M base r L' m' v h w0 w:=e ▸ e2 ▸ x
theorem TR.row{v':Value}{h':List Int}(x:TR B M base r L m v h w0 w)(o:HV w base B M v' h'):TR B M base r L m v' h' w0 w:=⟨x.c,x.g,o⟩
theorem HV.nil:HV w base B M (Nq) []:=⟨World.ownsRow_nil _ _ _ _,fun g hg=>by simp [Value.ownBlock] at hg⟩
theorem HV.shape(o:HV w base B M v h):(h=[]/\∃p c,v=.slice p 0 c)\/(h≠ []/\∃g c,v=Sq g h.length c):=by
 rcases o.o.2 with ⟨e,e2⟩|⟨g,cap,_,e,_⟩
 ·exact .inl ⟨List.length_eq_zero_iff.1 e2,none,0,e⟩
 ·by_cases q:h=[]
  ·exact .inl ⟨q,some (Aq g 0),cap,by rw [e,q];rfl⟩
  ·exact .inr ⟨q,g,cap,e⟩
end
def Blk(w:World)(n:Nat)(vs:Array Value)(T:TypeId):Prop:=w.heap[n]?=some (.cells vs T (0,0))
theorem Blk.same{w w':World}{n:Nat}{vs:Array Value}{T:TypeId}(b:Blk w n vs T)(e:w'.heap[n]?=w.heap[n]?):Blk w' n vs T:=e.trans b
theorem Blk.lt{w:World}{n:Nat}{vs:Array Value}{T:TypeId}(b:Blk w n vs T):n<w.heap.size:=(Array.getElem?_eq_some_iff.1 b).1
theorem Blk.cell{w:World}{n:Nat}{vs:Array Value}{T:TypeId}(b:Blk w n vs T)(i:Nat):w.cell? (Aq n i)=vs[i]?:=cell_of_row w n i vs T (0,0) b
theorem Blk.cq{w:World}{n:Nat}{vs:Array Value}{T:TypeId}(b:Blk w n vs T)(i:Nat){v:Value}(e:vs[i]?=some v:=by exact rfl):w.cell? (Aq n i)=some v:=(b.cell i).trans e
theorem Blk.free{w:World}{n:Nat}{vs:Array Value}{T:TypeId}(b:Blk w n vs T)(i:Nat):w.frozen? (Aq n i)=false:=by simp [World.frozen?,show w.heap[n]?=_ from b]
theorem Blk.four{w:World}{n:Nat}{a b c d:Value}{T:TypeId}(k:Blk w n #[a,b,c,d] T):w.cell? (Aq n 0)=some a/\w.cell? (Aq n 1)=some b/\w.cell? (Aq n 2)=some c/\w.cell? (Aq n 3)=some d/\(∀i,w.frozen? (Aq n i)=false)/\n<w.heap.size:=
 ⟨k.cell 0,k.cell 1,k.cell 2,k.cell 3,k.free,k.lt⟩
theorem Blk.new(w:World)(vs:Array Value)(T:TypeId):Blk (w.alloc (.cells vs T)) w.heap.size vs T:=by
 unfold Blk World.alloc;exact Array.getElem?_push_size
theorem Blk.alloc{w:World}{n:Nat}{vs:Array Value}{T:TypeId}(b:Blk w n vs T)(o:Obj):Blk (w.alloc o) n vs T:=b.same (Below.heap_alloc _ _ _ b.lt)
theorem Blk.set{w:World}{n:Nat}{vs:Array Value}{T:TypeId}(b:Blk w n vs T){m o:Nat}{u:Value}(h:n≠m):Blk (w.setCell (Aq m o) u) n vs T:=b.same (Below.heap_setCell _ _ _ _ h)
theorem Blk.two{B M:Nat}{w w':World}{n:Nat}{vs:Array Value}{T:TypeId}(b:Blk w n vs T)(k:Two B M w w')(h1:n≠B)(h2:n≠M):Blk w' n vs T:=b.same (k.block n b.lt h1 h2)
theorem Blk.below{w w':World}{n:Nat}{vs:Array Value}{T:TypeId}(b:Blk w n vs T)(k:Bq w w'):Blk w' n vs T:=b.same (k.block n b.lt)
theorem Blk.drew{w:World}{n:Nat}{vs:Array Value}{T:TypeId}(b:Blk w n vs T):Blk w.drew n vs T:=b
theorem Blk.drewN{w:World}{n:Nat}{vs:Array Value}{T:TypeId}(b:Blk w n vs T)(k:Nat):Blk (w.drewN k) n vs T:=b
theorem HV.hd{B M base:Nat}{h:List Int}{w:World}{g c:Nat}(o:HV w base B M (Sq g h.length c) h)(hb:∀i,i<h.length->0<=hd h i/\hd h i<256):HdAt w g h:=by
 refine ⟨(o.o.lt g rfl).2,fun i hi=>?_,hb⟩;rw [o.o.cellAt i zza];have:(h.map fun x=>Iq x)[i]?=some (Iq h[i]):=by rw [List.getElem?_map,List.getElem?_eq_getElem hi];rfl
 rw [this];unfold Go.Proofs.YtcgjliflnnklnaaGreat.hd;simp [List.getD,hi]
theorem Gw{t1 tb t2 t3:RS}{irq:Bool}{a:Act}{b:BusI}(ea:(if t1.h.length>0 then (zo t1.op t1.md t1.r t1.h).1 else ⟨t1.r.PC,false,0,true⟩)=a)(eb:t1.bus a=(tb,b))(e2:(if t1.h.length=0 then tb.begins b.data irq else tb)=t2)(e3:t2.counts b=t3):t1.turnR irq=if t3.r.jam=true then (t3,b) else if (zo t3.op t3.md t3.r (t3.h++ [b.data])).2=true then ({t3 with h:=t3.h++ [b.data] },b) else ({t3 with h:=[],r:=zV t3.op t3.md t3.r (t3.h++ [b.data])},b):=by
 unfold RS.turnR;rw [ea];dsimp only;rw [eb];dsimp only;rw [e2,e3]
theorem ziz(t:RS)(a:Act):(t.bus a).1.cnt=t.cnt\/(t.bus a).1.cnt=(t.bus a).2.data:=by
 unfold RS.bus;split
 ·split<;>exact .inl rfl
 ·split
  ·exact .inr rfl
  ·split<;>exact .inl rfl
theorem Gx(t:RS)(a:Act):(t.bus a).2.addr=a.addr:=by
 unfold RS.bus;split
 ·rfl
 ·split
  ·rfl
  ·split<;>rfl
theorem Gy{t1 tb:RS}{irq:Bool}{a:Act}{b:BusI}(ea:(if t1.h.length>0 then (zo t1.op t1.md t1.r t1.h).1 else ⟨t1.r.PC,false,0,true⟩)=a)(eb:t1.bus a=(tb,b)):(t1.turnR irq).2=b:=by
 obtain ⟨t2,e2⟩:∃t2,(if t1.h.length=0 then tb.begins b.data irq else tb)=t2:=⟨_,rfl⟩
 obtain ⟨t3,e3⟩:∃t3,t2.counts b=t3:=⟨_,rfl⟩
 rw [Gw ea eb e2 e3];split
 ·rfl
 ·split<;>rfl
theorem zaw{t tb t2 t3:RS}{nmi irq:Bool}{a:Act}{b:BusI}(rg:RgR t.r)(hm:t.h≠ [] ->Cd t.op t.md)(eb:(t.pins nmi).bus a=(tb,b))(e2:(if t.h.length=0 then tb.begins b.data irq else tb)=t2)(e3:t2.counts b=t3):t3.h=t.h/\RgR t3.r/\(t3.r.jam=false->Cd t3.op t3.md)/\(t.h≠ [] ->t3.op=t.op):=by
 obtain ⟨k1,k2,k3,k4, -⟩:=Xc (t.pins nmi) a;rw [eb] at k1 k2 k3 k4;dsimp only at k1 k2 k3 k4;obtain ⟨c1,c2,c3,c4, -⟩:=qQ t2 b;rw [e3] at c1 c2 c3 c4;rw [c1,c2,c3,c4];by_cases q:t.h=[]
 ·rw [if_pos (by rw [q];rfl)] at e2;obtain ⟨b1, -, -,j,b4⟩:=qR tb b.data irq;subst e2;refine ⟨b1.trans k4,?_,fun hj=>zdb _ _ _ hj,fun z=>absurd q z⟩;rw [b4,k1];exact ⟨rg.a,rg.x,rg.y,rg.s,rg.p,rg.pc⟩
 ·rw [if_neg (by intro e;exact q (List.length_eq_zero_iff.1 e))] at e2;subst e2;refine ⟨k4,?_,fun _=>?_,fun _=>k2⟩
  ·rw [k1];exact ⟨rg.a,rg.x,rg.y,rg.s,rg.p,rg.pc⟩
  ·rw [k2,k3];exact hm q
theorem zcM{t tb t2:RS}{nmi irq:Bool}{a:Act}{b:BusI}(k0:0<=t.cnt/\t.cnt<256)(eb:(t.pins nmi).bus a=(tb,b))(e2:(if t.h.length=0 then tb.begins b.data irq else tb)=t2)(hd:0<=b.data/\b.data<256):0<=t2.cnt/\t2.cnt<256:=by
 have h1:0<=tb.cnt/\tb.cnt<256:=by
  have:=ziz (t.pins nmi) a;rw [eb] at this;dsimp only at this;rcases this with e|e
  ·rw [e];exact k0
  ·rw [e];exact hd
 subst e2;split
 ·rw [(qR tb b.data irq).2.1];exact h1
 ·exact h1
theorem zn3{op:BA}(h:op∈lB):NoN op:=by
 unfold lB at h;simp only [List.mem_cons,List.not_mem_nil,or_false] at h;rcases h with rfl|rfl|rfl|rfl|rfl|rfl|rfl|rfl;all_goals (unfold NoN;decide)
theorem zc9{op:BA}(h:op∈lI):op∈lP\/op=b3 80 72 65\/op=b3 80 72 80\/NoN op:=by
 unfold lI at h;simp only [List.mem_cons,List.not_mem_nil,or_false] at h;rcases h with rfl|rfl|rfl|rfl|rfl|rfl|rfl|rfl|rfl|rfl|rfl|rfl|rfl|rfl|rfl|rfl|rfl|rfl|rfl|rfl|rfl|rfl;all_goals first|(right;right;right;unfold NoN;decide)|(right;left;rfl)|(right;right;left;rfl)|(left;unfold lP;simp;done)
theorem zkh(op md:BA)(hc:Cd op md)(r:RG)(hr:RgR r)(b cap:Nat)(h:List Int)(h1:1<=h.length)(hl:h.length<=100)(w:World)(H:HdAt w b h):Cq 92 #[cdV op md,r.val,hdV b h cap] w (zi (zo op md r h)) fun w'=>Bq w w':=by
 cases hc with
 |seq q=>exact zed op md q r hr b cap h h1 hl w H
 |jsr q=>subst q;exact zdk md r hr b cap h h1 hl w H
 |ret q=>exact Qa op md (by unfold lP;rcases q with rfl|rfl<;>simp) r hr b cap h h1 hl w H
 |jmp q m=>subst q;exact zb6 md m r hr b cap h h1 hl w H
 |imp q m=>
  subst m;rcases zc9 q with k|rfl|rfl|k
  ·exact Qa op _ k r hr b cap h h1 hl w H
  ·exact zdl r hr b cap h h1 hl w H
  ·exact zdm r hr b cap h h1 hl w H
  ·exact VO op _ k (.inl rfl) r hr b cap h h1 hl w H
 |acc q m=>subst m;exact VO op _ (zlW (.inr (.inr q))) (.inr (.inl rfl)) r hr b cap h h1 hl w H
 |imm q m=>subst m;exact VO op _ (zlW (.inl q)) (.inr (.inr rfl)) r hr b cap h h1 hl w H
 |rel q m=>subst m;exact zeC op (zn3 q) q r hr b cap h h1 hl w H
 |plc q m=>exact Ku op md q m r hr b cap h h1 hl w H
theorem zmo{p:Prop} (q:p:=by
 rw [e] at hn;rcases hop with rfl|rfl|rfl<;>cases hn):p:=q
theorem ziR{op md:BA}{r:RG}{h:List Int}(hop:op=b3 78 77 73\/op=b3 73 82 81\/op=b3 66 82 75)(h1:1<=h.length)(hn:(zo op md r h).2=false):7<=h.length:=by
 rw [show zo op md r h=yI op r h.length from by unfold zo;rw [if_pos hop]] at hn;rcases (show h.length=1\/h.length=2\/h.length=3\/h.length=4\/h.length=5\/h.length=6\/7<=h.length from by omega) with e|e|e|e|e|e|e
 ·exact zmo
 ·exact zmo
 ·exact zmo
 ·exact zmo
 ·exact zmo
 ·exact zmo
 ·exact e
theorem ziS{md:BA}{r:RG}{h:List Int}(h1:1<=h.length)(hn:(zo (b3 74 83 82) md r h).2=false):6<=h.length:=by
 rcases (show h.length=1\/h.length=2\/h.length=3\/h.length=4\/h.length=5\/6<=h.length from by omega) with e|e|e|e|e|e;all_goals first|exact e|(unfold zo at hn;rw [e] at hn;cases hn)
theorem ziT{op md:BA}{r:RG}{h:List Int}(hop:op=b3 82 84 83\/op=b3 82 84 73)(h1:1<=h.length)(hn:(zo op md r h).2=false):6<=h.length:=by
 rcases hop with rfl|rfl
 all_goals
  rw [show ∀o,(o=b3 82 84 83\/o=b3 82 84 73)->zo o md r h=xJ o r h from fun o q=>by rcases q with rfl|rfl<;>rfl] at hn;rcases (show h.length=1\/h.length=2\/h.length=3\/h.length=4\/h.length=5\/6<=h.length from by omega) with e|e|e|e|e|e;all_goals first|exact e|(unfold xJ at hn;rw [e] at hn;cases hn)|simp
theorem zfO{op:BA}{r:RG}{h:List Int}(hop:op=b3 80 76 65\/op=b3 80 76 80)(md:BA)(h1:1<=h.length)(hn:(zo op md r h).2=false):4<=h.length:=by
 rcases hop with rfl|rfl
 all_goals
  rw [show ∀o,(o=b3 80 76 65\/o=b3 80 76 80)->zo o md r h=xJ o r h from fun o q=>by rcases q with rfl|rfl<;>rfl] at hn;rcases (show h.length=1\/h.length=2\/h.length=3\/4<=h.length from by omega) with e|e|e|e;all_goals first|exact e|(unfold xJ at hn;rw [e] at hn;cases hn)|simp
theorem ziU{md:BA}{r:RG}{h:List Int}(hm:md∈mJ)(h1:1<=h.length)(h5:h.length<=5)(hn:(zo (b3 74 77 80) md r h).2=false):h.length=3\/h.length=5:=by
 rw [show zo (b3 74 77 80) md r h=xj md r h from rfl] at hn;unfold mJ at hm;simp only [List.mem_cons,List.not_mem_nil,or_false] at hm;rcases (show h.length=1\/h.length=2\/h.length=3\/h.length=4\/h.length=5 from by omega) with e|e|e|e|e;all_goals first|exact .inl e|exact .inr e|(unfold xj at hn;rw [e] at hn;rcases hm with rfl|rfl<;>cases hn)
theorem ziV{op:BA}{r:RG}{h:List Int}(hop:op∈lB)(h1:1<=h.length)(hn:(zo op (b3 114 101 108) r h).2=false):2<=h.length:=by
 rcases (show h.length=1\/2<=h.length from by omega) with e|e
 ·unfold lB at hop;simp only [List.mem_cons,List.not_mem_nil,or_false] at hop;unfold zo yd at hn;rw [e] at hn;rcases hop with rfl|rfl|rfl|rfl|rfl|rfl|rfl|rfl<;>cases hn
 ·exact e
theorem zkK{p:Prop} (q:p:=by
 unfold lC at hop;unfold mA at hm;simp only [List.mem_cons,List.not_mem_nil,or_false] at hop hm;unfold zo zj yD at hn;rw [e] at hn;rcases hop with rfl|rfl|rfl|rfl|rfl|rfl<;>rcases hm with rfl|rfl|rfl|rfl|rfl|rfl|rfl|rfl<;>cases hn):p:=q
theorem ziW{op md:BA}{r:RG}{h:List Int}(hop:op∈lC)(hm:md∈mA)(h1:1<=h.length)(hn:(zo op md r h).2=false):3<=h.length:=by
 rcases (show h.length=1\/h.length=2\/3<=h.length from by omega) with e|e|e
 ·exact zkK
 ·exact zkK
 ·exact e
theorem zkg{md:BA}(h:md∈mA):md∈mB:=by
 unfold mA at h;unfold mB;simp only [List.mem_cons,List.not_mem_nil,or_false] at h⊢;rcases h with q|q|q|q|q|q|q|q<;>simp [q]
theorem fl_I{op:BA}(h:op∈lI)(n:Nat)(hp:(op=b3 80 76 65\/op=b3 80 76 80)->4<=n):zcI op n:=by
 unfold lI at h;simp only [List.mem_cons,List.not_mem_nil,or_false] at h;rcases h with rfl|rfl|rfl|rfl|rfl|rfl|rfl|rfl|rfl|rfl|rfl|rfl|rfl|rfl|rfl|rfl|rfl|rfl|rfl|rfl|rfl|rfl;all_goals first|exact .inr (.inr (.inl ⟨.inl rfl,hp (.inl rfl)⟩))|exact .inr (.inr (.inl ⟨.inr rfl,hp (.inr rfl)⟩))|exact .inr (.inr (.inr (.inr (by unfold lI0;simp))))
theorem zlG(op md:BA)(hc:Cd op md)(r:RG)(hr:RgR r)(b cap:Nat)(h:List Int)(h1:1<=h.length)(hl:h.length<=100)(hn:(zo op md r h).2=false)(hj:op=b3 74 77 80->h.length<=5)(w:World)(H:HdAt w b h):Calls prog 96 #[cdV op md,r.val,hdV b h cap] w fun e w'=>e=.returned (zV op md r h).val/\Bq w w':=by
 cases hc with
 |seq q=>exact zf4 op md q r hr b cap h hl (.inl ⟨q,ziR q h1 hn⟩) w H
 |jsr q=>subst q;exact Xd _ md (.inl rfl) r hr b cap h hl (.inr (.inl ⟨.inl rfl,ziS h1 hn⟩)) w H
 |ret q=>exact Xd op md (by rcases q with q|q;exact .inr (.inl q);exact .inr (.inr (.inl q))) r hr b cap h hl (.inr (.inl ⟨.inr q,ziT q h1 hn⟩)) w H
 |jmp q m=>subst q;exact Xd _ md (.inr (.inr (.inr rfl))) r hr b cap h hl (.inr (.inr (.inr (.inl ⟨rfl,ziU m h1 (hj rfl) hn⟩)))) w H
 |imp q m=>subst m;exact zfp op q r hr b cap h hl (fl_I q _ (fun k=>zfO k _ h1 hn)) w H
 |acc q m=>subst m;exact ze0 op q r hr b cap h hl w H
 |imm q m=>subst m;exact VC op _ q (.inr (.inr rfl)) r hr b cap h hl h1 w H
 |rel q m=>subst m;exact zfP op q r hr b cap h hl (ziV q h1 hn) w H
 |plc q m=>
  rcases q with q|q|q
  ·unfold mA at m;simp only [List.mem_cons,List.not_mem_nil,or_false] at m;rcases m with m|m|m|m|m|m|m|m
   ·exact VH op md q (.inl m) r hr b cap h hl h1 w H
   ·exact VH op md q (.inr (.inl m)) r hr b cap h hl h1 w H
   ·exact VH op md q (.inr (.inr m)) r hr b cap h hl h1 w H
   ·exact Uy op md q (.inl m) r hr b cap h hl h1 w H
   ·exact Uy op md q (.inr (.inl m)) r hr b cap h hl h1 w H
   ·exact Uy op md q (.inr (.inr m)) r hr b cap h hl h1 w H
   ·exact VC op md q (.inl m) r hr b cap h hl h1 w H
   ·exact VC op md q (.inr (.inl m)) r hr b cap h hl h1 w H
  ·exact zlO op md q (zkg m) r hr b cap h hl w H
  ·exact zkn op md q (zkg m) r hr b cap h hl (ziW q m h1 hn) w H
