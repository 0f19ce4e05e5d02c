import Derived.WalkKit
import Derived.Laws.BitsAllLaws
import Derived.Test.YtcgjliflnnklnaaGreatJ01
namespace Go.Proofs.YtcgjliflnnklnaaGreat
open Go.RowKit
section
structure PC where
 mem:Nat->Int
 rom:Int
 cnt:Int
 calls:Bool
 a:Int
 x:Int
 y:Int
 s:Int
 p:Int
 pc:Int
 ba:Int
 bx:Int
 b_y:Int
 bs:Int
 bp:Int
 bpc:Int
 st:Int
 ins:Int
 md:Int
 step:Int
 ad:Int
 hop:Int
 data:Int
 taken:Bool
 nmiOn:Bool
 nmiDue:Bool
 cyc:Int
 rest:Nat->Option Value
def vH(m:Nat->Int)(i:Nat)(v:Int):Nat->Int:=fun k=>if k=i then v else m k
structure BusI where
 addr:Int
 data:Int
 wr:Bool
 ft:Bool
def BusI.val(b:BusI):Value:=.agg #[Iq b.addr,Iq b.data,Tq b.wr,Tq b.ft]
def zn(lo hi:Int):Int:=hi*256+lo
def loI(a:Int):Int:=a%256
def hiI(a:Int):Int:=a/256
def zC(a b:Int):Int:=zn ((loI a+b)%256) (hiI a)
def xb(p f:Int)(on:Bool):Int:=if on=true then bits .or .u8 (bits .andNot .u8 p f) f else bits .andNot .u8 p f
def vI(p f:Int):Bool:=bits .and .u8 p f !=0
def nzI(p b:Int):Int:=xb (xb p 128 (bits .and .u8 b 128 !=0)) 2 (b==0)
def YG(b:Int):Int:=bits .or .u8 (bits .andNot .u8 b 16) 32
def PC.look(s:PC)(at_:Int):Int:=
 if at_=53248 then s.cnt else if at_=53249 then (if s.calls=true then 128 else 0) else s.mem at_.toNat
def PC.read1(s:PC)(at_:Int):PC:=if at_=53249 then {s with calls:=false} else s
def PC.write1(s:PC)(at_ d:Int):PC:=
 if at_=53248 then {s with cnt:=d} else if at_≠53249/\at_<s.rom then {s with mem:=vH s.mem at_.toNat d} else s
def PC.read(s:PC)(at_:Int):PC × BusI:=(s.read1 at_,⟨at_,s.look at_,false,false⟩)
def PC.write(s:PC)(at_ d:Int):PC × BusI:=(s.write1 at_ d,⟨at_,d,true,false⟩)
def PC.tick(s:PC):PC:=
 if s.cnt=0 then s else if (s.cnt-1)%256=0 then {s with cnt:=(s.cnt-1)%256,calls:=true} else {s with cnt:=(s.cnt-1)%256}
def yx(i:Int):Int:=if i=47\/i=48\/i=49 then 1 else if i=2\/i=32\/i=39\/i=40\/i=24\/i=20 then 2 else 0
def PC.readNext(s:PC):PC × BusI:=let r:=s.read s.pc;({r.1 with pc:=(r.1.pc+1)%65536},r.2)
def yg(r:PC × BusI):PC × BusI:=({r.1 with data:=r.2.data%256},r.2)
def zL(r:PC × BusI):PC × BusI:=({r.1 with ad:=zn (r.2.data%256) 0},r.2)
def zA(r:PC × BusI):PC × BusI:=({r.1 with ad:=zn (loI r.1.ad) (r.2.data%256)},r.2)
def xn(r:PC × BusI):PC × BusI:=({r.1 with hop:=zn (r.2.data%256) 0},r.2)
def PC.stackTop(s:PC):Int:=zn s.s 1
def PC.pushed(s:PC)(d:Int):PC × BusI:=let r:=s.write s.stackTop d;({r.1 with s:=(r.1.s-1)%256},r.2)
def PC.pulled(s:PC):PC × BusI:=let t:={s with s:=(s.s+1)%256};t.read t.stackTop
def PC.finish(s:PC):PC:={s with ba:=s.a,bx:=s.x,b_y:=s.y,bs:=s.s,bp:=s.p,bpc:=s.pc,st:=0}
def PC.loadA(s:PC)(v:Int):PC:={s with a:=v,p:=nzI s.p v}
def PC.loadX(s:PC)(v:Int):PC:={s with x:=v,p:=nzI s.p v}
def PC.loadY(s:PC)(v:Int):PC:={s with y:=v,p:=nzI s.p v}
def PC.loadD(s:PC)(v:Int):PC:={s with data:=v,p:=nzI s.p v}
def PC.setF(s:PC)(f:Int)(on:Bool):PC:={s with p:=xb s.p f on}
def PC.add(s:PC)(m:Int):PC:=
 let sum:=s.a+m+bits .and .u8 s.p 1
 let cut:=sum%256
 let s1:=s.setF 1 (decide (255<sum))
 let s2:=s1.setF 64 (bits .and .u8 (bits .and .u8 (bits .xor .u8 cut s.a) (bits .xor .u8 cut m)) 128 !=0)
 s2.loadA cut
def PC.compare(s:PC)(r:Int):PC:=
 let s1:=s.setF 1 (decide (s.data<=r))
 {s1 with p:=nzI s1.p ((r-s.data)%256)}
def PC.shl(s:PC)(i:Int):PC:=
 let s1:=s.setF 1 (bits .and .u8 s.data 128 !=0)
 s1.loadD (bits .or .u8 (s.data*2%256) i)
def PC.shr(s:PC)(i:Int):PC:=
 let s1:=s.setF 1 (bits .and .u8 s.data 1 !=0)
 s1.loadD (bits .or .u8 (s.data/2) (i*128%256))
def PC.doIns(s:PC)(i:Nat):PC:=match i with
 |0=>s.add s.data
 |1=>s.loadA (bits .and .u8 s.a s.data)
 |2=>s.shl 0
 |3=>{s with taken:= !vI s.p 1}
 |4=>{s with taken:=vI s.p 1}
 |5=>{s with taken:=vI s.p 2}
 |6=>{s with taken:=vI s.p 128}
 |7=>{s with taken:= !vI s.p 2}
 |8=>{s with taken:= !vI s.p 128}
 |9=>{s with taken:= !vI s.p 64}
 |10=>{s with taken:=vI s.p 64}
 |11=>((s.setF 2 (bits .and .u8 s.a s.data==0)).setF 128 (bits .and .u8 s.data 128 !=0)).setF 64 (bits .and .u8 s.data 64 !=0)
 |12=>{s.setF 4 true with pc:=s.ad}
 |13=>s.setF 1 false
 |14=>s.setF 8 false
 |15=>s.setF 4 false
 |16=>s.setF 64 false
 |17=>s.compare s.a
 |18=>s.compare s.x
 |19=>s.compare s.y
 |20=>s.loadD ((s.data-1)%256)
 |21=>s.loadX ((s.x-1)%256)
 |22=>s.loadY ((s.y-1)%256)
 |23=>s.loadA (bits .xor .u8 s.a s.data)
 |24=>s.loadD ((s.data+1)%256)
 |25=>s.loadX ((s.x+1)%256)
 |26=>s.loadY ((s.y+1)%256)
 |27=>{s with pc:=s.ad}
 |28=>{s with pc:=s.ad}
 |29=>s.loadA s.data
 |30=>s.loadX s.data
 |31=>s.loadY s.data
 |32=>s.shr 0
 |33=>s
 |34=>s.loadA (bits .or .u8 s.a s.data)
 |35=>{s with data:=s.a}
 |36=>{s with data:=bits .or .u8 s.p 16}
 |37=>s.loadA s.data
 |38=>{s with p:=YG s.data}
 |39=>s.shl (bits .and .u8 s.p 1)
 |40=>s.shr (bits .and .u8 s.p 1)
 |41=>{s with p:=YG s.data,pc:=s.ad}
 |42=>{s with pc:=(s.ad+1)%65536}
 |43=>s.add (255-s.data)
 |44=>s.setF 1 true
 |45=>s.setF 8 true
 |46=>s.setF 4 true
 |47=>{s with data:=s.a}
 |48=>{s with data:=s.x}
 |49=>{s with data:=s.y}
 |50=>s.loadX s.a
 |51=>s.loadY s.a
 |52=>s.loadX s.s
 |53=>s.loadA s.x
 |54=>{s with s:=s.x}
 |_=>s.loadA s.y
def PC.perform(s:PC):PC:=s.doIns s.ins.toNat
def PC.performLast(s:PC):PC:=s.perform.finish
def PC.access(s:PC):PC × BusI:=
 if yx s.ins=1 then let t:=s.performLast;t.write t.ad t.data
 else if yx s.ins=2 then let t:={s with st:=3};yg (t.read t.ad)
 else let r:=yg (s.read s.ad);(r.1.performLast,r.2)
def PC.restore(s:PC):PC × BusI:=let t:={s with st:=4};t.write t.ad t.data
def PC.change(s:PC):PC × BusI:=let t:=s.performLast;t.write t.ad t.data
def yC(r:PC × BusI):PC × BusI:=((zA r).1.performLast,r.2)
def PC.branch(s:PC):PC:=({s with pc:=s.ad}:PC).finish
def PC.implied(s:PC):PC × BusI:=let r:=s.read s.pc;(r.1.performLast,r.2)
def PC.accumulator(s:PC):PC × BusI:=
 let r:=s.read s.pc
 let t:=({r.1 with data:=r.1.a}:PC).perform
 (({t with a:=t.data}:PC).finish,r.2)
def PC.immediate(s:PC):PC × BusI:=let r:=yg s.readNext;(r.1.performLast,r.2)
def PC.zeroPage(s:PC):PC × BusI:=zL ({s with st:=2}:PC).readNext
def PC.zeroPageBy(s:PC)(i:Int):PC × BusI:=
 if s.step=1 then zL s.readNext
 else let r:=s.read s.ad;({r.1 with ad:=zC r.1.ad i,st:=2},r.2)
def PC.absolute(s:PC):PC × BusI:=
 if s.step=1 then zL s.readNext else zA ({s with st:=2}:PC).readNext
def PC.indexed(s:PC)(i:Int):PC × BusI:=
 let near:=zC s.ad i
 let t:={s with ad:=(s.ad+i)%65536,st:=2}
 if t.ad=near/\yx t.ins=0 then t.access else t.read near
def PC.absoluteBy(s:PC)(i:Int):PC × BusI:=
 if s.step=1 then zL s.readNext else if s.step=2 then zA s.readNext else s.indexed i
def PC.indirectX(s:PC):PC × BusI:=
 if s.step=1 then xn s.readNext
 else if s.step=2 then let r:=s.read s.hop;({r.1 with hop:=zC r.1.hop r.1.x},r.2)
 else if s.step=3 then zL (s.read s.hop)
 else let t:={s with st:=2};zA (t.read (zC t.hop 1))
def PC.indirectY(s:PC):PC × BusI:=
 if s.step=1 then xn s.readNext
 else if s.step=2 then zL (s.read s.hop)
 else if s.step=3 then zA (s.read (zC s.hop 1))
 else s.indexed s.y
def sgn(b:Int):Int:=if b<128 then b else b+65280
def PC.relative(s:PC):PC × BusI:=
 if s.step=1 then
  let r:=s.readNext
  let t:=({r.1 with ad:=(r.1.pc+sgn r.2.data)%65536}:PC).perform
  (if t.taken=true then t else t.finish,r.2)
 else if s.step=2 then
  let r:=s.read s.pc
  (if hiI r.1.ad=hiI r.1.pc then r.1.branch else r.1,r.2)
 else let r:=s.read (zn (loI s.ad) (hiI s.pc));(r.1.branch,r.2)
def PC.jumpAbsolute(s:PC):PC × BusI:=if s.step=1 then zL s.readNext else yC (s.read s.pc)
def PC.jumpIndirect(s:PC):PC × BusI:=
 if s.step=1 then zL s.readNext
 else if s.step=2 then let r:=zA s.readNext;({r.1 with hop:=r.1.ad},r.2)
 else if s.step=3 then zL (s.read s.hop)
 else yC (s.read (zC s.hop 1))
def PC.callSubroutine(s:PC):PC × BusI:=
 if s.step=1 then zL s.readNext
 else if s.step=2 then s.read s.stackTop
 else if s.step=3 then s.pushed (hiI s.pc)
 else if s.step=4 then s.pushed (loI s.pc)
 else yC (s.read s.pc)
def PC.leaveSubroutine(s:PC):PC × BusI:=
 if s.step=1 then s.read s.pc
 else if s.step=2 then s.read s.stackTop
 else if s.step=3 then zL s.pulled
 else if s.step=4 then zA s.pulled
 else let r:=s.read s.ad;(r.1.performLast,r.2)
def PC.leaveInterrupt(s:PC):PC × BusI:=
 if s.step=1 then s.read s.pc
 else if s.step=2 then s.read s.stackTop
 else if s.step=3 then yg s.pulled
 else if s.step=4 then zL s.pulled
 else yC s.pulled
def PC.pushByte(s:PC):PC × BusI:=
 if s.step=1 then s.read s.pc
 else let t:=s.perform;let r:=t.pushed t.data;(r.1.finish,r.2)
def PC.pullByte(s:PC):PC × BusI:=
 if s.step=1 then s.read s.pc
 else if s.step=2 then s.read s.stackTop
 else let r:=yg s.pulled;(r.1.performLast,r.2)
def PC.enter(s:PC)(v f:Int):PC × BusI:=
 if s.step=2 then s.pushed (hiI s.pc)
 else if s.step=3 then s.pushed (loI s.pc)
 else if s.step=4 then s.pushed f
 else if s.step=5 then zL (s.read v)
 else yC (s.read ((v+1)%65536))
def PC.enterByBreak(s:PC):PC × BusI:=if s.step=1 then s.readNext else s.enter 65534 (bits .or .u8 s.p 16)
def PC.enterByIRQ(s:PC):PC × BusI:=if s.step=1 then s.read s.pc else s.enter 65534 s.p
def PC.enterByNMI(s:PC):PC × BusI:=if s.step=1 then s.read s.pc else s.enter 65530 s.p
def PC.doMode(s:PC)(m:Nat):PC × BusI:=match m with
 |1=>s.implied
 |2=>s.accumulator
 |3=>s.immediate
 |4=>s.zeroPage
 |5=>s.zeroPageBy s.x
 |6=>s.zeroPageBy s.y
 |7=>s.absolute
 |8=>s.absoluteBy s.x
 |9=>s.absoluteBy s.y
 |10=>s.indirectX
 |11=>s.indirectY
 |12=>s.relative
 |13=>s.jumpAbsolute
 |14=>s.jumpIndirect
 |15=>s.callSubroutine
 |16=>s.leaveSubroutine
 |17=>s.pushByte
 |18=>s.pullByte
 |19=>s.enterByBreak
 |20=>s.enterByNMI
 |21=>s.enterByIRQ
 |_=>s.leaveInterrupt
def PC.begin_(s:PC)(i m:Int):PC:=
 if m=0 then {s with ins:=i,md:=m,step:=0,st:=5} else {s with ins:=i,md:=m,step:=0,st:=1}
def jG:List (Nat × Nat × Nat):=[(0,12,19),(1,34,10),(5,34,4),(6,2,4),(8,36,17),(9,34,3),(10,2,2),(13,34,7),(14,2,7),(16,8,12),(17,34,11),(21,34,5),(22,2,5),(24,13,1),(25,34,9),(29,34,8),(30,2,8),(32,28,15),(33,1,10),(36,11,4),(37,1,4),(38,39,4),(40,38,18),(41,1,3),(42,39,2),(44,11,7),(45,1,7),(46,39,7),(48,6,12),(49,1,11),(53,1,5),(54,39,5),(56,44,1),(57,1,9),(61,1,8),(62,39,8),(64,41,22),(65,23,10),(69,23,4),(70,32,4),(72,35,17),(73,23,3),(74,32,2),(76,27,13),(77,23,7),(78,32,7),(80,9,12),(81,23,11),(85,23,5),(86,32,5),(88,15,1),(89,23,9),(93,23,8),(94,32,8),(96,42,16),(97,0,10),(101,0,4),(102,40,4),(104,37,18),(105,0,3),(106,40,2),(108,27,14),(109,0,7),(110,40,7),(112,10,12),(113,0,11),(117,0,5),(118,40,5),(120,46,1),(121,0,9),(125,0,8),(126,40,8),(129,47,10),(132,49,4),(133,47,4),(134,48,4),(136,22,1),(138,53,1),(140,49,7),(141,47,7),(142,48,7),(144,3,12),(145,47,11),(148,49,5),(149,47,5),(150,48,6),(152,55,1),(153,47,9),(154,54,1),(157,47,8),(160,31,3),(161,29,10),(162,30,3),(164,31,4),(165,29,4),(166,30,4),(168,51,1),(169,29,3),(170,50,1),(172,31,7),(173,29,7),(174,30,7),(176,4,12),(177,29,11),(180,31,5),(181,29,5),(182,30,6),(184,16,1),(185,29,9),(186,52,1),(188,31,8),(189,29,8),(190,30,9),(192,19,3),(193,17,10),(196,19,4),(197,17,4),(198,20,4),(200,26,1),(201,17,3),(202,21,1),(204,19,7),(205,17,7),(206,20,7),(208,7,12),(209,17,11),(213,17,5),(214,20,5),(216,14,1),(217,17,9),(221,17,8),(222,20,8),(224,18,3),(225,43,10),(228,18,4),(229,43,4),(230,24,4),(232,25,1),(233,43,3),(234,33,1),(236,18,7),(237,43,7),(238,24,7),(240,5,12),(241,43,11),(245,43,5),(246,24,5),(248,45,1),(249,43,9),(253,43,8),(254,24,8)]
def zw(c:Nat):Nat × Nat:=match jG.find? (fun e=>e.1==c) with
 |some e=>e.2
 |none=>(0,0)
def PC.fetch(s:PC)(irq:Bool):PC × BusI:=
 let r:=s.read s.pc
 let b:BusI:={r.2 with ft:=true}
 if r.1.nmiDue=true then (({r.1 with nmiDue:=false}:PC).begin_ 12 20,b)
 else if (irq||r.1.calls)=true/\vI r.1.p 4=false then (r.1.begin_ 12 21,b)
 else (({r.1 with pc:=(r.1.pc+1)%65536}:PC).begin_ (zw (b.data%256).toNat).1 (zw (b.data%256).toNat).2,b)
def PC.turn(s:PC)(irq:Bool):PC × BusI:=
 if s.st=0 then s.fetch irq
 else if s.st=2 then s.access
 else if s.st=3 then s.restore
 else if s.st=4 then s.change
 else let t:={s with step:=IntKind.wrap .i64 (s.step+1)};t.doMode t.md.toNat
def PC.cycle(s:PC)(nmi irq:Bool):PC × BusI:=
 let s1:PC:=if nmi=true/\s.nmiOn=false then {s with nmiDue:=true} else s
 let s2:={s1 with nmiOn:=nmi}
 let r:=s2.turn irq
 let s3:=if r.2.wr=false\/r.2.addr≠53248 then r.1.tick else r.1
 ({s3 with cyc:=IntKind.wrap .i64 (s3.cyc+1)},r.2)
end
section
def PC.pins(s:PC)(nmi:Bool):PC:={s with nmiOn:=nmi,nmiDue:=s.nmiDue||(nmi&& !s.nmiOn)}
def PC.ends(s:PC)(b:BusI):PC:=if b.wr=false\/b.addr≠53248 then s.tick else s
theorem vX(s:PC)(nmi irq:Bool):s.cycle nmi irq=({((s.pins nmi).turn irq).1.ends ((s.pins nmi).turn irq).2 with cyc:=IntKind.wrap .i64 ((((s.pins nmi).turn irq).1.ends ((s.pins nmi).turn irq).2).cyc+1)},((s.pins nmi).turn irq).2):=by
 have e:({(if nmi=true/\s.nmiOn=false then {s with nmiDue:=true} else s:PC) with nmiOn:=nmi}:PC)=s.pins nmi:=by
  unfold PC.pins;cases nmi
  ·simp
  ·cases h:s.nmiOn<;>simp
 unfold PC.cycle PC.ends;simp only [e]
theorem QY(b:Nat)(h:b<256):(zw b).1<56/\(zw b).2<23:=by
 have:∀n:Fin 256,(zw n.val).1<56/\(zw n.val).2<23:=by decide+kernel
 exact this ⟨b,h⟩
end
structure RG where
 A:Int
 X:Int
 Y:Int
 S:Int
 P:Int
 PC:Int
 cyc:Int
 jam:Bool
structure Act where
 addr:Int
 wr:Bool
 data:Int
 ft:Bool
def Act.nil:Act:=⟨0,false,0,false⟩
abbrev BA:=ByteArray
def b3(a b c:UInt8):BA:=⟨#[a,b,c]⟩
def b2(a b:UInt8):BA:=⟨#[a,b]⟩
def zp(a b:Int):Int:=bits .and .i64 a b
def yp(a b:Int):Int:=bits .or .i64 a b
def ZU(a b:Int):Int:=bits .xor .i64 a b
def isW(op:BA):Bool:=op==(b3 83 84 65)||op==(b3 83 84 88)||op==(b3 83 84 89)
def isC(op:BA):Bool:=op==(b3 65 83 76)||op==(b3 76 83 82)||op==(b3 82 79 76)||op==(b3 82 79 82)||op==(b3 73 78 67)||op==(b3 68 69 67)
def zY(op:BA):Int:=if isW op=true then 119 else if isC op=true then 99 else 114
def rdR(a:Int):Act × Bool:=(⟨a%65536,false,0,false⟩,true)
def wrR(a d:Int):Act × Bool:=(⟨a%65536,true,d,false⟩,true)
def dnR:Act × Bool:=(Act.nil,false)
def hd(h:List Int)(i:Nat):Int:=h.getD i 0
def zZ(op:BA)(lo hi index n at_:Int):Int × Int × Act × Bool:=
 let wrong:=(lo+index)%256+256*hi
 let right:=(lo+index+256*hi)%65536
 if zY op=114/\wrong=right then (right,at_,Act.nil,true)
 else if n=at_ then (0,0,⟨wrong,false,0,false⟩,false)
 else (right,at_+1,Act.nil,true)
def zj(op md:BA)(r:RG)(h:List Int):Int × Int × Act × Bool:=
 let n:Int:=h.length
 let index:=if md=(b3 122 112 121)\/md=(b3 97 98 121)\/md=(b3 105 122 121) then r.Y else r.X
 if n=1\/n=2/\(md=(b3 97 98 115)\/md=(b3 97 98 120)\/md=(b3 97 98 121)) then (0,0,(rdR (r.PC+1+n-1)).1,false)
 else if md=(b2 122 112) then (hd h 1,2,Act.nil,true)
 else if md=(b3 122 112 120)\/md=(b3 122 112 121) then
  if n=2 then (0,0,⟨hd h 1,false,0,false⟩,false) else ((hd h 1+index)%256,3,Act.nil,true)
 else if md=(b3 97 98 115) then (hd h 1+256*hd h 2,3,Act.nil,true)
 else if md=(b3 97 98 120)\/md=(b3 97 98 121) then zZ op (hd h 1) (hd h 2) index n 3
 else if md=(b3 105 122 120) then
  if n<5 then (0,0,⟨(if n=2 then hd h 1 else if n=3 then hd h 1+r.X else hd h 1+r.X+1)%256,false,0,false⟩,false)
  else (hd h 3+256*hd h 4,5,Act.nil,true)
 else if n<4 then (0,0,⟨(hd h 1+n-2)%256,false,0,false⟩,false)
 else zZ op (hd h 2) (hd h 3) index n 4
def nzR(p b:Int):Int:=
 let p1:=zp p 125
 let p2:=if 127<b then yp p1 128 else p1
 if b=0 then yp p2 2 else p2
def yN(p:Int)(c:Bool):Int:=if c=true then yp p 1 else zp p 254
def zF(op:BA)(b p:Int):Int × Int:=
 if op=(b3 65 83 76) then (b*2%256,nzR (yN p (decide (127<b))) (b*2%256))
 else if op=(b3 82 79 76) then (b*2%256+zp p 1,nzR (yN p (decide (127<b))) (b*2%256+zp p 1))
 else if op=(b3 76 83 82) then (b/2,nzR (yN p (b%2==1)) (b/2))
 else if op=(b3 82 79 82) then (b/2+128*zp p 1,nzR (yN p (b%2==1)) (b/2+128*zp p 1))
 else if op=(b3 73 78 67) then ((b+1)%256,nzR p ((b+1)%256))
 else if op=(b3 68 69 67) then ((b-1)%256,nzR p ((b-1)%256))
 else (b,nzR p b)
def yD(op:BA)(r:RG)(h:List Int)(a from_:Int):Act × Bool:=
 let n:Int:=h.length-from_
 if zY op=114 then (if n=0 then rdR a else dnR)
 else if zY op=119 then (if n=0 then wrR a (if op=(b3 83 84 65) then r.A else if op=(b3 83 84 88) then r.X else r.Y) else dnR)
 else if n=0 then rdR a
 else if n=1 then wrR a (hd h from_.toNat)
 else if n=2 then wrR a (zF op (hd h from_.toNat) r.P).1
 else dnR
def yI(op:BA)(r:RG)(n:Int):Act × Bool:=
 let back:=if op=(b3 66 82 75) then (r.PC+2)%65536 else r.PC
 let p:=if op=(b3 66 82 75) then yp r.P 16 else r.P
 let vector:=if op=(b3 78 77 73) then 65530 else 65534
 if n=1 then (if op=(b3 66 82 75) then rdR (r.PC+1) else rdR r.PC)
 else if n=2 then wrR (256+r.S) (back/256)
 else if n=3 then wrR (256+(r.S-1)%256) (back%256)
 else if n=4 then wrR (256+(r.S-2)%256) p
 else if n=5 then rdR vector
 else if n=6 then rdR (vector+1)
 else dnR
def xJ(op:BA)(r:RG)(h:List Int):Act × Bool:=
 let n:Int:=h.length
 let most:=if op=(b3 82 84 83) then 5 else if op=(b3 82 84 73) then 6 else 4
 if n=1 then rdR (r.PC+1)
 else if n<most then rdR (256+(r.S+n-2)%256)
 else if n=5/\op=(b3 82 84 83) then rdR (hd h 3+256*hd h 4)
 else dnR
def xj(md:BA)(r:RG)(h:List Int):Act × Bool:=
 let n:Int:=h.length
 if n<3 then rdR (r.PC+n)
 else if n=3/\md=(b3 105 110 100) then rdR (hd h 1+256*hd h 2)
 else if n=4 then rdR ((hd h 1+1)%256+256*hd h 2)
 else dnR
def yS(op:BA)(p:Int):Bool:=
 if op=(b3 66 67 67) then (zp p 1 !=0)==false
 else if op=(b3 66 67 83) then (zp p 1 !=0)==true
 else if op=(b3 66 78 69) then (zp p 2 !=0)==false
 else if op=(b3 66 69 81) then (zp p 2 !=0)==true
 else if op=(b3 66 80 76) then (zp p 128 !=0)==false
 else if op=(b3 66 77 73) then (zp p 128 !=0)==true
 else if op=(b3 66 86 67) then (zp p 64 !=0)==false
 else if op=(b3 66 86 83) then (zp p 64 !=0)==true
 else false
def yv(r:RG)(d:Int):Int:=(r.PC+2+(if 127<d then d-256 else d))%65536
def yd(op:BA)(r:RG)(h:List Int):Act × Bool:=
 let n:Int:=h.length
 let behind:=(r.PC+2)%65536
 if n=1 then rdR (r.PC+1)
 else if n=2/\yS op r.P=true then rdR behind
 else if n=3 then
  (if yv r (hd h 1)/256≠behind/256 then rdR (behind/256*256+yv r (hd h 1)%256) else dnR)
 else dnR
def zo(op md:BA)(r:RG)(h:List Int):Act × Bool:=
 let n:Int:=h.length
 if op=(b3 78 77 73)\/op=(b3 73 82 81)\/op=(b3 66 82 75) then yI op r n
 else if op=(b3 74 83 82) then
  (if n=1 then rdR (r.PC+1)
  else if n=2 then rdR (256+r.S)
  else if n=3 then wrR (256+r.S) ((r.PC+1+1)%65536/256)
  else if n=4 then wrR (256+(r.S-1)%256) ((r.PC+1+1)%256)
  else if n=5 then rdR (r.PC+1+1)
  else dnR)
 else if op=(b3 82 84 83)\/op=(b3 82 84 73)\/op=(b3 80 76 65)\/op=(b3 80 76 80) then xJ op r h
 else if op=(b3 80 72 65)/\n=2 then wrR (256+r.S) r.A
 else if op=(b3 80 72 80)/\n=2 then wrR (256+r.S) (yp r.P 16)
 else if op=(b3 74 77 80) then xj md r h
 else if md=(b3 105 109 112)\/md=(b3 97 99 99)\/md=(b3 105 109 109) then (if n=1 then rdR (r.PC+1) else dnR)
 else if md=(b3 114 101 108) then yd op r h
 else
  let q:=zj op md r h
  if q.2.2.2=false then (q.2.2.1,true) else yD op r h q.1 q.2.1
def YR(r:RG)(m:Int):RG:=
 let sum:=r.A+m+zp r.P 1
 let b:=sum%256
 let p:=zp (yN (nzR r.P b) (decide (255<sum))) 191
 let p2:=if (decide (127<r.A)==decide (127<m))=true/\(decide (127<b) !=decide (127<m))=true then yp p 64 else p
 {r with A:=b,P:=p2}
def jS(r:RG)(a m:Int):RG:={r with P:=yN (nzR r.P ((a-m)%256)) (decide (m<=a))}
def xA(op:BA)(r:RG)(m:Int):RG:=
 if op=(b3 76 68 65) then {r with A:=m,P:=nzR r.P m}
 else if op=(b3 76 68 88) then {r with X:=m,P:=nzR r.P m}
 else if op=(b3 76 68 89) then {r with Y:=m,P:=nzR r.P m}
 else if op=(b3 65 78 68) then {r with A:=zp r.A m,P:=nzR r.P (zp r.A m)}
 else if op=(b3 79 82 65) then {r with A:=yp r.A m,P:=nzR r.P (yp r.A m)}
 else if op=(b3 69 79 82) then {r with A:=ZU r.A m,P:=nzR r.P (ZU r.A m)}
 else if op=(b3 65 68 67) then YR r m
 else if op=(b3 83 66 67) then YR r (255-m)
 else if op=(b3 67 77 80) then jS r r.A m
 else if op=(b3 67 80 88) then jS r r.X m
 else if op=(b3 67 80 89) then jS r r.Y m
 else if op=(b3 66 73 84) then {r with P:=yp (zp (nzR r.P (zp r.A m)) 63) (zp m 192)}
 else r
def xZ(op:BA)(r:RG):RG:=
 if op=(b3 84 65 88) then {r with X:=r.A,P:=nzR r.P r.A}
 else if op=(b3 84 65 89) then {r with Y:=r.A,P:=nzR r.P r.A}
 else if op=(b3 84 88 65) then {r with A:=r.X,P:=nzR r.P r.X}
 else if op=(b3 84 89 65) then {r with A:=r.Y,P:=nzR r.P r.Y}
 else if op=(b3 84 83 88) then {r with X:=r.S,P:=nzR r.P r.S}
 else if op=(b3 84 88 83) then {r with S:=r.X}
 else if op=(b3 73 78 88) then {r with X:=(r.X+1)%256,P:=nzR r.P ((r.X+1)%256)}
 else if op=(b3 73 78 89) then {r with Y:=(r.Y+1)%256,P:=nzR r.P ((r.Y+1)%256)}
 else if op=(b3 68 69 88) then {r with X:=(r.X-1)%256,P:=nzR r.P ((r.X-1)%256)}
 else if op=(b3 68 69 89) then {r with Y:=(r.Y-1)%256,P:=nzR r.P ((r.Y-1)%256)}
 else if op=(b3 67 76 67) then {r with P:=zp r.P 254}
 else if op=(b3 83 69 67) then {r with P:=yp r.P 1}
 else if op=(b3 67 76 73) then {r with P:=zp r.P 251}
 else if op=(b3 83 69 73) then {r with P:=yp r.P 4}
 else if op=(b3 67 76 86) then {r with P:=zp r.P 191}
 else if op=(b3 67 76 68) then {r with P:=zp r.P 247}
 else if op=(b3 83 69 68) then {r with P:=yp r.P 8}
 else if op=(b3 80 72 65)\/op=(b3 80 72 80) then {r with S:=(r.S-1)%256}
 else r
def xC(op:BA)(r:RG)(h:List Int):RG:=
 if op=(b3 78 77 73)\/op=(b3 73 82 81)\/op=(b3 66 82 75) then {r with S:=(r.S-3)%256,P:=yp r.P 4,PC:=hd h 5+256*hd h 6}
 else if op=(b3 74 83 82) then {r with S:=(r.S-2)%256,PC:=hd h 1+256*hd h 5}
 else if op=(b3 82 84 83) then {r with S:=(r.S+2)%256,PC:=(hd h 3+256*hd h 4+1)%65536}
 else if op=(b3 82 84 73) then {r with S:=(r.S+3)%256,P:=yp (zp (hd h 3) 207) 32,PC:=hd h 4+256*hd h 5}
 else if op=(b3 80 76 65) then {r with S:=(r.S+1)%256,A:=hd h 3,P:=nzR r.P (hd h 3)}
 else if op=(b3 80 76 80) then {r with S:=(r.S+1)%256,P:=yp (zp (hd h 3) 207) 32}
 else if op=(b3 74 77 80) then {r with PC:=hd h (h.length-2)+256*hd h (h.length-1)}
 else r
def vg(md:BA):Int:=
 if md=(b3 105 109 109)\/md=(b2 122 112)\/md=(b3 122 112 120)\/md=(b3 122 112 121)\/md=(b3 105 122 120)\/md=(b3 105 122 121)\/md=(b3 114 101 108) then 2
 else if md=(b3 97 98 115)\/md=(b3 97 98 120)\/md=(b3 97 98 121) then 3 else 1
def qz(op:BA):Bool:=op==(b3 78 77 73)||op==(b3 73 82 81)||op==(b3 66 82 75)||op==(b3 74 83 82)||op==(b3 82 84 83)||op==(b3 82 84 73)||op==(b3 74 77 80)
def zV(op md:BA)(r:RG)(h:List Int):RG:=
 if qz op=true then xC op r h
 else
  let r2:RG:={r with PC:=if md=(b3 114 101 108)/\yS op r.P=true then yv r (hd h 1) else (r.PC+vg md)%65536}
  if md=(b3 105 109 112) then xC op (xZ op r2) h
  else if md=(b3 97 99 99) then {r2 with A:=(zF op r2.A r2.P).1,P:=(zF op r2.A r2.P).2}
  else if md=(b3 114 101 108)\/zY op=119 then r2
  else if zY op=99 then {r2 with P:=(zF op (hd h (h.length-3)) r2.P).2}
  else xA op r2 (hd h (h.length-1))
def yH:List (Nat × BA × BA):=[(0,(b3 66 82 75),(b3 105 109 112)),(1,(b3 79 82 65),(b3 105 122 120)),(5,(b3 79 82 65),(b2 122 112)),(6,(b3 65 83 76),(b2 122 112)),(8,(b3 80 72 80),(b3 105 109 112)),(9,(b3 79 82 65),(b3 105 109 109)),(10,(b3 65 83 76),(b3 97 99 99)),(13,(b3 79 82 65),(b3 97 98 115)),(14,(b3 65 83 76),(b3 97 98 115)),(16,(b3 66 80 76),(b3 114 101 108)),(17,(b3 79 82 65),(b3 105 122 121)),(21,(b3 79 82 65),(b3 122 112 120)),(22,(b3 65 83 76),(b3 122 112 120)),(24,(b3 67 76 67),(b3 105 109 112)),(25,(b3 79 82 65),(b3 97 98 121)),(29,(b3 79 82 65),(b3 97 98 120)),(30,(b3 65 83 76),(b3 97 98 120)),(32,(b3 74 83 82),(b3 97 98 115)),(33,(b3 65 78 68),(b3 105 122 120)),(36,(b3 66 73 84),(b2 122 112)),(37,(b3 65 78 68),(b2 122 112)),(38,(b3 82 79 76),(b2 122 112)),(40,(b3 80 76 80),(b3 105 109 112)),(41,(b3 65 78 68),(b3 105 109 109)),(42,(b3 82 79 76),(b3 97 99 99)),(44,(b3 66 73 84),(b3 97 98 115)),(45,(b3 65 78 68),(b3 97 98 115)),(46,(b3 82 79 76),(b3 97 98 115)),(48,(b3 66 77 73),(b3 114 101 108)),(49,(b3 65 78 68),(b3 105 122 121)),(53,(b3 65 78 68),(b3 122 112 120)),(54,(b3 82 79 76),(b3 122 112 120)),(56,(b3 83 69 67),(b3 105 109 112)),(57,(b3 65 78 68),(b3 97 98 121)),(61,(b3 65 78 68),(b3 97 98 120)),(62,(b3 82 79 76),(b3 97 98 120)),(64,(b3 82 84 73),(b3 105 109 112)),(65,(b3 69 79 82),(b3 105 122 120)),(69,(b3 69 79 82),(b2 122 112)),(70,(b3 76 83 82),(b2 122 112)),(72,(b3 80 72 65),(b3 105 109 112)),(73,(b3 69 79 82),(b3 105 109 109)),(74,(b3 76 83 82),(b3 97 99 99)),(76,(b3 74 77 80),(b3 97 98 115)),(77,(b3 69 79 82),(b3 97 98 115)),(78,(b3 76 83 82),(b3 97 98 115)),(80,(b3 66 86 67),(b3 114 101 108)),(81,(b3 69 79 82),(b3 105 122 121)),(85,(b3 69 79 82),(b3 122 112 120)),(86,(b3 76 83 82),(b3 122 112 120)),(88,(b3 67 76 73),(b3 105 109 112)),(89,(b3 69 79 82),(b3 97 98 121)),(93,(b3 69 79 82),(b3 97 98 120)),(94,(b3 76 83 82),(b3 97 98 120)),(96,(b3 82 84 83),(b3 105 109 112)),(97,(b3 65 68 67),(b3 105 122 120)),(101,(b3 65 68 67),(b2 122 112)),(102,(b3 82 79 82),(b2 122 112)),(104,(b3 80 76 65),(b3 105 109 112)),(105,(b3 65 68 67),(b3 105 109 109)),(106,(b3 82 79 82),(b3 97 99 99)),(108,(b3 74 77 80),(b3 105 110 100)),(109,(b3 65 68 67),(b3 97 98 115)),(110,(b3 82 79 82),(b3 97 98 115)),(112,(b3 66 86 83),(b3 114 101 108)),(113,(b3 65 68 67),(b3 105 122 121)),(117,(b3 65 68 67),(b3 122 112 120)),(118,(b3 82 79 82),(b3 122 112 120)),(120,(b3 83 69 73),(b3 105 109 112)),(121,(b3 65 68 67),(b3 97 98 121)),(125,(b3 65 68 67),(b3 97 98 120)),(126,(b3 82 79 82),(b3 97 98 120)),(129,(b3 83 84 65),(b3 105 122 120)),(132,(b3 83 84 89),(b2 122 112)),(133,(b3 83 84 65),(b2 122 112)),(134,(b3 83 84 88),(b2 122 112)),(136,(b3 68 69 89),(b3 105 109 112)),(138,(b3 84 88 65),(b3 105 109 112)),(140,(b3 83 84 89),(b3 97 98 115)),(141,(b3 83 84 65),(b3 97 98 115)),(142,(b3 83 84 88),(b3 97 98 115)),(144,(b3 66 67 67),(b3 114 101 108)),(145,(b3 83 84 65),(b3 105 122 121)),(148,(b3 83 84 89),(b3 122 112 120)),(149,(b3 83 84 65),(b3 122 112 120)),(150,(b3 83 84 88),(b3 122 112 121)),(152,(b3 84 89 65),(b3 105 109 112)),(153,(b3 83 84 65),(b3 97 98 121)),(154,(b3 84 88 83),(b3 105 109 112)),(157,(b3 83 84 65),(b3 97 98 120)),(160,(b3 76 68 89),(b3 105 109 109)),(161,(b3 76 68 65),(b3 105 122 120)),(162,(b3 76 68 88),(b3 105 109 109)),(164,(b3 76 68 89),(b2 122 112)),(165,(b3 76 68 65),(b2 122 112)),(166,(b3 76 68 88),(b2 122 112)),(168,(b3 84 65 89),(b3 105 109 112)),(169,(b3 76 68 65),(b3 105 109 109)),(170,(b3 84 65 88),(b3 105 109 112)),(172,(b3 76 68 89),(b3 97 98 115)),(173,(b3 76 68 65),(b3 97 98 115)),(174,(b3 76 68 88),(b3 97 98 115)),(176,(b3 66 67 83),(b3 114 101 108)),(177,(b3 76 68 65),(b3 105 122 121)),(180,(b3 76 68 89),(b3 122 112 120)),(181,(b3 76 68 65),(b3 122 112 120)),(182,(b3 76 68 88),(b3 122 112 121)),(184,(b3 67 76 86),(b3 105 109 112)),(185,(b3 76 68 65),(b3 97 98 121)),(186,(b3 84 83 88),(b3 105 109 112)),(188,(b3 76 68 89),(b3 97 98 120)),(189,(b3 76 68 65),(b3 97 98 120)),(190,(b3 76 68 88),(b3 97 98 121)),(192,(b3 67 80 89),(b3 105 109 109)),(193,(b3 67 77 80),(b3 105 122 120)),(196,(b3 67 80 89),(b2 122 112)),(197,(b3 67 77 80),(b2 122 112)),(198,(b3 68 69 67),(b2 122 112)),(200,(b3 73 78 89),(b3 105 109 112)),(201,(b3 67 77 80),(b3 105 109 109)),(202,(b3 68 69 88),(b3 105 109 112)),(204,(b3 67 80 89),(b3 97 98 115)),(205,(b3 67 77 80),(b3 97 98 115)),(206,(b3 68 69 67),(b3 97 98 115)),(208,(b3 66 78 69),(b3 114 101 108)),(209,(b3 67 77 80),(b3 105 122 121)),(213,(b3 67 77 80),(b3 122 112 120)),(214,(b3 68 69 67),(b3 122 112 120)),(216,(b3 67 76 68),(b3 105 109 112)),(217,(b3 67 77 80),(b3 97 98 121)),(221,(b3 67 77 80),(b3 97 98 120)),(222,(b3 68 69 67),(b3 97 98 120)),(224,(b3 67 80 88),(b3 105 109 109)),(225,(b3 83 66 67),(b3 105 122 120)),(228,(b3 67 80 88),(b2 122 112)),(229,(b3 83 66 67),(b2 122 112)),(230,(b3 73 78 67),(b2 122 112)),(232,(b3 73 78 88),(b3 105 109 112)),(233,(b3 83 66 67),(b3 105 109 109)),(234,(b3 78 79 80),(b3 105 109 112)),(236,(b3 67 80 88),(b3 97 98 115)),(237,(b3 83 66 67),(b3 97 98 115)),(238,(b3 73 78 67),(b3 97 98 115)),(240,(b3 66 69 81),(b3 114 101 108)),(241,(b3 83 66 67),(b3 105 122 121)),(245,(b3 83 66 67),(b3 122 112 120)),(246,(b3 73 78 67),(b3 122 112 120)),(248,(b3 83 69 68),(b3 105 109 112)),(249,(b3 83 66 67),(b3 97 98 121)),(253,(b3 83 66 67),(b3 97 98 120)),(254,(b3 73 78 67),(b3 97 98 120))]
def xc(b:Int):BA × BA:=match yH.find? (fun e=>(e.1:Int)==b) with
 |some e=>e.2
 |none=>(⟨#[]⟩,⟨#[]⟩)
structure RS where
 mem:Nat->Int
 rom:Int
 r:RG
 cnt:Int
 calls:Bool
 nmi:Bool
 due:Bool
 op:BA
 md:BA
 h:List Int
def RS.peek(t:RS)(a:Int):Int:=if a=53248 then t.cnt else if a=53249 then (if t.calls=true then 128 else 0) else t.mem a.toNat
def RS.bus(t:RS)(a:Act):RS × BusI:=
 if a.wr=false then
  (if a.addr=53249 then {t with calls:=false} else t,⟨a.addr,t.peek a.addr,false,a.ft⟩)
 else if a.addr=53248 then ({t with cnt:=a.data},⟨a.addr,a.data,true,a.ft⟩)
 else if a.addr<t.rom/\a.addr≠53249 then ({t with mem:=vH t.mem a.addr.toNat a.data},⟨a.addr,a.data,true,a.ft⟩)
 else (t,⟨a.addr,a.data,true,a.ft⟩)
def RS.counts(t:RS)(b:BusI):RS:=
 if b.wr=true/\b.addr=53248\/t.cnt=0 then t
 else if t.cnt-1=0 then {t with cnt:=t.cnt-1,calls:=true} else {t with cnt:=t.cnt-1}
def RS.begins(t:RS)(b:Int)(irq:Bool):RS:=
 if t.due=true then {t with due:=false,op:=(b3 78 77 73),md:=(b3 115 101 113)}
 else if (irq||t.calls)=true/\zp t.r.P 4=0 then {t with op:=(b3 73 82 81),md:=(b3 115 101 113)}
 else {t with op:=(xc b).1,md:=(xc b).2,r:={t.r with jam:=(xc b).1==⟨#[]⟩ } }
def RS.cycle(t:RS)(nmi irq:Bool):RS × BusI:=
 let t1:RS:={t with due:=t.due||(nmi&& !t.nmi),nmi:=nmi,r:={t.r with cyc:=IntKind.wrap .i64 (t.r.cyc+1)} }
 let a:=if t1.h.length>0 then (zo t1.op t1.md t1.r t1.h).1 else ⟨t1.r.PC,false,0,true⟩
 let q:=t1.bus a
 let t2:=if t1.h.length=0 then q.1.begins q.2.data irq else q.1
 let t3:=t2.counts q.2
 if t3.r.jam=true then (t3,q.2)
 else
  let h:=t3.h++ [q.2.data]
  if (zo t3.op t3.md t3.r h).2=true then ({t3 with h:=h},q.2)
  else ({t3 with h:=[],r:=zV t3.op t3.md t3.r h},q.2)
theorem yX{p:Int->Prop}(h:∀n:Fin 256,p ((n.val:Nat):Int))(c:Int)(h0:0<=c)(h1:c<256):p c:=by
 have:=h ⟨c.toNat,by omega⟩;simpa [Int.toNat_of_nonneg h0] using this
def nzB(p:Int)(n z:Bool):Int:=xb (xb p 128 n) 2 z
def qY(p:Int)(n z:Bool):Int:=
 let p1:=zp p 125
 let p2:=if n=true then yp p1 128 else p1
 if z=true then yp p2 2 else p2
theorem XS(b:Int)(h0:0<=b)(h1:b<256):(bits .and .u8 b 128 !=0)=decide (127<b):=by
 revert b
 intro b h0 h1;exact yX (p:=fun b=>(bits .and .u8 b 128 !=0)=decide (127<b)) (by decide+kernel) b h0 h1
theorem zh4(b:Int)(h0:0<=b)(h1:b<256):(bits .and .u8 b 1 !=0)=(b%2==1):=
 yX (p:=fun b=>(bits .and .u8 b 1 !=0)=(b%2==1)) (by decide+kernel) b h0 h1
theorem ze2(p:Int)(h0:0<=p)(h1:p<256)(n z:Bool):nzB p n z=qY p n z:=
 yX (p:=fun p=>∀n z,nzB p n z=qY p n z) (by decide+kernel) p h0 h1 n z
theorem VZ(p b:Int)(h0:0<=p)(h1:p<256)(b0:0<=b)(b1:b<256):nzI p b=nzR p b:=by
 have e1:nzI p b=nzB p (decide (127<b)) (b==0):=by unfold nzI nzB;rw [XS b b0 b1]
 have e2:nzR p b=qY p (decide (127<b)) (b==0):=by unfold nzR qY;simp only [decide_eq_true_eq,beq_iff_eq]
 rw [e1,e2,ze2 p h0 h1]
theorem ze3(p:Int)(c:Bool)(h0:0<=p)(h1:p<256):xb p 1 c=yN p c:=
 yX (p:=fun p=>∀c,xb p 1 c=yN p c) (by decide+kernel) p h0 h1 c
theorem ze4(p:Int)(c:Bool)(h0:0<=p)(h1:p<256):0<=yN p c/\yN p c<256:=
 yX (p:=fun p=>∀c,0<=yN p c/\yN p c<256) (by decide+kernel) p h0 h1 c
theorem ze5(p:Int)(h0:0<=p)(h1:p<256)(n z c:Bool):nzB (xb p 1 c) n z=yN (qY p n z) c:=
 yX (p:=fun p=>∀n z c,nzB (xb p 1 c) n z=yN (qY p n z) c) (by decide+kernel) p h0 h1 n z c
theorem zcx(p b:Int)(c:Bool)(h0:0<=p)(h1:p<256)(b0:0<=b)(b1:b<256):nzI (xb p 1 c) b=yN (nzR p b) c:=by
 have e1:nzI (xb p 1 c) b=nzB (xb p 1 c) (decide (127<b)) (b==0):=by unfold nzI nzB;rw [XS b b0 b1]
 have e2:nzR p b=qY p (decide (127<b)) (b==0):=by unfold nzR qY;simp only [decide_eq_true_eq,beq_iff_eq]
 rw [e1,e2,ze5 p h0 h1]
theorem zcy(p:Int)(h0:0<=p)(h1:p<256)(n z c v:Bool):nzB (xb (xb p 1 c) 64 v) n z=(if v=true then yp (zp (yN (qY p n z) c) 191) 64 else zp (yN (qY p n z) c) 191):=
 yX (p:=fun p=>∀n z c v,nzB (xb (xb p 1 c) 64 v) n z=(if v=true then yp (zp (yN (qY p n z) c) 191) 64 else zp (yN (qY p n z) c) 191)) (by decide+kernel) p h0 h1 n z c v
theorem jY(a:Nat)(ha:a<256):(BitVec.ofInt 64 (a:Int)).toNat=a:=by
 rw [BitVec.ofInt_natCast,BitVec.toNat_ofNat];exact Nat.mod_eq_of_lt zza
theorem Gk(a b:Nat)(ha:a<256)(hb:b<256):zp (a:Int) (b:Int)=((a&&&b:Nat):Int):=by
 have hx:a&&&b<2 ^ 8:=Nat.and_lt_two_pow _ zza;show IntKind.i64.wrap ((BitVec.ofInt 64 (a:Int) &&&BitVec.ofInt 64 (b:Int)).toNat:Int)=_;rw [BitVec.toNat_and,jY a ha,jY b hb,IntKind.wrap_i64];omega
theorem zan(a b:Nat)(ha:a<256)(hb:b<256):yp (a:Int) (b:Int)=((a|||b:Nat):Int):=by
 have hx:a|||b<2 ^ 8:=Nat.or_lt_two_pow zza zza
 show IntKind.i64.wrap ((BitVec.ofInt 64 (a:Int)|||BitVec.ofInt 64 (b:Int)).toNat:Int)=_;rw [BitVec.toNat_or,jY a ha,jY b hb,IntKind.wrap_i64];omega
theorem Gl(a b:Nat)(ha:a<256)(hb:b<256):ZU (a:Int) (b:Int)=((a ^^^ b:Nat):Int):=by
 have hx:a ^^^ b<2 ^ 8:=Nat.xor_lt_two_pow zza zza;show IntKind.i64.wrap ((BitVec.ofInt 64 (a:Int) ^^^ BitVec.ofInt 64 (b:Int)).toNat:Int)=_;rw [BitVec.toNat_xor,jY a ha,jY b hb,IntKind.wrap_i64];omega
theorem ju(a b:Int)(h0:0<=a)(h1:a<256)(b0:0<=b)(b1:b<256):bits .and .u8 a b=zp a b:=by
 obtain ⟨A,rfl⟩:=Int.eq_ofNat_of_zero_le h0;obtain ⟨B,rfl⟩:=Int.eq_ofNat_of_zero_le b0;rw [u8_and_nat A B zza zza,Gk A B zza zza]
theorem YX(a b:Int)(h0:0<=a)(h1:a<256)(b0:0<=b)(b1:b<256):bits .or .u8 a b=yp a b:=by
 obtain ⟨A,rfl⟩:=Int.eq_ofNat_of_zero_le h0;obtain ⟨B,rfl⟩:=Int.eq_ofNat_of_zero_le b0;rw [u8_or_nat A B zza zza,zan A B zza zza]
theorem zao(a b:Int)(h0:0<=a)(h1:a<256)(b0:0<=b)(b1:b<256):bits .xor .u8 a b=ZU a b:=by
 obtain ⟨A,rfl⟩:=Int.eq_ofNat_of_zero_le h0;obtain ⟨B,rfl⟩:=Int.eq_ofNat_of_zero_le b0;rw [u8_xor_nat A B zza zza,Gl A B zza zza]
theorem zlf(n:Nat)(h:n<256):n.testBit 7=decide (127<n):=by
 have:∀n:Fin 256,n.val.testBit 7=decide (127<n.val):=by decide+kernel
 exact this ⟨n,h⟩
theorem zlg(n:Nat)(h:n<256):((n&&&128:Nat) !=0)=n.testBit 7:=by
 have:∀n:Fin 256,((n.val&&&128:Nat) !=0)=n.val.testBit 7:=by decide+kernel
 exact this ⟨n,h⟩
theorem Gm(a m c:Int)(a0:0<=a)(a1:a<256)(m0:0<=m)(m1:m<256)(c0:0<=c)(c1:c<256):(bits .and .u8 (bits .and .u8 (bits .xor .u8 c a) (bits .xor .u8 c m)) 128 !=0)=((decide (127<a)==decide (127<m)) && (decide (127<c) !=decide (127<m))):=by
 obtain ⟨A,rfl⟩:=Int.eq_ofNat_of_zero_le a0;obtain ⟨M,rfl⟩:=Int.eq_ofNat_of_zero_le m0;obtain ⟨C,rfl⟩:=Int.eq_ofNat_of_zero_le c0;have x1:C ^^^ A<2 ^ 8:=Nat.xor_lt_two_pow zza zza;have x2:C ^^^ M<2 ^ 8:=Nat.xor_lt_two_pow zza zza;have x3:(C ^^^ A) &&& (C ^^^ M)<2 ^ 8:=Nat.and_lt_two_pow _ zza;rw [u8_xor_nat C A zza zza,u8_xor_nat C M zza zza,u8_and_nat _ _ zza zza];rw [show (128:Int)=((128:Nat):Int) from rfl,u8_and_nat _ _ zza zza];have e:((((C ^^^ A) &&& (C ^^^ M) &&&128:Nat):Int) !=0)=(((C ^^^ A) &&& (C ^^^ M) &&&128:Nat) !=0):=by
  rw [Bool.eq_iff_iff];simp
 rw [e,zlg _ zza,Nat.testBit_and,Nat.testBit_xor,Nat.testBit_xor,zlf C zza,zlf A zza,zlf M zza];have q:∀n:Nat,decide ((127:Int)<(n:Int))=decide (127<n):=fun n=>by rw [decide_eq_decide];omega
 rw [q,q,q];cases decide (127<C)<;>cases decide (127<A)<;>cases decide (127<M)<;>rfl
def za(i:Nat):BA:=match i with
 |0=>(b3 65 68 67)
 |1=>(b3 65 78 68)
 |2=>(b3 65 83 76)
 |3=>(b3 66 67 67)
 |4=>(b3 66 67 83)
 |5=>(b3 66 69 81)
 |6=>(b3 66 77 73)
 |7=>(b3 66 78 69)
 |8=>(b3 66 80 76)
 |9=>(b3 66 86 67)
 |10=>(b3 66 86 83)
 |11=>(b3 66 73 84)
 |12=>(b3 66 82 75)
 |13=>(b3 67 76 67)
 |14=>(b3 67 76 68)
 |15=>(b3 67 76 73)
 |16=>(b3 67 76 86)
 |17=>(b3 67 77 80)
 |18=>(b3 67 80 88)
 |19=>(b3 67 80 89)
 |20=>(b3 68 69 67)
 |21=>(b3 68 69 88)
 |22=>(b3 68 69 89)
 |23=>(b3 69 79 82)
 |24=>(b3 73 78 67)
 |25=>(b3 73 78 88)
 |26=>(b3 73 78 89)
 |27=>(b3 74 77 80)
 |28=>(b3 74 83 82)
 |29=>(b3 76 68 65)
 |30=>(b3 76 68 88)
 |31=>(b3 76 68 89)
 |32=>(b3 76 83 82)
 |33=>(b3 78 79 80)
 |34=>(b3 79 82 65)
 |35=>(b3 80 72 65)
 |36=>(b3 80 72 80)
 |37=>(b3 80 76 65)
 |38=>(b3 80 76 80)
 |39=>(b3 82 79 76)
 |40=>(b3 82 79 82)
 |41=>(b3 82 84 73)
 |42=>(b3 82 84 83)
 |43=>(b3 83 66 67)
 |44=>(b3 83 69 67)
 |45=>(b3 83 69 68)
 |46=>(b3 83 69 73)
 |47=>(b3 83 84 65)
 |48=>(b3 83 84 88)
 |49=>(b3 83 84 89)
 |50=>(b3 84 65 88)
 |51=>(b3 84 65 89)
 |52=>(b3 84 83 88)
 |53=>(b3 84 88 65)
 |54=>(b3 84 88 83)
 |_=>(b3 84 89 65)
def PC.rg(s:PC)(c:Int)(j:Bool):RG:=⟨s.a,s.x,s.y,s.s,s.p,s.pc,c,j⟩
def PC.withR(s:PC)(r:RG):PC:={s with a:=r.A,x:=r.X,y:=r.Y,s:=r.S,p:=r.P,pc:=r.PC}
structure PC.Wf (s:PC):Prop where
 wa:0<=s.a/\s.a<256
 wx:0<=s.x/\s.x<256
 wy:0<=s.y/\s.y<256
 ws:0<=s.s/\s.s<256
 wp:0<=s.p/\s.p<256
 wd:0<=s.data/\s.data<256
theorem Ut(op:BinOp)(a b:Int):0<=bits op .u8 a b/\bits op .u8 a b<256:=by
 cases op<;>(show 0<=IntKind.u8.wrap _/\IntKind.u8.wrap _<256;rw [IntKind.wrap_u8'];omega)
theorem Qk(s:PC)(h:s.Wf)(m:Int)(m0:0<=m)(m1:m<256)(c:Int)(j:Bool):s.add m=s.withR (YR (s.rg c j) m):=by
 have hp:=ju s.p 1 h.wp.1 h.wp.2 zza zza;have hs0:0<=(s.a+m+zp s.p 1)%256:=by omega
 have hs1:(s.a+m+zp s.p 1)%256<256:=by omega
 have hf:=zcy s.p h.wp.1 h.wp.2 (decide (127<(s.a+m+zp s.p 1)%256)) ((s.a+m+zp s.p 1)%256==0) (decide (255<s.a+m+zp s.p 1)) ((decide (127<s.a)==decide (127<m)) && (decide (127<(s.a+m+zp s.p 1)%256) !=decide (127<m)));have e1:∀q:Int,nzI q ((s.a+m+zp s.p 1)%256)=nzB q (decide (127<(s.a+m+zp s.p 1)%256)) ((s.a+m+zp s.p 1)%256==0):=fun q=>by unfold nzI nzB;rw [XS _ hs0 hs1]
 have e2:nzR s.p ((s.a+m+zp s.p 1)%256)=qY s.p (decide (127<(s.a+m+zp s.p 1)%256)) ((s.a+m+zp s.p 1)%256==0):=by unfold nzR qY;simp only [decide_eq_true_eq,beq_iff_eq]
 have ho:=Gm s.a m ((s.a+m+zp s.p 1)%256) h.wa.1 h.wa.2 m0 m1 hs0 hs1;unfold PC.add YR PC.withR PC.rg PC.loadA PC.setF;simp only [hp,ho,e1,e2,hf,Bool.and_eq_true]
theorem zmP(a b:Int)(h:bits .and .u8 a b=zp a b):0<=zp a b/\zp a b<256:=h ▸ Ut _ _ _
theorem or_r(a b:Int)(h:bits .or .u8 a b=yp a b):0<=yp a b/\yp a b<256:=h ▸ Ut _ _ _
theorem zmQ(a b:Int)(h:bits .xor .u8 a b=ZU a b):0<=ZU a b/\ZU a b<256:=h ▸ Ut _ _ _
theorem zcg(p:Int)(h0:0<=p)(h1:p<256)(k z n v:Bool):xb (xb (xb p 2 z) 128 n) 64 v=yp (zp (qY p k z) 63) ((if n=true then 128 else 0)+(if v=true then 64 else 0)):=
 yX (p:=fun p=>∀k z n v,xb (xb (xb p 2 z) 128 n) 64 v=yp (zp (qY p k z) 63) ((if n=true then 128 else 0)+(if v=true then 64 else 0))) (by decide+kernel) p h0 h1 k z n v
theorem zhv(m:Int)(h0:0<=m)(h1:m<256):zp m 192=(if (bits .and .u8 m 128 !=0)=true then 128 else 0)+(if (bits .and .u8 m 64 !=0)=true then 64 else 0):=
 yX (p:=fun m=>zp m 192=(if (bits .and .u8 m 128 !=0)=true then 128 else 0)+(if (bits .and .u8 m 64 !=0)=true then 64 else 0)) (by decide+kernel) m h0 h1
theorem vi(s:PC)(h:s.Wf)(v:Int)(v0:0<=v)(v1:v<256):s.loadA v={s with a:=v,p:=nzR s.p v}:=by unfold PC.loadA;rw [VZ s.p v h.wp.1 h.wp.2 v0 v1]
theorem vR(s:PC)(h:s.Wf)(v:Int)(v0:0<=v)(v1:v<256):s.loadX v={s with x:=v,p:=nzR s.p v}:=by unfold PC.loadX;rw [VZ s.p v h.wp.1 h.wp.2 v0 v1]
theorem jB(s:PC)(h:s.Wf)(v:Int)(v0:0<=v)(v1:v<256):s.loadY v={s with y:=v,p:=nzR s.p v}:=by unfold PC.loadY;rw [VZ s.p v h.wp.1 h.wp.2 v0 v1]
theorem jK(s:PC)(h:s.Wf)(r:Int):s.compare r={s with p:=yN (nzR s.p ((r-s.data)%256)) (decide (s.data<=r))}:=by
 unfold PC.compare PC.setF;simp only [];rw [zcx s.p _ _ h.wp.1 h.wp.2 zza zza]
theorem KP(s:PC)(h:s.Wf)(c:Int)(j:Bool)(i:Nat)(hi:i∈[0,1,11,17,18,19,23,29,30,31,34,43]):s.doIns i=s.withR (xA (za i) (s.rg c j) s.data):=by
 have ea:=ju s.a s.data h.wa.1 h.wa.2 h.wd.1 h.wd.2;have eo:=YX s.a s.data h.wa.1 h.wa.2 h.wd.1 h.wd.2;have ex:=zao s.a s.data h.wa.1 h.wa.2 h.wd.1 h.wd.2;have ra:=zmP _ _ ea;have ro:=or_r _ _ eo;have rx:=zmQ _ _ ex;simp only [List.mem_cons,List.not_mem_nil,or_false] at hi;rcases hi with rfl|rfl|rfl|rfl|rfl|rfl|rfl|rfl|rfl|rfl|rfl|rfl
 ·exact Qk s h s.data h.wd.1 h.wd.2 c j
 ·show s.loadA (bits .and .u8 s.a s.data)=_;rw [ea,vi s h _ ra.1 ra.2];rfl
 ·have hf:=zcg s.p h.wp.1 h.wp.2 (decide (127<zp s.a s.data)) (zp s.a s.data==0) (bits .and .u8 s.data 128 !=0) (bits .and .u8 s.data 64 !=0);have e2:nzR s.p (zp s.a s.data)=qY s.p (decide (127<zp s.a s.data)) (zp s.a s.data==0):=by unfold nzR qY;simp only [decide_eq_true_eq,beq_iff_eq]
  rw [<-zhv s.data h.wd.1 h.wd.2, <-e2, <-ea] at hf;show ({s with p:=xb (xb (xb s.p 2 (bits .and .u8 s.a s.data==0)) 128 (bits .and .u8 s.data 128 !=0)) 64 (bits .and .u8 s.data 64 !=0)}:PC)=_;rw [hf,ea];rfl
 ·show s.compare s.a=_;rw [jK s h];rfl
 ·show s.compare s.x=_;rw [jK s h];rfl
 ·show s.compare s.y=_;rw [jK s h];rfl
 ·show s.loadA (bits .xor .u8 s.a s.data)=_;rw [ex,vi s h _ rx.1 rx.2];rfl
 ·show s.loadA s.data=_;rw [vi s h _ h.wd.1 h.wd.2];rfl
 ·show s.loadX s.data=_;rw [vR s h _ h.wd.1 h.wd.2];rfl
 ·show s.loadY s.data=_;rw [jB s h _ h.wd.1 h.wd.2];rfl
 ·show s.loadA (bits .or .u8 s.a s.data)=_;rw [eo,vi s h _ ro.1 ro.2];rfl
 ·exact Qk s h (255-s.data) (by have:=h.wd;omega) (by have:=h.wd;omega) c j
theorem zhw(p:Int)(h0:0<=p)(h1:p<256):xb p 1 false=zp p 254/\xb p 8 false=zp p 247/\xb p 4 false=zp p 251/\xb p 64 false=zp p 191/\xb p 1 true=yp p 1/\xb p 8 true=yp p 8/\xb p 4 true=yp p 4:=
 yX (p:=fun p=>xb p 1 false=zp p 254/\xb p 8 false=zp p 247/\xb p 4 false=zp p 251/\xb p 64 false=zp p 191/\xb p 1 true=yp p 1/\xb p 8 true=yp p 8/\xb p 4 true=yp p 4) (by decide+kernel) p h0 h1
theorem zet(s:PC)(h:s.Wf)(c:Int)(j:Bool)(i:Nat)(hi:i∈[13,14,15,16,21,22,25,26,33,44,45,46,50,51,52,53,54,55]):s.doIns i=s.withR (xZ (za i) (s.rg c j)):=by
 obtain ⟨f1,f2,f3,f4,f5,f6,f7⟩:=zhw s.p h.wp.1 h.wp.2;simp only [List.mem_cons,List.not_mem_nil,or_false] at hi;rcases hi with rfl|rfl|rfl|rfl|rfl|rfl|rfl|rfl|rfl|rfl|rfl|rfl|rfl|rfl|rfl|rfl|rfl|rfl
 ·show s.setF 1 false=_;unfold PC.setF;rw [f1];rfl
 ·show s.setF 8 false=_;unfold PC.setF;rw [f2];rfl
 ·show s.setF 4 false=_;unfold PC.setF;rw [f3];rfl
 ·show s.setF 64 false=_;unfold PC.setF;rw [f4];rfl
 ·show s.loadX ((s.x-1)%256)=_;rw [vR s h _ zza zza];rfl
 ·show s.loadY ((s.y-1)%256)=_;rw [jB s h _ zza zza];rfl
 ·show s.loadX ((s.x+1)%256)=_;rw [vR s h _ zza zza];rfl
 ·show s.loadY ((s.y+1)%256)=_;rw [jB s h _ zza zza];rfl
 ·rfl
 ·show s.setF 1 true=_;unfold PC.setF;rw [f5];rfl
 ·show s.setF 8 true=_;unfold PC.setF;rw [f6];rfl
 ·show s.setF 4 true=_;unfold PC.setF;rw [f7];rfl
 ·show s.loadX s.a=_;rw [vR s h _ h.wa.1 h.wa.2];rfl
 ·show s.loadY s.a=_;rw [jB s h _ h.wa.1 h.wa.2];rfl
 ·show s.loadX s.s=_;rw [vR s h _ h.ws.1 h.ws.2];rfl
 ·show s.loadA s.x=_;rw [vi s h _ h.wx.1 h.wx.2];rfl
 ·rfl
 ·show s.loadA s.y=_;rw [vi s h _ h.wy.1 h.wy.2];rfl
theorem zeu(s:PC)(h:s.Wf)(i:Nat)(hi:i∈[3,4,5,6,7,8,9,10]):s.doIns i={s with taken:=yS (za i) s.p}:=by
 have e:∀f:Int,0<=f->f<256->vI s.p f=(zp s.p f !=0):=fun f f0 f1=>by unfold vI;rw [ju s.p f h.wp.1 h.wp.2 f0 f1]
 have b:∀x:Bool,(!x)=(x==false):=by decide
 have b2:∀x:Bool,x=(x==true):=by decide
 simp only [List.mem_cons,List.not_mem_nil,or_false] at hi;rcases hi with rfl|rfl|rfl|rfl|rfl|rfl|rfl|rfl
 ·show ({s with taken:= !vI s.p 1}:PC)=_;rw [e 1 zza zza,b];rfl
 ·show ({s with taken:=vI s.p 1}:PC)=_;rw [e 1 zza zza,b2 (zp s.p 1 !=0)];rfl
 ·show ({s with taken:=vI s.p 2}:PC)=_;rw [e 2 zza zza,b2 (zp s.p 2 !=0)];rfl
 ·show ({s with taken:=vI s.p 128}:PC)=_;rw [e 128 zza zza,b2 (zp s.p 128 !=0)];rfl
 ·show ({s with taken:= !vI s.p 2}:PC)=_;rw [e 2 zza zza,b];rfl
 ·show ({s with taken:= !vI s.p 128}:PC)=_;rw [e 128 zza zza,b];rfl
 ·show ({s with taken:= !vI s.p 64}:PC)=_;rw [e 64 zza zza,b];rfl
 ·show ({s with taken:=vI s.p 64}:PC)=_;rw [e 64 zza zza,b2 (zp s.p 64 !=0)];rfl
theorem zbe(b:Int)(h0:0<=b)(h1:b<256):YG b=yp (zp b 207) 32:=
 yX (p:=fun b=>YG b=yp (zp b 207) 32) (by decide+kernel) b h0 h1
theorem jC(p b:Int)(c:Bool)(h0:0<=p)(h1:p<256)(b0:0<=b)(b1:b<256):nzI (xb p 1 c) b=nzR (yN p c) b:=by
 rw [ze3 p c h0 h1];obtain ⟨r0,r1⟩:=ze4 p c h0 h1;exact VZ _ b r0 r1 b0 b1
theorem zev(b:Int)(h0:0<=b)(h1:b<256):bits .or .u8 (b*2%256) 0=b*2%256/\bits .or .u8 (b*2%256) 1=b*2%256+1/\bits .or .u8 (b/2) (0*128%256)=b/2/\bits .or .u8 (b/2) (1*128%256)=b/2+128*1:=
 yX (p:=fun b=>bits .or .u8 (b*2%256) 0=b*2%256/\bits .or .u8 (b*2%256) 1=b*2%256+1/\bits .or .u8 (b/2) (0*128%256)=b/2/\bits .or .u8 (b/2) (1*128%256)=b/2+128*1) (by decide+kernel) b h0 h1
theorem p1(p:Int)(h0:0<=p)(h1:p<256):zp p 1=0\/zp p 1=1:=
 yX (p:=fun p=>zp p 1=0\/zp p 1=1) (by decide+kernel) p h0 h1
theorem Ql(s:PC)(h:s.Wf)(i:Nat)(hi:i∈[2,20,24,32,39,40]):s.doIns i={s with data:=(zF (za i) s.data s.p).1,p:=(zF (za i) s.data s.p).2}:=by
 obtain ⟨d0,d1⟩:=h.wd;obtain ⟨l1,l2,l3,l4⟩:=zev s.data d0 d1;have t:=XS s.data d0 d1;have lo:=zh4 s.data d0 d1;have ep:=ju s.p 1 h.wp.1 h.wp.2 zza zza;simp only [List.mem_cons,List.not_mem_nil,or_false] at hi;rcases hi with rfl|rfl|rfl|rfl|rfl|rfl
 ·show s.shl 0=_;unfold PC.shl PC.setF PC.loadD;simp only [];rw [l1,t,jC _ _ _ h.wp.1 h.wp.2 zza zza];rfl
 ·show s.loadD ((s.data-1)%256)=_;unfold PC.loadD;rw [VZ _ _ h.wp.1 h.wp.2 zza zza];rfl
 ·show s.loadD ((s.data+1)%256)=_;unfold PC.loadD;rw [VZ _ _ h.wp.1 h.wp.2 zza zza];rfl
 ·show s.shr 0=_;unfold PC.shr PC.setF PC.loadD;simp only [];rw [l3,lo,jC _ _ _ h.wp.1 h.wp.2 zza zza];rfl
 ·have q:bits .or .u8 (s.data*2%256) (zp s.p 1)=s.data*2%256+zp s.p 1:=by
   rcases p1 s.p h.wp.1 h.wp.2 with e|e<;>rw [e]
   ·rw [l1];omega
   ·exact l2
  have r:=p1 s.p h.wp.1 h.wp.2;show s.shl (bits .and .u8 s.p 1)=_;unfold PC.shl PC.setF PC.loadD;simp only [];rw [ep,q,t,jC _ _ _ h.wp.1 h.wp.2 zza zza];rfl
 ·have q:bits .or .u8 (s.data/2) (zp s.p 1*128%256)=s.data/2+128*zp s.p 1:=by
   rcases p1 s.p h.wp.1 h.wp.2 with e|e<;>rw [e]
   ·rw [l3];omega
   ·exact l4
  have r:=p1 s.p h.wp.1 h.wp.2;show s.shr (bits .and .u8 s.p 1)=_;unfold PC.shr PC.setF PC.loadD;simp only [];rw [ep,q,lo,jC _ _ _ h.wp.1 h.wp.2 zza zza];rfl
