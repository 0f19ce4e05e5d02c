import Derived.Deep.RegionHeld3
import Derived.Test.YtcgjliflnnklnaaGreatJ11
namespace Go.Proofs.YtcgjliflnnklnaaGreat
open Go.RowKit Tryz
set_option maxRecDepth 100000
set_option maxHeartbeats 4000000
theorem XG(x:Int):0<=IntKind.u8.wrap x/\IntKind.u8.wrap x<256:=by rw [IntKind.wrap_u8'];omega
theorem vC(x:Int):0<=IntKind.u16.wrap x/\IntKind.u16.wrap x<65536:=by rw [IntKind.wrap_u16];omega
theorem Tn.upd{B o:Nat}{s s':PC}{w0 w:World}{v:Value}(h:Tn B s w0 w)(f:CAt w B s->CAt (w.setCell (Aq B o) v) B s'):Tn B s' w0 (w.setCell (Aq B o) v):=⟨f h.c,zJ h.g (yE _ _ _ _)⟩
theorem zv{p:Prop}(q:p:=by first|omega|assumption|exact ⟨by assumption,by assumption⟩|exact XG _|exact vC _|exact Q1 _|exact Gg _ _ zza zza|exact vo _ _ _|exact YW _ _|exact vq _ _ _|exact vG _|(unfold loI;omega)|(unfold zn;omega)|(unfold zn loI;omega)|(unfold zC zn loI hiI;omega)):p:=q
theorem zs{p:Prop} (q:p:=by
 intro h;with_reducible first|refine h.setSt _ ?_|refine h.setAd _ ?_|refine h.setHop _ ?_|refine h.setData _ ?_|refine h.setA _ ?_|refine h.setS _ ?_|refine h.setStep _ ?_|refine h.setPc _ ?_|refine h.setX _ ?_|refine h.setY _ ?_|refine h.setIns _ ?_|refine h.setMd _ ?_|refine h.setCnt _ ?_|refine h.setRom _ ?_|refine h.setP _ ?_|refine h.setBa _ ?_|refine h.setBx _ ?_|refine h.setB_y _ ?_|refine h.setBs _ ?_|refine h.setBp _ ?_|refine h.setBpc _ ?_|exact h.setTaken _|exact h.setCalls _
 all_goals exact zv):p:=q
theorem zt{p:Prop}(q:p:=by repeat (first|with_reducible exact k.t|with_reducible exact h|with_reducible apply Tn.drew|with_reducible apply Tn.drewN|with_reducible apply Tn.alloc|with_reducible apply Tn.upd|((with_reducible apply Tn.other);(case hne=>omega);(case hb=>omega))|exact zs)):p:=q
theorem ze{p:Prop}(q:p:=by apply Tn.eq;(case h=>exact zt);(case e=>rfl)):p:=q
theorem ja{w:World}{B:Nat}{s:PC}(h:CAt w B s):w.cell? (Aq B 65544)=some (.int .u16 s.pc)/\0<=s.pc/\s.pc<65536:=⟨h.cpc,h.rpc⟩
theorem XH{w:World}{B:Nat}{s:PC}(h:CAt w B s):w.cell? (Aq B 65555)=some (.int .u16 s.ad)/\0<=s.ad/\s.ad<65536:=⟨h.cad,h.rad⟩
theorem Qg{w:World}{B:Nat}{s:PC}(h:CAt w B s):w.cell? (Aq B 65556)=some (.int .u16 s.hop)/\0<=s.hop/\s.hop<65536:=⟨h.chop,h.rhop⟩
theorem Kfx{w:World}{B:Nat}{s:PC}(h:CAt w B s):w.cell? (Aq B 65540)=some (Uq s.x)/\0<=s.x/\s.x<256:=⟨h.cx,h.rx⟩
theorem Kfy{w:World}{B:Nat}{s:PC}(h:CAt w B s):w.cell? (Aq B 65541)=some (Uq s.y)/\0<=s.y/\s.y<256:=⟨h.cy,h.ry⟩
theorem Kfs{w:World}{B:Nat}{s:PC}(h:CAt w B s):w.cell? (Aq B 65542)=some (Uq s.s)/\0<=s.s/\s.s<256:=⟨h.cs,h.rs⟩
theorem Kfp{w:World}{B:Nat}{s:PC}(h:CAt w B s):w.cell? (Aq B 65543)=some (Uq s.p)/\0<=s.p/\s.p<256:=⟨h.cp,h.rp⟩
theorem yY{w:World}{B:Nat}{s:PC}(h:CAt w B s):w.cell? (Aq B 65557)=some (Uq s.data)/\0<=s.data/\s.data<256:=⟨h.cdata,h.rdata⟩
theorem Kfa{w:World}{B:Nat}{s:PC}(h:CAt w B s):w.cell? (Aq B 65539)=some (Uq s.a)/\0<=s.a/\s.a<256:=⟨h.ca,h.ra⟩
theorem JB{w:World}{B:Nat}{s:PC}(h:CAt w B s):w.cell? (Aq B 65551)=some (Uq s.st)/\0<=s.st/\s.st<6:=⟨h.cst,h.rst⟩
theorem zj0{w:World}{B:Nat}{s:PC}(h:CAt w B s):w.cell? (Aq B 65552)=some (Uq s.ins)/\0<=s.ins/\s.ins<56:=⟨h.cins,h.rins⟩
theorem jJ{p:Prop}(h:p):Hid p:=h
abbrev RI(f:FuncId)(x:List Value)(B:Nat)(w0 w:World)(y:PC):Prop:=Calls prog f (Pq B::x).toArray w fun e w'=>e=.returned (.tuple #[])/\Tn B y w0 w'
theorem zI{p:Prop} (q:p:=by
 have fz:=h.c.free;unfold RI;go_enter hf,hn;clear hf hn
 iterate 3
  all_goals (try go_wp2_with (first|((first|(go_at_call 280;first|((with_reducible show Calls _ _ #[_,.pointer (some (Aq _ 65539)),_] _ _);refine (YT zt _ zv).mono ?_)|((with_reducible show Calls _ _ #[_,.pointer (some (Aq _ 65540)),_] _ _);refine (Qh zt _ zv).mono ?_)|((with_reducible show Calls _ _ #[_,.pointer (some (Aq _ 65541)),_] _ _);refine (Qi zt _ zv).mono ?_)|((with_reducible show Calls _ _ #[_,.pointer (some (Aq _ 65557)),_] _ _);refine (Qj zt _ zv).mono ?_))|(go_at_call 290;refine (Qw zt _).mono ?_)|(go_at_call 282;refine (jc zt _ _).mono ?_)|(go_at_call 285;refine (Gh zt _).mono ?_)|(go_at_call 279;refine (zbB zt _ zv).mono ?_)|(go_at_call 283;refine (Xz zt _ zv).mono ?_)|(go_at_call 281;refine (ZS zt _ zv).mono ?_)|(go_at_call 284;refine (Zz zt _ zv).mono ?_));rintro e w1 ⟨rfl,h⟩;(try obtain ⟨_,_,_⟩:=hK.out _ _ _ h.c);(try obtain ⟨_,_,_⟩:=hL.out _ _ _ h.c);have fz:=h.c.free)|(go_at_call 105;refine (qH h _).mono ?_;rintro e w' ⟨rfl,rfl⟩)))
  all_goals (try go_region_with (first|((first|(go_at_call 280;first|((with_reducible show Calls _ _ #[_,.pointer (some (Aq _ 65539)),_] _ _);refine (YT zt _ zv).mono ?_)|((with_reducible show Calls _ _ #[_,.pointer (some (Aq _ 65540)),_] _ _);refine (Qh zt _ zv).mono ?_)|((with_reducible show Calls _ _ #[_,.pointer (some (Aq _ 65541)),_] _ _);refine (Qi zt _ zv).mono ?_)|((with_reducible show Calls _ _ #[_,.pointer (some (Aq _ 65557)),_] _ _);refine (Qj zt _ zv).mono ?_))|(go_at_call 290;refine (Qw zt _).mono ?_)|(go_at_call 282;refine (jc zt _ _).mono ?_)|(go_at_call 285;refine (Gh zt _).mono ?_)|(go_at_call 279;refine (zbB zt _ zv).mono ?_)|(go_at_call 283;refine (Xz zt _ zv).mono ?_)|(go_at_call 281;refine (ZS zt _ zv).mono ?_)|(go_at_call 284;refine (Zz zt _ zv).mono ?_));rintro e w1 ⟨rfl,h⟩;(try obtain ⟨_,_,_⟩:=hK.out _ _ _ h.c);(try obtain ⟨_,_,_⟩:=hL.out _ _ _ h.c);have fz:=h.c.free)|(go_at_call 105;refine (qH h _).mono ?_;rintro e w' ⟨rfl,rfl⟩)))
 all_goals go_end0
 all_goals exact ⟨rfl,ze⟩):p:=q
variable {B:Nat} {s:PC} {w0 w:World}
theorem YT(h:Tn B s w0 w)(b:Int)(_:0<=b/\b<256):RI 280 [.pointer (some (Aq B 65539)),Uq b] B w0 w (s.loadA b):=by
 have hf:=func280;have hn:=ntmps280;obtain ⟨c_a,l_a,u_a⟩:=Kfa h.c;exact zI
theorem Qh(h:Tn B s w0 w)(b:Int)(_:0<=b/\b<256):RI 280 [.pointer (some (Aq B 65540)),Uq b] B w0 w (s.loadX b):=by
 have hf:=func280;have hn:=ntmps280;obtain ⟨c_x,l_x,u_x⟩:=Kfx h.c;exact zI
theorem Qi(h:Tn B s w0 w)(b:Int)(_:0<=b/\b<256):RI 280 [.pointer (some (Aq B 65541)),Uq b] B w0 w (s.loadY b):=by
 have hf:=func280;have hn:=ntmps280;obtain ⟨c_y,l_y,u_y⟩:=Kfy h.c;exact zI
theorem Qj(h:Tn B s w0 w)(b:Int)(_:0<=b/\b<256):RI 280 [.pointer (some (Aq B 65557)),Uq b] B w0 w (s.loadD b):=by
 have hf:=func280;have hn:=ntmps280;obtain ⟨c_data,l_data,u_data⟩:=yY h.c;exact zI
theorem zgV(h:Tn B s w0 w):RI 244 [] B w0 w (s.doIns 29):=by
 have hf:=func244;have hn:=ntmps244;obtain ⟨c_data,l_data,u_data⟩:=yY h.c;exact zI
theorem zgW(h:Tn B s w0 w):RI 245 [] B w0 w (s.doIns 30):=by
 have hf:=func245;have hn:=ntmps245;obtain ⟨c_data,l_data,u_data⟩:=yY h.c;exact zI
theorem zgX(h:Tn B s w0 w):RI 246 [] B w0 w (s.doIns 31):=by
 have hf:=func246;have hn:=ntmps246;obtain ⟨c_data,l_data,u_data⟩:=yY h.c;exact zI
theorem zgY(h:Tn B s w0 w):RI 265 [] B w0 w (s.doIns 50):=by
 have hf:=func265;have hn:=ntmps265;obtain ⟨c_a,l_a,u_a⟩:=Kfa h.c;exact zI
theorem zgZ(h:Tn B s w0 w):RI 266 [] B w0 w (s.doIns 51):=by
 have hf:=func266;have hn:=ntmps266;obtain ⟨c_a,l_a,u_a⟩:=Kfa h.c;exact zI
theorem zg0(h:Tn B s w0 w):RI 267 [] B w0 w (s.doIns 52):=by
 have hf:=func267;have hn:=ntmps267;obtain ⟨c_s,l_s,u_s⟩:=Kfs h.c;exact zI
theorem zg1(h:Tn B s w0 w):RI 268 [] B w0 w (s.doIns 53):=by
 have hf:=func268;have hn:=ntmps268;obtain ⟨c_x,l_x,u_x⟩:=Kfx h.c;exact zI
theorem zg2(h:Tn B s w0 w):RI 270 [] B w0 w (s.doIns 55):=by
 have hf:=func270;have hn:=ntmps270;obtain ⟨c_y,l_y,u_y⟩:=Kfy h.c;exact zI
theorem zg3(h:Tn B s w0 w):RI 252 [] B w0 w (s.doIns 37):=by
 have hf:=func252;have hn:=ntmps252;obtain ⟨c_data,l_data,u_data⟩:=yY h.c;exact zI
theorem ziH{p:Prop} (q:p:=by
 obtain ⟨c_a,l_a,u_a⟩:=Kfa h.c;obtain ⟨c_data,l_data,u_data⟩:=yY h.c;exact zI):p:=q
theorem zg4(h:Tn B s w0 w):RI 216 [] B w0 w (s.doIns 1):=by
 have hf:=func216;have hn:=ntmps216;exact ziH
theorem zg5(h:Tn B s w0 w):RI 249 [] B w0 w (s.doIns 34):=by
 have hf:=func249;have hn:=ntmps249;exact ziH
theorem zg6(h:Tn B s w0 w):RI 238 [] B w0 w (s.doIns 23):=by
 have hf:=func238;have hn:=ntmps238;exact ziH
theorem zg7(h:Tn B s w0 w):RI 239 [] B w0 w (s.doIns 24):=by
 have hf:=func239;have hn:=ntmps239;obtain ⟨c_data,l_data,u_data⟩:=yY h.c;exact zI
theorem zg8(h:Tn B s w0 w):RI 235 [] B w0 w (s.doIns 20):=by
 have hf:=func235;have hn:=ntmps235;obtain ⟨c_data,l_data,u_data⟩:=yY h.c;exact zI
theorem zg9(h:Tn B s w0 w):RI 240 [] B w0 w (s.doIns 25):=by
 have hf:=func240;have hn:=ntmps240;obtain ⟨c_x,l_x,u_x⟩:=Kfx h.c;exact zI
theorem zha(h:Tn B s w0 w):RI 236 [] B w0 w (s.doIns 21):=by
 have hf:=func236;have hn:=ntmps236;obtain ⟨c_x,l_x,u_x⟩:=Kfx h.c;exact zI
theorem zhb(h:Tn B s w0 w):RI 241 [] B w0 w (s.doIns 26):=by
 have hf:=func241;have hn:=ntmps241;obtain ⟨c_y,l_y,u_y⟩:=Kfy h.c;exact zI
theorem zhc(h:Tn B s w0 w):RI 237 [] B w0 w (s.doIns 22):=by
 have hf:=func237;have hn:=ntmps237;obtain ⟨c_y,l_y,u_y⟩:=Kfy h.c;exact zI
theorem zhd(h:Tn B s w0 w):RI 269 [] B w0 w (s.doIns 54):=by
 have hf:=func269;have hn:=ntmps269;obtain ⟨c_x,l_x,u_x⟩:=Kfx h.c;obtain ⟨c_s,l_s,u_s⟩:=Kfs h.c;exact zI
theorem zhe(h:Tn B s w0 w):RI 262 [] B w0 w (s.doIns 47):=by
 have hf:=func262;have hn:=ntmps262;exact ziH
theorem zhf(h:Tn B s w0 w):RI 263 [] B w0 w (s.doIns 48):=by
 have hf:=func263;have hn:=ntmps263;obtain ⟨c_x,l_x,u_x⟩:=Kfx h.c;obtain ⟨c_data,l_data,u_data⟩:=yY h.c;exact zI
theorem zhg(h:Tn B s w0 w):RI 264 [] B w0 w (s.doIns 49):=by
 have hf:=func264;have hn:=ntmps264;obtain ⟨c_y,l_y,u_y⟩:=Kfy h.c;obtain ⟨c_data,l_data,u_data⟩:=yY h.c;exact zI
theorem zhh(h:Tn B s w0 w):RI 250 [] B w0 w (s.doIns 35):=by
 have hf:=func250;have hn:=ntmps250;exact ziH
theorem zhi(h:Tn B s w0 w):RI 251 [] B w0 w (s.doIns 36):=by
 have hf:=func251;have hn:=ntmps251;obtain ⟨c_p,l_p,u_p⟩:=Kfp h.c;obtain ⟨c_data,l_data,u_data⟩:=yY h.c;exact zI
theorem znA{p:Prop} (q:p:=by
 obtain ⟨c_ad,l_ad,u_ad⟩:=XH h.c;obtain ⟨c_pc,l_pc,u_pc⟩:=ja h.c;exact zI):p:=q
theorem zhj(h:Tn B s w0 w):RI 242 [] B w0 w (s.doIns 27):=by
 have hf:=func242;have hn:=ntmps242;exact znA
theorem zhk(h:Tn B s w0 w):RI 243 [] B w0 w (s.doIns 28):=by
 have hf:=func243;have hn:=ntmps243;exact znA
theorem zhl(h:Tn B s w0 w):RI 257 [] B w0 w (s.doIns 42):=by
 have hf:=func257;have hn:=ntmps257;exact znA
theorem zhm(h:Tn B s w0 w):RI 248 [] B w0 w (s.doIns 33):=by
 have hf:=func248;have hn:=ntmps248;exact zI
theorem zhn(h:Tn B s w0 w):RI 228 [] B w0 w (s.doIns 13):=by
 have hf:=func228;have hn:=ntmps228;exact zI
theorem zho(h:Tn B s w0 w):RI 259 [] B w0 w (s.doIns 44):=by
 have hf:=func259;have hn:=ntmps259;exact zI
theorem zhp(h:Tn B s w0 w):RI 230 [] B w0 w (s.doIns 15):=by
 have hf:=func230;have hn:=ntmps230;exact zI
theorem zhq(h:Tn B s w0 w):RI 261 [] B w0 w (s.doIns 46):=by
 have hf:=func261;have hn:=ntmps261;exact zI
theorem zhr(h:Tn B s w0 w):RI 231 [] B w0 w (s.doIns 16):=by
 have hf:=func231;have hn:=ntmps231;exact zI
theorem zhs(h:Tn B s w0 w):RI 229 [] B w0 w (s.doIns 14):=by
 have hf:=func229;have hn:=ntmps229;exact zI
theorem zht(h:Tn B s w0 w):RI 260 [] B w0 w (s.doIns 45):=by
 have hf:=func260;have hn:=ntmps260;exact zI
