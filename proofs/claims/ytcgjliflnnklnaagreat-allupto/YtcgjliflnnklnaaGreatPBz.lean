import Derived.Test.YtcgjliflnnklnaaGreatCpIz
namespace Go.Proofs.YtcgjliflnnklnaaGreat
open Go.RowKit Tryz
set_option maxRecDepth 100000
set_option maxHeartbeats 4000000
theorem zbB{B:Nat}{s:PC}{w0 w:World}(h:Tn B s w0 w)(m:Int)(hm:0<=m/\m<256):Cq 279 #[Pq B,Uq m] w (.tuple #[]) fun w'=>Tn B (s.add m) w0 w':=by
 have c_a:=h.c.ca;obtain ⟨l_a,u_a⟩:=h.c.ra;have c_p:=h.c.cp;obtain ⟨l_p,u_p⟩:=h.c.rp;go_enter func279,ntmps279;obtain ⟨m1,m2⟩:=hm;obtain ⟨b1,b2⟩:=vo .and s.p 1;go_wp2;go_region_held3 (fun w'=>w'.cell? (Aq B 65539)=some (Uq s.a)/\w'.cell? (Aq B 65543)=some (Uq s.p)) (go_keep) (fail);all_goals go_wp2_with fail
 refine (jc h.drew _ _).mono ?_;rintro e w1 ⟨rfl,h1⟩;clear c_a c_p;have c_a:=h1.c.ca;obtain ⟨l_a,u_a⟩:=h1.c.ra;go_wp2_with fail;go_region_with (first|(go_at_call 282;refine (jc h1.drew _ _).mono ?_;rintro e w2 ⟨rfl,h2⟩));all_goals go_wp2_with fail
 refine (YT h2 _ zv).mono ?_;rintro e w3 ⟨rfl,h3⟩;go_wp2;go_end0;exact ⟨rfl,h3.eq (by rfl)⟩
theorem zjw{B:Nat}{s:PC}{w0 w:World}(h:Tn B s w0 w):Cq 226 #[Pq B] w (.tuple #[]) fun w'=>Tn B (s.doIns 11) w0 w':=by
 have c_a:=h.c.ca;obtain ⟨l_a,u_a⟩:=h.c.ra;have c_data:=h.c.cdata;obtain ⟨l_data,u_data⟩:=h.c.rdata;go_enter func226,ntmps226;go_wp2;go_region_held3 (fun w'=>w'.cell? (Aq B 65539)=some (Uq s.a)/\w'.cell? (Aq B 65557)=some (Uq s.data)) (go_keep) (first|(go_at_call 282;refine (jc h.drew _ _).mono ?_;rintro e w1 ⟨rfl,h1⟩;have k_a:=h1.c.ca;have k_d:=h1.c.cdata;simp only [PC.setF] at k_a k_d));clear c_data c_a;have c_data:=h1.c.cdata;obtain ⟨l_data,u_data⟩:=h1.c.rdata;go_wp2_with fail;go_region_with (first|(go_at_call 282;refine (jc h1.drew _ _).mono ?_;rintro e w2 ⟨rfl,h2⟩));clear c_data;have c_data:=h2.c.cdata;obtain ⟨l_data,u_data⟩:=h2.c.rdata;go_wp2_with fail;go_region_with (first|(go_at_call 282;refine (jc h2.drew _ _).mono ?_;rintro e w3 ⟨rfl,h3⟩));all_goals go_wp2
 all_goals go_end0
 all_goals exact ⟨rfl,h3.eq (by rfl)⟩
variable {B:Nat} {s:PC} {w0 w:World}
theorem znD{p:Prop} (q:p:=by
 obtain ⟨c_data,l_data,u_data⟩:=yY h.c;have hK:=jJ (fun w B s=>@yY w B s);exact zI):p:=q
theorem Xz(h:Tn B s w0 w)(r:Int)(_:0<=r/\r<256):RI 283 [Uq r] B w0 w (s.compare r):=by
 have hf:=func283;have hn:=ntmps283;exact znD
theorem ZS(h:Tn B s w0 w)(i:Int)(_:0<=i/\i<256):RI 281 [Uq i] B w0 w (s.shl i):=by
 have hf:=func281;have hn:=ntmps281;exact znD
theorem Zz(h:Tn B s w0 w)(i:Int)(_:0<=i/\i<256):RI 284 [Uq i] B w0 w (s.shr i):=by
 have hf:=func284;have hn:=ntmps284;exact znD
theorem zjx(h:Tn B s w0 w):RI 215 [] B w0 w (s.doIns 0):=by
 have hf:=func215;have hn:=ntmps215;obtain ⟨c_data,l_data,u_data⟩:=yY h.c;exact zI
theorem zjy(h:Tn B s w0 w):RI 258 [] B w0 w (s.doIns 43):=by
 have hf:=func258;have hn:=ntmps258;obtain ⟨c_data,l_data,u_data⟩:=yY h.c;exact zI
theorem zjz(h:Tn B s w0 w):RI 232 [] B w0 w (s.doIns 17):=by
 have hf:=func232;have hn:=ntmps232;obtain ⟨c_a,l_a,u_a⟩:=Kfa h.c;exact zI
theorem zjA(h:Tn B s w0 w):RI 233 [] B w0 w (s.doIns 18):=by
 have hf:=func233;have hn:=ntmps233;obtain ⟨c_x,l_x,u_x⟩:=Kfx h.c;exact zI
theorem zjB(h:Tn B s w0 w):RI 234 [] B w0 w (s.doIns 19):=by
 have hf:=func234;have hn:=ntmps234;obtain ⟨c_y,l_y,u_y⟩:=Kfy h.c;exact zI
theorem zjC(h:Tn B s w0 w):RI 217 [] B w0 w (s.doIns 2):=by
 have hf:=func217;have hn:=ntmps217;exact zI
theorem zjD(h:Tn B s w0 w):RI 247 [] B w0 w (s.doIns 32):=by
 have hf:=func247;have hn:=ntmps247;exact zI
theorem zjE(h:Tn B s w0 w):RI 254 [] B w0 w (s.doIns 39):=by
 have hf:=func254;have hn:=ntmps254;obtain ⟨c_p,l_p,u_p⟩:=Kfp h.c;exact zI
theorem zjF(h:Tn B s w0 w):RI 255 [] B w0 w (s.doIns 40):=by
 have hf:=func255;have hn:=ntmps255;obtain ⟨c_p,l_p,u_p⟩:=Kfp h.c;exact zI
theorem zjG(h:Tn B s w0 w):RI 218 [] B w0 w (s.doIns 3):=by
 have hf:=func218;have hn:=ntmps218;have c_taken:=h.c.ctaken;exact zI
theorem zjH(h:Tn B s w0 w):RI 219 [] B w0 w (s.doIns 4):=by
 have hf:=func219;have hn:=ntmps219;have c_taken:=h.c.ctaken;exact zI
theorem zjI(h:Tn B s w0 w):RI 220 [] B w0 w (s.doIns 5):=by
 have hf:=func220;have hn:=ntmps220;have c_taken:=h.c.ctaken;exact zI
theorem zjJ(h:Tn B s w0 w):RI 221 [] B w0 w (s.doIns 6):=by
 have hf:=func221;have hn:=ntmps221;have c_taken:=h.c.ctaken;exact zI
theorem zjK(h:Tn B s w0 w):RI 222 [] B w0 w (s.doIns 7):=by
 have hf:=func222;have hn:=ntmps222;have c_taken:=h.c.ctaken;exact zI
theorem zjL(h:Tn B s w0 w):RI 223 [] B w0 w (s.doIns 8):=by
 have hf:=func223;have hn:=ntmps223;have c_taken:=h.c.ctaken;exact zI
theorem zjM(h:Tn B s w0 w):RI 224 [] B w0 w (s.doIns 9):=by
 have hf:=func224;have hn:=ntmps224;have c_taken:=h.c.ctaken;exact zI
theorem zjN(h:Tn B s w0 w):RI 225 [] B w0 w (s.doIns 10):=by
 have hf:=func225;have hn:=ntmps225;have c_taken:=h.c.ctaken;exact zI
theorem zjO(h:Tn B s w0 w):RI 253 [] B w0 w (s.doIns 38):=by
 have hf:=func253;have hn:=ntmps253;obtain ⟨c_data,l_data,u_data⟩:=yY h.c;exact zI
theorem zp7{p:Prop} (q:p:=by
 have hK:=jJ (fun w B s=>@XH w B s);have hL:=jJ (fun w B s=>@ja w B s);exact zI):p:=q
theorem zjP(h:Tn B s w0 w):RI 256 [] B w0 w (s.doIns 41):=by
 have hf:=func256;have hn:=ntmps256;obtain ⟨c_data,l_data,u_data⟩:=yY h.c;exact zp7
theorem zjQ(h:Tn B s w0 w):RI 227 [] B w0 w (s.doIns 12):=by
 have hf:=func227;have hn:=ntmps227;exact zp7
