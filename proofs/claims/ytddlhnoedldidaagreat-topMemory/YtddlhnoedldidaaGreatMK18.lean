/- Parts of the proof. -/
import Derived.Test.YtddlhnoedldidaaGreatML
import Derived.Test.YtddlhnoedldidaaGreatMK3
import Derived.Test.YtddlhnoedldidaaGreatMK38
set_option maxRecDepth 100000
set_option maxHeartbeats 16000000
namespace Go.Proofs.YtddlhnoedldidaaGreat
open Go.Proofs.Tryz
open Value renaming int->J,slice->J1,pointer->J2,bool->J3,agg->J4
open IntKind renaming i64->I
open Obj renaming cells->J5
namespace Wd
open Go.RowKit Pv Kc
structure Hd where
 h:Int
 t:Int
 s:Int
 g:Int
structure Wo where
 ck:Int
 dn:Int
 p:Pr
 c:Nat->Cs
 hp:Nat->Hd
 hc:Nat->Hd
def z3y(f:Nat->Cs)(i:Nat)(x:Cs):Nat->Cs:=fun k=>if k=i then x else f k
def q5U(f:Nat->Hd)(i:Nat)(x:Hd):Nat->Hd:=fun k=>if k=i then x else f k
def hd0:Hd:=⟨0,0,0,0⟩
def csN:Cs:=⟨false,false,0,0,0,[],[],[],fun _=>false,⟨[],[],0,false⟩,0,0,0,0⟩
def z8k:Wo:=⟨0,0,newP,fun _=>csN,fun _=>hd0,fun _=>hd0⟩
def atP(x:Wo)(d:Dd):Wo×Int:=
 if d.k=1 then ({ x with p:=(z3B x.p d.d d.v d.n).1 },(z3B x.p d.d d.v d.n).2)
 else if d.k=2 then ({ x with p:=(z2C x.p d.d d.v d.n x.ck).1 },(z2C x.p d.d d.v d.n x.ck).2)
 else if d.k=3 then ({ x with p:={ x.p with s:=(z1G x.p.s d.v).1 } },(z1G x.p.s d.v).2)
 else ({ x with p:=(z6n x.p d.v d.n).1 },(z6n x.p d.v d.n).2)
def z7T(x:Wo)(n:Int):Wo×Int×Int:=if n<1∨1099511627736 - x.ck<n then (x,0,2) else ({ x with ck:=x.ck+n },x.ck+n,0)
def z5c(p:Pr)(c:Nat->Cs)(i:Nat):Hd:=⟨p.h,p.t,((p.L i).out.S.length:Int),(c i).out.g⟩
def z7W(x:Wo):Wo×Int×Int:=
 if (endP x.p x.ck).2.2=0 then ({ x with p:=(endP x.p x.ck).1,hp:=z5c (endP x.p x.ck).1 x.c },((endP x.p x.ck).2.1.length:Int),0) else (x,0,(endP x.p x.ck).2.2)
def z4I(x:Wo)(c:Int):Wo×Int×Int:=
 if isC c=true then
  if (z1R x.p c).2=0 then ({ x with p:=(z1R x.p c).1,c:=z3y x.c c.toNat (z2G (z1R x.p c).1.set (z1R x.p c).1.h x.ck),hp:=q5U x.hp c.toNat hd0,hc:=q5U x.hc c.toNat hd0 },(z1R x.p c).1.h,0) else (x,0,(z1R x.p c).2)
 else (x,0,4)
def z8a(c:Cs)(g:Int):Hd:=⟨c.h,c.t,(c.out.S.length:Int),g⟩
def z6G(x:Wo)(i:Nat):Wo×Int:=
 if (q1r (x.c i) x.ck).2=0 then ({ x with c:=z3y x.c i (q1r (x.c i) x.ck).1,hc:=q5U x.hc i (z8a (q1r (x.c i) x.ck).1 (x.p.L i).out.g) },0) else (x,(q1r (x.c i) x.ck).2)
def j7o(x:Lk)(h:Hd):Lk:={ x with h0:=h.h,h1:=h.t,h2:=h.s,h3:=h.g }
def j7Z(x:Cs)(h:Hd):Cs:={ x with h0:=h.h,h1:=h.t,h2:=h.s,h3:=h.g }
def z7g(x:Wo)(i:Nat)(b:Bool):Wo:=if b=true then { x with p:={ x.p with L:=z1a x.p.L i (j7o (x.p.L i) (x.hc i)) } } else { x with c:=z3y x.c i (j7Z (x.c i) (x.hp i)) }
def q5W(x:Wo)(i:Nat)(d:Dd):Wo×Int:=
 if d.k=11 then ({ x with c:=z3y x.c i (z4T (x.c i) d.v x.ck).1 },(z4T (x.c i) d.v x.ck).2)
 else ({ x with c:=z3y x.c i (z2f (x.c i) d.v d.n x.ck).1 },(z2f (x.c i) d.v d.n x.ck).2)
def z2O(x:Wo)(i:Nat)(b:Bool):Ln.Line:=if b=true then (x.c i).out else (x.p.L i).out
def z3x(l:Ln.Line):ByteArray:=if (l.S.length:Int)<=l.g then ByteArray.empty else l.S.getD l.g.toNat ByteArray.empty
def q1A(s:ByteArray):ByteArray:=Cd.encS 3 1 0 ((s.size:Int)+1) [] []
def z1e(x:Wo)(i:Nat)(b f:Bool):ByteArray:=if f=true then q1A (z3x (z2O x i b)) else z3x (z2O x i b)
def j4B(x:Wo)(i:Nat)(b:Bool):Int:=if b=true then (x.p.L i).h2 else (x.c i).h2
def z2S(x:Wo)(i:Nat)(b:Bool)(s:ByteArray):Wo×Int:=
 if b=true then ({ x with p:=(z4H x.p i (Cd.bs s)).1 },(z4H x.p i (Cd.bs s)).2) else ({ x with c:=z3y x.c i (z4F (x.c i) (Cd.bs s)).1 },(z4F (x.c i) (Cd.bs s)).2)
def z3g(x:Wo)(i:Nat)(b:Bool)(l:Ln.Line):Wo:=
 if b=true then { x with c:=z3y x.c i { x.c i with out:=l } } else { x with p:={ x.p with L:=z1a x.p.L i { x.p.L i with out:=l } } }
def q4H(x:Wo)(i:Nat)(b f:Bool):Wo×Int×Int:=
 if Ln.z4p (z2O x i b) ((z2O x i b).g+1) (z1e x i b f) (j4B x i b) x.ck=0 then
  if (z2S x i b (z1e x i b f)).2=0 then (z3g (z2S x i b (z1e x i b f)).1 i b (Ln.z7b (z2O x i b) ((z2O x i b).g+1) (z1e x i b f) (j4B x i b) x.ck),(z2O x i b).g+1,0)
  else ((z2S x i b (z1e x i b f)).1,0,(z2S x i b (z1e x i b f)).2)
 else (x,0,Ln.z4p (z2O x i b) ((z2O x i b).g+1) (z1e x i b f) (j4B x i b) x.ck)
def j5c(x:Wo)(i:Nat)(b:Bool):Int:=if b=true then (x.c i).h1 else (x.p.L i).h1
def j7X(x:Wo)(i:Nat)(b:Bool):Int:=if b=true then (x.c i).h3 else (x.p.L i).h3
def j4V(x:Wo)(i:Nat):Wo:={ x with p:=z0Q x.p i,c:=z3y x.c i (z1S (x.c i)) }
def q1T(x:Wo)(i:Nat)(b:Bool)(k:Int):Wo×Int:=
 if Ln.z5k (z2O x i b) k (j5c x i b) (j7X x i b)=0 then (j4V (z3g x i b (Ln.z9O (z2O x i b) k (j5c x i b) (j7X x i b))) i,0)
 else (x,Ln.z5k (z2O x i b) k (j5c x i b) (j7X x i b))
def z9v(x:Wo)(i:Nat)(d:Dd):Wo×Int×Int:=
 if d.k=7 then ((z6G x i).1,0,(z6G x i).2)
 else if d.k=8 then (z7g x i d.b,0,0)
 else if d.k=9 then q4H x i d.b d.f
 else if d.k=10 then ((q1T x i d.b d.n).1,0,(q1T x i d.b d.n).2)
 else ((q5W x i d).1,0,(q5W x i d).2)
def z4l(x:Wo)(d:Dd):Wo×Int×Int:=
 if d.k=1∨d.k=2∨d.k=3∨d.k=13 then ((atP x d).1,0,(atP x d).2)
 else if d.k=5 then z7T x d.n
 else if d.k=6 then z7W x
 else if d.k=4 then z4I x d.c
 else if d.k=7∨d.k=8∨d.k=11∨d.k=12∨d.k=9∨d.k=10 then
  if isC d.c=true/\(x.c d.c.toNat).on=true then z9v x d.c.toNat d else (x,0,4)
 else (x,0,3)
def z6e(x:Wo):Wo:={ x with dn:=x.dn+1 }
def doW(x:Wo)(d:Dd):Wo×Int×Int:=
 if 600<=x.dn then (x,6,0)
 else ((z4l (z6e x) d).1,(z4l (z6e x) d).2.2,if (z4l (z6e x) d).2.2=0 then (z4l (z6e x) d).2.1 else 0)
end Wd
namespace Pv
open Go.RowKit
theorem q2I{s:St}(a:z0m s=true):s.W.length * 64<=140737488351232:=by
 have:=((z0N _).1 a).2.2.2.1;omega
def z7u(v:Value):Sem Value:=Instr.loadAt 58 v
theorem z0H(v:Value):Instr.loadAt 58 v=z7u v:=rfl
def z6x(a v:Value):Sem Unit:=Instr.storeAt 58 a v
theorem z0w(a v:Value):Instr.storeAt 58 a v=z6x a v:=rfl
def q1l(a v:Value):Sem Unit:=Instr.storeAt 43 a v
theorem z1w(a v:Value):Instr.storeAt 43 a v=q1l a v:=rfl
theorem z0j{w:World}{g:Nat}{cs:Array Value}(h:CAt 58 w g cs)(a:cs.size=97):(z7u (J2 (some ⟨g,0,none⟩))).run prog w=.ok (J4 cs) w:=by
 have:=run_loadAt_mid (P:=prog) w g 0 58 cs.toList _ h.range underlying58 rfl (by rw[z2E];simp[a])
 change (Instr.loadAt 58 _).run prog w=_
 simpa using this
theorem z0k{w:World}{g:Nat}{a cs:Array Value}(h:CAt 58 w g a)(c:a.size=97)(b:cs.size=97)(h1:cs.all (·.oneCell')=true):(z6x (J2 (some ⟨g,0,none⟩)) (J4 cs)).run prog w=.ok () (w.setCells g 0 cs.toList):=
 run_storeAt_mid (P:=prog) w g 0 58 cs (h.there 0 _ (by rw[c,b];omega)) (by rw[z2E,b]) h1
theorem z2D{w:World}{g:Nat}{cs ds:Array Value}(h:CAt 58 w g cs)(hc:cs.size=97)(a:ds.size=63)(h1:ds.all (·.oneCell')=true):(q1l (J2 (some ⟨g,2,none⟩)) (J4 ds)).run prog w=.ok () (w.setCells g 2 ds.toList):=
 run_storeAt_mid (P:=prog) w g 2 43 ds (h.there 2 _ (by rw[hc,a];omega)) (by rw[z0x,a]) h1
theorem z7A{w:World}{g:Nat}{cs ds:Array Value}(h:CAt 43 w g cs)(hc:cs.size=63)(a:ds.size=63)(h1:ds.all (·.oneCell')=true):(q1l (J2 (some ⟨g,0,none⟩)) (J4 ds)).run prog w=.ok () (w.setCells g 0 ds.toList):=
 run_storeAt_mid (P:=prog) w g 0 43 ds (h.there 0 _ (by rw[hc,a];omega)) (by rw[z0x,a]) h1
theorem z6J{w:World}{g:Nat}{cs:Array Value}(h:CAt 43 w g cs)(hc:cs.size=63):(z8i (J2 (some ⟨g,0,none⟩))).run prog w=.ok (J4 cs) w:=SAt.z8i h hc
theorem CAt.z1g{w:World}{g:Nat}{p:Pr}{v:PrV}(h:CAt 58 w g (prC p v))(s:St)(u:Value):CAt 58 (w.setCells g 2 (stC s u).toList) g (prC { p with s:=s } { v with ws:=u }):=by
 have:=CAt.sets (stC s u).toList 2 w _ h
 rwa [show spl (prC p v) 2 (stC s u).toList=prC { p with s:=s } { v with ws:=u } from q8t [J I p.h,J I p.t] (stC p.s v.ws).toList _ (stC s u).toList rfl]at this
theorem q1h{w:World}{g:Nat}{p:Pr}{v:PrV}(h:CAt 58 w g (prC p v)){y:Nat}(a:y<6):w.cell? ⟨g,9+y * 5,none⟩=some (J I (p.s.V y).tok)/\w.cell? ⟨g,9+y * 5+3,none⟩=some (J3 (p.s.V y).jail)/\w.cell? ⟨g,9+y * 5+4,none⟩=some (J3 (p.s.V y).dead):=by
 rcases (show y=0∨y=1∨y=2∨y=3∨y=4∨y=5 by omega) with rfl | rfl | rfl | rfl | rfl | rfl <;> exact⟨h.cell _,h.cell _,h.cell _⟩
theorem Alt.pin{g:Nat}{w w':World}(h:Alt g w w'){P:Nat->Prop}(c:¬ P g){p:Pr}{v:PrV}(hp:PIn P w p v):PIn P w' p v:=hp.keep fun b hb a=>h.block b a (fun e=>c (e ▸ hb))
def j2B(P:Nat->Prop)(w:World)(r:Pr×Int)(e:Ending)(w':World):Prop:=∃ v',e=.returned (.tuple #[J4 (prC r.1 v'),J I r.2])/\PIn (New P w 2) w' r.1 v'/\Bl w w'
theorem z9A{d:Func}{p q:Tmp}(h:d.results=#[.cell p 58,.tmp q])(a:Array Value)(w:World)(g:Nat)(cs:Array Value)(v:Value)
  (hp:a.getD p undef=J2 (some ⟨g,0,none⟩)) (e:a.getD q undef=v) (f:CAt 58 w g cs) (b:cs.size=97) :
  (results d a).run prog w=.ok (.tuple #[J4 cs,v]) w:=by
 have hp':a[p]?.getD undef=J2 (some ⟨g,0,none⟩):=by simpa using hp
 have c:a[q]?.getD undef=v:=by simpa using e
 simp[results,h,hp',c,asAddr,run_loadVar_row w g 58 58 cs (0,0) _ f underlying58 rfl (by rw[z2E,b])]
theorem PIn.sets{P:Nat->Prop}{w:World}{p:Pr}{v:PrV}(h:PIn P w p v){g:Nat}(c:¬ P g)(o:Nat)(a:List Value):PIn P (w.setCells g o a) p v:=h.keep fun b hb _=>z0M (show b≠g from fun e=>c (by rw[<- e];exact hb)) a o w
theorem PIn.z2y{P:Nat->Prop}{w w':World}{p:Pr}{v:PrV}(h:PIn P w p v)(hb:Bl w w')(k:Nat):PIn (New P w k) w' p v:=(h.mono (P':=fun b=>New P w k b/\b<w.heap.size) fun _ a hp=>⟨.inl ⟨hp,a⟩,a⟩).over hb |>.mono fun _ _ h=>h.1
theorem z0K{f:Func}{t q:Tmp}(a:f.results=#[.cell t 58,.tmp q]){P:Nat->Prop}{w wq:World}{d:Array Value}(R:CAt 58 wq (w.heap.size+1) d)(e:d.size=97)(H:Bl w wq)(b:Pr)(v':PrV)(c:Int)(r:Pr×Int)(g:r=(b,c))(hp:PIn (New P w 2) wq b v')(act:Act)
  (h:act.tmps.getD t undef=J2 (some ⟨w.heap.size+1,0,none⟩)) (i:act.tmps.getD q undef=J I c) (hd:act.defers=[]) :
  bodyPost prog f (j2B P w r) Exit.ret act (wq.setCells (w.heap.size+1) 0 (prC b v').toList):=by
 subst g;have j:=R.z0t (ds:=prC b v') (by rw[e];rfl)
 exact bodyPost_ret (v:=.tuple #[J4 (prC b v'),J I c]) (z9A a _ _ _ _ _ h i j rfl) hd ⟨v',rfl,hp.sets (z3F (by omega)) _ _,z0a (Nat.le_succ _) _ _ _ H⟩
theorem j6E{P:Nat->Prop}{w:World}{A:Option Addr}{C b o:Nat}{W:List Wt}(h:z2k w A b o W)(f:W.length<=C)(h0:0<W.length)(g:P b):Rep P w (J1 A W.length C) 8 64 (wsL W):=by
 have a:A=some ⟨b,o,none⟩:=h.adr h0;refine⟨A,W.length,C,rfl,z1f W,h.len,⟨fun e=>(by rw[a]at e;cases e),f⟩,fun _=>⟨b,o,a,g,h.lt h0,fun j u hu=>?_⟩⟩
 have s:j<W.length * 8:=by have:=(List.getElem?_eq_some_iff.1 hu).1;rwa [z1f]at this
 have i:j / 8<W.length:=by omega
 have d:j % 8<8:=Nat.mod_lt _ (by omega)
 have ex:W[j / 8]?=some W[j / 8]:=List.getElem?_eq_getElem i;have e:=z4h W (j / 8) W[j / 8] (j % 8) ex d;rw[show j / 8 * 8+j % 8=j by omega]at e
 rw[e]at hu;have c:=h.cell (j / 8) W[j / 8] ex;generalize W[j / 8]=x at *;have l:o+j=o+j / 8 * 8+j % 8:=by omega
 rw[l];generalize o+j / 8 * 8=k at *;generalize j % 8=m at *;obtain⟨c0,c1,c2,c3,n,p,q,r⟩:=c
 match m,d,hu with
 | 0,_,hu=>cases hu;exact c0
 | 1,_,hu=>cases hu;exact c1
 | 2,_,hu=>cases hu;exact c2
 | 3,_,hu=>cases hu;exact c3
 | 4,_,hu=>cases hu;exact n
 | 5,_,hu=>cases hu;exact p
 | 6,_,hu=>cases hu;exact q
 | 7,_,hu=>cases hu;exact r
end Pv
namespace Pv
open Go.RowKit
theorem q1j:∀ l:List (Int×Int),pwL l=pwC l
 | []=>rfl
 | x :: r=>by show _ :: _ :: pwL r=_;rw[q1j r];rfl
theorem Rep.j8P{w:World}{B:Nat}{v:Value}{l:List (Int×Int)}(h:z5F w B v l)(c:l.length<=8796093021952):Rep (fun b=>B<=b) w v 2 16 (pwC l):=by
 have a:w.ownsRow B 65 2 v l.length (pwL l):=h;rw[q1j]at a;exact Rep.own a (by omega)
theorem Rep.j8w{w:World}{B:Nat}{v:Value}{l:List (Int×Int)}(h:j8p w B v l)(f:l.length<=8796093021952):Rep (fun b=>B<=b) w v 2 16 (pwC l):=by
 rcases h with⟨rfl,rfl⟩ | ⟨g,cap,rfl,hB,⟨cur,h1,h2⟩,h3,h4⟩
 ·exact Rep.nil _ _ _ _
 ·refine⟨_,l.length,cap,rfl,z0c l,by omega,⟨fun h=>(by cases h),h3⟩,fun _=>⟨g,0,rfl,hB,(Array.getElem?_eq_some_iff.1 h1).1,fun j u hu=>?_⟩⟩
  have i:j<l.length * 2:=by have:=(List.getElem?_eq_some_iff.1 hu).1;rwa [z0c]at this
  have a:j / 2<l.length:=by omega
  obtain⟨c,d⟩:=z1U l (j / 2) a;have ex:l[j / 2]?=some (l.getD (j / 2) (0,0)):=by simp[List.getD,a]
  obtain⟨b1,b2⟩:=h2 (j / 2) _ ex;rw[Nat.zero_add];simp only[World.cell?,h1]
  rcases (show j=j / 2 * 2∨j=j / 2 * 2+1 by omega) with e | e
  ·rw[<- e]at c b1;rw[c]at hu;cases hu;simpa using b1
  ·rw[<- e]at d b2;rw[d]at hu;cases hu;simpa using b2
theorem Rep.pin{P:Nat->Prop}{w:World}{v:Value}{l:List (Int×Int)}(h:Rep P w v 2 16 (pwC l)):∃ ao c b off,v=J1 ao l.length c/\Df.PIn w l ao b off:=by
 obtain⟨A,C,e,f,-,hc,-⟩:=h.open (z0c _) (by decide)
 rcases Nat.eq_zero_or_pos l.length with h0 | h0
 ·exact⟨A,C,0,0,e,by omega,fun h=>by omega,fun i a=>by omega⟩
 ·obtain⟨b,off,d,-,-,hcell⟩:=hc h0;exact⟨A,C,b,off,e,by omega,fun _=>d,fun i a=>⟨by rw[hcell _ _ (z1U l i a).1],by rw[Nat.add_assoc,hcell _ _ (z1U l i a).2]⟩⟩
theorem z2d.rep{B:Nat}{w:World}{A:Option Addr}{C:Nat}{W:List Wt}(h:z2d B w A C W)(a:W.length * 64<=140737488351232):Rep (fun b=>B<=b) w (J1 A W.length C) 8 64 (wsL W):=Rep.own h a
theorem q0S.rep{B:Nat}{w:World}{A:Option Addr}{C:Nat}{l:List Int}(h:q0S B w A C l)(a:l.length * 8<=140737488351232):Rep (fun b=>B<=b) w (J1 A l.length C) 1 8 (inC l):=Rep.own h a
theorem q6A{s:St}{d v n:Int}{y:Wt}(h:(z0S s d v n y).2=0):0<(z0S s d v n y).1.W.length:=by
 by_cases a:z0T s d v=0
 case neg=>rw[z5B a]at h;exact absurd h a
 by_cases h1:(decide (0<n) && inA n)=true/\0<=y.hei/\0<=y.due
 case neg=>rw[q2r a h1]at h;exact absurd h (by simp)
 by_cases h2:n<=s.S d.toNat v.toNat
 case neg=>rw[q2j a h1 h2]at h;exact absurd h (by simp)
 by_cases h3:s.W.length<60/\s.next<1125899906842624
 case neg=>rw[q1L a h1 h2 h3]at h;exact absurd h (by simp)
 by_cases c:woE (s.V v.toNat) n=0
 case neg=>rw[q2n a h1 h2 h3 c]at h;exact absurd h c
 by_cases e:(z0X s.b (woN (s.V v.toNat) n)).2=0
 case neg=>rw[q2g a h1 h2 h3 c e]at h;exact absurd h e
 rw[q1x a h1 h2 h3 c e]
 show 0<(s.W ++ [_]).length
 simp
section
variable {P:Nat->Prop} {w:World} {s:St} {u:Value} (hu:Rep P w u 8 64 (wsL s.W))
include hu
theorem j3E(v:Int):Calls prog 173 #[J4 (stC s u),J I v] w fun e w'=>e=.returned (.tuple #[J4 (stC (z9R s v).1 u),J I (z9R s v).2])/\Bl w w':=by
 obtain⟨A,C,b,o,rfl,W,-,-⟩:=hu.z9Z;exact q6S s A b o C v w W
theorem j3p(v:Int):Calls prog 108 #[J4 (stC s u),J I v] w fun e w'=>e=.returned (.tuple #[J4 (stC (z7S s v).1 u),J I (z7S s v).2])/\Bl w w':=by
 obtain⟨A,C,b,o,rfl,W,-,-⟩:=hu.z9Z;exact q9b s A b o C v w W
theorem j0e(d v n:Int)(y:Wt):Calls prog 71 #[J4 (stC s u),J I d,J I v,J I n,J4 #[J I y.num,J I y.d,J I y.v,J I y.amt,J I y.hei,J I y.due,J I y.h0,J I y.h1]] w fun e w'=>∃ A m C,e=.returned (.tuple #[J4 (stC (z0S s d v n y).1 (J1 A m C)),J I (z0S s d v n y).2])/\((z0S s d v n y).2=0->Rep (New P w 0) w' (J1 A m C) 8 64 (wsL (z0S s d v n y).1.W))/\Bl w w':=by
 obtain⟨A,C,b,o,l,W,-,p⟩:=hu.z9Z;have c:=(hu.room l).1;subst l
 obtain⟨f,g,q,j⟩:∃ f g,z2k w A f g s.W/\(New P w 0 f):=by
  by_cases k:0<s.W.length
  ·exact⟨b,o,W,.inl ⟨p k,W.lt k⟩⟩
  ·exact⟨w.heap.size,0,⟨fun h=>absurd h k,W.len,fun i x r=>absurd (List.getElem?_eq_some_iff.1 r).1 (by omega)⟩,.inr (by omega)⟩
 refine (q6Z s A f g C d v n y w c q).mono ?_;rintro e w'⟨A',z,t,C',rfl,h1,h2,h3,hb⟩;refine⟨A',_,C',rfl,fun h0=>?_,hb⟩;have a:=q6A h0;refine j6E h2 h1 a ?_
 rcases (h3 a).2 with e | e
 ·exact e ▸ j
 ·exact .inr (by omega)
theorem j0L(v:Nat)(h:Int)(a:z0m s=true)(c:v<6):Calls prog 107 #[J4 (stC s u),J I (v:Int),J I h,J I 50] w fun e w'=>∃ d x,e=.returned (.tuple #[J4 (stC (z1V s v h 50) d),x,J I 0])/\Rep (fun b=>w.heap.size<=b) w' d 8 64 (wsL (z1V s v h 50).W)/\Bl w w':=by
 obtain⟨A,C,b,o,rfl,W,-,-⟩:=hu.z9Z;refine (q4P s A b o C v h 50 w W a c (by decide)).mono ?_
 rintro e w'⟨A',C',rfl,h1,hb⟩;exact⟨_,_,rfl,z2d.rep h1 (q2I (q3a a (v:=v) c h (f:=50) (by decide)).good),hb⟩
theorem j6i(t:Int)(a:z0m s=true):Calls prog 78 #[J4 (stC s u),J I t] w fun e w'=>∃ c x,e=.returned (.tuple #[J4 (stC (z5J s t) c),x,J I 0])/\Rep (fun b=>w.heap.size<=b) w' c 8 64 (wsL (z5J s t).W)/\Rep (fun b=>w.heap.size<=b) w' x 1 8 (inC (z1W t s.W))/\Bl w w':=by
 obtain⟨A,C,b,o,rfl,W,-,-⟩:=hu.z9Z;refine (j1y s A b o C t w W a).mono ?_;rintro e w'⟨A',C',g,h,rfl,h1,h2,hb⟩;have d:=((z0N _).1 a).2.2.2.1
 have f:(z1W t s.W).length<=s.W.length:=by
  unfold z1W z6F;rw[List.length_map];exact List.length_filter_le _ _
 exact⟨_,_,rfl,z2d.rep h1 (q2I (j2c a t).good),q0S.rep h2 (by omega),hb⟩
theorem j2K(c:Nat)(h:Int)(hc:c<2):Calls prog 128 #[J4 (stC s u),J I (c:Int),J I h] w fun e w'=>∃ d,e=.returned (J4 (stC { s with W:=z5f c h s.W } d))/\Rep (fun b=>w.heap.size<=b) w' d 8 64 (wsL (z5f c h s.W))/\Bl w w':=by
 obtain⟨A,C,b,o,rfl,W,-,-⟩:=hu.z9Z;have a:(z5f c h s.W).length=s.W.length:=List.length_map _
 match c,hc with
 | 0,_ =>
  refine (q4W s A b o C h w W W.len).mono ?_;rintro e w'⟨A',C',rfl,h1,hb⟩;have:=z2d.rep h1 (by rw[a];exact W.len)
  rw[a]at this;exact⟨_,rfl,this,hb⟩
 | 1,_ =>
  refine (q4F s A b o C h w W W.len).mono ?_;rintro e w'⟨A',C',rfl,h1,hb⟩;have:=z2d.rep h1 (by rw[a];exact W.len)
  rw[a]at this;exact⟨_,rfl,this,hb⟩
end
theorem q3w(V:Nat->Vd):(z7M V).length<=4:=by
 unfold z7M;rw[z2g,List.length_take];omega
theorem j6J(s:St)(u:Value)(w:World)(a:z0m s=true):Calls prog 79 #[J4 (stC s u)] w fun e w'=>∃ v,e=.returned v/\Rep (fun b=>w.heap.size<=b) w' v 2 16 (pwC (z7M s.V))/\Bl w w':=by
 refine (j0Y s u w fun k c=>(z2e (z4c a k c).1).1).mono ?_;rintro e w'⟨v,rfl,h1,hb⟩;exact⟨v,rfl,Rep.j8w h1 (by have:=q3w s.V;omega),hb⟩
theorem j5Z{P:Nat->Prop}{w:World}{v:Value}{l:List (Int×Int)}(h:Rep P w v 2 16 (pwC l)):Calls prog 76 #[v] w fun e w'=>e=.returned (J I (Df.q4m l))/\Bl w w':=by
 obtain⟨ao,c,b,off,rfl,hp⟩:=h.pin;exact Df.j4q l ao c b off w hp
theorem j3Z{P Q:Nat->Prop}{w:World}{v v':Value}{l d:List (Int×Int)}(h:Rep P w v 2 16 (pwC l))(g:Rep Q w v' 2 16 (pwC d)):Calls prog 116 #[v,v'] w fun e w'=>∃ u,e=.returned u/\Rep (fun b=>w.heap.size<=b) w' u 2 16 (pwC (Df.z6B l d))/\Bl w w':=by
 obtain⟨ao,c,b,off,rfl,hp⟩:=h.pin;obtain⟨f,i,j,a,rfl,hp'⟩:=g.pin;refine (Df.j0p l d ao f c i b off j a w hp hp').mono ?_;rintro e w'⟨u,rfl,h1,hb⟩;exact⟨u,rfl,Rep.j8P h1 (Nat.le_trans (Df.z3D _ _ 6) (by decide)),hb⟩
end Pv
namespace Pv
open Go.RowKit
theorem Rep.one'{P:Nat->Prop}{w:World}{v:Value}{sz bts:Nat}{cs:List Value}(h:Rep P w v sz bts cs):∃ A n C,v=J1 A n C:=by
 obtain⟨A,n,C,e,_⟩:=h;exact⟨A,n,C,e⟩
theorem z6r{v:Value}(s:St)(h:∃ A n C,v=J1 A n C):(stC s v).all (·.oneCell')=true:=by
 obtain⟨A,n,C,rfl⟩:=h;exact z0y _ _ _ _
attribute [local go_sem ↓] z1B z0H z0w z1w
theorem q4L(p:Pr)(v:PrV)(P:Nat->Prop)(w:World)(d x n:Int)(hp:PIn P w p v) :
  Calls prog 54 #[J4 (prC p v),J I d,J I x,J I n] w (j2B P w (z3B p d x n)):=by
 have hD:z3B p d x n=if z0J p=true then ({ p with s:=(z0O p.s d x n).1 },(z0O p.s d x n).2) else (p,2):=rfl
 generalize z3B p d x n=D at *;have X:=J6 hD;clear hD;have i:=z0Y hp;have L:=J6 (fun (z:World) (hb:Bl w z)=>z3a p v P z (hp.over hb));have Y:=J6 (fun (z:World) (hb:Bl w z)=>hp.z2y hb 2);have HP:=J6 hp;clear hp;generalize z0J p=G at *
 go_enter func54,ntmps54
 go_upto_region 1 with fail
 change Code.wp prog _ _ _ ((w.alloc (J5 (prC p v) 58)).alloc (J5 zeroCells58 58));have C0:CAt 58 ((w.alloc (J5 (prC p v) 58)).alloc (J5 zeroCells58 58)) w.heap.size (prC p v):=(CAt.new _ w _).alloc _;have R0:CAt 58 ((w.alloc (J5 (prC p v) 58)).alloc (J5 zeroCells58 58)) (w.heap.size+1) zeroCells58:=CAt.new2 _ w _ _;have B0:Bl w ((w.alloc (J5 (prC p v) 58)).alloc (J5 zeroCells58 58)):=(znw w _).alloc (by simp) _
 generalize (w.alloc (J5 (prC p v) 58)).alloc (J5 zeroCells58 58)=w0 at *;have l0:=z0j C0 (z0b _ _);have t:=J6 (show _/\_/\_ from⟨C0,R0,B0⟩);clear C0 R0 B0;cases G
 ·have M:=J6 (X.out.trans (if_neg (by simp)))
  clear X
  go_upto_region 2 with (go_at_call 67;refine (L.out _ t.out.2.2).mono ?_;rintro e w1⟨rfl,a⟩;clear l0)
  have H:=t.out.2.1.over a;have l1:=z0j (t.out.1.over a) (z0b _ _);have s1:=z0k H z0d (z0b p v) i;have N:=zbt t.out.2.2 a;have m:=J6 (show _/\_ from⟨H,N⟩);clear H N a i;go_wp2;exact z0K results54 m.out.1 z0d m.out.2 p v 2 D M.out (Y.out _ m.out.2) _ rfl rfl rfl
 ·have M:=J6 (X.out.trans (if_pos rfl));clear X;obtain⟨Aw,Cw,bw,ow,Q,Ws,-,-⟩:=HP.out.ws.z9Z;have B:=fun (z:World) (hb:Bl w z)=>q7i p.s Aw bw ow Cw d x n z (Ws.over hb);rw[<- Q]at B;have E:=J6 B;have Z:∃ A n C,v.ws=J1 A n C:=HP.out.ws.one';clear B Q Ws
  go_upto_region 3 with (go_at_call 67;refine (L.out _ t.out.2.2).mono ?_;rintro e w1⟨rfl,a⟩;clear l0)
  have C1:=t.out.1.over a;have H:=t.out.2.1.over a;have N:=zbt t.out.2.2 a;have m1:=z2a C1;have K:=J6 (show _/\_/\_ from⟨C1,H,N⟩);clear C1 H N a t
  have hW:(z0O p.s d x n).1.W=p.s.W:=by
   unfold z0O
   repeat' split
   all_goals rfl
  have HW:=J6 hW
  have R:Hid ((z0O p.s d x n).2≠0->(z0O p.s d x n).1=p.s):=fun h=>by
   unfold z0O at h ⊢
   repeat' split
   all_goals first | rfl | (simp_all;done)
  clear hW;generalize z0O p.s d x n=r at *;obtain⟨f,er⟩:=r;dsimp only at M E HW R;have y:=z6r f Z
  go_upto_region 4 with (go_at_call 68;refine (E.out _ K.out.2.2).mono ?_;rintro e k⟨rfl,l⟩;clear m1;have S:=z7A (CAt.new 43 k Z63) rfl (z0f f v.ws) y;unfold Z63 at S)
  change Code.wp prog _ _ _ ((k.alloc (J5 Z63 43)).setCells k.heap.size 0 (stC f v.ws).toList);have u:Bl k ((k.alloc (J5 Z63 43)).setCells k.heap.size 0 (stC f v.ws).toList):=z0a (Nat.le_refl _) _ _ _ (znw k _);have T3:CAt 43 ((k.alloc (J5 Z63 43)).setCells k.heap.size 0 (stC f v.ws).toList) k.heap.size (stC f v.ws):=(CAt.new 43 k Z63).z0t rfl;have T:=(K.out.1.over l).over u;have U:=(K.out.2.1.over l).over u;have V:=(zbt K.out.2.2 l).trans (u.mono (Nat.le_trans K.out.2.2.size l.size));have a0:w.heap.size<k.heap.size:=(K.out.1.over l).lt;clear S l u E;generalize (k.alloc (J5 Z63 43)).setCells k.heap.size 0 (stC f v.ws).toList=w3 at *
  by_cases he:er=0
  ·subst he;have mS:=z6J T3 (z0f _ _);have sS:=z2D T (z0b _ _) (z0f f v.ws) y;have C4:=T.z1g f v.ws;have R4:=U.others (c:=w.heap.size) (o:=2) (by omega) (stC f v.ws).toList
   have B4:=z0a (b:=w.heap.size) (Nat.le_refl _) (stC f v.ws).toList 2 _ V
   have N4:PIn (New P w 2) (w3.setCells w.heap.size 2 (stC f v.ws).toList) { p with s:=f } { v with ws:=v.ws }:=by
    have:=(Y.out _ V).sets (g:=w.heap.size) (z3F (j:=0) (by omega)) 2 (stC f v.ws).toList
    exact⟨by rw[show (wsL f.W)=wsL p.s.W by rw[HW.out]];exact this.ws,this.set,this.lk,this.q⟩
   have l4:=z0j C4 (z0b _ _);have s4:=z0k R4 z0d (z0b { p with s:=f } { v with ws:=v.ws }) (z0Y N4)
   have m:=J6 (show _/\_/\_ from⟨R4,B4,N4⟩);clear T U V C4 R4 B4 N4 T3 i
   go_upto_region 7 with fail
   generalize w3.setCells w.heap.size 2 (stC f v.ws).toList=w4 at *;clear mS sS;go_wp2;exact z0K results54 m.out.1 z0d m.out.2.1 _ _ 0 D M.out m.out.2.2 _ rfl rfl rfl
  ·have l3:=z0j T (z0b _ _);have s3:=z0k U z0d (z0b p v) i;have a1:(er != 0)=true:=by simpa using he
   have m:=J6 (show _/\_ from⟨U,V⟩);have F:f=p.s:=R.out he;subst F;clear T U V T3 i;go_wp2;exact z0K results54 m.out.1 z0d m.out.2 p v er D M.out (Y.out _ m.out.2) _ rfl rfl rfl
end Pv
namespace Pv
open Go.RowKit
theorem q7X{s:St}{x:Nat}(a:z0m s=true)(b:x<6)(hd:(s.V x).dead=false):z7S s x=(z5Q s x true true,0):=by
 unfold z7S;rw[if_pos (z3A a b),Int.toNat_natCast,if_neg (by simp[hd])]
theorem q4U(s:St)(x:Nat)(h:Int):((z1V s x h 50).V x).dead=(s.V x).dead:=by
 show (z1Q s.V x _ x).dead=_
 rw[z5W];rfl
theorem Rep.sets{P:Nat->Prop}{w:World}{v:Value}{sz bts:Nat}{cs:List Value}(h:Rep P w v sz bts cs){g:Nat}(c:¬ P g)(o:Nat)(a:List Value):Rep P (w.setCells g o a) v sz bts cs:=h.keep fun b hb _=>z0M (show b≠g from fun e=>c (by rw[<- e];exact hb)) a o w
attribute [local go_sem ↓] z1B z0H z0w z1w
theorem z7f(g:Nat)(p:Pr)(v:PrV)(P:Nat->Prop)(w:World)(x:Nat)(h:Int)(l:CAt 58 w g (prC p v))(hp:Rep P w v.ws 8 64 (wsL p.s.W))(n:z0m p.s=true)(o:x<6)(hd:(p.s.V x).dead=false) :
  Calls prog 74 #[J2 (some ⟨g,0,none⟩),J I (x:Int),J I h] w fun e w'=>∃ u,e=.returned (.tuple #[])/\CAt 58 w' g (prC { p with s:=q1H p.s x h } { v with ws:=u })/\Rep (fun b=>w.heap.size<=b) w' u 8 64 (wsL (q1H p.s x h).W)/\Alt g w w':=by
 have G:=z2a l;have H:=l.lt;have D:=J6 (j0L hp x h n o);have k:=q3a n (v:=x) o h (f:=50) (by decide)
 have i:((z1V p.s x h 50).V x).dead=false:=(q4U _ _ _).trans hd;have E:z7S (z1V p.s x h 50) x=(q1H p.s x h,0):=q7X k.good o i;have q:Hid ((q1H p.s x h).W=(z1V p.s x h 50).W):=rfl;generalize q1H p.s x h=s2 at *;generalize z1V p.s x h 50=s1 at *;have r:=J6 l;have F:=J6 E;clear l hp n hd E k i
 go_enter func74,ntmps74
 go_upto_region 1 with (go_at_call 107;refine D.out.mono ?_;rintro e w1⟨u,y,rfl,hu,a⟩;clear G;have t:=z2D (r.out.over a) (z0b _ _) (z0f s1 u) (z6r s1 hu.one'))
 have z:=(r.out.over a).z1g s1 u;have A:=hu.sets (g:=g) (by show ¬ _<=g;omega) 2 (stC s1 u).toList
 have B:=Alt.sets (stC s1 u).toList (Alt.of (g:=g) a) 2;clear t a;generalize w1.setCells g 2 (stC s1 u).toList=w2 at *;have K:=z2a z;have d:=j3p A (x:Int);rw[F.out]at d;have C:=J6 d;have m:=J6 (show _/\_/\_ from⟨z,A,B⟩);have j:=z6r s2 hu.one';have L:=B.size;clear z A B d hu r F D
 go_wp2_with (go_at_call 108;refine C.out.mono ?_;rintro e Q⟨rfl,c⟩;clear K;have M:=z2D (m.out.1.over c) (z0b _ _) (z0f s2 u) j)
 go_end0;have N:=(m.out.1.over c).z1g s2 u;refine⟨u,rfl,N,?_,m.out.2.2.trans (Alt.sets (stC s2 u).toList (Alt.of (g:=g) c) 2)⟩;rw[q.out];exact (m.out.2.1.over c).sets (by show ¬ _<=g;omega) 2 _
theorem q6a(p:Pr)(v:PrV)(P:Nat->Prop)(w:World)(x h:Int)(hp:PIn P w p v) :
  Calls prog 57 #[J4 (prC p v),J I x,J I h] w (j2B P w (z6n p x h)):=by
 have W:z6n p x h=if z0J p=true then if isV x=true then if 1<=h/\h<=p.h then if (p.s.V x.toNat).dead=true then (p,15) else ({ p with s:=q1H p.s x.toNat h },0) else (p,2) else (p,4) else (p,2):=rfl
 generalize z6n p x h=D at *;have z:=J6 W;clear W;have g:=z0Y hp;have l:=J6 (fun (A:World) (hb:Bl w A)=>z3a p v P A (hp.over hb));have X:=J6 (fun (A:World) (hb:Bl w A)=>hp.z2y hb 2);have HP:=J6 hp;clear hp
 have o:Hid (z0J p=true->z0m p.s=true):=fun h=>by
  unfold z0J at h;simp only[Bool.and_eq_true]at h;exact h.1.1.1.1.1.1.1
 generalize z0J p=G at *
 go_enter func57,ntmps57
 go_upto_region 1 with fail
 change Code.wp prog _ _ _ ((w.alloc (J5 (prC p v) 58)).alloc (J5 zeroCells58 58));have C0:CAt 58 ((w.alloc (J5 (prC p v) 58)).alloc (J5 zeroCells58 58)) w.heap.size (prC p v):=(CAt.new _ w _).alloc _;have R0:CAt 58 ((w.alloc (J5 (prC p v) 58)).alloc (J5 zeroCells58 58)) (w.heap.size+1) zeroCells58:=CAt.new2 _ w _ _;have B0:Bl w ((w.alloc (J5 (prC p v) 58)).alloc (J5 zeroCells58 58)):=(znw w _).alloc (by simp) _
 generalize (w.alloc (J5 (prC p v) 58)).alloc (J5 zeroCells58 58)=w0 at *;have Y:=z0j C0 (z0b _ _);have k:=J6 (show _/\_/\_ from⟨C0,R0,B0⟩);clear C0 R0 B0;have C:Hid (∀ E,D=(p,E)->∀ (f:Func) (act:Act) (wq:World),CAt 58 wq (w.heap.size+1) zeroCells58->Bl w wq->f.results=#[.cell 6 58,.tmp 7]->act.tmps.getD 6 undef=J2 (some ⟨w.heap.size+1,0,none⟩)->act.tmps.getD 7 undef=J I E->act.defers=[]->bodyPost prog f (j2B P w D) Exit.ret act (wq.setCells (w.heap.size+1) 0 (prC p v).toList)):=fun E he f act wq R B h1 h2 h3 h4=>z0K h1 R z0d B p v E D he (X.out _ B) act h2 h3 h4
 by_cases F:G=true
 ·subst F;have L:=o.out rfl;have a:=J6 (z.out.trans (if_pos rfl));clear z o
  go_upto_region 3 with (go_at_call 67;refine (l.out _ k.out.2.2).mono ?_;rintro e w1⟨rfl,c⟩;clear Y)
  have H:=k.out.1.over c;have m:=k.out.2.1.over c;have r:=zbt k.out.2.2 c;have Z:=z0j H (z0b _ _);have s1:=z0k m z0d (z0b p v) g;obtain⟨⟨a0,-⟩,-⟩:=z3p H;have d:=J6 (show _/\_/\_ from⟨H,m,r⟩);clear H m r c k l
  by_cases t:isV x=true
  ·obtain⟨y,rfl,hy⟩:=j6a t;have a:=J6 (a.out.trans (if_pos t));have y0:(0:Int)<=(y:Int):=by omega
   have y6:(y:Int)<6:=by omega
   by_cases M:1<=h/\h<=p.h
   ·have a:=J6 (a.out.trans (if_pos M));obtain⟨h1,h2⟩:=M;have N:=(q1h d.out.1 hy).2.2;rw[Int.toNat_natCast]at a;cases i:(p.s.V y).dead
    ·rw[i]at N;have a:=J6 (a.out.trans (if_neg (by simp[i])))
     have Q:=J6 (z7f w.heap.size p v P w1 y h d.out.1 (HP.out.ws.over d.out.2.2) L hy i)
     go_upto_region 10 with (first
      | (go_at_call 73;refine (z3r _ _).mono ?_;rintro e w'⟨rfl,rfl⟩)
      | (go_at_call 74;refine Q.out.mono ?_;rintro e w2⟨u,rfl,C2,U2,K⟩;clear Z s1 a0 N))
     have S:=K.cat (b:=w.heap.size+1) (by omega) d.out.2.1
     have B2:=d.out.2.2.trans (K.below (Nat.le_refl _) d.out.2.2.size);have a1:=d.out.2.1.lt
     have T:PIn (New P w 2) w2 { p with s:=q1H p.s y h } { v with ws:=u }:=by
      have:=K.pin (z3F (j:=0) (by omega)) (X.out _ d.out.2.2)
      exact⟨U2.mono fun b _ hb=>.inr (by have:w1.heap.size<=b:=hb;omega),this.set,this.lk,this.q⟩
     have l2:=z0j C2 (z0b _ _);have s2:=z0k S z0d (z0b { p with s:=q1H p.s y h } { v with ws:=u }) (z0Y T)
     have n:=J6 (show _/\_/\_ from⟨S,B2,T⟩);clear C2 U2 K S B2 T d g;go_wp2;exact z0K results57 n.out.1 z0d n.out.2.1 _ _ 0 D a.out n.out.2.2 _ rfl rfl rfl
    ·rw[i]at N;have a:=J6 (a.out.trans (if_pos i))
     go_wp2_with (go_at_call 73;refine (z3r _ _).mono ?_;rintro e w'⟨rfl,rfl⟩)
     exact C.out 15 a.out _ _ _ d.out.2.1 d.out.2.2 results57 rfl rfl rfl
   ·have a:=J6 (a.out.trans (if_neg M));have U:h<1∨(1<=h/\p.h<h):=by omega
    rcases U with h1 | ⟨h1,h2⟩
    all_goals
     go_wp2_with (go_at_call 73;refine (z3r _ _).mono ?_;rintro e w'⟨rfl,rfl⟩)
     exact C.out 2 a.out _ _ _ d.out.2.1 d.out.2.2 results57 rfl rfl rfl
  ·have a:=J6 (a.out.trans (if_neg t));have t:isV x=false:=by simpa using t
   go_wp2_with (go_at_call 73;refine (z3r _ _).mono ?_;rintro e w'⟨rfl,rfl⟩)
   exact C.out 4 a.out _ _ _ d.out.2.1 d.out.2.2 results57 rfl rfl rfl
 ·have F:G=false:=by simpa using F
  subst F;have a:=J6 (z.out.trans (if_neg (by simp)))
  clear z
  go_upto_region 2 with (go_at_call 67;refine (l.out _ k.out.2.2).mono ?_;rintro e w1⟨rfl,c⟩;clear Y)
  have m:=k.out.2.1.over c;have Z:=z0j (k.out.1.over c) (z0b _ _);have s1:=z0k m z0d (z0b p v) g;have r:=zbt k.out.2.2 c;have n:=J6 (show _/\_ from⟨m,r⟩);clear m r c g;go_wp2;exact C.out 2 a.out _ _ _ n.out.1 n.out.2 results57 rfl rfl rfl
end Pv
end Go.Proofs.YtddlhnoedldidaaGreat
