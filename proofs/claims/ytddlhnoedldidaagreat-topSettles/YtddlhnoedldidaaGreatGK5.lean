/- Parts of the proof. -/
import Derived.Test.YtddlhnoedldidaaGreatGL
import Derived.Test.YtddlhnoedldidaaGreatGK2
import Derived.Test.YtddlhnoedldidaaGreatGK15
set_option maxRecDepth 100000
set_option maxHeartbeats 16000000
namespace Go.Proofs.YtddlhnoedldidaaGreat
open Go.Proofs.Tryz
open Value renaming int->J,slice->J1,pointer->J2,bool->J3,agg->J4
open IntKind renaming i64->I
open Obj renaming cells->J5
namespace Wd
open Go.RowKit Pv Kc
structure Hd where
 h:Int
 t:Int
 s:Int
 g:Int
structure Wo where
 ck:Int
 dn:Int
 p:Pr
 c:Nat->Cs
 hp:Nat->Hd
 hc:Nat->Hd
def z2k(f:Nat->Cs)(i:Nat)(x:Cs):Nat->Cs:=λk=>if k=i then x else f k
def q7g(f:Nat->Hd)(i:Nat)(x:Hd):Nat->Hd:=λk=>if k=i then x else f k
def hd0:Hd:=⟨0,0,0,0⟩
def csN:Cs:=⟨false,false,0,0,0,[],[],[],λ_=>false,⟨[],[],0,false⟩,0,0,0,0⟩
def z8y:Wo:=⟨0,0,newP,λ_=>csN,λ_=>hd0,λ_=>hd0⟩
def atP(x:Wo)(d:Dd):Wo×Int:=
 if d.k=1 then({ x with p:=(z1T x.p d.d d.v d.n).1},(z1T x.p d.d d.v d.n).2)
 else if d.k=2 then({ x with p:=(z1f x.p d.d d.v d.n x.ck).1},(z1f x.p d.d d.v d.n x.ck).2)
 else if d.k=3 then({ x with p:={ x.p with s:=(z1s x.p.s d.v).1}},(z1s x.p.s d.v).2)
 else({ x with p:=(z3R x.p d.v d.n).1},(z3R x.p d.v d.n).2)
def z4z(x:Wo)(n:Int):Wo×Int×Int:=if n<1∨1099511627736 - x.ck<n then(x,0,2)else({ x with ck:=x.ck+n},x.ck+n,0)
def z5u(p:Pr)(c:Nat->Cs)(i:Nat):Hd:=⟨p.h,p.t,((p.L i).out.S.length:Int),(c i).out.g⟩
def z3F(x:Wo):Wo×Int×Int:=
 if(endP x.p x.ck).2.2=0 then({ x with p:=(endP x.p x.ck).1,hp:=z5u (endP x.p x.ck).1 x.c},((endP x.p x.ck).2.1.length:Int),0)else(x,0,(endP x.p x.ck).2.2)
def z1X(x:Wo)(c:Int):Wo×Int×Int:=
 if isC c=true then
  if(z0x x.p c).2=0 then({ x with p:=(z0x x.p c).1,c:=z2k x.c c.toNat (z2s (z0x x.p c).1.set (z0x x.p c).1.h x.ck),hp:=q7g x.hp c.toNat hd0,hc:=q7g x.hc c.toNat hd0},(z0x x.p c).1.h,0)else(x,0,(z0x x.p c).2)
 else(x,0,4)
def z8R(c:Cs)(g:Int):Hd:=⟨c.h,c.t,(c.out.S.length:Int),g⟩
def z3T(x:Wo)(i:Nat):Wo×Int:=
 if(z7A (x.c i) x.ck).2=0 then({ x with c:=z2k x.c i (z7A (x.c i) x.ck).1,hc:=q7g x.hc i (z8R (z7A (x.c i) x.ck).1 (x.p.L i).out.g)},0)else(x,(z7A (x.c i) x.ck).2)
def j8G(x:Lk)(h:Hd):Lk:={ x with h0:=h.h,h1:=h.t,h2:=h.s,h3:=h.g}
def y1v(x:Cs)(h:Hd):Cs:={ x with h0:=h.h,h1:=h.t,h2:=h.s,h3:=h.g}
def z3H(x:Wo)(i:Nat)(b:Bool):Wo:=if b=true then { x with p:={ x.p with L:=z0P x.p.L i (j8G (x.p.L i) (x.hc i))}} else { x with c:=z2k x.c i (y1v (x.c i) (x.hp i))}
def z9d(x:Wo)(i:Nat)(d:Dd):Wo×Int:=
 if d.k=11 then({ x with c:=z2k x.c i (z3o (x.c i) d.v x.ck).1},(z3o (x.c i) d.v x.ck).2)
 else({ x with c:=z2k x.c i (z1c (x.c i) d.v d.n x.ck).1},(z1c (x.c i) d.v d.n x.ck).2)
def z0Y(x:Wo)(i:Nat)(b:Bool):Ln.Line:=if b=true then(x.c i).out else(x.p.L i).out
def z3Z(l:Ln.Line):ByteArray:=if(l.S.length:Int)<=l.g then ByteArray.empty else l.S.getD l.g.toNat ByteArray.empty
def q2W(s:ByteArray):ByteArray:=Cd.encS 3 1 0 ((s.size:Int)+1) [] []
def z0t(x:Wo)(i:Nat)(b f:Bool):ByteArray:=if f=true then q2W (z3Z (z0Y x i b))else z3Z (z0Y x i b)
def j1d(x:Wo)(i:Nat)(b:Bool):Int:=if b=true then(x.p.L i).h2 else(x.c i).h2
def z1B(x:Wo)(i:Nat)(b:Bool)(s:ByteArray):Wo×Int:=
 if b=true then({ x with p:=(z2z x.p i (Cd.bs s)).1},(z2z x.p i (Cd.bs s)).2)else({ x with c:=z2k x.c i (z3c (x.c i) (Cd.bs s)).1},(z3c (x.c i) (Cd.bs s)).2)
def z1j(x:Wo)(i:Nat)(b:Bool)(l:Ln.Line):Wo:=
 if b=true then { x with c:=z2k x.c i { x.c i with out:=l}} else { x with p:={ x.p with L:=z0P x.p.L i { x.p.L i with out:=l}}}
def z7s(x:Wo)(i:Nat)(b f:Bool):Wo×Int×Int:=
 if Ln.z4B (z0Y x i b) ((z0Y x i b).g+1) (z0t x i b f) (j1d x i b) x.ck=0 then
  if(z1B x i b (z0t x i b f)).2=0 then(z1j (z1B x i b (z0t x i b f)).1 i b (Ln.z5L (z0Y x i b) ((z0Y x i b).g+1) (z0t x i b f) (j1d x i b) x.ck),(z0Y x i b).g+1,0)
  else((z1B x i b (z0t x i b f)).1,0,(z1B x i b (z0t x i b f)).2)
 else(x,0,Ln.z4B (z0Y x i b) ((z0Y x i b).g+1) (z0t x i b f) (j1d x i b) x.ck)
def z5A(x:Wo)(i:Nat)(b:Bool):Int:=if b=true then(x.c i).h1 else(x.p.L i).h1
def q2x(x:Wo)(i:Nat)(b:Bool):Int:=if b=true then(x.c i).h3 else(x.p.L i).h3
def q1X(x:Wo)(i:Nat):Wo:={ x with p:=z0j x.p i,c:=z2k x.c i (z1d (x.c i))}
def z6I(x:Wo)(i:Nat)(b:Bool)(k:Int):Wo×Int:=
 if Ln.z6h (z0Y x i b) k (z5A x i b) (q2x x i b)=0 then(q1X (z1j x i b (Ln.z4N (z0Y x i b) k (z5A x i b) (q2x x i b))) i,0)
 else(x,Ln.z6h (z0Y x i b) k (z5A x i b) (q2x x i b))
def z2c(x:Wo)(i:Nat)(d:Dd):Wo×Int×Int:=
 if d.k=7 then((z3T x i).1,0,(z3T x i).2)
 else if d.k=8 then(z3H x i d.b,0,0)
 else if d.k=9 then z7s x i d.b d.f
 else if d.k=10 then((z6I x i d.b d.n).1,0,(z6I x i d.b d.n).2)
 else((z9d x i d).1,0,(z9d x i d).2)
def z2J(x:Wo)(d:Dd):Wo×Int×Int:=
 if d.k=1∨d.k=2∨d.k=3∨d.k=13 then((atP x d).1,0,(atP x d).2)
 else if d.k=5 then z4z x d.n
 else if d.k=6 then z3F x
 else if d.k=4 then z1X x d.c
 else if d.k=7∨d.k=8∨d.k=11∨d.k=12∨d.k=9∨d.k=10 then
  if isC d.c=true/\(x.c d.c.toNat).on=true then z2c x d.c.toNat d else(x,0,4)
 else(x,0,3)
def z2n(x:Wo):Wo:={ x with dn:=x.dn+1}
def doW(x:Wo)(d:Dd):Wo×Int×Int:=
 if 600<=x.dn then(x,6,0)
 else((z2J (z2n x) d).1,(z2J (z2n x) d).2.2,if(z2J (z2n x) d).2.2=0 then(z2J (z2n x) d).2.1 else 0)
end Wd
namespace Pv
open Go.RowKit
theorem q3G{s:St}(a:z0k s=true):s.W.length*64<=140737488351232:=by
 have:=((z0h _).1 a).2.2.2.1;omega
def q0T(v:Value):Sem Value:=Instr.loadAt 58 v
theorem z0T(v:Value):Instr.loadAt 58 v=q0T v:=rfl
def z7f(a v:Value):Sem Unit:=Instr.storeAt 58 a v
theorem z0F(a v:Value):Instr.storeAt 58 a v=z7f a v:=rfl
def q1Y(a v:Value):Sem Unit:=Instr.storeAt 43 a v
theorem z1H(a v:Value):Instr.storeAt 43 a v=q1Y a v:=rfl
theorem z0l{w:World}{g:Nat}{cs:Array Value}(h:CAt 58 w g cs)(hs:cs.size=97):(q0T (J2 (some ⟨g,0,none⟩))).run prog w=.ok (J4 cs) w:=by
 have:=run_loadAt_mid (P:=prog) w g 0 58 cs.toList _ h.range underlying58 rfl (by rw[z3y];simp[hs])
 change (Instr.loadAt 58 _).run prog w=_
 simpa using this
theorem z0m{w:World}{g:Nat}{a cs:Array Value}(h:CAt 58 w g a)(b:a.size=97)(hs:cs.size=97)(h1:cs.all (·.oneCell')=true):(z7f (J2 (some ⟨g,0,none⟩)) (J4 cs)).run prog w=.ok () (w.setCells g 0 cs.toList):=
 run_storeAt_mid (P:=prog) w g 0 58 cs (h.there 0 _ (by rw[b,hs];omega)) (by rw[z3y,hs]) h1
theorem z3g{w:World}{g:Nat}{cs ds:Array Value}(h:CAt 58 w g cs)(hc:cs.size=97)(hs:ds.size=63)(h1:ds.all (·.oneCell')=true):(q1Y (J2 (some ⟨g,2,none⟩)) (J4 ds)).run prog w=.ok () (w.setCells g 2 ds.toList):=
 run_storeAt_mid (P:=prog) w g 2 43 ds (h.there 2 _ (by rw[hc,hs];omega)) (by rw[z0B,hs]) h1
theorem z8u{w:World}{g:Nat}{cs ds:Array Value}(h:CAt 43 w g cs)(hc:cs.size=63)(hs:ds.size=63)(h1:ds.all (·.oneCell')=true):(q1Y (J2 (some ⟨g,0,none⟩)) (J4 ds)).run prog w=.ok () (w.setCells g 0 ds.toList):=
 run_storeAt_mid (P:=prog) w g 0 43 ds (h.there 0 _ (by rw[hc,hs];omega)) (by rw[z0B,hs]) h1
theorem z7D{w:World}{g:Nat}{cs:Array Value}(h:CAt 43 w g cs)(hc:cs.size=63):(z8M (J2 (some ⟨g,0,none⟩))).run prog w=.ok (J4 cs) w:=SAt.z8M h hc
theorem CAt.z1q{w:World}{g:Nat}{p:Pr}{v:PrV}(h:CAt 58 w g (prC p v))(s:St)(u:Value):CAt 58 (w.setCells g 2 (stC s u).toList) g (prC { p with s:=s} { v with ws:=u}):=by
 have:=CAt.sets (stC s u).toList 2 w _ h
 rwa [show spl (prC p v) 2 (stC s u).toList=prC { p with s:=s} { v with ws:=u} from j1g [J I p.h,J I p.t] (stC p.s v.ws).toList _ (stC s u).toList rfl]at this
theorem q2r{w:World}{g:Nat}{p:Pr}{v:PrV}(h:CAt 58 w g (prC p v)){y:Nat}(a:y<6):w.cell? ⟨g,9+y*5,none⟩=some (J I (p.s.V y).tok)/\w.cell? ⟨g,9+y*5+3,none⟩=some (J3 (p.s.V y).jail)/\w.cell? ⟨g,9+y*5+4,none⟩=some (J3 (p.s.V y).dead):=by
 rcases(show y=0∨y=1∨y=2∨y=3∨y=4∨y=5 by omega)with rfl|rfl|rfl|rfl|rfl|rfl <;> exact⟨h.cell _,h.cell _,h.cell _⟩
theorem Alt.pin{g:Nat}{w w':World}(h:Alt g w w'){P:Nat->Prop}(c:¬ P g){p:Pr}{v:PrV}(hp:PIn P w p v):PIn P w' p v:=hp.keep λb hb a=>h.block b a (λe=>c (e ▸ hb))
def j4r(P:Nat->Prop)(w:World)(r:Pr×Int)(e:Ending)(w':World):Prop:=∃v',e=.returned (.tuple #[J4 (prC r.1 v'),J I r.2])/\PIn (New P w 2) w' r.1 v'/\Bl w w'
theorem q0w{d:Func}{p q:Tmp}(h:d.results=#[.cell p 58,.tmp q])(a:Array Value)(w:World)(g:Nat)(cs:Array Value)(v:Value)
  (hp:a.getD p undef=J2 (some ⟨g,0,none⟩)) (e:a.getD q undef=v) (f:CAt 58 w g cs) (b:cs.size=97) :
  (results d a).run prog w=.ok (.tuple #[J4 cs,v]) w:=by
 have hp':a[p]?.getD undef=J2 (some ⟨g,0,none⟩):=by simpa using hp
 have c:a[q]?.getD undef=v:=by simpa using e
 simp[results,h,hp',c,asAddr,run_loadVar_row w g 58 58 cs (0,0) _ f underlying58 rfl (by rw[z3y,b])]
theorem PIn.sets{P:Nat->Prop}{w:World}{p:Pr}{v:PrV}(h:PIn P w p v){g:Nat}(c:¬ P g)(o:Nat)(a:List Value):PIn P (w.setCells g o a) p v:=h.keep λb hb _=>z1l (show b≠g from λe=>c (by rw[<-e];exact hb)) a o w
theorem PIn.z2X{P:Nat->Prop}{w w':World}{p:Pr}{v:PrV}(h:PIn P w p v)(hb:Bl w w')(k:Nat):PIn (New P w k) w' p v:=(h.mono (P':=λb=>New P w k b/\b<w.heap.size) λ_ a hp=>⟨.inl ⟨hp,a⟩,a⟩).over hb|>.mono λ_ _ h=>h.1
theorem z0W{f:Func}{t q:Tmp}(a:f.results=#[.cell t 58,.tmp q]){P:Nat->Prop}{w wq:World}{d:Array Value}(R:CAt 58 wq (w.heap.size+1) d)(e:d.size=97)(H:Bl w wq)(b:Pr)(v':PrV)(c:Int)(r:Pr×Int)(g:r=(b,c))(hp:PIn (New P w 2) wq b v')(act:Act)
  (h:act.tmps.getD t undef=J2 (some ⟨w.heap.size+1,0,none⟩)) (i:act.tmps.getD q undef=J I c) (hd:act.defers=[]) :
  bodyPost prog f (j4r P w r) Exit.ret act (wq.setCells (w.heap.size+1) 0 (prC b v').toList):=by
 subst g;have j:=R.z0L (ds:=prC b v') (by rw[e];rfl)
 exact bodyPost_ret (v:=.tuple #[J4 (prC b v'),J I c]) (q0w a _ _ _ _ _ h i j rfl) hd ⟨v',rfl,hp.sets (z4d (by omega)) _ _,z0b (Nat.le_succ _) _ _ _ H⟩
theorem y0V{P:Nat->Prop}{w:World}{A:Option Addr}{C b o:Nat}{W:List Wt}(h:z2L w A b o W)(f:W.length<=C)(h0:0<W.length)(g:P b):Rep P w (J1 A W.length C) 8 64 (wsL W):=by
 have a:A=some ⟨b,o,none⟩:=h.adr h0;refine⟨A,W.length,C,rfl,z1K W,h.len,⟨λe=>(by rw[a]at e;cases e),f⟩,λ_=>⟨b,o,a,g,h.lt h0,λj u hu=>?_⟩⟩
 have s:j<W.length*8:=by have:=(List.getElem?_eq_some_iff.1 hu).1;rwa [z1K]at this
 have i:j / 8<W.length:=by omega
 have d:j % 8<8:=Nat.mod_lt _ (by omega)
 have ex:W[j / 8]?=some W[j / 8]:=List.getElem?_eq_getElem i;have e:=z4I W (j / 8) W[j / 8] (j % 8) ex d;rw[show j / 8*8+j % 8=j by omega]at e
 rw[e]at hu;have c:=h.cell (j / 8) W[j / 8] ex;generalize W[j / 8]=x at *;have l:o+j=o+j / 8*8+j % 8:=by omega
 rw[l];generalize o+j / 8*8=k at *;generalize j % 8=m at *;obtain⟨c0,c1,c2,c3,n,p,q,r⟩:=c
 match m,d,hu with
 | 0,_,hu=>cases hu;exact c0
 | 1,_,hu=>cases hu;exact c1
 | 2,_,hu=>cases hu;exact c2
 | 3,_,hu=>cases hu;exact c3
 | 4,_,hu=>cases hu;exact n
 | 5,_,hu=>cases hu;exact p
 | 6,_,hu=>cases hu;exact q
 | 7,_,hu=>cases hu;exact r
end Pv
namespace Pv
open Go.RowKit
theorem q1u:∀l:List (Int×Int),pwL l=pwC l
 | []=>rfl
 | x :: r=>by show _ :: _ :: pwL r=_;rw[q1u r];rfl
theorem Rep.y3c{w:World}{B:Nat}{v:Value}{l:List (Int×Int)}(h:z6t w B v l)(a:l.length<=8796093021952):Rep (λb=>B<=b) w v 2 16 (pwC l):=by
 have h':w.ownsRow B 65 2 v l.length (pwL l):=h;rw[q1u]at h';exact Rep.own h' (by omega)
theorem Rep.y3g{w:World}{B:Nat}{v:Value}{l:List (Int×Int)}(h:y2X w B v l)(f:l.length<=8796093021952):Rep (λb=>B<=b) w v 2 16 (pwC l):=by
 rcases h with⟨rfl,rfl⟩|⟨g,cap,rfl,hB,⟨cur,h1,h2⟩,h3,h4⟩
 ·exact Rep.nil _ _ _ _
 ·refine⟨_,l.length,cap,rfl,z0c l,by omega,⟨λh=>(by cases h),h3⟩,λ_=>⟨g,0,rfl,hB,(Array.getElem?_eq_some_iff.1 h1).1,λj u hu=>?_⟩⟩
  have i:j<l.length*2:=by have:=(List.getElem?_eq_some_iff.1 hu).1;rwa [z0c]at this
  have a:j / 2<l.length:=by omega
  obtain⟨c,d⟩:=z2j l (j / 2) a;have ex:l[j / 2]?=some (l.getD (j / 2) (0,0)):=by simp[List.getD,a]
  obtain⟨b1,b2⟩:=h2 (j / 2) _ ex;rw[Nat.zero_add];simp only[World.cell?,h1]
  rcases(show j=j / 2*2∨j=j / 2*2+1 by omega)with e|e
  ·rw[<-e]at c b1;rw[c]at hu;cases hu;simpa using b1
  ·rw[<-e]at d b2;rw[d]at hu;cases hu;simpa using b2
theorem Rep.pin{P:Nat->Prop}{w:World}{v:Value}{l:List (Int×Int)}(h:Rep P w v 2 16 (pwC l)):∃ao c b off,v=J1 ao l.length c/\Df.PIn w l ao b off:=by
 obtain⟨A,C,e,hs,-,hc,-⟩:=h.open (z0c _) (by decide)
 rcases Nat.eq_zero_or_pos l.length with h0|h0
 ·exact⟨A,C,0,0,e,by omega,λh=>by omega,λi a=>by omega⟩
 ·obtain⟨b,off,d,-,-,hcell⟩:=hc h0;exact⟨A,C,b,off,e,by omega,λ_=>d,λi a=>⟨by rw[hcell _ _ (z2j l i a).1],by rw[Nat.add_assoc,hcell _ _ (z2j l i a).2]⟩⟩
theorem z2C.rep{B:Nat}{w:World}{A:Option Addr}{C:Nat}{W:List Wt}(h:z2C B w A C W)(a:W.length*64<=140737488351232):Rep (λb=>B<=b) w (J1 A W.length C) 8 64 (wsL W):=Rep.own h a
theorem q1e.rep{B:Nat}{w:World}{A:Option Addr}{C:Nat}{l:List Int}(h:q1e B w A C l)(a:l.length*8<=140737488351232):Rep (λb=>B<=b) w (J1 A l.length C) 1 8 (inC l):=Rep.own h a
theorem j0B{s:St}{d v n:Int}{y:Wt}(h:(z0N s d v n y).2=0):0<(z0N s d v n y).1.W.length:=by
 by_cases a:z0Z s d v=0
 case neg=>rw[z6n a]at h;exact absurd h a
 by_cases h1:(decide (0<n) && inA n)=true/\0<=y.hei/\0<=y.due
 case neg=>rw[q3D a h1]at h;exact absurd h (by simp)
 by_cases h2:n<=s.S d.toNat v.toNat
 case neg=>rw[q2Q a h1 h2]at h;exact absurd h (by simp)
 by_cases h3:s.W.length<60/\s.next<1125899906842624
 case neg=>rw[q3m a h1 h2 h3]at h;exact absurd h (by simp)
 by_cases c:woE (s.V v.toNat) n=0
 case neg=>rw[q3k a h1 h2 h3 c]at h;exact absurd h c
 by_cases e:(z1e s.b (woN (s.V v.toNat) n)).2=0
 case neg=>rw[q2K a h1 h2 h3 c e]at h;exact absurd h e
 rw[q2G a h1 h2 h3 c e]
 show 0<(s.W++[_]).length
 simp
section
variable {P:Nat->Prop} {w:World} {s:St} {u:Value} (hu:Rep P w u 8 64 (wsL s.W))
include hu
theorem j8a(v:Int):Calls prog 173 #[J4 (stC s u),J I v] w λe w'=>e=.returned (.tuple #[J4 (stC (q0F s v).1 u),J I (q0F s v).2])/\Bl w w':=by
 obtain⟨A,C,b,o,rfl,W,-,-⟩:=hu.q0q;exact q8Z s A b o C v w W
theorem j6W(v:Int):Calls prog 108 #[J4 (stC s u),J I v] w λe w'=>e=.returned (.tuple #[J4 (stC (z8H s v).1 u),J I (z8H s v).2])/\Bl w w':=by
 obtain⟨A,C,b,o,rfl,W,-,-⟩:=hu.q0q;exact q7S s A b o C v w W
theorem j4g(d v n:Int)(y:Wt):Calls prog 71 #[J4 (stC s u),J I d,J I v,J I n,J4 #[J I y.num,J I y.d,J I y.v,J I y.amt,J I y.hei,J I y.due,J I y.h0,J I y.h1]] w λe w'=>∃A m C,e=.returned (.tuple #[J4 (stC (z0N s d v n y).1 (J1 A m C)),J I (z0N s d v n y).2])/\((z0N s d v n y).2=0->Rep (New P w 0) w' (J1 A m C) 8 64 (wsL (z0N s d v n y).1.W))/\Bl w w':=by
 obtain⟨A,C,b,o,k,W,-,l⟩:=hu.q0q;have c:=(hu.room k).1;subst k
 obtain⟨f,g,p,j⟩:∃f g,z2L w A f g s.W/\(New P w 0 f):=by
  by_cases hs:0<s.W.length
  ·exact⟨b,o,W,.inl ⟨l hs,W.lt hs⟩⟩
  ·exact⟨w.heap.size,0,⟨λh=>absurd h hs,W.len,λi x q=>absurd (List.getElem?_eq_some_iff.1 q).1 (by omega)⟩,.inr (by omega)⟩
 refine(q8B s A f g C d v n y w c p).mono ?_;rintro e w'⟨A',t,r,C',rfl,h1,h2,h3,hb⟩;refine⟨A',_,C',rfl,λh0=>?_,hb⟩;have a:=j0B h0;refine y0V h2 h1 a ?_
 rcases(h3 a).2 with e|e
 ·exact e ▸ j
 ·exact .inr (by omega)
theorem j2B(v:Nat)(h:Int)(a:z0k s=true)(c:v<6):Calls prog 107 #[J4 (stC s u),J I (v:Int),J I h,J I 50] w λe w'=>∃d x,e=.returned (.tuple #[J4 (stC (z1Y s v h 50) d),x,J I 0])/\Rep (λb=>w.heap.size<=b) w' d 8 64 (wsL (z1Y s v h 50).W)/\Bl w w':=by
 obtain⟨A,C,b,o,rfl,W,-,-⟩:=hu.q0q;refine(q5A s A b o C v h 50 w W a c (by decide)).mono ?_
 rintro e w'⟨A',C',rfl,h1,hb⟩;exact⟨_,_,rfl,z2C.rep h1 (q3G (q4v a (v:=v) c h (f:=50) (by decide)).good),hb⟩
theorem y0c(t:Int)(a:z0k s=true):Calls prog 78 #[J4 (stC s u),J I t] w λe w'=>∃c x,e=.returned (.tuple #[J4 (stC (z5K s t) c),x,J I 0])/\Rep (λb=>w.heap.size<=b) w' c 8 64 (wsL (z5K s t).W)/\Rep (λb=>w.heap.size<=b) w' x 1 8 (inC (z2r t s.W))/\Bl w w':=by
 obtain⟨A,C,b,o,rfl,W,-,-⟩:=hu.q0q;refine(j3D s A b o C t w W a).mono ?_;rintro e w'⟨A',C',g,h,rfl,h1,h2,hb⟩;have d:=((z0h _).1 a).2.2.2.1
 have f:(z2r t s.W).length<=s.W.length:=by
  unfold z2r z7r;rw[List.length_map];exact List.length_filter_le _ _
 exact⟨_,_,rfl,z2C.rep h1 (q3G (j4w a t).good),q1e.rep h2 (by omega),hb⟩
theorem j4F(c:Nat)(h:Int)(hc:c<2):Calls prog 128 #[J4 (stC s u),J I (c:Int),J I h] w λe w'=>∃d,e=.returned (J4 (stC { s with W:=z4X c h s.W} d))/\Rep (λb=>w.heap.size<=b) w' d 8 64 (wsL (z4X c h s.W))/\Bl w w':=by
 obtain⟨A,C,b,o,rfl,W,-,-⟩:=hu.q0q;have a:(z4X c h s.W).length=s.W.length:=List.length_map _
 match c,hc with
 | 0,_ =>
  refine(q7f s A b o C h w W W.len).mono ?_;rintro e w'⟨A',C',rfl,h1,hb⟩;have:=z2C.rep h1 (by rw[a];exact W.len)
  rw[a]at this;exact⟨_,rfl,this,hb⟩
 | 1,_ =>
  refine(q7d s A b o C h w W W.len).mono ?_;rintro e w'⟨A',C',rfl,h1,hb⟩;have:=z2C.rep h1 (by rw[a];exact W.len)
  rw[a]at this;exact⟨_,rfl,this,hb⟩
end
theorem q3Z(V:Nat->Vd):(z7C V).length<=4:=by
 unfold z7C;rw[z2H,List.length_take];omega
theorem y0l(s:St)(u:Value)(w:World)(a:z0k s=true):Calls prog 79 #[J4 (stC s u)] w λe w'=>∃v,e=.returned v/\Rep (λb=>w.heap.size<=b) w' v 2 16 (pwC (z7C s.V))/\Bl w w':=by
 refine(j2q s u w λk c=>(z2B (z4M a k c).1).1).mono ?_;rintro e w'⟨v,rfl,h1,hb⟩;exact⟨v,rfl,Rep.y3g h1 (by have:=q3Z s.V;omega),hb⟩
theorem y0I{P:Nat->Prop}{w:World}{v:Value}{l:List (Int×Int)}(h:Rep P w v 2 16 (pwC l)):Calls prog 76 #[v] w λe w'=>e=.returned (J I (Df.q6d l))/\Bl w w':=by
 obtain⟨ao,c,b,off,rfl,hp⟩:=h.pin;exact Df.j6p l ao c b off w hp
theorem j6x{P Q:Nat->Prop}{w:World}{v v':Value}{l d:List (Int×Int)}(h:Rep P w v 2 16 (pwC l))(h':Rep Q w v' 2 16 (pwC d)):Calls prog 116 #[v,v'] w λe w'=>∃u,e=.returned u/\Rep (λb=>w.heap.size<=b) w' u 2 16 (pwC (Df.z3v l d))/\Bl w w':=by
 obtain⟨ao,c,b,off,rfl,hp⟩:=h.pin;obtain⟨f,g,i,a,rfl,hp'⟩:=h'.pin;refine(Df.j2z l d ao f c g b off i a w hp hp').mono ?_;rintro e w'⟨u,rfl,h1,hb⟩;exact⟨u,rfl,Rep.y3c h1 (Nat.le_trans (Df.z4b _ _ 6) (by decide)),hb⟩
end Pv
namespace Pv
open Go.RowKit
theorem Rep.one'{P:Nat->Prop}{w:World}{v:Value}{sz bts:Nat}{cs:List Value}(h:Rep P w v sz bts cs):∃A n C,v=J1 A n C:=by
 obtain⟨A,n,C,e,_⟩:=h;exact⟨A,n,C,e⟩
theorem z7b{v:Value}(s:St)(h:∃A n C,v=J1 A n C):(stC s v).all (·.oneCell')=true:=by
 obtain⟨A,n,C,rfl⟩:=h;exact z0E _ _ _ _
attribute [local go_sem ↓] z1P z0T z0F z1H
theorem q6U(p:Pr)(v:PrV)(P:Nat->Prop)(w:World)(d x n:Int)(hp:PIn P w p v) :
  Calls prog 54 #[J4 (prC p v),.int .i64 d,.int .i64 x,.int .i64 n] w (j4r P w (z1T p d x n)):=by
 have hD:z1T p d x n=if z0o p=true then({ p with s:=(z0Q p.s d x n).1},(z0Q p.s d x n).2)else(p,2):=rfl
 generalize z1T p d x n=D at *;have HD:=J6 hD;clear hD;have i:=z1m hp;have L:=J6 (λ(z:World) (hb:Bl w z)=>z3A p v P z (hp.over hb));have V:=J6 (λ(z:World) (hb:Bl w z)=>hp.z2X hb 2);have HP:=J6 hp;clear hp;generalize z0o p=G at *
 go_enter func54,ntmps54
 go_upto_region 1 with fail
 change Code.wp prog _ _ _ ((w.alloc (J5 (prC p v) 58)).alloc (J5 zeroCells58 58));have C0:CAt 58 ((w.alloc (J5 (prC p v) 58)).alloc (J5 zeroCells58 58)) w.heap.size (prC p v):=(CAt.new _ w _).alloc _;have R0:CAt 58 ((w.alloc (J5 (prC p v) 58)).alloc (J5 zeroCells58 58)) (w.heap.size+1) zeroCells58:=CAt.new2 _ w _ _;have B0:Bl w ((w.alloc (J5 (prC p v) 58)).alloc (J5 zeroCells58 58)):=(znw w _).alloc (by simp) _
 generalize (w.alloc (J5 (prC p v) 58)).alloc (J5 zeroCells58 58)=w0 at *;have l0:=z0l C0 (z0a _ _);have t:=J6 (show _/\_/\_ from⟨C0,R0,B0⟩);clear C0 R0 B0;cases G
 ·have HR:=J6 (HD.out.trans (if_neg (by simp)))
  clear HD
  go_upto_region 2 with(go_at_call 67;refine(L.out _ t.out.2.2).mono ?_;rintro e w1⟨rfl,a⟩;clear l0)
  have H:=t.out.2.1.over a;have l1:=z0l (t.out.1.over a) (z0a _ _);have s1:=z0m H z0e (z0a p v) i;have M:=zbt t.out.2.2 a;have m:=J6 (show _/\_ from⟨H,M⟩);clear H M a i;go_wp2;exact z0W results54 m.out.1 z0e m.out.2 p v 2 D HR.out (V.out _ m.out.2) _ rfl rfl rfl
 ·have HR:=J6 (HD.out.trans (if_pos rfl));clear HD;obtain⟨Aw,Cw,bw,ow,N,Ws,-,-⟩:=HP.out.ws.q0q;have B:=λ(z:World) (hb:Bl w z)=>q8Q p.s Aw bw ow Cw d x n z (Ws.over hb);rw[<-N]at B;have E:=J6 B;have X:∃A n C,v.ws=J1 A n C:=HP.out.ws.one';clear B N Ws
  go_upto_region 3 with(go_at_call 67;refine(L.out _ t.out.2.2).mono ?_;rintro e w1⟨rfl,a⟩;clear l0)
  have Y:=t.out.1.over a;have H:=t.out.2.1.over a;have M:=zbt t.out.2.2 a;have m1:=z2y Y;have K:=J6 (show _/\_/\_ from⟨Y,H,M⟩);clear Y H M a t
  have hW:(z0Q p.s d x n).1.W=p.s.W:=by
   unfold z0Q
   repeat' split
   all_goals rfl
  have HW:=J6 hW
  have Q:Hid ((z0Q p.s d x n).2≠0->(z0Q p.s d x n).1=p.s):=λh=>by
   unfold z0Q at h⊢
   repeat' split
   all_goals first|rfl|(simp_all;done)
  clear hW;generalize z0Q p.s d x n=r at *;obtain⟨f,Z⟩:=r;dsimp only at HR E HW Q;have y:=z7b f X
  go_upto_region 4 with(go_at_call 68;refine(E.out _ K.out.2.2).mono ?_;rintro e k⟨rfl,l⟩;clear m1;have R:=z8u (CAt.new 43 k Z63) rfl (z0f f v.ws) y;unfold Z63 at R)
  change Code.wp prog _ _ _ ((k.alloc (J5 Z63 43)).setCells k.heap.size 0 (stC f v.ws).toList);have u:Bl k ((k.alloc (J5 Z63 43)).setCells k.heap.size 0 (stC f v.ws).toList):=z0b (Nat.le_refl _) _ _ _ (znw k _);have T3:CAt 43 ((k.alloc (J5 Z63 43)).setCells k.heap.size 0 (stC f v.ws).toList) k.heap.size (stC f v.ws):=(CAt.new 43 k Z63).z0L rfl;have S:=(K.out.1.over l).over u;have T:=(K.out.2.1.over l).over u;have U:=(zbt K.out.2.2 l).trans (u.mono (Nat.le_trans K.out.2.2.size l.size));have a0:w.heap.size<k.heap.size:=(K.out.1.over l).lt;clear R l u E;generalize (k.alloc (J5 Z63 43)).setCells k.heap.size 0 (stC f v.ws).toList=w3 at *
  by_cases he:Z=0
  ·subst he;have mS:=z7D T3 (z0f _ _);have sS:=z3g S (z0a _ _) (z0f f v.ws) y;have C4:=S.z1q f v.ws;have R4:=T.others (c:=w.heap.size) (o:=2) (by omega) (stC f v.ws).toList
   have B4:=z0b (b:=w.heap.size) (Nat.le_refl _) (stC f v.ws).toList 2 _ U
   have N4:PIn (New P w 2) (w3.setCells w.heap.size 2 (stC f v.ws).toList) { p with s:=f} { v with ws:=v.ws}:=by
    have:=(V.out _ U).sets (g:=w.heap.size) (z4d (j:=0) (by omega)) 2 (stC f v.ws).toList
    exact⟨by rw[show(wsL f.W)=wsL p.s.W by rw[HW.out]];exact this.ws,this.set,this.lk,this.q⟩
   have l4:=z0l C4 (z0a _ _);have s4:=z0m R4 z0e (z0a { p with s:=f} { v with ws:=v.ws}) (z1m N4)
   have m:=J6 (show _/\_/\_ from⟨R4,B4,N4⟩);clear S T U C4 R4 B4 N4 T3 i
   go_upto_region 7 with fail
   generalize w3.setCells w.heap.size 2 (stC f v.ws).toList=w4 at *;clear mS sS;go_wp2;exact z0W results54 m.out.1 z0e m.out.2.1 _ _ 0 D HR.out m.out.2.2 _ rfl rfl rfl
  ·have l3:=z0l S (z0a _ _);have s3:=z0m T z0e (z0a p v) i;have a1:(Z != 0)=true:=by simpa using he
   have m:=J6 (show _/\_ from⟨T,U⟩);have F:f=p.s:=Q.out he;subst F;clear S T U T3 i;go_wp2;exact z0W results54 m.out.1 z0e m.out.2 p v Z D HR.out (V.out _ m.out.2) _ rfl rfl rfl
end Pv
namespace Pv
open Go.RowKit
theorem q7y{s:St}{x:Nat}(a:z0k s=true)(b:x<6)(hd:(s.V x).dead=false):z8H s x=(z5m s x true true,0):=by
 unfold z8H;rw[if_pos (z3Y a b),Int.toNat_natCast,if_neg (by simp[hd])]
theorem q5C(s:St)(x:Nat)(h:Int):((z1Y s x h 50).V x).dead=(s.V x).dead:=by
 show(z1Q s.V x _ x).dead=_
 rw[z6S];rfl
theorem Rep.sets{P:Nat->Prop}{w:World}{v:Value}{sz bts:Nat}{cs:List Value}(h:Rep P w v sz bts cs){g:Nat}(c:¬ P g)(o:Nat)(a:List Value):Rep P (w.setCells g o a) v sz bts cs:=h.keep λb hb _=>z1l (show b≠g from λe=>c (by rw[<-e];exact hb)) a o w
attribute [local go_sem ↓] z1P z0T z0F z1H
theorem z8f(g:Nat)(p:Pr)(v:PrV)(P:Nat->Prop)(w:World)(x:Nat)(h:Int)(l:CAt 58 w g (prC p v))(hp:Rep P w v.ws 8 64 (wsL p.s.W))(n:z0k p.s=true)(o:x<6)(hd:(p.s.V x).dead=false) :
  Calls prog 74 #[J2 (some ⟨g,0,none⟩),J I (x:Int),J I h] w λe w'=>∃u,e=.returned (.tuple #[])/\CAt 58 w' g (prC { p with s:=z8x p.s x h} { v with ws:=u})/\Rep (λb=>w.heap.size<=b) w' u 8 64 (wsL (z8x p.s x h).W)/\Alt g w w':=by
 have G:=z2y l;have H:=l.lt;have D:=J6 (j2B hp x h n o);have k:=q4v n (v:=x) o h (f:=50) (by decide)
 have i:((z1Y p.s x h 50).V x).dead=false:=(q5C _ _ _).trans hd;have E:z8H (z1Y p.s x h 50) x=(z8x p.s x h,0):=q7y k.good o i;have q:Hid ((z8x p.s x h).W=(z1Y p.s x h 50).W):=rfl;generalize z8x p.s x h=s2 at *;generalize z1Y p.s x h 50=s1 at *;have r:=J6 l;have F:=J6 E;clear l hp n hd E k i
 go_enter func74,ntmps74
 go_upto_region 1 with(go_at_call 107;refine D.out.mono ?_;rintro e w1⟨u,y,rfl,hu,a⟩;clear G;have t:=z3g (r.out.over a) (z0a _ _) (z0f s1 u) (z7b s1 hu.one'))
 have z:=(r.out.over a).z1q s1 u;have A:=hu.sets (g:=g) (by show ¬ _<=g;omega) 2 (stC s1 u).toList
 have B:=Alt.sets (stC s1 u).toList (Alt.of (g:=g) a) 2;clear t a;generalize w1.setCells g 2 (stC s1 u).toList=w2 at *;have K:=z2y z;have d:=j6W A (x:Int);rw[F.out]at d;have C:=J6 d;have m:=J6 (show _/\_/\_ from⟨z,A,B⟩);have j:=z7b s2 hu.one';have L:=B.size;clear z A B d hu r F D
 go_wp2_with (go_at_call 108;refine C.out.mono ?_;rintro e Q⟨rfl,c⟩;clear K;have M:=z3g (m.out.1.over c) (z0a _ _) (z0f s2 u) j)
 go_end0;have N:=(m.out.1.over c).z1q s2 u;refine⟨u,rfl,N,?_,m.out.2.2.trans (Alt.sets (stC s2 u).toList (Alt.of (g:=g) c) 2)⟩;rw[q.out];exact(m.out.2.1.over c).sets (by show ¬ _<=g;omega) 2 _
theorem q7R(p:Pr)(v:PrV)(P:Nat->Prop)(w:World)(x h:Int)(hp:PIn P w p v) :
  Calls prog 57 #[J4 (prC p v),.int .i64 x,.int .i64 h] w (j4r P w (z3R p x h)):=by
 have T:z3R p x h=if z0o p=true then if isV x=true then if 1<=h/\h<=p.h then if(p.s.V x.toNat).dead=true then(p,15)else({ p with s:=z8x p.s x.toNat h},0)else(p,2)else(p,4)else(p,2):=rfl
 generalize z3R p x h=D at *;have HD:=J6 T;clear T;have d:=z1m hp;have k:=J6 (λ(t:World) (hb:Bl w t)=>z3A p v P t (hp.over hb));have U:=J6 (λ(t:World) (hb:Bl w t)=>hp.z2X hb 2);have HP:=J6 hp;clear hp
 have n:Hid (z0o p=true->z0k p.s=true):=λh=>by
  unfold z0o at h;simp only[Bool.and_eq_true]at h;exact h.1.1.1.1.1.1.1
 generalize z0o p=G at *
 go_enter func57,ntmps57
 go_upto_region 1 with fail
 change Code.wp prog _ _ _ ((w.alloc (J5 (prC p v) 58)).alloc (J5 zeroCells58 58));have C0:CAt 58 ((w.alloc (J5 (prC p v) 58)).alloc (J5 zeroCells58 58)) w.heap.size (prC p v):=(CAt.new _ w _).alloc _;have R0:CAt 58 ((w.alloc (J5 (prC p v) 58)).alloc (J5 zeroCells58 58)) (w.heap.size+1) zeroCells58:=CAt.new2 _ w _ _;have B0:Bl w ((w.alloc (J5 (prC p v) 58)).alloc (J5 zeroCells58 58)):=(znw w _).alloc (by simp) _
 generalize (w.alloc (J5 (prC p v) 58)).alloc (J5 zeroCells58 58)=w0 at *;have W:=z0l C0 (z0a _ _);have i:=J6 (show _/\_/\_ from⟨C0,R0,B0⟩);clear C0 R0 B0;have z:Hid (∀A,D=(p,A)->∀(f:Func) (act:Act) (wq:World),CAt 58 wq (w.heap.size+1) zeroCells58->Bl w wq->f.results=#[.cell 6 58,.tmp 7]->act.tmps.getD 6 undef=J2 (some ⟨w.heap.size+1,0,none⟩)->act.tmps.getD 7 undef=.int .i64 A->act.defers=[]->bodyPost prog f (j4r P w D) Exit.ret act (wq.setCells (w.heap.size+1) 0 (prC p v).toList)):=λA he f act wq R B h1 h2 h3 h4=>z0W h1 R z0e B p v A D he (U.out _ B) act h2 h3 h4
 by_cases C:G=true
 ·subst C;have H:=n.out rfl;have HR:=J6 (HD.out.trans (if_pos rfl));clear HD n
  go_upto_region 3 with(go_at_call 67;refine(k.out _ i.out.2.2).mono ?_;rintro e w1⟨rfl,a⟩;clear W)
  have E:=i.out.1.over a;have l:=i.out.2.1.over a;have o:=zbt i.out.2.2 a;have X:=z0l E (z0a _ _);have Y:=z0m l z0e (z0a p v) d;obtain⟨⟨a0,-⟩,-⟩:=z3P E;have c:=J6 (show _/\_/\_ from⟨E,l,o⟩);clear E l o a i k
  by_cases r:isV x=true
  ·obtain⟨y,rfl,Z⟩:=j9d r;have HR:=J6 (HR.out.trans (if_pos r));have y0:(0:Int)<=(y:Int):=by omega
   have y6:(y:Int)<6:=by omega
   by_cases K:1<=h/\h<=p.h
   ·have HR:=J6 (HR.out.trans (if_pos K));obtain⟨h1,h2⟩:=K;have L:=(q2r c.out.1 Z).2.2;rw[Int.toNat_natCast]at HR;cases g:(p.s.V y).dead
    ·rw[g]at L;have HR:=J6 (HR.out.trans (if_neg (by simp[g])))
     have M:=J6 (z8f w.heap.size p v P w1 y h c.out.1 (HP.out.ws.over c.out.2.2) H Z g)
     go_upto_region 10 with(first
      | (go_at_call 73;refine(z3J _ _).mono ?_;rintro e w'⟨rfl,rfl⟩)
      | (go_at_call 74;refine M.out.mono ?_;rintro e w2⟨u,rfl,C2,U2,F⟩;clear X Y a0 L))
     have N:=F.cat (b:=w.heap.size+1) (by omega) c.out.2.1
     have B2:=c.out.2.2.trans (F.below (Nat.le_refl _) c.out.2.2.size);have a1:=c.out.2.1.lt
     have Q:PIn (New P w 2) w2 { p with s:=z8x p.s y h} { v with ws:=u}:=by
      have:=F.pin (z4d (j:=0) (by omega)) (U.out _ c.out.2.2)
      exact⟨U2.mono λb _ hb=>.inr (by have:w1.heap.size<=b:=hb;omega),this.set,this.lk,this.q⟩
     have l2:=z0l C2 (z0a _ _);have s2:=z0m N z0e (z0a { p with s:=z8x p.s y h} { v with ws:=u}) (z1m Q)
     have m:=J6 (show _/\_/\_ from⟨N,B2,Q⟩);clear C2 U2 F N B2 Q c d;go_wp2;exact z0W results57 m.out.1 z0e m.out.2.1 _ _ 0 D HR.out m.out.2.2 _ rfl rfl rfl
    ·rw[g]at L;have HR:=J6 (HR.out.trans (if_pos g))
     go_wp2_with (go_at_call 73;refine(z3J _ _).mono ?_;rintro e w'⟨rfl,rfl⟩)
     exact z.out 15 HR.out _ _ _ c.out.2.1 c.out.2.2 results57 rfl rfl rfl
   ·have HR:=J6 (HR.out.trans (if_neg K));have S:h<1∨(1<=h/\p.h<h):=by omega
    rcases S with h1|⟨h1,h2⟩
    all_goals
     go_wp2_with (go_at_call 73;refine(z3J _ _).mono ?_;rintro e w'⟨rfl,rfl⟩)
     exact z.out 2 HR.out _ _ _ c.out.2.1 c.out.2.2 results57 rfl rfl rfl
  ·have HR:=J6 (HR.out.trans (if_neg r));have r:isV x=false:=by simpa using r
   go_wp2_with (go_at_call 73;refine(z3J _ _).mono ?_;rintro e w'⟨rfl,rfl⟩)
   exact z.out 4 HR.out _ _ _ c.out.2.1 c.out.2.2 results57 rfl rfl rfl
 ·have C:G=false:=by simpa using C
  subst C;have HR:=J6 (HD.out.trans (if_neg (by simp)))
  clear HD
  go_upto_region 2 with(go_at_call 67;refine(k.out _ i.out.2.2).mono ?_;rintro e w1⟨rfl,a⟩;clear W)
  have l:=i.out.2.1.over a;have X:=z0l (i.out.1.over a) (z0a _ _);have Y:=z0m l z0e (z0a p v) d;have o:=zbt i.out.2.2 a;have m:=J6 (show _/\_ from⟨l,o⟩);clear l o a d;go_wp2;exact z.out 2 HR.out _ _ _ m.out.1 m.out.2 results57 rfl rfl rfl
end Pv
end Go.Proofs.YtddlhnoedldidaaGreat
