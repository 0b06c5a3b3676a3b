/- Parts of the proof. -/
import Derived.Test.YtmopekkhmhhcaaaGreatFL
import Derived.Test.YtmopekkhmhhcaaaGreatFK4
import Derived.Test.YtmopekkhmhhcaaaGreatFK40
set_option maxRecDepth 100000
set_option maxHeartbeats 16000000
namespace Go.Proofs.YtmopekkhmhhcaaaGreat
open Go.Proofs.Tryz
namespace Wd
open Go.RowKit Pv Kc
structure Hd where
 h:Int
 t:Int
 s:Int
 g:Int
structure Wo where
 ck:Int
 dn:Int
 p:Pr
 c:Nat->Cs
 hp:Nat->Hd
 hc:Nat->Hd
def z2L(f:Nat->Cs)(i:Nat)(x:Cs):Nat->Cs:=fun k=>if k=i then x else f k
def q6V(f:Nat->Hd)(i:Nat)(x:Hd):Nat->Hd:=fun k=>if k=i then x else f k
def hd0:Hd:=⟨0,0,0,0⟩
def csN:Cs:=⟨false,false,0,0,0,[],[],[],fun _=>false,⟨[],[],0,false⟩,0,0,0,0⟩
def z7h:Wo:=⟨0,0,newP,fun _=>csN,fun _=>hd0,fun _=>hd0⟩
def atP(x:Wo)(d:Dd):Wo×Int:=
 if d.k=1 then ({ x with p:=(z2O x.p d.d d.v d.n).1 },(z2O x.p d.d d.v d.n).2)
 else if d.k=2 then ({ x with p:=(z1J x.p d.d d.v d.n x.ck).1 },(z1J x.p d.d d.v d.n x.ck).2)
 else if d.k=3 then ({ x with p:={ x.p with s:=(z1S x.p.s d.v).1 } },(z1S x.p.s d.v).2)
 else ({ x with p:=(z4u x.p d.v d.n).1 },(z4u x.p d.v d.n).2)
def z6s(x:Wo)(n:Int):Wo×Int×Int:=if n<1∨1099511627736 - x.ck<n then (x,0,2) else ({ x with ck:=x.ck+n },x.ck+n,0)
def z5a(p:Pr)(c:Nat->Cs)(i:Nat):Hd:=⟨p.h,p.t,((p.L i).out.S.length:Int),(c i).out.g⟩
def z4G(x:Wo):Wo×Int×Int:=
 if (endP x.p x.ck).2.2=0 then ({ x with p:=(endP x.p x.ck).1,hp:=z5a (endP x.p x.ck).1 x.c },((endP x.p x.ck).2.1.length:Int),0) else (x,0,(endP x.p x.ck).2.2)
def z3u(x:Wo)(c:Int):Wo×Int×Int:=
 if isC c=true then
  if (z0X x.p c).2=0 then ({ x with p:=(z0X x.p c).1,c:=z2L x.c c.toNat (z2M (z0X x.p c).1.set (z0X x.p c).1.h x.ck),hp:=q6V x.hp c.toNat hd0,hc:=q6V x.hc c.toNat hd0 },(z0X x.p c).1.h,0) else (x,0,(z0X x.p c).2)
 else (x,0,4)
def z8z(c:Cs)(g:Int):Hd:=⟨c.h,c.t,(c.out.S.length:Int),g⟩
def z5e(x:Wo)(i:Nat):Wo×Int:=
 if (z9J (x.c i) x.ck).2=0 then ({ x with c:=z2L x.c i (z9J (x.c i) x.ck).1,hc:=q6V x.hc i (z8z (z9J (x.c i) x.ck).1 (x.p.L i).out.g) },0) else (x,(z9J (x.c i) x.ck).2)
def j7K(x:Lk)(h:Hd):Lk:={ x with h0:=h.h,h1:=h.t,h2:=h.s,h3:=h.g }
def y0w(x:Cs)(h:Hd):Cs:={ x with h0:=h.h,h1:=h.t,h2:=h.s,h3:=h.g }
def z5d(x:Wo)(i:Nat)(b:Bool):Wo:=if b=true then { x with p:={ x.p with L:=z0Q x.p.L i (j7K (x.p.L i) (x.hc i)) } } else { x with c:=z2L x.c i (y0w (x.c i) (x.hp i)) }
def q2N(x:Wo)(i:Nat)(d:Dd):Wo×Int:=
 if d.k=11 then ({ x with c:=z2L x.c i (z3z (x.c i) d.v x.ck).1 },(z3z (x.c i) d.v x.ck).2)
 else ({ x with c:=z2L x.c i (z1d (x.c i) d.v d.n x.ck).1 },(z1d (x.c i) d.v d.n x.ck).2)
def z1j(x:Wo)(i:Nat)(b:Bool):Ln.Line:=if b=true then (x.c i).out else (x.p.L i).out
def z4a(l:Ln.Line):ByteArray:=if (l.S.length:Int)<=l.g then ByteArray.empty else l.S.getD l.g.toNat ByteArray.empty
def q2i(s:ByteArray):ByteArray:=Cd.encS 3 1 0 ((s.size:Int)+1) [] []
def z0G(x:Wo)(i:Nat)(b f:Bool):ByteArray:=if f=true then q2i (z4a (z1j x i b)) else z4a (z1j x i b)
def q2f(x:Wo)(i:Nat)(b:Bool):Int:=if b=true then (x.p.L i).h2 else (x.c i).h2
def z1N(x:Wo)(i:Nat)(b:Bool)(s:ByteArray):Wo×Int:=
 if b=true then ({ x with p:=(z3L x.p i (Cd.bs s)).1 },(z3L x.p i (Cd.bs s)).2) else ({ x with c:=z2L x.c i (z3d (x.c i) (Cd.bs s)).1 },(z3d (x.c i) (Cd.bs s)).2)
def z1M(x:Wo)(i:Nat)(b:Bool)(l:Ln.Line):Wo:=
 if b=true then { x with c:=z2L x.c i { x.c i with out:=l } } else { x with p:={ x.p with L:=z0Q x.p.L i { x.p.L i with out:=l } } }
def z9K(x:Wo)(i:Nat)(b f:Bool):Wo×Int×Int:=
 if Ln.z4v (z1j x i b) ((z1j x i b).g+1) (z0G x i b f) (q2f x i b) x.ck=0 then
  if (z1N x i b (z0G x i b f)).2=0 then (z1M (z1N x i b (z0G x i b f)).1 i b (Ln.z4Z (z1j x i b) ((z1j x i b).g+1) (z0G x i b f) (q2f x i b) x.ck),(z1j x i b).g+1,0)
  else ((z1N x i b (z0G x i b f)).1,0,(z1N x i b (z0G x i b f)).2)
 else (x,0,Ln.z4v (z1j x i b) ((z1j x i b).g+1) (z0G x i b f) (q2f x i b) x.ck)
def q1n(x:Wo)(i:Nat)(b:Bool):Int:=if b=true then (x.c i).h1 else (x.p.L i).h1
def j3N(x:Wo)(i:Nat)(b:Bool):Int:=if b=true then (x.c i).h3 else (x.p.L i).h3
def q3C(x:Wo)(i:Nat):Wo:={ x with p:=z0u x.p i,c:=z2L x.c i (z1o (x.c i)) }
def z9E(x:Wo)(i:Nat)(b:Bool)(k:Int):Wo×Int:=
 if Ln.z6b (z1j x i b) k (q1n x i b) (j3N x i b)=0 then (q3C (z1M x i b (Ln.z7d (z1j x i b) k (q1n x i b) (j3N x i b))) i,0)
 else (x,Ln.z6b (z1j x i b) k (q1n x i b) (j3N x i b))
def z5b(x:Wo)(i:Nat)(d:Dd):Wo×Int×Int:=
 if d.k=7 then ((z5e x i).1,0,(z5e x i).2)
 else if d.k=8 then (z5d x i d.b,0,0)
 else if d.k=9 then z9K x i d.b d.f
 else if d.k=10 then ((z9E x i d.b d.n).1,0,(z9E x i d.b d.n).2)
 else ((q2N x i d).1,0,(q2N x i d).2)
def z2Q(x:Wo)(d:Dd):Wo×Int×Int:=
 if d.k=1∨d.k=2∨d.k=3∨d.k=13 then ((atP x d).1,0,(atP x d).2)
 else if d.k=5 then z6s x d.n
 else if d.k=6 then z4G x
 else if d.k=4 then z3u x d.c
 else if d.k=7∨d.k=8∨d.k=11∨d.k=12∨d.k=9∨d.k=10 then
  if isC d.c=true/\(x.c d.c.toNat).on=true then z5b x d.c.toNat d else (x,0,4)
 else (x,0,3)
def z1O(x:Wo):Wo:={ x with dn:=x.dn+1 }
def doW(x:Wo)(d:Dd):Wo×Int×Int:=
 if 600<=x.dn then (x,6,0)
 else ((z2Q (z1O x) d).1,(z2Q (z1O x) d).2.2,if (z2Q (z1O x) d).2.2=0 then (z2Q (z1O x) d).2.1 else 0)
end Wd
namespace Pv
open Go.RowKit
theorem q3P{s:St}(hg:z0i s=true):s.W.length * 64<=140737488351232:=by
 have:=((z0O _).1 hg).2.2.2.1;omega
def q0k(v:Value):Sem Value:=Instr.loadAt 57 v
theorem z0K(v:Value):Instr.loadAt 57 v=q0k v:=rfl
def z5P(a v:Value):Sem Unit:=Instr.storeAt 57 a v
theorem z0q(a v:Value):Instr.storeAt 57 a v=z5P a v:=rfl
def q1T(a v:Value):Sem Unit:=Instr.storeAt 43 a v
theorem z1y(a v:Value):Instr.storeAt 43 a v=q1T a v:=rfl
theorem z0k{w:World}{g:Nat}{cs:Array Value}(h:CAt 57 w g cs)(hs:cs.size=97):(q0k (.pointer (some ⟨g,0,none⟩))).run prog w=.ok (.agg cs) w:=by
 have:=run_loadAt_mid (P:=prog) w g 0 57 cs.toList _ h.range underlying57 rfl (by rw[z3l];simp[hs])
 change (Instr.loadAt 57 _).run prog w=_
 simpa using this
theorem z0l{w:World}{g:Nat}{zs cs:Array Value}(h:CAt 57 w g zs)(hz:zs.size=97)(hs:cs.size=97)(h1:cs.all (·.oneCell')=true):(z5P (.pointer (some ⟨g,0,none⟩)) (.agg cs)).run prog w=.ok () (w.setCells g 0 cs.toList):=
 run_storeAt_mid (P:=prog) w g 0 57 cs (h.there 0 _ (by rw[hz,hs];omega)) (by rw[z3l,hs]) h1
theorem z2Z{w:World}{g:Nat}{cs ds:Array Value}(h:CAt 57 w g cs)(hc:cs.size=97)(hs:ds.size=63)(h1:ds.all (·.oneCell')=true):(q1T (.pointer (some ⟨g,2,none⟩)) (.agg ds)).run prog w=.ok () (w.setCells g 2 ds.toList):=
 run_storeAt_mid (P:=prog) w g 2 43 ds (h.there 2 _ (by rw[hc,hs];omega)) (by rw[z0y,hs]) h1
theorem z7Y{w:World}{g:Nat}{cs ds:Array Value}(h:CAt 43 w g cs)(hc:cs.size=63)(hs:ds.size=63)(h1:ds.all (·.oneCell')=true):(q1T (.pointer (some ⟨g,0,none⟩)) (.agg ds)).run prog w=.ok () (w.setCells g 0 ds.toList):=
 run_storeAt_mid (P:=prog) w g 0 43 ds (h.there 0 _ (by rw[hc,hs];omega)) (by rw[z0y,hs]) h1
theorem z7v{w:World}{g:Nat}{cs:Array Value}(h:CAt 43 w g cs)(hc:cs.size=63):(z8M (.pointer (some ⟨g,0,none⟩))).run prog w=.ok (.agg cs) w:=SAt.z8M h hc
theorem CAt.z1l{w:World}{g:Nat}{p:Pr}{v:PrV}(h:CAt 57 w g (prC p v))(s:St)(u:Value):CAt 57 (w.setCells g 2 (stC s u).toList) g (prC { p with s:=s } { v with ws:=u }):=by
 have:=CAt.sets (stC s u).toList 2 w _ h
 rwa [show spl (prC p v) 2 (stC s u).toList=prC { p with s:=s } { v with ws:=u } from j0V [.int .i64 p.h,.int .i64 p.t] (stC p.s v.ws).toList _ (stC s u).toList rfl]at this
theorem q1i{w:World}{g:Nat}{p:Pr}{v:PrV}(h:CAt 57 w g (prC p v)){y:Nat}(hy:y<6):w.cell? ⟨g,9+y * 5,none⟩=some (.int .i64 (p.s.V y).tok)/\w.cell? ⟨g,9+y * 5+3,none⟩=some (.bool (p.s.V y).jail)/\w.cell? ⟨g,9+y * 5+4,none⟩=some (.bool (p.s.V y).dead):=by
 rcases (show y=0∨y=1∨y=2∨y=3∨y=4∨y=5 by omega) with rfl | rfl | rfl | rfl | rfl | rfl <;> exact⟨h.cell _,h.cell _,h.cell _⟩
theorem Alt.pin{g:Nat}{w w':World}(h:Alt g w w'){P:Nat->Prop}(hP:¬ P g){p:Pr}{v:PrV}(hp:PIn P w p v):PIn P w' p v:=hp.keep fun b hb hlt=>h.block b hlt (fun e=>hP (e ▸ hb))
def j4r(P:Nat->Prop)(w:World)(r:Pr×Int)(e:Ending)(w':World):Prop:=∃ v',e=.returned (.tuple #[.agg (prC r.1 v'),.int .i64 r.2])/\PIn (New P w 2) w' r.1 v'/\Below w.heap.size w w'
theorem q0c{fn:Func}{p q:Tmp}(h:fn.results=#[.cell p 57,.tmp q])(tmps:Array Value)(w:World)(g:Nat)(cs:Array Value)(v:Value)
  (hp:tmps.getD p undef=.pointer (some ⟨g,0,none⟩)) (hq:tmps.getD q undef=v) (hg:CAt 57 w g cs) (hsz:cs.size=97) :
  (results fn tmps).run prog w=.ok (.tuple #[.agg cs,v]) w:=by
 have hp':tmps[p]?.getD undef=.pointer (some ⟨g,0,none⟩):=by simpa using hp
 have hq':tmps[q]?.getD undef=v:=by simpa using hq
 simp[results,h,hp',hq',asAddr,run_loadVar_row w g 57 57 cs (0,0) _ hg underlying57 rfl (by rw[z3l,hsz])]
theorem PIn.sets{P:Nat->Prop}{w:World}{p:Pr}{v:PrV}(h:PIn P w p v){g:Nat}(hg:¬ P g)(o:Nat)(vs:List Value):PIn P (w.setCells g o vs) p v:=h.keep fun b hb _=>z1k (show b≠g from fun e=>hg (by rw[← e];exact hb)) vs o w
theorem PIn.z2T{P:Nat->Prop}{w w':World}{p:Pr}{v:PrV}(h:PIn P w p v)(hb:Below w.heap.size w w')(k:Nat):PIn (New P w k) w' p v:=(h.mono (P':=fun b=>New P w k b/\b<w.heap.size) fun _ hl hp=>⟨.inl ⟨hp,hl⟩,hl⟩).over hb |>.mono fun _ _ h=>h.1
theorem z0P{f:Func}{t q:Tmp}(hres:f.results=#[.cell t 57,.tmp q]){P:Nat->Prop}{w wq:World}{zs:Array Value}(R:CAt 57 wq (w.heap.size+1) zs)(hz:zs.size=97)(H:Below w.heap.size w wq)(p':Pr)(v':PrV)(er:Int)(r:Pr×Int)(hr:r=(p',er))(hp:PIn (New P w 2) wq p' v')(act:Act)
  (h8:act.tmps.getD t undef=.pointer (some ⟨w.heap.size+1,0,none⟩)) (h9:act.tmps.getD q undef=.int .i64 er) (hd:act.defers=[]) :
  bodyPost prog f (j4r P w r) Exit.ret act (wq.setCells (w.heap.size+1) 0 (prC p' v').toList):=by
 subst hr;have R3:=R.z0H (ds:=prC p' v') (by rw[hz];rfl)
 exact bodyPost_ret (v:=.tuple #[.agg (prC p' v'),.int .i64 er]) (q0c hres _ _ _ _ _ h8 h9 R3 rfl) hd ⟨v',rfl,hp.sets (z3P (by omega)) _ _,z0b (Nat.le_succ _) _ _ _ H⟩
theorem j8P{P:Nat->Prop}{w:World}{A:Option Addr}{C b o:Nat}{W:List Wt}(h:z2A w A b o W)(hC:W.length<=C)(h0:0<W.length)(hP:P b):Rep P w (.slice A W.length C) 8 64 (wsL W):=by
 have hA:A=some ⟨b,o,none⟩:=h.adr h0;refine⟨A,W.length,C,rfl,z1D W,h.len,⟨fun e=>(by rw[hA]at e;cases e),hC⟩,fun _=>⟨b,o,hA,hP,h.lt h0,fun j u hu=>?_⟩⟩
 have hj:j<W.length * 8:=by have:=(List.getElem?_eq_some_iff.1 hu).1;rwa [z1D]at this
 have hi:j / 8<W.length:=by omega
 have h8:j % 8<8:=Nat.mod_lt _ (by omega)
 have ex:W[j / 8]?=some W[j / 8]:=List.getElem?_eq_getElem hi;have e:=z4B W (j / 8) W[j / 8] (j % 8) ex h8;rw[show j / 8 * 8+j % 8=j by omega]at e
 rw[e]at hu;have c:=h.cell (j / 8) W[j / 8] ex;generalize W[j / 8]=x at *;have ho:o+j=o+j / 8 * 8+j % 8:=by omega
 rw[ho];generalize o+j / 8 * 8=k at *;generalize j % 8=m at *;obtain⟨c0,c1,c2,c3,c4,c5,c6,c7⟩:=c
 match m,h8,hu with
 | 0,_,hu=>cases hu;exact c0
 | 1,_,hu=>cases hu;exact c1
 | 2,_,hu=>cases hu;exact c2
 | 3,_,hu=>cases hu;exact c3
 | 4,_,hu=>cases hu;exact c4
 | 5,_,hu=>cases hu;exact c5
 | 6,_,hu=>cases hu;exact c6
 | 7,_,hu=>cases hu;exact c7
end Pv
namespace Pv
open Go.RowKit
theorem q0S:∀ l:List (Int×Int),pwL l=pwC l
 | []=>rfl
 | x :: r=>by show _ :: _ :: pwL r=_;rw[q0S r];rfl
theorem Rep.y1i{w:World}{B:Nat}{v:Value}{l:List (Int×Int)}(h:z6h w B v l)(hl:l.length<=8796093021952):Rep (fun b=>B<=b) w v 2 16 (pwC l):=by
 have h':w.ownsRow B 68 2 v l.length (pwL l):=h;rw[q0S]at h';exact Rep.own h' (by omega)
theorem Rep.y1q{w:World}{B:Nat}{v:Value}{l:List (Int×Int)}(h:y0Z w B v l)(hl:l.length<=8796093021952):Rep (fun b=>B<=b) w v 2 16 (pwC l):=by
 rcases h with⟨rfl,rfl⟩ | ⟨g,cap,rfl,hB,⟨cur,h1,h2⟩,h3,h4⟩
 ·exact Rep.nil _ _ _ _
 ·refine⟨_,l.length,cap,rfl,z0c l,by omega,⟨fun h=>(by cases h),h3⟩,fun _=>⟨g,0,rfl,hB,(Array.getElem?_eq_some_iff.1 h1).1,fun j u hu=>?_⟩⟩
  have hj:j<l.length * 2:=by have:=(List.getElem?_eq_some_iff.1 hu).1;rwa [z0c]at this
  have hi:j / 2<l.length:=by omega
  obtain⟨a1,a2⟩:=z2h l (j / 2) hi;have ex:l[j / 2]?=some (l.getD (j / 2) (0,0)):=by simp[List.getD,hi]
  obtain⟨b1,b2⟩:=h2 (j / 2) _ ex;rw[Nat.zero_add];simp only[World.cell?,h1]
  rcases (show j=j / 2 * 2∨j=j / 2 * 2+1 by omega) with e | e
  ·rw[← e]at a1 b1;rw[a1]at hu;cases hu;simpa using b1
  ·rw[← e]at a2 b2;rw[a2]at hu;cases hu;simpa using b2
theorem Rep.pin{P:Nat->Prop}{w:World}{v:Value}{l:List (Int×Int)}(h:Rep P w v 2 16 (pwC l)):∃ ao c b off,v=.slice ao l.length c/\Df.PIn w l ao b off:=by
 obtain⟨A,C,e,hs,-,hc,-⟩:=h.open (z0c _) (by decide)
 rcases Nat.eq_zero_or_pos l.length with h0 | h0
 ·exact⟨A,C,0,0,e,by omega,fun h=>by omega,fun i hi=>by omega⟩
 ·obtain⟨b,off,e2,-,-,hcell⟩:=hc h0;exact⟨A,C,b,off,e,by omega,fun _=>e2,fun i hi=>⟨by rw[hcell _ _ (z2h l i hi).1],by rw[Nat.add_assoc,hcell _ _ (z2h l i hi).2]⟩⟩
theorem z2y.rep{B:Nat}{w:World}{A:Option Addr}{C:Nat}{W:List Wt}(h:z2y B w A C W)(hl:W.length * 64<=140737488351232):Rep (fun b=>B<=b) w (.slice A W.length C) 8 64 (wsL W):=Rep.own h hl
theorem q1I.rep{B:Nat}{w:World}{A:Option Addr}{C:Nat}{l:List Int}(h:q1I B w A C l)(hl:l.length * 8<=140737488351232):Rep (fun b=>B<=b) w (.slice A l.length C) 1 8 (inC l):=Rep.own h hl
theorem q9i{s:St}{d v n:Int}{y:Wt}(h:(z0V s d v n y).2=0):0<(z0V s d v n y).1.W.length:=by
 by_cases a:z0U s d v=0
 case neg=>rw[z6j a]at h;exact absurd h a
 by_cases h1:(decide (0<n) && inA n)=true/\0<=y.hei/\0<=y.due
 case neg=>rw[q3b a h1]at h;exact absurd h (by simp)
 by_cases h2:n<=s.S d.toNat v.toNat
 case neg=>rw[q2L a h1 h2]at h;exact absurd h (by simp)
 by_cases h3:s.W.length<60/\s.next<1125899906842624
 case neg=>rw[q2w a h1 h2 h3]at h;exact absurd h (by simp)
 by_cases h4:woE (s.V v.toNat) n=0
 case neg=>rw[q2h a h1 h2 h3 h4]at h;exact absurd h h4
 by_cases h5:(z0W s.b (woN (s.V v.toNat) n)).2=0
 case neg=>rw[q2d a h1 h2 h3 h4 h5]at h;exact absurd h h5
 rw[q2Y a h1 h2 h3 h4 h5]
 show 0<(s.W ++ [_]).length
 simp
section
variable {P:Nat->Prop} {w:World} {s:St} {u:Value} (hu:Rep P w u 8 64 (wsL s.W))
include hu
theorem j6p(v:Int):Calls prog 177 #[.agg (stC s u),.int .i64 v] w fun e w'=>e=.returned (.tuple #[.agg (stC (q0x s v).1 u),.int .i64 (q0x s v).2])/\Below w.heap.size w w':=by
 obtain⟨A,C,b,o,rfl,W,-,-⟩:=hu.q4n;exact q9O s A b o C v w W
theorem j6d(v:Int):Calls prog 113 #[.agg (stC s u),.int .i64 v] w fun e w'=>e=.returned (.tuple #[.agg (stC (z8C s v).1 u),.int .i64 (z8C s v).2])/\Below w.heap.size w w':=by
 obtain⟨A,C,b,o,rfl,W,-,-⟩:=hu.q4n;exact q7n s A b o C v w W
theorem j3B(d v n:Int)(y:Wt):Calls prog 78 #[.agg (stC s u),.int .i64 d,.int .i64 v,.int .i64 n,.agg #[.int .i64 y.num,.int .i64 y.d,.int .i64 y.v,.int .i64 y.amt,.int .i64 y.hei,.int .i64 y.due,.int .i64 y.h0,.int .i64 y.h1]] w fun e w'=>∃ A m C,e=.returned (.tuple #[.agg (stC (z0V s d v n y).1 (.slice A m C)),.int .i64 (z0V s d v n y).2])/\((z0V s d v n y).2=0->Rep (New P w 0) w' (.slice A m C) 8 64 (wsL (z0V s d v n y).1.W))/\Below w.heap.size w w':=by
 obtain⟨A,C,b,o,e1,W,-,hP⟩:=hu.q4n;have hroom:=(hu.room e1).1;subst e1
 obtain⟨b',o',W',hB'⟩:∃ b' o',z2A w A b' o' s.W/\(New P w 0 b'):=by
  by_cases hs:0<s.W.length
  ·exact⟨b,o,W,.inl ⟨hP hs,W.lt hs⟩⟩
  ·exact⟨w.heap.size,0,⟨fun h=>absurd h hs,W.len,fun i x hx=>absurd (List.getElem?_eq_some_iff.1 hx).1 (by omega)⟩,.inr (by omega)⟩
 refine (q8m s A b' o' C d v n y w hroom W').mono ?_;rintro e w'⟨A',ab,ao',C',rfl,h1,h2,h3,hb⟩;refine⟨A',_,C',rfl,fun h0=>?_,hb⟩;have hlen:=q9i h0;refine j8P h2 h1 hlen ?_
 rcases (h3 hlen).2 with e | e
 ·exact e ▸ hB'
 ·exact .inr (by omega)
theorem j1N(v:Nat)(h:Int)(hg:z0i s=true)(hv:v<6):Calls prog 112 #[.agg (stC s u),.int .i64 (v:Int),.int .i64 h,.int .i64 50] w fun e w'=>∃ u' x,e=.returned (.tuple #[.agg (stC (z2f s v h 50) u'),x,.int .i64 0])/\Rep (fun b=>w.heap.size<=b) w' u' 8 64 (wsL (z2f s v h 50).W)/\Below w.heap.size w w':=by
 obtain⟨A,C,b,o,rfl,W,-,-⟩:=hu.q4n;refine (q6F s A b o C v h 50 w W hg hv (by decide)).mono ?_
 rintro e w'⟨A',C',rfl,h1,hb⟩;exact⟨_,_,rfl,z2y.rep h1 (q3P (q3w hg (v:=v) hv h (f:=50) (by decide)).good),hb⟩
theorem j9F(t:Int)(hg:z0i s=true):Calls prog 84 #[.agg (stC s u),.int .i64 t] w fun e w'=>∃ u' x,e=.returned (.tuple #[.agg (stC (z6k s t) u'),x,.int .i64 0])/\Rep (fun b=>w.heap.size<=b) w' u' 8 64 (wsL (z6k s t).W)/\Rep (fun b=>w.heap.size<=b) w' x 1 8 (inC (z2m t s.W))/\Below w.heap.size w w':=by
 obtain⟨A,C,b,o,rfl,W,-,-⟩:=hu.q4n;refine (j1p s A b o C t w W hg).mono ?_;rintro e w'⟨A',C',A2,C2,rfl,h1,h2,hb⟩;have h60:=((z0O _).1 hg).2.2.2.1
 have hpl:(z2m t s.W).length<=s.W.length:=by
  unfold z2m z7j;rw[List.length_map];exact List.length_filter_le _ _
 exact⟨_,_,rfl,z2y.rep h1 (q3P (j3Z hg t).good),q1I.rep h2 (by omega),hb⟩
theorem j3K(c:Nat)(h:Int)(hc:c<2):Calls prog 133 #[.agg (stC s u),.int .i64 (c:Int),.int .i64 h] w fun e w'=>∃ u',e=.returned (.agg (stC { s with W:=z5D c h s.W } u'))/\Rep (fun b=>w.heap.size<=b) w' u' 8 64 (wsL (z5D c h s.W))/\Below w.heap.size w w':=by
 obtain⟨A,C,b,o,rfl,W,-,-⟩:=hu.q4n;have hl:(z5D c h s.W).length=s.W.length:=List.length_map _
 match c,hc with
 | 0,_ =>
  refine (q6o s A b o C h w W W.len).mono ?_;rintro e w'⟨A',C',rfl,h1,hb⟩;have:=z2y.rep h1 (by rw[hl];exact W.len)
  rw[hl]at this;exact⟨_,rfl,this,hb⟩
 | 1,_ =>
  refine (q6N s A b o C h w W W.len).mono ?_;rintro e w'⟨A',C',rfl,h1,hb⟩;have:=z2y.rep h1 (by rw[hl];exact W.len)
  rw[hl]at this;exact⟨_,rfl,this,hb⟩
end
theorem q3x(V:Nat->Vd):(z8v V).length<=4:=by
 unfold z8v;rw[z2z,List.length_take];omega
theorem j8Y(s:St)(u:Value)(w:World)(hg:z0i s=true):Calls prog 85 #[.agg (stC s u)] w fun e w'=>∃ v,e=.returned v/\Rep (fun b=>w.heap.size<=b) w' v 2 16 (pwC (z8v s.V))/\Below w.heap.size w w':=by
 refine (j3l s u w fun k hk=>(z2s (z4A hg k hk).1).1).mono ?_;rintro e w'⟨v,rfl,h1,hb⟩;exact⟨v,rfl,Rep.y1q h1 (by have:=q3x s.V;omega),hb⟩
theorem j3Q{P:Nat->Prop}{w:World}{v:Value}{l:List (Int×Int)}(h:Rep P w v 2 16 (pwC l)):Calls prog 21 #[v] w fun e w'=>e=.returned (.int .i64 (Df.z8x l))/\Below w.heap.size w w':=by
 obtain⟨ao,c,b,off,rfl,hp⟩:=h.pin;exact Df.j6J l ao c b off w hp
theorem j6a{P Q:Nat->Prop}{w:World}{v v':Value}{l l':List (Int×Int)}(h:Rep P w v 2 16 (pwC l))(h':Rep Q w v' 2 16 (pwC l')):Calls prog 121 #[v,v'] w fun e w'=>∃ u,e=.returned u/\Rep (fun b=>w.heap.size<=b) w' u 2 16 (pwC (Df.z3x l l'))/\Below w.heap.size w w':=by
 obtain⟨ao,c,b,off,rfl,hp⟩:=h.pin;obtain⟨ao',c',b',off',rfl,hp'⟩:=h'.pin;refine (Df.j2l l l' ao ao' c c' b off b' off' w hp hp').mono ?_;rintro e w'⟨u,rfl,h1,hb⟩;exact⟨u,rfl,Rep.y1i h1 (Nat.le_trans (Df.z3Z _ _ 6) (by decide)),hb⟩
end Pv
namespace Pv
open Go.RowKit
theorem Rep.one'{P:Nat->Prop}{w:World}{v:Value}{sz bts:Nat}{cs:List Value}(h:Rep P w v sz bts cs):∃ A n C,v=.slice A n C:=by
 obtain⟨A,n,C,e,_⟩:=h;exact⟨A,n,C,e⟩
theorem z7f{v:Value}(s:St)(h:∃ A n C,v=.slice A n C):(stC s v).all (·.oneCell')=true:=by
 obtain⟨A,n,C,rfl⟩:=h;exact z0C _ _ _ _
attribute [local go_sem ↓] z1K z0K z0q z1y
theorem q5A(p:Pr)(v:PrV)(P:Nat->Prop)(w:World)(d x n:Int)(hp:PIn P w p v) :
  Calls prog 62 #[.agg (prC p v),.int .i64 d,.int .i64 x,.int .i64 n] w (j4r P w (z2O p d x n)):=by
 have hD:z2O p d x n=if z0x p=true then ({ p with s:=(z0R p.s d x n).1 },(z0R p.s d x n).2) else (p,2):=rfl
 generalize z2O p d x n=D at *;have HD:=hide hD;clear hD;have hone:=z1c hp;have HGD:=hide (fun (wx:World) (hb:Below w.heap.size w wx)=>z3m p v P wx (hp.over hb));have HN:=hide (fun (wx:World) (hb:Below w.heap.size w wx)=>hp.z2T hb 2);have HP:=hide hp;clear hp;generalize z0x p=G at *
 go_enter func62,ntmps62
 go_upto_region 1 with fail
 change Code.wp prog _ _ _ ((w.alloc (.cells (prC p v) 57)).alloc (.cells zeroCells57 57));have C0:CAt 57 ((w.alloc (.cells (prC p v) 57)).alloc (.cells zeroCells57 57)) w.heap.size (prC p v):=(CAt.new _ w _).alloc _;have R0:CAt 57 ((w.alloc (.cells (prC p v) 57)).alloc (.cells zeroCells57 57)) (w.heap.size+1) zeroCells57:=CAt.new2 _ w _ _;have B0:Below w.heap.size w ((w.alloc (.cells (prC p v) 57)).alloc (.cells zeroCells57 57)):=(znw w _).alloc (by simp) _
 generalize (w.alloc (.cells (prC p v) 57)).alloc (.cells zeroCells57 57)=w0 at *;have l0:=z0k C0 (z0a _ _);have H0:=hide (show _/\_/\_ from⟨C0,R0,B0⟩);clear C0 R0 B0;cases G
 ·have HR:=hide (HD.out.trans (if_neg (by simp)))
  clear HD
  go_upto_region 2 with (go_at_call 74;refine (HGD.out _ H0.out.2.2).mono ?_;rintro e w1⟨rfl,hb1⟩;clear l0)
  have R1:=H0.out.2.1.over hb1;have l1:=z0k (H0.out.1.over hb1) (z0a _ _);have s1:=z0l R1 z0e (z0a p v) hone;have B1:=zbt H0.out.2.2 hb1;have HZ:=hide (show _/\_ from⟨R1,B1⟩);clear R1 B1 hb1 hone;go_wp2;exact z0P results62 HZ.out.1 z0e HZ.out.2 p v 2 D HR.out (HN.out _ HZ.out.2) _ rfl rfl rfl
 ·have HR:=hide (HD.out.trans (if_pos rfl));clear HD;obtain⟨Aw,Cw,bw,ow,ews,Ws,-,-⟩:=HP.out.ws.q4n;have hdl:=fun (wx:World) (hb:Below w.heap.size w wx)=>j0j p.s Aw bw ow Cw d x n wx (Ws.over hb);rw[← ews]at hdl;have HDL:=hide hdl;have hsl:∃ A n C,v.ws=.slice A n C:=HP.out.ws.one';clear hdl ews Ws
  go_upto_region 3 with (go_at_call 74;refine (HGD.out _ H0.out.2.2).mono ?_;rintro e w1⟨rfl,hb1⟩;clear l0)
  have C1:=H0.out.1.over hb1;have R1:=H0.out.2.1.over hb1;have B1:=zbt H0.out.2.2 hb1;have m1:=z2p C1;have H1:=hide (show _/\_/\_ from⟨C1,R1,B1⟩);clear C1 R1 B1 hb1 H0
  have hW:(z0R p.s d x n).1.W=p.s.W:=by
   unfold z0R
   repeat' split
   all_goals rfl
  have HW:=hide hW
  have HSM:Hid ((z0R p.s d x n).2≠0->(z0R p.s d x n).1=p.s):=fun h=>by
   unfold z0R at h ⊢
   repeat' split
   all_goals first | rfl | (simp_all;done)
  clear hW;generalize z0R p.s d x n=r at *;obtain⟨s',er⟩:=r;dsimp only at HR HDL HW HSM;have one2:=z7f s' hsl
  go_upto_region 4 with (go_at_call 75;refine (HDL.out _ H1.out.2.2).mono ?_;rintro e w2⟨rfl,hb2⟩;clear m1;have sS2:=z7Y (CAt.new 43 w2 Z63) rfl (z0g s' v.ws) one2;unfold Z63 at sS2)
  change Code.wp prog _ _ _ ((w2.alloc (.cells Z63 43)).setCells w2.heap.size 0 (stC s' v.ws).toList);have hb3:Below w2.heap.size w2 ((w2.alloc (.cells Z63 43)).setCells w2.heap.size 0 (stC s' v.ws).toList):=z0b (Nat.le_refl _) _ _ _ (znw w2 _);have T3:CAt 43 ((w2.alloc (.cells Z63 43)).setCells w2.heap.size 0 (stC s' v.ws).toList) w2.heap.size (stC s' v.ws):=(CAt.new 43 w2 Z63).z0H rfl;have C3:=(H1.out.1.over hb2).over hb3;have R3:=(H1.out.2.1.over hb2).over hb3;have B3:=(zbt H1.out.2.2 hb2).trans (hb3.mono (Nat.le_trans H1.out.2.2.size hb2.size));have hne:w.heap.size<w2.heap.size:=(H1.out.1.over hb2).lt;clear sS2 hb2 hb3 HDL;generalize (w2.alloc (.cells Z63 43)).setCells w2.heap.size 0 (stC s' v.ws).toList=w3 at *
  by_cases he:er=0
  ·subst he;have mS:=z7v T3 (z0g _ _);have sS:=z2Z C3 (z0a _ _) (z0g s' v.ws) one2;have C4:=C3.z1l s' v.ws;have R4:=R3.others (c:=w.heap.size) (o:=2) (by omega) (stC s' v.ws).toList
   have B4:=z0b (b:=w.heap.size) (Nat.le_refl _) (stC s' v.ws).toList 2 _ B3
   have N4:PIn (New P w 2) (w3.setCells w.heap.size 2 (stC s' v.ws).toList) { p with s:=s' } { v with ws:=v.ws }:=by
    have:=(HN.out _ B3).sets (g:=w.heap.size) (z3P (j:=0) (by omega)) 2 (stC s' v.ws).toList
    exact⟨by rw[show (wsL s'.W)=wsL p.s.W by rw[HW.out]];exact this.ws,this.set,this.lk,this.q⟩
   have l4:=z0k C4 (z0a _ _);have s4:=z0l R4 z0e (z0a { p with s:=s' } { v with ws:=v.ws }) (z1c N4)
   have HZ:=hide (show _/\_/\_ from⟨R4,B4,N4⟩);clear C3 R3 B3 C4 R4 B4 N4 T3 hone
   go_upto_region 7 with fail
   generalize w3.setCells w.heap.size 2 (stC s' v.ws).toList=w4 at *;clear mS sS;go_wp2;exact z0P results62 HZ.out.1 z0e HZ.out.2.1 _ _ 0 D HR.out HZ.out.2.2 _ rfl rfl rfl
  ·have l3:=z0k C3 (z0a _ _);have s3:=z0l R3 z0e (z0a p v) hone;have heb:(er != 0)=true:=by simpa using he
   have HZ:=hide (show _/\_ from⟨R3,B3⟩);have hsame:s'=p.s:=HSM.out he;subst hsame;clear C3 R3 B3 T3 hone;go_wp2;exact z0P results62 HZ.out.1 z0e HZ.out.2 p v er D HR.out (HN.out _ HZ.out.2) _ rfl rfl rfl
end Pv
namespace Pv
open Go.RowKit
theorem j0J{s:St}{x:Nat}(hg:z0i s=true)(hx:x<6)(hd:(s.V x).dead=false):z8C s x=(z4y s x true true,0):=by
 unfold z8C;rw[if_pos (z3Q hg hx),Int.toNat_natCast,if_neg (by simp[hd])]
theorem q5y(s:St)(x:Nat)(h:Int):((z2f s x h 50).V x).dead=(s.V x).dead:=by
 show (z1P s.V x _ x).dead=_
 rw[z6z];rfl
theorem Rep.sets{P:Nat->Prop}{w:World}{v:Value}{sz bts:Nat}{cs:List Value}(h:Rep P w v sz bts cs){g:Nat}(hg:¬ P g)(o:Nat)(vs:List Value):Rep P (w.setCells g o vs) v sz bts cs:=h.keep fun b hb _=>z1k (show b≠g from fun e=>hg (by rw[← e];exact hb)) vs o w
attribute [local go_sem ↓] z1K z0K z0q z1y
theorem z7A(g:Nat)(p:Pr)(v:PrV)(P:Nat->Prop)(w:World)(x:Nat)(h:Int)(hC:CAt 57 w g (prC p v))(hp:Rep P w v.ws 8 64 (wsL p.s.W))(hg:z0i p.s=true)(hx:x<6)(hd:(p.s.V x).dead=false) :
  Calls prog 81 #[.pointer (some ⟨g,0,none⟩),.int .i64 (x:Int),.int .i64 h] w fun e w'=>∃ u,e=.returned (.tuple #[])/\CAt 57 w' g (prC { p with s:=z7o p.s x h } { v with ws:=u })/\Rep (fun b=>w.heap.size<=b) w' u 8 64 (wsL (z7o p.s x h).W)/\Alt g w w':=by
 have m0:=z2p hC;have hgt:=hC.lt;have HS:=hide (j1N hp x h hg hx);have k:=q3w hg (v:=x) hx h (f:=50) (by decide)
 have hd1:((z2f p.s x h 50).V x).dead=false:=(q5y _ _ _).trans hd;have hB:z8C (z2f p.s x h 50) x=(z7o p.s x h,0):=j0J k.good hx hd1;have HPW:Hid ((z7o p.s x h).W=(z2f p.s x h 50).W):=rfl;generalize z7o p.s x h=s2 at *;generalize z2f p.s x h 50=s1 at *;have HC:=hide hC;have HB:=hide hB;clear hC hp hg hd hB k hd1
 go_enter func81,ntmps81
 go_upto_region 1 with (go_at_call 112;refine HS.out.mono ?_;rintro e w1⟨u,y,rfl,hu,hb1⟩;clear m0;have sS1:=z2Z (HC.out.over hb1) (z0a _ _) (z0g s1 u) (z7f s1 hu.one'))
 have C2:=(HC.out.over hb1).z1l s1 u;have U2:=hu.sets (g:=g) (by show ¬ _<=g;omega) 2 (stC s1 u).toList
 have A2:=Alt.sets (stC s1 u).toList (Alt.of (g:=g) hb1) 2;clear sS1 hb1;generalize w1.setCells g 2 (stC s1 u).toList=w2 at *;have m2:=z2p C2;have hbu:=j6d U2 (x:Int);rw[HB.out]at hbu;have HBU:=hide hbu;have H2:=hide (show _/\_/\_ from⟨C2,U2,A2⟩);have one2:=z7f s2 hu.one';have hz2:=A2.size;clear C2 U2 A2 hbu hu HC HB HS
 go_wp2_with (go_at_call 113;refine HBU.out.mono ?_;rintro e w3⟨rfl,hb3⟩;clear m2;have sS3:=z2Z (H2.out.1.over hb3) (z0a _ _) (z0g s2 u) one2)
 go_end0;have C3:=(H2.out.1.over hb3).z1l s2 u;refine⟨u,rfl,C3,?_,H2.out.2.2.trans (Alt.sets (stC s2 u).toList (Alt.of (g:=g) hb3) 2)⟩;rw[HPW.out];exact (H2.out.2.1.over hb3).sets (by show ¬ _<=g;omega) 2 _
theorem q9o(p:Pr)(v:PrV)(P:Nat->Prop)(w:World)(x h:Int)(hp:PIn P w p v) :
  Calls prog 65 #[.agg (prC p v),.int .i64 x,.int .i64 h] w (j4r P w (z4u p x h)):=by
 have hD:z4u p x h=if z0x p=true then if isV x=true then if 1<=h/\h<=p.h then if (p.s.V x.toNat).dead=true then (p,15) else ({ p with s:=z7o p.s x.toNat h },0) else (p,2) else (p,4) else (p,2):=rfl
 generalize z4u p x h=D at *;have HD:=hide hD;clear hD;have hone:=z1c hp;have HGD:=hide (fun (wx:World) (hb:Below w.heap.size w wx)=>z3m p v P wx (hp.over hb));have HN:=hide (fun (wx:World) (hb:Below w.heap.size w wx)=>hp.z2T hb 2);have HP:=hide hp;clear hp
 have HGS:Hid (z0x p=true->z0i p.s=true):=fun h=>by
  unfold z0x at h;simp only[Bool.and_eq_true]at h;exact h.1.1.1.1.1.1.1
 generalize z0x p=G at *
 go_enter func65,ntmps65
 go_upto_region 1 with fail
 change Code.wp prog _ _ _ ((w.alloc (.cells (prC p v) 57)).alloc (.cells zeroCells57 57));have C0:CAt 57 ((w.alloc (.cells (prC p v) 57)).alloc (.cells zeroCells57 57)) w.heap.size (prC p v):=(CAt.new _ w _).alloc _;have R0:CAt 57 ((w.alloc (.cells (prC p v) 57)).alloc (.cells zeroCells57 57)) (w.heap.size+1) zeroCells57:=CAt.new2 _ w _ _;have B0:Below w.heap.size w ((w.alloc (.cells (prC p v) 57)).alloc (.cells zeroCells57 57)):=(znw w _).alloc (by simp) _
 generalize (w.alloc (.cells (prC p v) 57)).alloc (.cells zeroCells57 57)=w0 at *;have l0:=z0k C0 (z0a _ _);have H0:=hide (show _/\_/\_ from⟨C0,R0,B0⟩);clear C0 R0 B0;have HV:Hid (∀ er,D=(p,er)->∀ (f:Func) (act:Act) (wq:World),CAt 57 wq (w.heap.size+1) zeroCells57->Below w.heap.size w wq->f.results=#[.cell 6 57,.tmp 7]->act.tmps.getD 6 undef=.pointer (some ⟨w.heap.size+1,0,none⟩)->act.tmps.getD 7 undef=.int .i64 er->act.defers=[]->bodyPost prog f (j4r P w D) Exit.ret act (wq.setCells (w.heap.size+1) 0 (prC p v).toList)):=fun er he f act wq R B h1 h2 h3 h4=>z0P h1 R z0e B p v er D he (HN.out _ B) act h2 h3 h4
 by_cases hG:G=true
 ·subst hG;have hgs:=HGS.out rfl;have HR:=hide (HD.out.trans (if_pos rfl));clear HD HGS
  go_upto_region 3 with (go_at_call 74;refine (HGD.out _ H0.out.2.2).mono ?_;rintro e w1⟨rfl,hb1⟩;clear l0)
  have C1:=H0.out.1.over hb1;have R1:=H0.out.2.1.over hb1;have B1:=zbt H0.out.2.2 hb1;have l1:=z0k C1 (z0a _ _);have s1:=z0l R1 z0e (z0a p v) hone;obtain⟨⟨a0,-⟩,-⟩:=z3F C1;have H1:=hide (show _/\_/\_ from⟨C1,R1,B1⟩);clear C1 R1 B1 hb1 H0 HGD
  by_cases hx:isV x=true
  ·obtain⟨y,rfl,hy⟩:=j9E hx;have HR:=hide (HR.out.trans (if_pos hx));have y0:(0:Int)<=(y:Int):=by omega
   have y6:(y:Int)<6:=by omega
   by_cases hh:1<=h/\h<=p.h
   ·have HR:=hide (HR.out.trans (if_pos hh));obtain⟨h1,h2⟩:=hh;have c4:=(q1i H1.out.1 hy).2.2;rw[Int.toNat_natCast]at HR;cases hdd:(p.s.V y).dead
    ·rw[hdd]at c4;have HR:=hide (HR.out.trans (if_neg (by simp[hdd])))
     have HPU:=hide (z7A w.heap.size p v P w1 y h H1.out.1 (HP.out.ws.over H1.out.2.2) hgs hy hdd)
     go_upto_region 10 with (first
      | (go_at_call 80;refine (z3G _ _).mono ?_;rintro e w'⟨rfl,rfl⟩)
      | (go_at_call 81;refine HPU.out.mono ?_;rintro e w2⟨u,rfl,C2,U2,A2⟩;clear l1 s1 a0 c4))
     have R2:=A2.cat (b:=w.heap.size+1) (by omega) H1.out.2.1
     have B2:=H1.out.2.2.trans (A2.below (Nat.le_refl _) H1.out.2.2.size);have hlt:=H1.out.2.1.lt
     have N2:PIn (New P w 2) w2 { p with s:=z7o p.s y h } { v with ws:=u }:=by
      have:=A2.pin (z3P (j:=0) (by omega)) (HN.out _ H1.out.2.2)
      exact⟨U2.mono fun b _ hb=>.inr (by have:w1.heap.size<=b:=hb;omega),this.set,this.lk,this.q⟩
     have l2:=z0k C2 (z0a _ _);have s2:=z0l R2 z0e (z0a { p with s:=z7o p.s y h } { v with ws:=u }) (z1c N2)
     have HZ:=hide (show _/\_/\_ from⟨R2,B2,N2⟩);clear C2 U2 A2 R2 B2 N2 H1 hone;go_wp2;exact z0P results65 HZ.out.1 z0e HZ.out.2.1 _ _ 0 D HR.out HZ.out.2.2 _ rfl rfl rfl
    ·rw[hdd]at c4;have HR:=hide (HR.out.trans (if_pos hdd))
     go_wp2_with (go_at_call 80;refine (z3G _ _).mono ?_;rintro e w'⟨rfl,rfl⟩)
     exact HV.out 15 HR.out _ _ _ H1.out.2.1 H1.out.2.2 results65 rfl rfl rfl
   ·have HR:=hide (HR.out.trans (if_neg hh));have hcs:h<1∨(1<=h/\p.h<h):=by omega
    rcases hcs with h1 | ⟨h1,h2⟩
    all_goals
     go_wp2_with (go_at_call 80;refine (z3G _ _).mono ?_;rintro e w'⟨rfl,rfl⟩)
     exact HV.out 2 HR.out _ _ _ H1.out.2.1 H1.out.2.2 results65 rfl rfl rfl
  ·have HR:=hide (HR.out.trans (if_neg hx));have hx:isV x=false:=by simpa using hx
   go_wp2_with (go_at_call 80;refine (z3G _ _).mono ?_;rintro e w'⟨rfl,rfl⟩)
   exact HV.out 4 HR.out _ _ _ H1.out.2.1 H1.out.2.2 results65 rfl rfl rfl
 ·have hG:G=false:=by simpa using hG
  subst hG;have HR:=hide (HD.out.trans (if_neg (by simp)))
  clear HD
  go_upto_region 2 with (go_at_call 74;refine (HGD.out _ H0.out.2.2).mono ?_;rintro e w1⟨rfl,hb1⟩;clear l0)
  have R1:=H0.out.2.1.over hb1;have l1:=z0k (H0.out.1.over hb1) (z0a _ _);have s1:=z0l R1 z0e (z0a p v) hone;have B1:=zbt H0.out.2.2 hb1;have HZ:=hide (show _/\_ from⟨R1,B1⟩);clear R1 B1 hb1 hone;go_wp2;exact HV.out 2 HR.out _ _ _ HZ.out.1 HZ.out.2 results65 rfl rfl rfl
end Pv
end Go.Proofs.YtmopekkhmhhcaaaGreat
