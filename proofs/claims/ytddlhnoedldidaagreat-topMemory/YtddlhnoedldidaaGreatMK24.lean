/- Parts of the proof. -/
import Derived.Test.YtddlhnoedldidaaGreatML
import Derived.Test.YtddlhnoedldidaaGreatMK23
set_option maxRecDepth 100000
set_option maxHeartbeats 16000000
namespace Go.Proofs.YtddlhnoedldidaaGreat
open Go.Proofs.Tryz
open Value renaming int->J,slice->J1,pointer->J2,bool->J3,agg->J4
open IntKind renaming i64->I
open Obj renaming cells->J5
section
open Go.RowKit
theorem q2R(n f:Int)(w:World):Calls prog 149 #[J I n,J I f] w fun e w'=>e=.returned (.tuple #[J I (ptN n f),J I (ptE n f)])/\Bl w w':=Ra.j6B n f w
theorem q9v:∀ (W:List Wt) (k:Nat) (x:Wt) (y:Int),W[k]?=some x->wsL (W.set k { x with amt:=y })=(wsL W).set (k * 8+3) (J I y)
 | [],k,x,y,h=>by simp at h
 | z :: W,0,x,y,h=>by
  simp at h
  subst h;rfl
 | z :: W,k+1,x,y,h=>by
  have a:=q9v W k x y (by simpa using h)
  show wtL z ++ wsL (W.set k _)=(wtL z ++ wsL W).set _ _
  rw[List.set_append_right _ _ (by rw[z1P];omega),z1P,a]
  congr 2
  omega
theorem z2d.amt{B:Nat}{w:World}{g C:Nat}{W:List Wt}(h:z2d B w (some ⟨g,0,none⟩) C W){k:Nat}{x:Wt}(a:W[k]?=some x)(y:Int):z2d B (w.setCell ⟨g,k * 8+3,none⟩ (J I y)) (some ⟨g,0,none⟩) C (W.set k { x with amt:=y }):=by
 have h1:=(World.ownsRow.stored h (k * 8+3) (J I y)).1;unfold z2d;rw[q9v W k x y a,List.length_set];exact h1
theorem z2d.at0{B:Nat}{w:World}{A:Option Addr}{C:Nat}{W:List Wt}(h:z2d B w A C W)(h0:0<W.length):∃ g,A=some ⟨g,0,none⟩/\B<=g/\g<w.heap.size/\∀ k x,W[k]?=some x->(w.cell? ⟨g,k * 8+2,none⟩=some (J I x.v)/\w.cell? ⟨g,k * 8+3,none⟩=some (J I x.amt)/\w.cell? ⟨g,k * 8+4,none⟩=some (J I x.hei)/\w.frozen? ⟨g,k * 8+3,none⟩=false):=by
 have a:=h
 rcases h.2 with⟨hv,hn⟩ | ⟨g,cap,cur,hv,hb,hg,hrest⟩
 ·omega
 ·cases hv;refine⟨g,rfl,hb,(Array.getElem?_eq_some_iff.1 hg).1,fun k x b=>?_⟩
  have c:∀ j v,(wtL x)[j]?=some v->j<8->w.cell? ⟨g,k * 8+j,none⟩=some v:=fun j v d e=>by
   have:=World.ownsRow.cells a (g:=g) rfl (k * 8+j) v ((z4h W k x j b e).trans d)
   rwa [Addr.add_lit,Nat.zero_add]at this
  exact⟨c 2 _ rfl (by omega),c 3 _ rfl (by omega),c 4 _ rfl (by omega),World.ownsRow.frozenAt a _⟩
theorem z7R(ao:Option Addr)(W:List Wt)(c sb so:Nat)(v h f:Int)(w:World)(T:z2k w ao sb so W)(U:0<=f/\f<=1000)(F:∀ x∈W,0<=x.amt/\x.amt<=1125899906842624)(hs:z2t W<=400000)(a1:W.length<=60) :
  Calls prog 150 #[J1 ao W.length c,J I v,J I h,J I f] w fun e w'=>∃ A C,e=.returned (.tuple #[J1 A (slW v h f W).length C,J I (slN v h f W),J I 0])/\z2d w.heap.size w' A C (slW v h f W)/\Bl w w':=by
 have G:=z2T ao W c sb so w T;have HL:Hid ((slW v h f W).length=W.length):=by show (slW v h f W).length=W.length;unfold slW;rw[List.length_map]
 have q:Hid (∀ k,0<=slN v h f (W.take k)/\slN v h f (W.take k)<=400000):=fun k=>by
  have h1:=q6e (v:=v) (h:=h) U (W:=W.take k) fun x r=>F x (List.mem_of_mem_take r);have H:z2t W=z2t (W.take k)+z2t (W.drop k):=by rw[<- z2U,List.take_append_drop]
  have V:=z3O (W:=W.drop k) fun y hy=>(F y (List.mem_of_mem_drop hy)).1;omega
 clear T hs
 go_enter func150,ntmps150
 go_upto_region 3 with (go_at_call 38;refine G.mono ?_;rintro e w1⟨A,C,rfl,X,h1⟩;have Y:=J6 X;have Z:=J6 h1;clear X h1)
 go_loopw [12,21] (fun al i wl=>∃ (k:Nat),k<=W.length/\i=J I (k:Int)/\al=J I (slN v h f (W.take k))/\Hid (z2d w.heap.size wl A C (slW v h f (W.take k) ++ W.drop k)/\Bl w wl)) (fun _ i _=>W.length - (intOf i).toNat)
 case atStart=>exact⟨0,Nat.zero_le _,rfl,rfl,Y.out,Z.out⟩
 case round =>
  obtain⟨k,hk,rfl,rfl,d⟩:=hrel;clear Y Z;obtain⟨n0,n1⟩:=q.out k
  by_cases K:k<W.length
  ·obtain⟨x,r,_⟩:=drop_at K;obtain⟨H,L,o⟩:=j3q v h f r;obtain⟨V,n3⟩:=q.out (k+1);have M:=F x (by obtain⟨h1,h2⟩:=List.getElem?_eq_some_iff.1 r;exact h2 ▸ List.getElem_mem h1)
   obtain⟨g,rfl,N,a2,s⟩:=d.out.1.at0 (by rw[List.length_append,List.length_drop];omega)
   obtain⟨c2,c3,c4,c5⟩:=s k x L;have m:(slW v h f (W.take k) ++ W.drop k).length=W.length:=by unfold slW;rw[List.length_append,List.length_map,<- List.length_append,List.take_append_drop]
   have j:=J6 L;have b:=J6 H;have t:=d.out.1.cap;rw[m]at t;clear s G H L r m;generalize slW v h f (W.take k) ++ W.drop k=Wk at *;generalize u:slW v h f (W.take (k+1)) ++ W.drop (k+1)=Wk1 at *;have z:=J6 u;clear u
   by_cases B:x.v=v/\h<=x.hei
   ·have a:j2d v h x=true:=by simp[j2d,B.1,B.2]
    obtain⟨D,E⟩:=j6T (f:=f) a;obtain⟨p0,p1,p2⟩:=j3C M U;rw[D]at b;rw[E]at o;have hP:=q2R x.amt f;rw[p0]at hP;obtain⟨P,a3⟩:=B;rw[P]at c2;generalize ptN x.amt f=pn at *;have a4:wrap64 (x.amt - pn)=x.amt - pn:=z0g (by omega) (by omega)
    rw[o]at V n3;have l:=J6 o;generalize slN v h f (W.take k)=sk at *;have Q:wrap64 (sk+pn)=sk+pn:=z0g (by omega) (by omega)
    clear a D E p0 o q
    go_upto_region 10 with (go_at_call 149;refine (hP _).mono ?_;rintro e w2⟨rfl,h2⟩)
    have p:Hid (z2d w.heap.size w2 (some ⟨g,0,none⟩) C Wk/\Bl w w2):=⟨d.out.1.over h2,zbt d.out.2 h2⟩;obtain⟨g',R,_,a0,n⟩:=p.out.1.at0 (by have:=(List.getElem?_eq_some_iff.1 j.out).1;omega)
    cases R;obtain⟨a5,a6,a7,a8⟩:=n k x j.out;clear n h2 c2 c3 c4 c5 d;go_wp2;refine⟨⟨k+1,by omega,by go_num,?_,?_⟩,by simp[intOf];omega⟩
    ·first | rw[l.out] | (rw[l.out];exact congrArg _ Q)
    ·rw[z.out,b.out];exact⟨p.out.1.amt j.out _,p.out.2.setCell N _⟩
   ·have a:j2d v h x=false:=by
     simp only[j2d,Bool.and_eq_false_iff,decide_eq_false_iff_not]
     by_cases h1:x.v=v
     ·exact .inr (fun h2=>B ⟨h1,h2⟩)
     ·exact .inl h1
    obtain⟨D,E⟩:=j4G (f:=f) a;rw[D]at b;rw[E]at o;have l:=J6 o;have S:Hid (Wk1=Wk):=by show Wk1=Wk;rw[b.out];exact z5u j.out
    clear a D E o q b;go_wp2
    all_goals first
     | (exact⟨⟨k+1,by omega,by go_num,by rw[l.out,Int.add_zero],by rw[z.out,S.out];exact d.out⟩,by simp[intOf];omega⟩)
     | (exfalso;exact B ⟨by first | assumption | omega,by omega⟩)
  ·obtain rfl:k=W.length:=by omega
   rw[List.take_length,List.drop_length,List.append_nil]at d;rw[List.take_length];clear G q;go_wp2;refine bodyPost_ret (v:=.tuple #[J1 A W.length C,J I (slN v h f W),J I 0]) (by simp[results,results150]) rfl ⟨A,C,by rw[HL.out],d.out.1,d.out.2⟩
theorem j8H(w:World)(a b c d:Int):(Op.equalIn 10000 61 (J4 #[J I a,J I b]) (J4 #[J I c,J I d])).run prog w=.ok (decide (a=c/\b=d)) w:=by
 have e:(prog.info? 3).isSome=true:=by kernel_rfl
 obtain⟨i,e⟩:=Option.isSome_iff_exists.1 e;have hc:prog.cellsOf 3=1:=by kernel_rfl
 rw[run_equalIn_array w 9999 _ _ underlying61 e,hc,show List.range 2=[0,1] from rfl];simp only[Op.eqItems];go_simp
 by_cases h0:a=c <;> by_cases h1:b=d <;> simp[h0,h1]
theorem j8G(w:World)(a b:Int):(binOp .neq 61 (J4 #[J I a,J I b]) (J4 #[J I 0,J I 0])).run prog w=.ok (J3 (!decide (a=0/\b=0))) w:=by
 rw[run_neq_struct,j8H];rfl
theorem q4O(x:Wt)(w:World):Calls prog 110 #[J4 #[J I x.num,J I x.d,J I x.v,J I x.amt,J I x.hei,J I x.due,J I x.h0,J I x.h1]] w fun e w'=>e=.returned (J3 (!decide (x.h0=0/\x.h1=0)))/\Bl w w':=by
 have a:=fun w=>j8G w x.h0 x.h1
 go_enter func110,ntmps110
 go_wp2;go_ret;refine⟨?_,znw w _⟩
 show Ending.returned (Value.bool (!decide (x.h0=0) || !decide (x.h1=0)))=_
 by_cases h0:x.h0=0 <;> by_cases h1:x.h1=0 <;> simp[h0,h1]
def nuL(l:List Int):List Value:=l.map fun n=>.int .i64 n
def q0S(B:Nat)(w:World)(A:Option Addr)(C:Nat)(l:List Int):Prop:=w.ownsRow B 3 1 (J1 A l.length C) l.length (nuL l)
theorem j5K:(prog.info? 3).map (fun i=>(i.zero,i.size,i.bytes))=some (some (J I 0),1,8):=by kernel_rfl
theorem q0S.over{B:Nat}{w w':World}{A:Option Addr}{C:Nat}{l:List Int}(h:q0S B w A C l)(hb:Bl w w'):q0S B w' A C l:=z1c h fun k a=>hb.block k (World.ownsRow.lt h k a).2
theorem j8J(B:Nat)(w:World)(A:Option Addr)(C y:Nat)(l:List Int)(x:Int)(h:q0S B w A C l)(p:l.length<=60)(q:B<=w.heap.size)(r:w.cell? ⟨y,0,none⟩=some (J I x)) :
  ∃ g C' w',(Builtin.append_ #[45,45] 45 #[J1 A l.length C,J1 (some ⟨y,0,none⟩) 1 1]).run prog w=.ok (J1 (some ⟨g,0,none⟩) (l.length+1) C') w'/\q0S B w' (some ⟨g,0,none⟩) C' (l ++ [x])/\B<=g/\g<w'.heap.size/\Below B w w'/\(∀ k,k<w.heap.size->some k≠(Value.slice A l.length C).ownBlock->g≠k/\w'.heap[k]?=w.heap[k]?):=by
 obtain⟨i0,s,e,f,i⟩:=info_parts j5K;obtain⟨g,cap,w',t,z,b,a,m⟩:=run_append_lies (P:=prog) w 45 45 B 3 i0 _ 1 8 underlying45 s e f i rfl (by omega) (J1 A l.length C) l.length (nuL l) h ⟨y,0,none⟩ 1 1 [J I x] rfl (fun j v n=>by rcases j with _ | j <;> simp at n;subst n;simpa [Addr.add] using r) (by intro u hu;simp at hu;rcases hu with rfl;rfl) (by omega) (by simp only[maxLen];omega) (by omega) q _ rfl
 have c:q0S B w' (some ⟨g,0,none⟩) cap (l ++ [x]):=by
  unfold q0S;rw[List.length_append,nuL,List.map_append];exact z
 refine⟨g,cap,w',t,c,(World.ownsRow.lt c g rfl).1,m,⟨b.os,b.tape,b.output,b.size,fun k o=>b.block k (by omega) (fun D=>?_)⟩,fun k o d=>⟨?_,b.block k o d⟩⟩
 ·have:=(World.ownsRow.lt h k D.symm).1;omega
 ·rcases a with a | a
  ·rintro rfl;exact d a.symm
  ·omega
theorem q1E{ops:Array Oper}{rest:List Oper}{o:Oper}{a:Act}{w:World}{Q:Exit->Act->World->Prop}(f:o.guard=none)(b:o.type=45)(p q:Operand)
  (c:o.op=Op.call { callee:=Callee.builtin Builtin.append,args:=#[p,q],argTypes:=#[45,45] }) (B:Nat) (A:Option Addr) (C y:Nat) (W:List Int) (x:Int) (i:a.eval p=J1 A W.length C) (j:a.eval q=J1 (some ⟨y,0,none⟩) 1 1)
  (h:q0S B w A C W) (d:W.length<=60) (l:B<=w.heap.size) (m:w.cell? ⟨y,0,none⟩=some (J I x))
  (n:∀ g C' w',q0S B w' (some ⟨g,0,none⟩) C' (W ++ [x])/\B<=g/\g<w'.heap.size/\Below B w w'/\(∀ k,k<w.heap.size->some k≠(Value.slice A W.length C).ownBlock->g≠k/\w'.heap[k]?=w.heap[k]?)->wpList prog ops Q rest (a.put o.dst (J1 (some ⟨g,0,none⟩) (W.length+1) C')) w'):wpList prog ops Q (o :: rest) a w:=by
 refine wpList_plain f fun _ e=>?_;unfold Oper.wp;obtain⟨g,C',w',r,h1⟩:=j8J B w A C y W x h d l m
 simp[execOp,c,resolve,invoke,builtin,i,j,b,r,Result.andThen]
 exact e _ _ (n _ _ _ h1)
theorem z8e{e:Func}{p q u:Tmp}(h:e.results=#[.cell p 43,.tmp q,.tmp u])(a:Array Value)(w:World)(g:Nat)(cs:Array Value)(v v2:Value)
  (hp:a.getD p undef=J2 (some ⟨g,0,none⟩)) (f:a.getD q undef=v) (hu:a.getD u undef=v2) (i:SAt w g cs) (b:cs.size=63) :
  (results e a).run prog w=.ok (.tuple #[J4 cs,v,v2]) w:=by
 have hp':a[p]?.getD undef=J2 (some ⟨g,0,none⟩):=by simpa using hp
 have c:a[q]?.getD undef=v:=by simpa using f
 have d:a[u]?.getD undef=v2:=by simpa using hu
 simp[results,h,hp',c,d,asAddr,run_loadVar_row w g 43 43 cs (0,0) _ i underlying43 rfl (by rw[z0x,b])]
theorem z8K{f:Func}{p q u:Tmp}(a:f.results=#[.cell p 43,.tmp q,.tmp u]){g:Nat}{wq:World}{d:Array Value}(R:SAt wq g d)(e:d.size=63)(b:St)(sl v v2:Value)(Q:Ending->World->Prop)(h:Q (.returned (.tuple #[J4 (stC b sl),v,v2])) (wq.setCells g 0 (stC b sl).toList))(act:Act)
  (i:act.tmps.getD p undef=J2 (some ⟨g,0,none⟩)) (j:act.tmps.getD q undef=v) (c:act.tmps.getD u undef=v2) (hd:act.defers=[]) :
  bodyPost prog f Q Exit.ret act (wq.setCells g 0 (stC b sl).toList):=by
 have k:=R.z0t (ds:=stC b sl) (by rw[e];rfl)
 exact bodyPost_ret (v:=.tuple #[J4 (stC b sl),v,v2]) (z8e a _ _ g _ _ _ i j c k rfl) hd h
theorem z2N{w:World}{b c e z n:Nat}{v:Value}{d:List Value}(h:w.ownsRow b e z v n d)(hb:c<=b):w.ownsRow c e z v n d:=by
 refine⟨h.1,?_⟩
 rcases h.2 with f | ⟨g,cap,a,i,h2,h3⟩
 ·exact .inl f
 ·exact .inr ⟨g,cap,a,i,Nat.le_trans hb h2,h3⟩
structure q9f(s:St)(ao:Option Addr)(c:Nat)(t:Int)(B bb:Nat)(w:World)(k:Nat)(A:Option Addr)(C:Nat)(A':Option Addr)(C':Nat)(wl:World):Prop where
 own9:z2d B wl A C (z1t t (s.W.take k))
 own10:q0S B wl A' C' (z1W t (s.W.take k))
 apart:∀ k',(Value.slice A (z1t t (s.W.take k)).length C).ownBlock=some k'->some k'≠(Value.slice A' (z1W t (s.W.take k)).length C').ownBlock
 S:SAt wl w.heap.size (stC s (J1 ao s.W.length c))
 R:SAt wl (w.heap.size+1) Z63
 bank:BAt wl bb (z4K t s.b (s.W.take k)).f0 (z4K t s.b (s.W.take k)).f1 (z4K t s.b (s.W.take k)).f2 (z4K t s.b (s.W.take k)).f3 (z4K t s.b (s.W.take k)).bo (z4K t s.b (s.W.take k)).wa (z4K t s.b (s.W.take k)).bu
 below:Bl w wl
 size:B<=wl.heap.size
theorem q9f.over{s:St}{ao:Option Addr}{c:Nat}{t:Int}{B bb:Nat}{w:World}{k:Nat}{A:Option Addr}{C:Nat}{A':Option Addr}{C':Nat}{wl w':World}(h:q9f s ao c t B bb w k A C A' C' wl)(a:w.heap.size<=wl.heap.size)(hb:Bl wl w'):q9f s ao c t B bb w k A C A' C' w':=
 ⟨h.own9.over hb,h.own10.over hb,h.apart,h.S.later hb h.S.lt,h.R.later hb h.R.lt,h.bank.later hb h.bank.lt,h.below.trans (hb.mono a),Nat.le_trans h.size hb.size⟩
theorem q3i{t:Int}{W:List Wt}{k:Nat}{x:Wt}(a:W[k]?=some x)(hd:z6A t x=false):(z1t t (W.take (k+1))).length=(z1t t (W.take k)).length+1/\(z1W t (W.take (k+1))).length=(z1W t (W.take k)).length:=by
 unfold z1W;rw[z1m a,z5E,z4j,if_neg (by simp[hd]),if_neg (by simp[hd]),List.length_append]
 exact⟨rfl,rfl⟩
theorem j0m{t:Int}{W:List Wt}{k:Nat}{x:Wt}(a:W[k]?=some x)(hd:z6A t x=true):(z1t t (W.take (k+1))).length=(z1t t (W.take k)).length/\(z1W t (W.take (k+1))).length=(z1W t (W.take k)).length+1:=by
 unfold z1W;rw[z1m a,z5E,z4j,if_pos hd,if_pos hd,List.length_map,List.length_map,List.length_append];exact⟨rfl,rfl⟩
theorem q9f.left{s:St}{ao:Option Addr}{c:Nat}{t:Int}{B bb:Nat}{w:World}{k:Nat}{A:Option Addr}{C:Nat}{A':Option Addr}{C':Nat}{wl w':World}(h:q9f s ao c t B bb w k A C A' C' wl){x:Wt}(e:s.W[k]?=some x)(hd:z6A t x=false)(f:bb<B)(o:w.heap.size+1<B){g D:Nat}
  (h1:z2d B w' (some ⟨g,0,none⟩) D (z1t t (s.W.take k) ++ [x])) (d:Below B wl w') (l:∀ k',k'<wl.heap.size->some k'≠(Value.slice A (z1t t (s.W.take k)).length C).ownBlock->g≠k'/\w'.heap[k']?=wl.heap[k']?):q9f s ao c t B bb w (k+1) (some ⟨g,0,none⟩) D A' C' w':=by
 have m:z1t t (s.W.take (k+1))=z1t t (s.W.take k) ++ [x]:=by rw[z1m e,z5E,if_neg (by simp[hd])]
 have j:z1W t (s.W.take (k+1))=z1W t (s.W.take k):=by unfold z1W;rw[z1m e,z4j,if_neg (by simp[hd])]
 have n:z4K t s.b (s.W.take (k+1))=z4K t s.b (s.W.take k):=by rw[z1m e,z7y,if_neg (by simp[hd])]
 have hp:∀ k',(Value.slice A' (z1W t (s.W.take k)).length C').ownBlock=some k'->g≠k'/\w'.heap[k']?=wl.heap[k']?:=fun k' a=>l k' (World.ownsRow.lt h.own10 k' a).2 fun i=>h.apart k' i.symm a.symm;refine⟨by rw[m];exact h1,by rw[j];exact z1c h.own10 fun k' a=>(hp k' a).2,?_,(d.block _ (by omega)).trans h.S,(d.block _ (by omega)).trans h.R,by rw[n];exact (d.block _ f).trans h.bank,h.below.trans (d.mono (by omega)),Nat.le_trans h.size d.size⟩
 rw[j];intro k' a i;cases a;exact (hp g i.symm).1 rfl
theorem q9f.paid{s:St}{ao:Option Addr}{c:Nat}{t:Int}{B bb:Nat}{w:World}{k:Nat}{A:Option Addr}{C:Nat}{A':Option Addr}{C':Nat}{wl w':World}(l:z2d B wl A C (z1t t (s.W.take k)))(h:∀ k',(Value.slice A (z1t t (s.W.take k)).length C).ownBlock=some k'->some k'≠(Value.slice A' (z1W t (s.W.take k)).length C').ownBlock)(o:SAt wl w.heap.size (stC s (J1 ao s.W.length c)))(p:SAt wl (w.heap.size+1) Z63)(a:BAt wl bb (z4K t s.b (s.W.take (k+1))).f0 (z4K t s.b (s.W.take (k+1))).f1 (z4K t s.b (s.W.take (k+1))).f2 (z4K t s.b (s.W.take (k+1))).f3 (z4K t s.b (s.W.take (k+1))).bo (z4K t s.b (s.W.take (k+1))).wa (z4K t s.b (s.W.take (k+1))).bu)(e:Bl w wl)(i:B<=wl.heap.size)
  {x:Wt} (m:s.W[k]?=some x) (hd:z6A t x=true) (j:bb<B) (v:w.heap.size+1<B) {g D:Nat}
  (h1:q0S B w' (some ⟨g,0,none⟩) D (z1W t (s.W.take k) ++ [x.num])) (f:Below B wl w') (q:∀ k',k'<wl.heap.size->some k'≠(Value.slice A' (z1W t (s.W.take k)).length C').ownBlock->g≠k'/\w'.heap[k']?=wl.heap[k']?):q9f s ao c t B bb w (k+1) A C (some ⟨g,0,none⟩) D w':=by
 have n:z1t t (s.W.take (k+1))=z1t t (s.W.take k):=by rw[z1m m,z5E,if_pos hd]
 have r:z1W t (s.W.take (k+1))=z1W t (s.W.take k) ++ [x.num]:=by unfold z1W;rw[z1m m,z4j,if_pos hd,List.map_append];rfl
 have hp:∀ k',(Value.slice A (z1t t (s.W.take k)).length C).ownBlock=some k'->g≠k'/\w'.heap[k']?=wl.heap[k']?:=fun k' d=>q k' (World.ownsRow.lt l k' d).2 (h k' d);refine⟨by rw[n];exact z1c l fun k' d=>(hp k' d).2,by rw[r];exact h1,?_,(f.block _ (by omega)).trans o,(f.block _ (by omega)).trans p,(f.block _ j).trans a,e.trans (f.mono (by omega)),Nat.le_trans i f.size⟩
 rw[n];intro k' d u;cases u;exact (hp g d).1 rfl
theorem j1y(s:St)(ao:Option Addr)(sb so c:Nat)(t:Int)(w:World)(hW:z2k w ao sb so s.W)(hg:z0m s=true) :
  Calls prog 78 #[J4 (stC s (J1 ao s.W.length c)),.int .i64 t] w fun e w'=>∃ A C A' C',e=.returned (.tuple #[J4 (stC (z5J s t) (J1 A (z5J s t).W.length C)),J1 A' (z1W t s.W).length C',.int .i64 0])/\z2d w.heap.size w' A C (z5J s t).W/\q0S w.heap.size w' A' C' (z1W t s.W)/\Bl w w':=by
 have SS:=(SAt.new w (stC s (J1 ao s.W.length c))).alloc (J5 Z63 43);have RR:=SAt.new2 w (J5 (stC s (J1 ao s.W.length c)) 43) Z63;have HB:Hid (Bl w ((w.alloc (J5 (stC s (J1 ao s.W.length c)) 43)).alloc (J5 Z63 43))):=(znw w _).alloc (by simp) _
 have HW:=J6 hW;have hG:=fun w h=>z7I s ao sb so c w h;have e2:s.W.length<=60:=((z0N s).1 hg).2.2.2.1;have a2:=fun k x hx hd w=>(q9V hg t (k:=k) (x:=x) hx hd) ▸ j2U (z4K t s.b (s.W.take k)) x.d x.amt w;rw[hg]at hG;clear hW
 go_enter func78,ntmps78
 go_upto_region 1 with fail
 change Code.wp prog _ _ _ ((w.alloc (J5 (stC s (J1 ao s.W.length c)) 43)).alloc (J5 Z63 43));generalize (w.alloc (J5 (stC s (J1 ao s.W.length c)) 43)).alloc (J5 Z63 43)=w0 at *;apply wp_region_lit;refine wpList_load_mid rfl 43 _ rfl _ 0 rfl _ _ SS.range underlying43 rfl (by rw[z0x];rfl) ?_
 go_upto_region 3 with (go_at_call 94;refine (hG _ (by exact HW.out.over HB.out)).mono ?_;rintro e w1⟨rfl,h1⟩)
 have a5:=J6 (zbt HB.out h1);have S1:=SS.later h1 SS.lt;have R1:=RR.later h1 RR.lt;have e8:w.heap.size+1<w1.heap.size:=R1.lt;have e3:w.heap.size<w1.heap.size:=by omega
 clear SS RR h1 HB hG;obtain⟨x0,x1,x2,x3,x4,x5,x6,_,_⟩:=z0r S1
 go_upto_region 4 with fail
 have B2:BAt (w1.alloc (J5 #[.int .i64 s.b.f0,.int .i64 s.b.f1,.int .i64 s.b.f2,.int .i64 s.b.f3,.int .i64 s.b.bo,.int .i64 s.b.wa,.int .i64 s.b.bu] 35)) w1.heap.size s.b.f0 s.b.f1 s.b.f2 s.b.f3 s.b.bo s.b.wa s.b.bu:=heap_alloc_new _ _;have S2:=S1.alloc (J5 #[.int .i64 s.b.f0,.int .i64 s.b.f1,.int .i64 s.b.f2,.int .i64 s.b.f3,.int .i64 s.b.bo,.int .i64 s.b.wa,.int .i64 s.b.bu] 35);have R2:=R1.alloc (J5 #[.int .i64 s.b.f0,.int .i64 s.b.f1,.int .i64 s.b.f2,.int .i64 s.b.f3,.int .i64 s.b.bo,.int .i64 s.b.wa,.int .i64 s.b.bu] 35);have a6:=J6 (a5.out.alloc (by omega) (J5 #[.int .i64 s.b.f0,.int .i64 s.b.f1,.int .i64 s.b.f2,.int .i64 s.b.f3,.int .i64 s.b.bo,.int .i64 s.b.wa,.int .i64 s.b.bu] 35))
 generalize w1.alloc (J5 #[.int .i64 s.b.f0,.int .i64 s.b.f1,.int .i64 s.b.f2,.int .i64 s.b.f3,.int .i64 s.b.bo,.int .i64 s.b.wa,.int .i64 s.b.bu] 35)=w2 at *;clear S1 R1 a5 x0 x1 x2 x3 x4 x5 x6;have e9:w1.heap.size<w2.heap.size:=B2.lt;have e4:w.heap.size<w2.heap.size:=by omega
 have x7:=(z0r S2).2.2.2.2.2.2.2.1;have a7:Hid (q9f s ao c t w2.heap.size w1.heap.size w 0 none 0 none 0 w2):=⟨⟨rfl,.inl ⟨rfl,rfl⟩⟩,⟨rfl,.inl ⟨rfl,rfl⟩⟩,fun k' h=>(by cases h),S2,R2,B2,a6.out,Nat.le_refl _⟩
 clear S2 R2 B2 a6;have H:=HW.out.adr
 go_upto_region 7 with fail
 go_loopw [9,10,22] (fun l9 d5 i wl=>∃ (k:Nat) (A:Option Addr) (C:Nat) (A':Option Addr) (C':Nat),k<=s.W.length/\i=.int .i64 (k:Int)/\l9=J1 A (z1t t (s.W.take k)).length C/\d5=J1 A' (z1W t (s.W.take k)).length C'/\Hid (q9f s ao c t w2.heap.size w1.heap.size w k A C A' C' wl)) (fun _ _ i _=>s.W.length - (intOf i).toNat)
 case atStart=>exact⟨0,none,0,none,0,Nat.zero_le _,rfl,rfl,rfl,a7⟩
 case round =>
  obtain⟨k,A,C,A',C',G,rfl,rfl,rfl,z⟩:=hrel;have f7:=z.out.size;clear a7 x7
  by_cases d6:k<s.W.length
  ·obtain⟨x,hx,_⟩:=drop_at d6;obtain⟨c0,c1,c2,c3,K,L,M,N⟩:=(HW.out.over z.out.below).cell k x hx;obtain rfl:=H (by omega)
   have h9:(z1t t (s.W.take k)).length<=60:=Nat.le_trans (List.length_filter_le _ _) (by rw[List.length_take];omega)
   have f8:(z1W t (s.W.take k)).length<=60:=by unfold z1W;rw[List.length_map];exact Nat.le_trans (List.length_filter_le _ _) (by rw[List.length_take];omega)
   have hH:=q4O x;have X:=a2 k x hx;have HX:=J6 hx;clear H a2 hx;have Y:YAt (wr.alloc (J5 #[.int .i64 x.num,.int .i64 x.d,.int .i64 x.v,.int .i64 x.amt,.int .i64 x.hei,.int .i64 x.due,.int .i64 x.h0,.int .i64 x.h1] 63)) wr.heap.size x:=heap_alloc_new _ _;have P:=J6 (z.out.over (by omega) (znw wr (J5 #[.int .i64 x.num,.int .i64 x.d,.int .i64 x.v,.int .i64 x.amt,.int .i64 x.hei,.int .i64 x.due,.int .i64 x.h0,.int .i64 x.h1] 63)))
   have f9:wr.heap.size<(wr.alloc (J5 #[.int .i64 x.num,.int .i64 x.d,.int .i64 x.v,.int .i64 x.amt,.int .i64 x.hei,.int .i64 x.due,.int .i64 x.h0,.int .i64 x.h1] 63)).heap.size:=Y.lt
   by_cases a3:x.due<=t
   ·by_cases B:x.h0=0/\x.h1=0
    ·have Z:Hid (z6A t x=true):=by show z6A t x=true;simp[z6A,a3,B]
     have a8:=X Z.out;rw[decide_eq_true B]at hH;clear X B
     go_upto_region 9 with fail
     generalize wr.alloc (J5 #[.int .i64 x.num,.int .i64 x.d,.int .i64 x.v,.int .i64 x.amt,.int .i64 x.hei,.int .i64 x.due,.int .i64 x.h0,.int .i64 x.h1] 63)=wq at *;clear c0 c1 c2 c3 K L M N z;obtain⟨c0,c1,c2,c3,K,L,M,N⟩:=Y.cells;have a9:=P.out.size;generalize b7:z4K t s.b (s.W.take k)=bk0 at *;generalize b8:z4K t s.b (s.W.take (k+1))=bk1 at *
     go_upto_region 12 with (first
      | (go_at_call 110;refine (hH _).mono ?_;rintro e w5⟨rfl,h5⟩;have a0:=J6 (P.out.over (by omega) h5);have Y5:=Y.later h5 Y.lt;clear c0 c1 c2 c3 K L M N;obtain⟨c0,c1,c2,c3,K,L,M,N⟩:=Y5.cells;have B5:=a0.out.bank;rw[b7]at B5;obtain⟨b0,b1,b2,b3,b4,b5,b6⟩:=B5.cells;have d7:=Y5.lt;have e5:=B5.lt;clear h5 B5)
      | (go_at_call 111;refine (a8 _).mono ?_;rintro e w6⟨rfl,h6⟩;have n:=J6 (a0.out.over (by omega) h6);have Y6:=Y5.later h6 Y5.lt;have B6:=n.out.bank;clear b0 b1 b2 b3 b4 b5 b6;obtain⟨b0,b1,b2,b3,b4,b5,b6⟩:=B6.cells;obtain⟨f0,f1,f2,f3,f4,f5,f6⟩:=B6.frees;have g0:=Y6.lt;have e6:=B6.lt;clear h6))
     change Code.wp prog _ _ _ (z6h w6 w1.heap.size bk1);have a:But w1.heap.size w6 (z6h w6 w1.heap.size bk1):=(((((((But.refl _ _).set 0 _).set 1 _).set 2 _).set 3 _).set 4 _).set 5 _).set 6 _;have B7:BAt (z6h w6 w1.heap.size bk1) w1.heap.size bk1.f0 bk1.f1 bk1.f2 bk1.f3 bk1.bo bk1.wa bk1.bu:=BAt.z6s B6 _ _ _ _ _ _ _;have S7:=a.z1g (by omega) n.out.S
     have R7:=a.z1g (by omega) n.out.R
     have Y7:YAt (z6h w6 w1.heap.size bk1) wr.heap.size x:=(a.block _ (by omega)).trans Y6
     have E:Hid (z2d w2.heap.size (z6h w6 w1.heap.size bk1) A C (z1t t (s.W.take k))):=z1c n.out.own9 fun k' G=>a.block _ (by have:=(World.ownsRow.lt n.out.own9 k' G).1;omega)
     have o:Hid (q0S w2.heap.size (z6h w6 w1.heap.size bk1) A' C' (z1W t (s.W.take k))):=z1c n.out.own10 fun k' G=>a.block _ (by have:=(World.ownsRow.lt n.out.own10 k' G).1;omega)
     have d8:=J6 (n.out.below.trans (a.below (by omega)))
     have d9:=J6 n.out.apart;clear c0 c1 c2 c3 K L M N b0 b1 b2 b3 b4 b5 b6 f0 f1 f2 f3 f4 f5 f6 a n Y6 B6 b7;generalize z6h w6 w1.heap.size bk1=w7 at *;have c0:=Y7.cells.1;have g1:=Y7.lt;have b9:w2.heap.size<=w7.heap.size:=by omega
     have c8:=J6 S7;have c9:=J6 R7;have Q:=J6 B7;rw[<- b8]at Q;clear S7 R7 B7 b8
     go_wp2_with (at_builtin;refine q1E rfl rfl _ _ rfl w2.heap.size A' C' w7.heap.size (z1W t (s.W.take k)) x.num rfl rfl (by exact o.out.over (znw w7 _)) (by omega) (by simp;omega) (by rw[World.cell?_alloc_at _ _ _ _ rfl];rfl) ?_;rintro g D d0⟨f,d1,d2,l,m⟩;have p:=J6 f;have q:=J6 l;have r:=J6 m;clear f l m)
     have F:=(Below.refl w7.heap.size w7).alloc (Nat.le_refl _) (J5 #[.int .i64 x.num] 3);have T:=J6 (q9f.paid (E.out.over F) d9.out (c8.out.later F c8.out.lt) (c9.out.later F c9.out.lt) (Q.out.later F Q.out.lt) (d8.out.trans (F.mono (by omega))) (Nat.le_trans b9 F.size) HX.out Z.out (by omega) (by omega) p.out q.out r.out)
     have y:=j0m HX.out Z.out;exact⟨⟨k+1,A,C,some ⟨g,0,none⟩,D,by omega,by go_num,by rw[y.1],by rw[y.2],T⟩,by simp[intOf];omega⟩
    ·have Z:Hid (z6A t x=false):=by show z6A t x=false;simp[z6A,a3,B]
     rw[decide_eq_false B]at hH
     go_upto_region 9 with fail
     generalize wr.alloc (J5 #[.int .i64 x.num,.int .i64 x.d,.int .i64 x.v,.int .i64 x.amt,.int .i64 x.hei,.int .i64 x.due,.int .i64 x.h0,.int .i64 x.h1] 63)=wp at *;clear c0 c1 c2 c3 K L M N z X B;obtain⟨c0,c1,c2,c3,K,L,M,N⟩:=Y.cells;have a9:=P.out.size
     go_upto_region 10 with (go_at_call 110;refine (hH _).mono ?_;rintro e wq⟨rfl,h5⟩;have a0:=J6 (P.out.over (by omega) h5);have Y5:=Y.later h5 Y.lt;clear h5)
     clear c0 c1 c2 c3 K L M N P Y;obtain⟨c0,c1,c2,c3,K,L,M,N⟩:=Y5.cells;have P:=J6 a0.out;have d7:=Y5.lt
     go_wp2_with (at_builtin;refine z8D rfl rfl _ _ rfl w2.heap.size A C wq.heap.size (z1t t (s.W.take k)) x rfl rfl (by exact P.out.own9.over (znw wq _)) (by omega) (by simp;omega) (by exact fun j u hj=>q7a wq x _ j u hj) ?_;rintro g D d0⟨f,d1,d2,l,m⟩;have p:=J6 f;have q:=J6 l;have r:=J6 m;clear f l m)
     have T:=J6 ((P.out.over (by omega) (znw wq (J5 #[.int .i64 x.num,.int .i64 x.d,.int .i64 x.v,.int .i64 x.amt,.int .i64 x.hei,.int .i64 x.due,.int .i64 x.h0,.int .i64 x.h1] 63))).left HX.out Z.out (by omega) (by omega) p.out q.out r.out)
     have y:=q3i HX.out Z.out;exact⟨⟨k+1,some ⟨g,0,none⟩,D,A',C',by omega,by go_num,by rw[y.1],by rw[y.2],T⟩,by simp[intOf];omega⟩
   ·have Z:Hid (z6A t x=false):=by show z6A t x=false;simp[z6A,a3]
    go_upto_region 9 with fail
    generalize wr.alloc (J5 #[.int .i64 x.num,.int .i64 x.d,.int .i64 x.v,.int .i64 x.amt,.int .i64 x.hei,.int .i64 x.due,.int .i64 x.h0,.int .i64 x.h1] 63)=wq at *;clear c0 c1 c2 c3 K L M N z X hH;obtain⟨c0,c1,c2,c3,K,L,M,N⟩:=Y.cells;have a9:=P.out.size
    go_wp2_with (at_builtin;refine z8D rfl rfl _ _ rfl w2.heap.size A C wq.heap.size (z1t t (s.W.take k)) x rfl rfl (by exact P.out.own9.over (znw wq _)) (by omega) (by simp;omega) (by exact fun j u hj=>q7a wq x _ j u hj) ?_;rintro g D d0⟨f,d1,d2,l,m⟩;have p:=J6 f;have q:=J6 l;have r:=J6 m;clear f l m)
    have T:=J6 ((P.out.over (by omega) (znw wq (J5 #[.int .i64 x.num,.int .i64 x.d,.int .i64 x.v,.int .i64 x.amt,.int .i64 x.hei,.int .i64 x.due,.int .i64 x.h0,.int .i64 x.h1] 63))).left HX.out Z.out (by omega) (by omega) p.out q.out r.out)
    have y:=q3i HX.out Z.out;exact⟨⟨k+1,some ⟨g,0,none⟩,D,A',C',by omega,by go_num,by rw[y.1],by rw[y.2],T⟩,by simp[intOf];omega⟩
  ·obtain rfl:k=s.W.length:=by omega
   clear a2 H;rw[List.take_length];have U:=J6 z.out.S;have HR:=J6 z.out.R;have a4:=J6 z.out.bank;have E:=J6 z.out.own9;have o:=J6 z.out.own10;have d3:=J6 z.out.below;clear z;rw[List.take_length]at a4 E o;obtain⟨x0,x1,x2,x3,x4,x5,x6,x7,_⟩:=z0r U.out;obtain⟨b0,b1,b2,b3,b4,b5,b6⟩:=a4.out.cells;have f0:=U.out.free 0;have f1:=U.out.free 1;have f2:=U.out.free 2;have f3:=U.out.free 3;have f4:=U.out.free 4;have f5:=U.out.free 5;have f6:=U.out.free 6;have e0:=U.out.free 61;have g3:w1.heap.size≠w.heap.size:=by omega
   have g5:w.heap.size<wr.heap.size:=by omega
   have e7:w1.heap.size<wr.heap.size:=by omega
   generalize d4:z4K t s.b s.W=bk at *
   go_upto_region 17 with fail
   change Code.wp prog _ _ _ ((z6h wr w.heap.size bk).setCell ⟨w.heap.size,61,none⟩ (J1 A (z1t t s.W).length C));have a:But w.heap.size wr ((z6h wr w.heap.size bk).setCell ⟨w.heap.size,61,none⟩ (J1 A (z1t t s.W).length C)):=((((((((But.refl _ _).set 0 _).set 1 _).set 2 _).set 3 _).set 4 _).set 5 _).set 6 _).set 61 _;have S8:=(z6O U.out bk).set 61 (J1 A (z1t t s.W).length C);rw[q0u]at S8;have R8:=a.z1g (by omega) HR.out
   have a1:Hid (z2d w2.heap.size ((z6h wr w.heap.size bk).setCell ⟨w.heap.size,61,none⟩ (J1 A (z1t t s.W).length C)) A C (z1t t s.W)):=z1c E.out fun k' G=>a.block _ (by have:=(World.ownsRow.lt E.out k' G).1;omega)
   have V:Hid (q0S w2.heap.size ((z6h wr w.heap.size bk).setCell ⟨w.heap.size,61,none⟩ (J1 A (z1t t s.W).length C)) A' C' (z1W t s.W)):=z1c o.out fun k' G=>a.block _ (by have:=(World.ownsRow.lt o.out k' G).1;omega)
   have e1:=J6 (d3.out.trans (a.below (Nat.le_refl _)));generalize (z6h wr w.heap.size bk).setCell ⟨w.heap.size,61,none⟩ (J1 A (z1t t s.W).length C)=w8 at *;clear x0 x1 x2 x3 x4 x5 x6 x7 b0 b1 b2 b3 b4 b5 b6 f0 f1 f2 f3 f4 f5 f6 e0 a U HR a4 E o d3
   have S9:SAt w8 w.heap.size (stC (z5J s t) (J1 A (z1t t s.W).length C)):=by
    have e:stC (z5J s t) (J1 A (z1t t s.W).length C)=stC { s with b:=bk } (J1 A (z1t t s.W).length C):=by rw[<- d4];rfl
    rw[e];exact S8
   clear S8 d4;apply wp_region_lit;refine wpList_load_mid rfl 43 _ rfl _ 0 rfl _ _ S9.range underlying43 rfl (by rw[z0x];rfl) ?_
   refine z1D rfl _ rfl ?_;refine wpList_store_mid rfl 43 _ _ rfl _ 0 (stC (z5J s t) (J1 A (z1t t s.W).length C)) rfl rfl (R8.there 0 _ (by rw[z0q,z0f];omega)) (by rw[z0x];rfl) (z0y _ _ _ _) ?_
   go_wp2;exact z8K results78 R8 rfl (z5J s t) _ _ _ _ ⟨A,C,A',C',rfl,z2N (z1c a1.out fun k' G=>z0M (by have:=(World.ownsRow.lt a1.out k' G).1;omega) _ _ _) (by omega),z2N (z1c V.out fun k' G=>z0M (by have:=(World.ownsRow.lt V.out k' G).1;omega) _ _ _) (by omega),z0a (by omega) _ _ _ e1.out⟩ _ rfl rfl rfl rfl
theorem q4P(s:St)(ao:Option Addr)(sb so c v:Nat)(h f:Int)(w:World)(hW:z2k w ao sb so s.W)(R:z0m s=true)(j:v<6)(S:0<=f/\f<=1000) :
  Calls prog 107 #[J4 (stC s (J1 ao s.W.length c)),J I (v:Int),J I h,J I f] w fun e w'=>∃ A C,e=.returned (.tuple #[J4 (stC (z1V s v h f) (J1 A (z1V s v h f).W.length C)),J I (ptN (s.V v).tok f+slN v h f s.W),J I 0])/\z2d w.heap.size w' A C (z1V s v h f).W/\Bl w w':=by
 have T:=(SAt.new w (stC s (J1 ao s.W.length c))).alloc (J5 Z63 43);have RR:=SAt.new2 w (J5 (stC s (J1 ao s.W.length c)) 43) Z63;have HB:Hid (Bl w ((w.alloc (J5 (stC s (J1 ao s.W.length c)) 43)).alloc (J5 Z63 43))):=(znw w _).alloc (by simp) _
 have HW:=J6 hW;have b4:=z3A R j;have b5:(v:Int)<6:=by omega
 have b6:(0:Int)<=(v:Int):=by omega
 obtain⟨n1,n2,n3,n4,n5,n6,n7,n8,n9,p,q⟩:=z4t R j h S;obtain⟨b0,-⟩:=z6f R j h S;have hP:=q2R (s.V v).tok f;have t:=fun w hw=>z7R ao s.W c sb so v h f w hw S p n9 q;have k:=fun w=>j1b s.b (ptN (s.V v).tok f) (slN v h f s.W) w;rw[b0]at k;rw[n1]at hP;have eS:z1V s v h f={ s with b:=(z2w s.b (ptN (s.V v).tok f) (slN v h f s.W)).1,V:=z1Q s.V v (z7a (s.V v) (ptN (s.V v).tok f) (slN v h f s.W)),W:=slW v h f s.W }:=rfl
 generalize (z2w s.b (ptN (s.V v).tok f) (slN v h f s.W)).1=B at *;have u:(z1V s v h f).W=slW v h f s.W:=rfl;generalize z1V s v h f=r at *;generalize ptN (s.V v).tok f=pb at *;generalize slN v h f s.W=pw at *;rw[u];generalize slW v h f s.W=Ws at *;obtain⟨b7,b8⟩:=n2;obtain⟨b9,c4⟩:=n3;obtain⟨c5,c6⟩:=n5;have c7:wrap64 (pb+pw)=pb+pw:=z0g (by omega) (by omega)
 have a0:=J6 eS;clear hW S R n1 n9 p q b0 eS u
 go_enter func107,ntmps107
 go_upto_region 1 with fail
 change Code.wp prog _ _ _ ((w.alloc (J5 (stC s (J1 ao s.W.length c)) 43)).alloc (J5 Z63 43));generalize (w.alloc (J5 (stC s (J1 ao s.W.length c)) 43)).alloc (J5 Z63 43)=w0 at *
 go_upto_region 2 with (go_at_call 72;refine (z1F s ao sb so c w.heap.size v _ T (by exact HW.out.over HB.out)).mono ?_;rintro e w1⟨rfl,h1⟩)
 have x:=J6 (zbt HB.out h1);have y:=T.later h1 T.lt;have U:=RR.later h1 RR.lt;clear T RR h1 HB;have c0:=(y.val v j).1;have X:=(z0r y).2.2.2.2.2.2.2.1;have c8:w.heap.size+1<w1.heap.size:=U.lt;have a3:w.heap.size<w1.heap.size:=by omega
 go_upto_region 14 with (first
  | (go_at_call 149;refine (hP _).mono ?_;rintro e w2⟨rfl,h2⟩;have l:=J6 (x.out.trans (h2.mono (by omega)));have z:=y.later h2 y.lt;have Y:=U.later h2 U.lt;have c9:=Y.lt;clear X;have X:=(z0r z).2.2.2.2.2.2.2.1;have a4:=z.lt;clear h2)
  | (go_at_call 150;refine (t _ (by exact HW.out.over l.out)).mono ?_;rintro e w3⟨A,C,rfl,D,h3⟩;have E:=J6 (l.out.trans (h3.mono (by omega)));have F:=z.later h3 z.lt;have Z:=Y.later h3 Y.lt;have G:=J6 D;have d0:=Z.lt;have a5:=F.lt;obtain⟨x0,x1,x2,x3,x4,x5,x6,_,_⟩:=z0r F;clear h3 D)
  | (go_at_call 151;refine (k _).mono ?_;rintro e m⟨rfl,H⟩;have K:=J6 (E.out.trans (H.mono (by omega)));have S4:=F.later H F.lt;have R4:=Z.later H Z.lt;have L:=J6 (G.out.over H);have d1:=R4.lt;clear H x0 x1 x2 x3 x4 x5 x6))
 have B5:BAt (m.alloc (J5 #[J I B.f0,J I B.f1,J I B.f2,J I B.f3,J I B.bo,J I B.wa,J I B.bu] 35)) m.heap.size B.f0 B.f1 B.f2 B.f3 B.bo B.wa B.bu:=heap_alloc_new _ _;have M:=S4.alloc (J5 #[J I B.f0,J I B.f1,J I B.f2,J I B.f3,J I B.bo,J I B.wa,J I B.bu] 35);have R5:=R4.alloc (J5 #[J I B.f0,J I B.f1,J I B.f2,J I B.f3,J I B.bo,J I B.wa,J I B.bu] 35);have N:=J6 (K.out.alloc (by omega) (J5 #[J I B.f0,J I B.f1,J I B.f2,J I B.f3,J I B.bo,J I B.wa,J I B.bu] 35))
 have n:=J6 (L.out.over (znw m (J5 #[J I B.f0,J I B.f1,J I B.f2,J I B.f3,J I B.bo,J I B.wa,J I B.bu] 35)));generalize m.alloc (J5 #[J I B.f0,J I B.f1,J I B.f2,J I B.f3,J I B.bo,J I B.wa,J I B.bu] 35)=w5 at *;clear y U x z Y l F Z E S4 R4 K G L hP t k;have d2:m.heap.size<w5.heap.size:=B5.lt;have a6:w.heap.size<w5.heap.size:=by omega
 have c0:=(M.val v j).1;have c2:=(M.val v j).2.2.1;have f0:=M.free (7+v * 5)
 go_upto_region 16 with fail
 have o:=M.set (7+v * 5) (J I ((s.V v).tok - pb));rw[q7z _ _ v j]at o;have P:=J6 ((But.refl w.heap.size w5).set (7+v * 5) (J I ((s.V v).tok - pb)));generalize w5.setCell ⟨w.heap.size,7+v * 5,none⟩ (J I ((s.V v).tok - pb))=w6 at *;clear c0 c2 f0;have c2:=(o.val v j).2.2.1;simp only[z5W]at c2;have f0:=o.free (7+v * 5+2);have a7:w.heap.size<w6.heap.size:=o.lt
 go_upto_region 17 with fail
 have d:=o.set (7+v * 5+2) (J I ((s.V v).lost+(pb+pw)));rw[j1P _ _ v j]at d;have g:=J6 (P.out.set (7+v * 5+2) (J I ((s.V v).lost+(pb+pw))));generalize w6.setCell ⟨w.heap.size,7+v * 5+2,none⟩ (J I ((s.V v).lost+(pb+pw)))=w7 at *;have a8:w.heap.size<w7.heap.size:=d.lt;have B7:BAt w7 m.heap.size B.f0 B.f1 B.f2 B.f3 B.bo B.wa B.bu:=(g.out.block _ (by omega)).trans B5
 have a9:=B7.lt;obtain⟨x0,x1,x2,x3,x4,x5,x6,X,_⟩:=z0r d;obtain⟨y0,y1,y2,y3,y4,y5,y6⟩:=B7.cells;have g0:=d.free 0;have g1:=d.free 1;have g2:=d.free 2;have g3:=d.free 3;have g4:=d.free 4;have g5:=d.free 5;have g6:=d.free 6;have a1:=d.free 61;have d3:m.heap.size≠w.heap.size:=by omega
 clear c2 f0 o P
 go_upto_region 18 with fail
 change Code.wp prog _ _ _ ((z6h w7 w.heap.size B).setCell ⟨w.heap.size,61,none⟩ (J1 A Ws.length C));have a:Hid (But w.heap.size w5 ((z6h w7 w.heap.size B).setCell ⟨w.heap.size,61,none⟩ (J1 A Ws.length C))):=(((((((g.out.set 0 _).set 1 _).set 2 _).set 3 _).set 4 _).set 5 _).set 6 _).set 61 _;have S8:=(z6O d B).set 61 (J1 A Ws.length C);rw[q0u]at S8;have R8:=a.out.z1g (by omega) R5
 have Q:Hid (z2d w2.heap.size ((z6h w7 w.heap.size B).setCell ⟨w.heap.size,61,none⟩ (J1 A Ws.length C)) A C Ws):=z1c n.out fun k' hk=>a.out.block _ (by have:=(World.ownsRow.lt n.out k' hk).1;omega)
 have a2:=J6 (N.out.trans (a.out.below (Nat.le_refl _)));generalize (z6h w7 w.heap.size B).setCell ⟨w.heap.size,61,none⟩ (J1 A Ws.length C)=w8 at *;clear x0 x1 x2 x3 x4 x5 x6 X y0 y1 y2 y3 y4 y5 y6 g0 g1 g2 g3 g4 g5 g6 a1 d B7 B5 g a R5 N n M
 have S9:SAt w8 w.heap.size (stC r (J1 A Ws.length C)):=by
  have e:stC r (J1 A Ws.length C)=stC { ({ s with V:=z1Q (z1Q s.V v { s.V v with tok:=(s.V v).tok - pb }) v { z1Q s.V v { s.V v with tok:=(s.V v).tok - pb } v with lost:=(s.V v).lost+(pb+pw) } }:St) with b:=B } (J1 A Ws.length C):=by
   rw[a0.out,z5W]
   have hV:z1Q (z1Q s.V v { s.V v with tok:=(s.V v).tok - pb }) v { s.V v with tok:=(s.V v).tok - pb,lost:=(s.V v).lost+(pb+pw) }=z1Q s.V v (z7a (s.V v) pb pw):=by
    funext i
    unfold z1Q z7a
    split <;> rfl
   rw[hV];rfl
  rw[e];exact S8
 clear S8;apply wp_region_lit;refine wpList_load_mid rfl 43 _ rfl _ 0 rfl _ _ S9.range underlying43 rfl (by rw[z0x];rfl) ?_
 refine z1D rfl _ rfl ?_;refine wpList_store_mid rfl 43 _ _ rfl _ 0 (stC r (J1 A Ws.length C)) rfl rfl (R8.there 0 _ (by rw[z0q,z0f];omega)) (by rw[z0x];rfl) (z0y _ _ _ _) ?_
 go_wp2;exact z8K results107 R8 rfl r _ _ _ _ ⟨A,C,rfl,z2N (z1c Q.out fun k' hk=>z0M (by have:=(World.ownsRow.lt Q.out k' hk).1;omega) _ _ _) (by omega),z0a (by omega) _ _ _ a2.out⟩ _ rfl rfl rfl rfl
end
end Go.Proofs.YtddlhnoedldidaaGreat
