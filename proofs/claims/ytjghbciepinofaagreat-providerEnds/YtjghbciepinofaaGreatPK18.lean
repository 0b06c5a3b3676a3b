/- Parts of the proof. -/
import Derived.Test.YtjghbciepinofaaGreatPL
import Derived.Test.YtjghbciepinofaaGreatPK37
import Derived.Test.YtjghbciepinofaaGreatPK40
set_option maxRecDepth 100000
set_option maxHeartbeats 16000000
namespace Go.Proofs.YtjghbciepinofaaGreat
open Go.Proofs.Tryz
open Value renaming int->J,slice->J1,pointer->J2,bool->J3,agg->J4
open IntKind renaming i64->I
open Obj renaming cells->J5
namespace Cd
open Go.RowKit
def bs(s:ByteArray):List Int:=s.data.toList.map fun u=>(u.toNat:Int)
def tk(m:Nat)(st:List Int×Bool):Int×(List Int×Bool):=if st.1.length<m then (0,([],true)) else (j1u 0 (st.1.take m),(st.1.drop m,st.2))
end Cd
section
open Go.RowKit
def z0s(w:World)(ao:Option Addr)(m:Nat):List Value:=(List.range m).map fun j=>(ao.bind fun a=>w.cell? (a.add j)).getD undef
def Src(w:World)(ao:Option Addr)(n size bytes:Nat):Prop:=n * bytes<=140737488351232/\(n=0∨∃ a,ao=some a/\∀ j,j<n * size->∃ u,w.cell? (a.add j)=some u)
def cpA(w:World)(n:Nat):Option Addr:=if n=0 then none else some ⟨w.heap.size,0,none⟩
def cpC(w:World)(n e:Nat):Nat:=if n=0 then 0 else grownCap w n 0 e
def cpW(w:World)(ao:Option Addr)(n size e:Nat)(z:Value):World:=if n=0 then w else w.drew.alloc (J5 ((z0s w ao (n * size)).toArray ++ Builtin.zeroCells z.cells (grownCap w n 0 e - n)) e)
theorem z5y{w:World}{a:Addr}{m:Nat}(h:∀ j,j<m->∃ u,w.cell? (a.add j)=some u):∀ j u,(z0s w (some a) m)[j]?=some u->w.cell? (a.add j)=some u:=by
 intro j u c
 have b:j<m:=by
  rcases Nat.lt_or_ge j m with h | h
  ·exact h
  ·rw[List.getElem?_eq_none (by simp[z0s];exact h)]at c;cases c
 obtain⟨v,d⟩:=h j b
 simp[z0s,b,d]at c
 rw[d,c]
theorem z2Y(t ty e:TypeId)(i:TypeInfo)(z:Value)(size bytes:Nat)(g:prog.underlying t=some (.slice e))(j:prog.info? e=some i)(k:i.zero=some z)(d:i.size=size)(f:i.bytes=bytes)
  (hb8:8<=bytes) (w:World) (ao:Option Addr) (n c:Nat) (h:Src w ao n size bytes) :
  (Builtin.append_ #[t,t] ty #[J1 none 0 0,J1 ao n c]).run prog w=.ok (.slice (cpA w n) n (cpC w n e)) (cpW w ao n size e z):=by
 by_cases h0:n=0
 ·subst h0;simp only[cpA,cpC,cpW,if_pos];cases ao <;> simp[Builtin.append_,run_underlying g,sizeOf,typeInfo,j,Builtin.lenOf,Builtin.firstCells,loadCells,loadCellsFrom]
 ·obtain⟨o,b⟩:=h
  rcases b with b | ⟨a,rfl,b⟩
  ·exact absurd b h0
  subst d f
  have l:n<=140737488351232:=by
   have:n * 1<=n * i.bytes:=Nat.mul_le_mul_left n (by omega)
   omega
  have m:=run_append_nil (P:=prog) w t ty e i z g j k a n c (z0s w (some a) (n * i.size)) (by simp[z0s]) (z5y b) (by omega) (by omega) (by omega)
  rw[m,cpA,cpC,cpW,if_neg h0,if_neg h0,if_neg h0]
theorem q4k:(prog.info? 127).map (fun i=>(i.zero,i.size,i.bytes))=some (some (J4 #[J I 0,J I 0,J I 0,J I 0,J I 0,J I 0,J I 0,J I 0]),8,64):=by kernel_rfl
theorem apW(w:World)(ao:Option Addr)(n c:Nat)(h:Src w ao n 8 64) :
  (Builtin.append_ #[30,30] 30 #[J1 none 0 0,J1 ao n c]).run prog w=.ok (.slice (cpA w n) n (cpC w n 127)) (cpW w ao n 8 127 (J4 #[J I 0,J I 0,J I 0,J I 0,J I 0,J I 0,J I 0,J I 0])):=by
 obtain⟨e,f,a,b,d⟩:=info_parts q4k;exact z2Y 30 30 127 e _ 8 64 underlying30 f a b d (by omega) w ao n c h
theorem z5C(w:World)(ao:Option Addr)(n size e:Nat)(z:Value):Bl w (cpW w ao n size e z):=by
 unfold cpW
 split
 ·exact Below.refl _ _
 ·exact (Below.refl _ _).drew.alloc (Nat.le_refl _) _
theorem Src.later{w w':World}{ao:Option Addr}{n size bytes:Nat}(h:Src w ao n size bytes)(b:Bl w w'):Src w' ao n size bytes:=by
 refine⟨h.1,?_⟩
 rcases h.2 with h0 | ⟨a,rfl,c⟩
 ·exact .inl h0
 ·refine .inr ⟨a,rfl,fun j d=>?_⟩;obtain⟨u,hu⟩:=c j d;exact⟨u,(b.cell (p:=a.add j) (World.block_lt_of_cell? w _ hu)).trans hu⟩
structure z1Z(w:World)(ao:Option Addr)(n size:Nat)(A:Option Addr)(w':World):Prop where
 below:Bl w w'
 cells:0<n->∃ a g,ao=some a/\A=some ⟨g,0,none⟩/\w.heap.size<=g/\∀ j,j<n * size->w'.cell? ⟨g,j,none⟩=w.cell? (a.add j)
theorem z3j(w:World)(ao:Option Addr)(n size bytes e:Nat)(z:Value)(h:Src w ao n size bytes):z1Z w ao n size (cpA w n) (cpW w ao n size e z):=by
 refine⟨z5C _ _ _ _ _ _,fun h0=>?_⟩
 rcases h.2 with d | ⟨a,rfl,c⟩
 ·omega
 refine⟨a,w.heap.size,rfl,by rw[cpA,if_neg (by omega)],Nat.le_refl _,fun j b=>?_⟩
 obtain⟨u,hu⟩:=c j b;rw[cpW,if_neg (by omega),hu,show (⟨w.heap.size,j,none⟩:Addr)=⟨w.drew.heap.size,j,none⟩ from rfl,World.cell?_alloc_at _ _ _ _ rfl]
 rw[Array.getElem?_append_left (by simp[z0s];exact b)]
 simp[z0s,b,hu]
theorem z8x{ops:Array Oper}{rest:List Oper}{o:Oper}{a:Act}{w:World}{Q:Exit->Act->World->Prop}(f:o.guard=none)(b:o.type=30)(s x:Operand)
  (d:o.op=Op.call { callee:=Callee.builtin Builtin.append,args:=#[s,x],argTypes:=#[30,30] }) (ao:Option Addr) (n c:Nat) (g:a.eval s=J1 none 0 0) (i:a.eval x=J1 ao n c) (h:Src w ao n 8 64)
  (j:∀ A C w',z1Z w ao n 8 A w'->wpList prog ops Q rest (a.put o.dst (J1 A n C)) w'):wpList prog ops Q (o :: rest) a w:=by
 refine wpList_plain f fun _ e=>?_;unfold Oper.wp;have k:=apW w ao n c h
 simp[execOp,d,resolve,invoke,builtin,g,i,b,k,Result.andThen]
 exact e _ _ (j _ _ _ (z3j w ao n 8 64 127 _ h))
theorem z6M{w w1:World}{cs:Array Value}{sa A:Option Addr}{n d C:Nat}(a:z1Z ((w.alloc (J5 cs 32)).alloc (J5 Z63 32)) sa n 8 A w1)(b:cs[61]?=some (J1 sa n d)) :
  w1.cell? ⟨w.heap.size,61,none⟩=some (J1 sa n d)/\w1.frozen? ⟨w.heap.size,61,none⟩=false/\SAt (w1.setCell ⟨w.heap.size,61,none⟩ (J1 A n C)) w.heap.size (cs.setIfInBounds 61 (J1 A n C))/\SAt (w1.setCell ⟨w.heap.size,61,none⟩ (J1 A n C)) (w.heap.size+1) Z63:=by
 have c:=((SAt.new w cs).alloc (J5 Z63 32)).later a.below (by simp;omega)
 have e:SAt w1 (w.heap.size+1) Z63:=(SAt.new2 w (J5 cs 32) Z63).later a.below (by simp)
 exact⟨(c.cell 61).trans b,c.free 61,c.set 61 _,e.other (by omega) _⟩
theorem z3s(cs:Array Value)(sa:Option Addr)(n l:Nat)(w:World)(a:cs.size=63)(d:cs[61]?=some (J1 sa n l))(f:cs.all (·.oneCell')=true)(g:Src w sa n 8 64) :
  Calls prog 42 #[J4 cs] w fun e w'=>∃ A C w0 w1,e=.returned (J4 (cs.setIfInBounds 61 (J1 A n C)))/\Bl w w0/\w.heap.size+2<=w0.heap.size/\z1Z w0 sa n 8 A w1/\Bl w w'/\(∀ b,w.heap.size+2<=b->w'.heap[b]?=w1.heap[b]?):=by
 have p:cs[61]'(by omega)=J1 sa n l:=by simpa [Array.getElem?_eq_getElem (show 61<cs.size by omega)] using d
 go_enter func42,ntmps42
 go_upto_region 2 with (first
  | (at_builtin;refine z8x rfl rfl _ _ rfl sa n l rfl (by simp[Act.eval]) (g.later ((znw w _).alloc (by simp) _)) ?_;intro A C w1 c;obtain⟨q,r,h,i⟩:=z6M (C:=C) c d;have m:=h.range;have j:Hid (SAt (w1.setCell ⟨w.heap.size,61,none⟩ (J1 A n C)) (w.heap.size+1) Z63):=i;have k:Hid (z1Z _ sa n 8 A w1):=c;clear h i c))
 have o:Hid (Bl w w1):=((znw w _).alloc (by simp) _).trans (k.out.below.mono (by simp;omega))
 apply wp_region_lit;refine wpList_load_mid rfl 32 _ rfl w.heap.size 0 rfl _ _ m underlying32 rfl (by rw[z0l];simp[a]) ?_
 refine wpList_store_mid rfl 32 _ _ rfl (w.heap.size+1) 0 (cs.setIfInBounds 61 (J1 A n C)) rfl rfl (j.out.there 0 _ (by simp[Z63,a])) (by rw[z0l];simp[a]) (q2s f rfl) ?_
 go_wp2;have s:=j.out.z0C (ds:=cs.setIfInBounds 61 (J1 A n C)) (by simp[Z63,a])
 refine bodyPost_ret (v:=J4 (cs.setIfInBounds 61 (J1 A n C))) ?_ rfl ⟨A,C,_,w1,rfl,(znw w _).alloc (by simp) _,by simp,k.out,z0b (by omega) _ _ _ (o.out.setCell (by simp) _),fun b t=>(z0f (by omega) _ _ _).trans (Below.heap_setCell _ _ _ _ (by simp;omega))⟩
 exact results_cell_row rfl _ _ _ _ _ _ _ rfl s underlying32 rfl (by rw[z0l];simp[a])
theorem q6V{w:World}{ao:Option Addr}{b o:Nat}{W:List Wt}(h:z1R w ao b o W):Src w ao W.length 8 64:=by
 refine⟨h.len,?_⟩
 rcases Nat.eq_zero_or_pos W.length with h0 | h0
 ·exact .inl h0
 ·refine .inr ⟨_,h.adr h0,fun j i=>?_⟩;have a:j / 8<W.length:=by omega
  obtain⟨c0,c1,c2,c3,c,d,f,g⟩:=h.cell (j / 8) _ (List.getElem?_eq_getElem a);rw[Addr.add_lit]
  rcases (show j % 8=0∨j % 8=1∨j % 8=2∨j % 8=3∨j % 8=4∨j % 8=5∨j % 8=6∨j % 8=7 by omega) with e | e | e | e | e | e | e | e
  ·rw[show o+j=o+j / 8 * 8 by omega];exact⟨_,c0⟩
  ·rw[show o+j=o+j / 8 * 8+1 by omega];exact⟨_,c1⟩
  ·rw[show o+j=o+j / 8 * 8+2 by omega];exact⟨_,c2⟩
  ·rw[show o+j=o+j / 8 * 8+3 by omega];exact⟨_,c3⟩
  ·rw[show o+j=o+j / 8 * 8+4 by omega];exact⟨_,c⟩
  ·rw[show o+j=o+j / 8 * 8+5 by omega];exact⟨_,d⟩
  ·rw[show o+j=o+j / 8 * 8+6 by omega];exact⟨_,f⟩
  ·rw[show o+j=o+j / 8 * 8+7 by omega];exact⟨_,g⟩
theorem q4B{w w':World}{b o g:Nat}{W:List Wt}{ao:Option Addr}(h:z1R w ao b o W)(a:∀ j,j<W.length * 8->w'.cell? ⟨g,j,none⟩=w.cell? ⟨b,o+j,none⟩):z1R w' (some ⟨g,0,none⟩) g 0 W:=by
 refine⟨fun _=>rfl,h.len,fun i x c=>?_⟩;have l:=(List.getElem?_eq_some_iff.1 c).1;obtain⟨c0,c1,c2,c3,d,e,f,k⟩:=h.cell i x c;rw[Nat.zero_add];refine⟨?_,?_,?_,?_,?_,?_,?_,?_⟩
 ·rw[a _ (by omega)];exact c0
 ·rw[a _ (by omega),show o+(i * 8+1)=o+i * 8+1 by omega];exact c1
 ·rw[a _ (by omega),show o+(i * 8+2)=o+i * 8+2 by omega];exact c2
 ·rw[a _ (by omega),show o+(i * 8+3)=o+i * 8+3 by omega];exact c3
 ·rw[a _ (by omega),show o+(i * 8+4)=o+i * 8+4 by omega];exact d
 ·rw[a _ (by omega),show o+(i * 8+5)=o+i * 8+5 by omega];exact e
 ·rw[a _ (by omega),show o+(i * 8+6)=o+i * 8+6 by omega];exact f
 ·rw[a _ (by omega),show o+(i * 8+7)=o+i * 8+7 by omega];exact k
theorem q7s(s:St)(ao:Option Addr)(sb so c:Nat)(w:World)(b:z1R w ao sb so s.W) :
  Calls prog 42 #[J4 (stC s (J1 ao s.W.length c))] w fun e w'=>∃ A C g,e=.returned (J4 (stC s (J1 A s.W.length C)))/\z1R w' A g 0 s.W/\(0<s.W.length->w.heap.size<=g)/\Bl w w':=by
 refine (z3s (stC s (J1 ao s.W.length c)) ao s.W.length c w (z0d _ _) (q6J _ _) (z0q _ _ _ _) (q6V b)).mono ?_;rintro e w'⟨A,C,w0,w1,rfl,h0,h2,f,m,hsame⟩
 rcases Nat.eq_zero_or_pos s.W.length with d | d
 ·refine⟨A,C,0,rfl,⟨fun h=>by omega,b.len,fun i x o=>?_⟩,fun h=>by omega,m⟩
  have:=(List.getElem?_eq_some_iff.1 o).1;omega
 ·obtain⟨a,g,n,rfl,q,r⟩:=f.cells d;have k:=b.adr d;rw[k]at n;cases n;have l:=b.lt d;refine⟨some ⟨g,0,none⟩,C,g,rfl,q4B b fun j t=>?_,fun _=>Nat.le_trans h0.size q,m⟩;have u:w'.cell? ⟨g,j,none⟩=w1.cell? ⟨g,j,none⟩:=World.cell?_of_block (w:=w1) (hsame g (by omega))
  rw[u,r j t,Addr.add_lit,h0.cell (p:=⟨sb,so+j,none⟩) l]
theorem j0J(g cap:Nat)(c:Int)(l:List Pw)(w:World)(h:z1w w g l)(f:l.length<=12) :
  Calls prog 86 #[J1 (some ⟨g,0,none⟩) l.length cap,J I 0,J I (l.length:Int),J I c,.func (.func 39) #[] #[]] w fun e w'=>e=.returned (.tuple #[])/\z1w w' g (z1D ltV l)/\z2g g w w':=by
 have i:=q5a g cap l w h f;have j:(l.length:Int)<=12:=by omega
 clear h
 go_enter func86,ntmps86
 go_wp2_with fail
 go_loopw [1,2] (fun a b wl=>a=J I 0/\b=J I (l.length:Int)/\Hid (wl=w)) (fun _ _ _=>0)
 case atStart=>exact⟨rfl,rfl,rfl⟩
 case round =>
  obtain⟨rfl,rfl,d⟩:=hrel;have e:=d.out;subst e;clear d
  go_wp2_with (go_at_call 126;refine i.mono ?_;rintro e w1⟨rfl,h1⟩;have k:=J6 h1;clear h1)
  exact bodyPost_ret (v:=.tuple #[]) (by simp[results,results86]) rfl ⟨rfl,k.out⟩
theorem q3y(n:Nat)(b:n<=12)(w:World):Calls prog 87 #[.int .u64 (n:Int)] w fun e w'=>(∃ k,e=.returned (J I k))/\w=w':=by
 have a:=Ra.q6h n (by omega)
 go_enter func87,ntmps87
 go_wp2_with (go_at_call 135;refine (a _).mono ?_;rintro e w1⟨rfl,rfl⟩)
 go_ret;exact⟨⟨_,rfl⟩,rfl⟩
theorem q2e(g cap:Nat)(l:List Pw)(w:World)(h:z1w w g l)(b:l.length<=12) :
  Calls prog 37 #[J1 (some ⟨g,0,none⟩) l.length cap,.func (.func 39) #[] #[]] w fun e w'=>e=.returned (.tuple #[])/\z1w w' g (z1D ltV l)/\z2g g w w':=by
 have c:=fun a=>j0J g cap a l w h b;have d:=q3y l.length b w;clear h
 go_enter func37,ntmps37
 go_wp2_with (first
  | (go_at_call 87;refine d.mono ?_;rintro e w1⟨⟨k,rfl⟩,rfl⟩)
  | (go_at_call 86;refine (c _).mono ?_;rintro e i⟨rfl,h1⟩;have f:=J6 h1;clear h1))
 go_end0;exact⟨rfl,f.out⟩
def pwL:List Pw->List Value
 | []=>[]
 | x :: r=>.int .i64 x.1 :: J I x.2 :: pwL r
theorem z6I:∀ (a b:List Pw),pwL (a ++ b)=pwL a ++ pwL b
 | [],_=>rfl
 | x :: r,b=>by simp only[List.cons_append,pwL,z6I r b]
theorem q2i:∀ (l:List Pw) (i:Nat) (x:Pw),l[i]?=some x->(pwL l)[i * 2]?=some (J I x.1)/\(pwL l)[i * 2+1]?=some (J I x.2)
 | [],i,x,h=>by simp at h
 | y :: r,0,x,h=>by simp at h;subst h;exact⟨rfl,rfl⟩
 | y :: r,i+1,x,h=>by
  have:=q2i r i x (by simpa using h)
  rw[show (i+1) * 2=i * 2+1+1 by omega]
  simpa [pwL] using this
theorem z9H:(prog.info? 74).map (fun i=>(i.zero,i.size,i.bytes))=some (some (J4 #[J I 0,J I 0]),2,16):=by kernel_rfl
def z3w(w:World)(B:Nat)(v:Value)(l:List Pw):Prop:=w.ownsRow B 74 2 v l.length (pwL l)
theorem z3w.nil(w:World)(B:Nat):z3w w B (J1 none 0 0) []:=⟨rfl,.inl ⟨rfl,rfl⟩⟩
theorem z3w.row{w:World}{B:Nat}{v:Value}{l:List Pw}(h:z3w w B v l):(v=J1 none 0 0/\l=[])∨∃ g cap,v=J1 (some ⟨g,0,none⟩) l.length cap/\B<=g/\z1w w g l/\l.length<=cap/\cap<=maxLen:=by
 obtain⟨_,h⟩:=h
 rcases h with⟨h1,h2⟩ | ⟨g,cap,cur,h1,h2,h3,h4,h5,h6,h7⟩
 ·exact .inl ⟨h1,List.length_eq_zero_iff.1 h2⟩
 ·refine .inr ⟨g,cap,h1,h2,⟨cur,h3,fun i x a=>?_⟩,h4,h5⟩;obtain⟨b,c⟩:=q2i l i x a;have d:=(List.getElem?_eq_some_iff.1 a).1;rw[<- h7,List.getElem?_take_of_lt (by omega)]at b c
  exact⟨by simpa using b,by simpa using c⟩
def j0S(w:World)(B:Nat)(v:Value)(l:List Pw):Prop:=(v=J1 none 0 0/\l=[])∨∃ g cap,v=J1 (some ⟨g,0,none⟩) l.length cap/\B<=g/\z1w w g l/\l.length<=cap/\cap<=maxLen
theorem z7h(w:World)(a b:Int)(t:TypeId):∀ j u,([J I a,J I b]:List Value)[j]?=some u->(w.alloc (J5 #[J I a,J I b] t)).cell? ((⟨w.heap.size,0,none⟩:Addr).add j)=some u:=by
 intro j u c
 rcases j with _ | _ | j
 ·simp at c;subst c;simp[Addr.add]
 ·simp at c;subst c;simp[Addr.add]
 ·simp at c
theorem z3w.append{w:World}{B:Nat}{v:Value}{l:List Pw}{x:Pw}{n:Nat}(h:w.ownsRow B 74 2 v n (pwL l ++ [J I x.1,J I x.2]))(a:n=l.length+1):z3w w B v (l ++ [x]):=by
 unfold z3w;rw[List.length_append,z6I];subst a;exact h
theorem z3w.own{w:World}{B:Nat}{v:Value}{l:List Pw}(h:z3w w B v l):∀ k,v.ownBlock=some k->B<=k:=by
 intro k a
 rcases h.row with⟨rfl,_⟩ | ⟨g,cap,rfl,hg,_⟩
 ·simp[Value.ownBlock]at a
 ·simp[Value.ownBlock]at a;omega
theorem z3w.grow{w w1:World}{B C:Nat}{v:Value}{l:List Pw}{a:World}{o:Obj}(h:z3w w B v l)(c:Below C a w)(d:(w.alloc o).grownBy w1 v.ownBlock)(b:C<=B)(e:B<=w.heap.size):Below C a w1:=
 (c.alloc (Nat.le_trans b e) o).grown d (by simp;omega) (fun k f=>Nat.le_trans b (h.own k f))
theorem z9q(a:Value)(w:World):Calls prog 126 #[J1 none 0 0,J I 0,J I 0,a] w fun e w'=>e=.returned (.tuple #[])/\w=w':=by
 go_enter func126,ntmps126
 go_wp2
 go_loop [8] (fun i=>i=J I 1) (fun _=>0)
 case atStart=>rfl
 case round =>
  subst hrel;go_wp2;go_end0;exact⟨rfl,rfl⟩
theorem q0U(c:Value)(w:World):Calls prog 37 #[J1 none 0 0,c] w fun e w'=>e=.returned (.tuple #[])/\w=w':=by
 have g:=z8q 0 (by omega) w
 have h:∀ k,Calls prog 86 #[J1 none 0 0,J I 0,J I 0,J I k,c] w fun e w'=>e=.returned (.tuple #[])/\w=w':=by
  intro k;have i:=z9q c w
  go_enter func86,ntmps86
  go_wp2_with fail
  go_loopw [1,2] (fun a b wl=>a=J I 0/\b=J I 0/\Hid (wl=w)) (fun _ _ _=>0)
  case atStart=>exact⟨rfl,rfl,rfl⟩
  case round =>
   obtain⟨rfl,rfl,f⟩:=hrel;have e:=f.out;subst e;clear f
   go_wp2_with (go_at_call 126;refine i.mono ?_;rintro e w1⟨rfl,h1⟩;have d:=J6 h1;clear h1)
   exact bodyPost_ret (v:=.tuple #[]) (by simp[results,results86]) rfl ⟨rfl,d.out⟩
 go_enter func37,ntmps37
 go_wp2_with (first
  | (go_at_call 87;refine g.mono ?_;rintro e w1⟨⟨k,rfl⟩,rfl⟩)
  | (go_at_call 86;refine (h _).mono ?_;rintro e j⟨rfl,h1⟩;have d:=J6 h1;clear h1))
 go_end0;exact⟨rfl,d.out⟩
end
end Go.Proofs.YtjghbciepinofaaGreat
