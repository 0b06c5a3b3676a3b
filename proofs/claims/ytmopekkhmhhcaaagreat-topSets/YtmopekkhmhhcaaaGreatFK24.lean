/- Parts of the proof. -/
import Derived.Test.YtmopekkhmhhcaaaGreatFL
import Derived.Test.YtmopekkhmhhcaaaGreatFK23
set_option maxRecDepth 100000
set_option maxHeartbeats 16000000
namespace Go.Proofs.YtmopekkhmhhcaaaGreat
open Go.Proofs.Tryz
section
open Go.RowKit
theorem q3N(n f:Int)(w:World):Calls prog 154 #[.int .i64 n,.int .i64 f] w fun e w'=>e=.returned (.tuple #[.int .i64 (ptN n f),.int .i64 (ptE n f)])/\Below w.heap.size w w':=Ra.j8O n f w
theorem j0F:∀ (W:List Wt) (k:Nat) (x:Wt) (y:Int),W[k]?=some x->wsL (W.set k { x with amt:=y })=(wsL W).set (k * 8+3) (.int .i64 y)
 | [],k,x,y,h=>by simp at h
 | z :: W,0,x,y,h=>by
  simp at h
  subst h;rfl
 | z :: W,k+1,x,y,h=>by
  have ih:=j0F W k x y (by simpa using h)
  show wtL z ++ wsL (W.set k _)=(wtL z ++ wsL W).set _ _
  rw[List.set_append_right _ _ (by rw[z1Z];omega),z1Z,ih]
  congr 2
  omega
theorem z2y.amt{B:Nat}{w:World}{g C:Nat}{W:List Wt}(h:z2y B w (some ⟨g,0,none⟩) C W){k:Nat}{x:Wt}(hx:W[k]?=some x)(y:Int):z2y B (w.setCell ⟨g,k * 8+3,none⟩ (.int .i64 y)) (some ⟨g,0,none⟩) C (W.set k { x with amt:=y }):=by
 have h1:=(World.ownsRow.stored h (k * 8+3) (.int .i64 y)).1;unfold z2y;rw[j0F W k x y hx,List.length_set];exact h1
theorem z2y.at0{B:Nat}{w:World}{A:Option Addr}{C:Nat}{W:List Wt}(h:z2y B w A C W)(h0:0<W.length):∃ g,A=some ⟨g,0,none⟩/\B<=g/\g<w.heap.size/\∀ k x,W[k]?=some x->(w.cell? ⟨g,k * 8+2,none⟩=some (.int .i64 x.v)/\w.cell? ⟨g,k * 8+3,none⟩=some (.int .i64 x.amt)/\w.cell? ⟨g,k * 8+4,none⟩=some (.int .i64 x.hei)/\w.frozen? ⟨g,k * 8+3,none⟩=false):=by
 have h':=h
 rcases h.2 with⟨hv,hn⟩ | ⟨g,cap,cur,hv,hb,hg,hrest⟩
 ·omega
 ·cases hv;refine⟨g,rfl,hb,(Array.getElem?_eq_some_iff.1 hg).1,fun k x hx=>?_⟩
  have c:∀ j v,(wtL x)[j]?=some v->j<8->w.cell? ⟨g,k * 8+j,none⟩=some v:=fun j v hj hl=>by
   have:=World.ownsRow.cells h' (g:=g) rfl (k * 8+j) v ((z4B W k x j hx hl).trans hj)
   rwa [Addr.add_lit,Nat.zero_add]at this
  exact⟨c 2 _ rfl (by omega),c 3 _ rfl (by omega),c 4 _ rfl (by omega),World.ownsRow.frozenAt h' _⟩
theorem z8A(ao:Option Addr)(W:List Wt)(c sb so:Nat)(v h f:Int)(w:World)(hW:z2A w ao sb so W)(hf:0<=f/\f<=1000)(hA:∀ x∈W,0<=x.amt/\x.amt<=1125899906842624)(hs:z2K W<=400000)(h60:W.length<=60) :
  Calls prog 155 #[.slice ao W.length c,.int .i64 v,.int .i64 h,.int .i64 f] w fun e w'=>∃ A C,e=.returned (.tuple #[.slice A (slW v h f W).length C,.int .i64 (slN v h f W),.int .i64 0])/\z2y w.heap.size w' A C (slW v h f W)/\Below w.heap.size w w':=by
 have hC:=z3R ao W c sb so w hW;have HL:Hid ((slW v h f W).length=W.length):=by show (slW v h f W).length=W.length;unfold slW;rw[List.length_map]
 have HN:Hid (∀ k,0<=slN v h f (W.take k)/\slN v h f (W.take k)<=400000):=fun k=>by
  have h1:=q9m (v:=v) (h:=h) hf (W:=W.take k) fun x hx=>hA x (List.mem_of_mem_take hx);have e1:z2K W=z2K (W.take k)+z2K (W.drop k):=by rw[← z3n,List.take_append_drop]
  have n2:=z4e (W:=W.drop k) fun y hy=>(hA y (List.mem_of_mem_drop hy)).1;omega
 clear hW hs
 go_enter func155,ntmps155
 go_upto_region 3 with (go_at_call 40;refine hC.mono ?_;rintro e w1⟨A,C,rfl,hO,h1⟩;have HO:=hide hO;have HB:=hide h1;clear hO h1)
 go_loopw [12,21] (fun al i wl=>∃ (k:Nat),k<=W.length/\i=.int .i64 (k:Int)/\al=.int .i64 (slN v h f (W.take k))/\Hid (z2y w.heap.size wl A C (slW v h f (W.take k) ++ W.drop k)/\Below w.heap.size w wl)) (fun _ i _=>W.length - (intOf i).toNat)
 case atStart=>exact⟨0,Nat.zero_le _,rfl,rfl,HO.out,HB.out⟩
 case round =>
  obtain⟨k,hk,rfl,rfl,HR⟩:=hrel;clear HO HB;obtain⟨n0,n1⟩:=HN.out k
  by_cases hlt:k<W.length
  ·obtain⟨x,hx,_⟩:=drop_at hlt;obtain⟨e1,e2,e3⟩:=j6h v h f hx;obtain⟨n2,n3⟩:=HN.out (k+1);have hxa:=hA x (by obtain⟨h1,h2⟩:=List.getElem?_eq_some_iff.1 hx;exact h2 ▸ List.getElem_mem h1)
   obtain⟨g,rfl,hgB,hgs,hcl⟩:=HR.out.1.at0 (by rw[List.length_append,List.length_drop];omega)
   obtain⟨c2,c3,c4,c5⟩:=hcl k x e2;have hlen:(slW v h f (W.take k) ++ W.drop k).length=W.length:=by unfold slW;rw[List.length_append,List.length_map,← List.length_append,List.take_append_drop]
   have HE2:=hide e2;have HE1:=hide e1;have hcap:=HR.out.1.cap;rw[hlen]at hcap;clear hcl hC e1 e2 hx hlen;generalize slW v h f (W.take k) ++ W.drop k=Wk at *;generalize hW1:slW v h f (W.take (k+1)) ++ W.drop (k+1)=Wk1 at *;have HW1:=hide hW1;clear hW1
   by_cases hh:x.v=v/\h<=x.hei
   ·have hhit:j4o v h x=true:=by simp[j4o,hh.1,hh.2]
    obtain⟨s1,s2⟩:=j8T (f:=f) hhit;obtain⟨p0,p1,p2⟩:=j7C hxa hf;rw[s1]at HE1;rw[s2]at e3;have hP:=q3N x.amt f;rw[p0]at hP;obtain⟨hh1,hh2⟩:=hh;rw[hh1]at c2;generalize ptN x.amt f=pn at *;have hw1:wrap64 (x.amt - pn)=x.amt - pn:=z0f (by omega) (by omega)
    rw[e3]at n2 n3;have HE3:=hide e3;generalize slN v h f (W.take k)=sk at *;have hw2:wrap64 (sk+pn)=sk+pn:=z0f (by omega) (by omega)
    clear hhit s1 s2 p0 e3 HN
    go_upto_region 10 with (go_at_call 154;refine (hP _).mono ?_;rintro e w2⟨rfl,h2⟩)
    have HR2:Hid (z2y w.heap.size w2 (some ⟨g,0,none⟩) C Wk/\Below w.heap.size w w2):=⟨HR.out.1.over h2,zbt HR.out.2 h2⟩;obtain⟨g',hg',_,hgs2,hcl2⟩:=HR2.out.1.at0 (by have:=(List.getElem?_eq_some_iff.1 HE2.out).1;omega)
    cases hg';obtain⟨c2',c3',c4',c5'⟩:=hcl2 k x HE2.out;clear hcl2 h2 c2 c3 c4 c5 HR;go_wp2;refine⟨⟨k+1,by omega,by go_num,?_,?_⟩,by simp[intOf];omega⟩
    ·first | rw[HE3.out] | (rw[HE3.out];exact congrArg _ hw2)
    ·rw[HW1.out,HE1.out];exact⟨HR2.out.1.amt HE2.out _,HR2.out.2.setCell hgB _⟩
   ·have hhit:j4o v h x=false:=by
     simp only[j4o,Bool.and_eq_false_iff,decide_eq_false_iff_not]
     by_cases h1:x.v=v
     ·exact .inr (fun h2=>hh ⟨h1,h2⟩)
     ·exact .inl h1
    obtain⟨s1,s2⟩:=j4W (f:=f) hhit;rw[s1]at HE1;rw[s2]at e3;have HE3:=hide e3;have hEq:Hid (Wk1=Wk):=by show Wk1=Wk;rw[HE1.out];exact z5L HE2.out
    clear hhit s1 s2 e3 HN HE1;go_wp2
    all_goals first
     | (exact⟨⟨k+1,by omega,by go_num,by rw[HE3.out,Int.add_zero],by rw[HW1.out,hEq.out];exact HR.out⟩,by simp[intOf];omega⟩)
     | (exfalso;exact hh ⟨by first | assumption | omega,by omega⟩)
  ·obtain rfl:k=W.length:=by omega
   rw[List.take_length,List.drop_length,List.append_nil]at HR;rw[List.take_length];clear hC HN;go_wp2;refine bodyPost_ret (v:=.tuple #[.slice A W.length C,.int .i64 (slN v h f W),.int .i64 0]) (by simp[results,results155]) rfl ⟨A,C,by rw[HL.out],HR.out.1,HR.out.2⟩
theorem y1m(w:World)(a b c d:Int):(Op.equalIn 10000 80 (.agg #[.int .i64 a,.int .i64 b]) (.agg #[.int .i64 c,.int .i64 d])).run prog w=.ok (decide (a=c/\b=d)) w:=by
 have hi:(prog.info? 3).isSome=true:=by kernel_rfl
 obtain⟨i,hi⟩:=Option.isSome_iff_exists.1 hi;have hc:prog.cellsOf 3=1:=by kernel_rfl
 rw[run_equalIn_array w 9999 _ _ underlying80 hi,hc,show List.range 2=[0,1] from rfl];simp only[Op.eqItems];go_simp
 by_cases h0:a=c <;> by_cases h1:b=d <;> simp[h0,h1]
theorem y1p(w:World)(a b:Int):(binOp .neq 80 (.agg #[.int .i64 a,.int .i64 b]) (.agg #[.int .i64 0,.int .i64 0])).run prog w=.ok (.bool (!decide (a=0/\b=0))) w:=by
 rw[run_neq_struct,y1m];rfl
theorem q5w(x:Wt)(w:World):Calls prog 115 #[.agg #[.int .i64 x.num,.int .i64 x.d,.int .i64 x.v,.int .i64 x.amt,.int .i64 x.hei,.int .i64 x.due,.int .i64 x.h0,.int .i64 x.h1]] w fun e w'=>e=.returned (.bool (!decide (x.h0=0/\x.h1=0)))/\Below w.heap.size w w':=by
 have hn:=fun w=>y1p w x.h0 x.h1
 go_enter func115,ntmps115
 go_wp2;go_ret;refine⟨?_,znw w _⟩
 show Ending.returned (Value.bool (!decide (x.h0=0) || !decide (x.h1=0)))=_
 by_cases h0:x.h0=0 <;> by_cases h1:x.h1=0 <;> simp[h0,h1]
def nuL(l:List Int):List Value:=l.map fun n=>.int .i64 n
def q1I(B:Nat)(w:World)(A:Option Addr)(C:Nat)(l:List Int):Prop:=w.ownsRow B 3 1 (.slice A l.length C) l.length (nuL l)
theorem j9K:(prog.info? 3).map (fun i=>(i.zero,i.size,i.bytes))=some (some (.int .i64 0),1,8):=by kernel_rfl
theorem q1I.over{B:Nat}{w w':World}{A:Option Addr}{C:Nat}{l:List Int}(h:q1I B w A C l)(hb:Below w.heap.size w w'):q1I B w' A C l:=z1n h fun k hk=>hb.block k (World.ownsRow.lt h k hk).2
theorem y1j(B:Nat)(w:World)(A:Option Addr)(C y:Nat)(l:List Int)(x:Int)(h:q1I B w A C l)(h60:l.length<=60)(hB:B<=w.heap.size)(hy:w.cell? ⟨y,0,none⟩=some (.int .i64 x)) :
  ∃ g C' w',(Builtin.append_ #[45,45] 45 #[.slice A l.length C,.slice (some ⟨y,0,none⟩) 1 1]).run prog w=.ok (.slice (some ⟨g,0,none⟩) (l.length+1) C') w'/\q1I B w' (some ⟨g,0,none⟩) C' (l ++ [x])/\B<=g/\g<w'.heap.size/\Below B w w'/\(∀ k,k<w.heap.size->some k≠(Value.slice A l.length C).ownBlock->g≠k/\w'.heap[k]?=w.heap[k]?):=by
 obtain⟨i0,hi,hz0,hz1,hz2⟩:=info_parts j9K;obtain⟨g,cap,w',hr,ho,hg,hat,hlt⟩:=run_append_lies (P:=prog) w 45 45 B 3 i0 _ 1 8 underlying45 hi hz0 hz1 hz2 rfl (by omega) (.slice A l.length C) l.length (nuL l) h ⟨y,0,none⟩ 1 1 [.int .i64 x] rfl (fun j v hv=>by rcases j with _ | j <;> simp at hv;subst hv;simpa [Addr.add] using hy) (by intro u hu;simp at hu;rcases hu with rfl;rfl) (by omega) (by simp only[maxLen];omega) (by omega) hB _ rfl
 have ho':q1I B w' (some ⟨g,0,none⟩) cap (l ++ [x]):=by
  unfold q1I;rw[List.length_append,nuL,List.map_append];exact ho
 refine⟨g,cap,w',hr,ho',(World.ownsRow.lt ho' g rfl).1,hlt,⟨hg.os,hg.tape,hg.output,hg.size,fun k hk=>hg.block k (by omega) (fun he=>?_)⟩,fun k hk hne=>⟨?_,hg.block k hk hne⟩⟩
 ·have:=(World.ownsRow.lt h k he.symm).1;omega
 ·rcases hat with hat | hat
  ·rintro rfl;exact hne hat.symm
  ·omega
theorem q3k{ops:Array Oper}{rest:List Oper}{o:Oper}{a:Act}{w:World}{Q:Exit->Act->World->Prop}(hg:o.guard=none)(hty:o.type=45)(p q:Operand)
  (hop:o.op=Op.call { callee:=Callee.builtin Builtin.append,args:=#[p,q],argTypes:=#[45,45] }) (B:Nat) (A:Option Addr) (C y:Nat) (W:List Int) (x:Int) (hs:a.eval p=.slice A W.length C) (hx:a.eval q=.slice (some ⟨y,0,none⟩) 1 1)
  (h:q1I B w A C W) (h60:W.length<=60) (hB:B<=w.heap.size) (hy:w.cell? ⟨y,0,none⟩=some (.int .i64 x))
  (hK:∀ g C' w',q1I B w' (some ⟨g,0,none⟩) C' (W ++ [x])/\B<=g/\g<w'.heap.size/\Below B w w'/\(∀ k,k<w.heap.size->some k≠(Value.slice A W.length C).ownBlock->g≠k/\w'.heap[k]?=w.heap[k]?)->wpList prog ops Q rest (a.put o.dst (.slice (some ⟨g,0,none⟩) (W.length+1) C')) w'):wpList prog ops Q (o :: rest) a w:=by
 refine wpList_plain hg fun _ hK'=>?_;unfold Oper.wp;obtain⟨g,C',w',hr,h1⟩:=y1j B w A C y W x h h60 hB hy
 simp[execOp,hop,resolve,invoke,builtin,hs,hx,hty,hr,Result.andThen]
 exact hK' _ _ (hK _ _ _ h1)
theorem z8D{fn:Func}{p q u:Tmp}(h:fn.results=#[.cell p 43,.tmp q,.tmp u])(tmps:Array Value)(w:World)(g:Nat)(cs:Array Value)(v v2:Value)
  (hp:tmps.getD p undef=.pointer (some ⟨g,0,none⟩)) (hq:tmps.getD q undef=v) (hu:tmps.getD u undef=v2) (hg:SAt w g cs) (hsz:cs.size=63) :
  (results fn tmps).run prog w=.ok (.tuple #[.agg cs,v,v2]) w:=by
 have hp':tmps[p]?.getD undef=.pointer (some ⟨g,0,none⟩):=by simpa using hp
 have hq':tmps[q]?.getD undef=v:=by simpa using hq
 have hu':tmps[u]?.getD undef=v2:=by simpa using hu
 simp[results,h,hp',hq',hu',asAddr,run_loadVar_row w g 43 43 cs (0,0) _ hg underlying43 rfl (by rw[z0y,hsz])]
theorem z9C{f:Func}{p q u:Tmp}(hres:f.results=#[.cell p 43,.tmp q,.tmp u]){g:Nat}{wq:World}{zs:Array Value}(R:SAt wq g zs)(hz:zs.size=63)(s':St)(sl v v2:Value)(Q:Ending->World->Prop)(hQ:Q (.returned (.tuple #[.agg (stC s' sl),v,v2])) (wq.setCells g 0 (stC s' sl).toList))(act:Act)
  (h8:act.tmps.getD p undef=.pointer (some ⟨g,0,none⟩)) (h9:act.tmps.getD q undef=v) (h10:act.tmps.getD u undef=v2) (hd:act.defers=[]) :
  bodyPost prog f Q Exit.ret act (wq.setCells g 0 (stC s' sl).toList):=by
 have R3:=R.z0H (ds:=stC s' sl) (by rw[hz];rfl)
 exact bodyPost_ret (v:=.tuple #[.agg (stC s' sl),v,v2]) (z8D hres _ _ g _ _ _ h8 h9 h10 R3 rfl) hd hQ
theorem z4p{w:World}{b b' e z n:Nat}{v:Value}{xs:List Value}(h:w.ownsRow b e z v n xs)(hb:b'<=b):w.ownsRow b' e z v n xs:=by
 refine⟨h.1,?_⟩
 rcases h.2 with hn | ⟨g,cap,cur,hv,h2,h3⟩
 ·exact .inl hn
 ·exact .inr ⟨g,cap,cur,hv,Nat.le_trans hb h2,h3⟩
structure j0K(s:St)(ao:Option Addr)(c:Nat)(t:Int)(B bb:Nat)(w:World)(k:Nat)(A:Option Addr)(C:Nat)(A':Option Addr)(C':Nat)(wl:World):Prop where
 own9:z2y B wl A C (z1x t (s.W.take k))
 own10:q1I B wl A' C' (z2m t (s.W.take k))
 apart:∀ k',(Value.slice A (z1x t (s.W.take k)).length C).ownBlock=some k'->some k'≠(Value.slice A' (z2m t (s.W.take k)).length C').ownBlock
 S:SAt wl w.heap.size (stC s (.slice ao s.W.length c))
 R:SAt wl (w.heap.size+1) Z63
 bank:BAt wl bb (z5j t s.b (s.W.take k)).f0 (z5j t s.b (s.W.take k)).f1 (z5j t s.b (s.W.take k)).f2 (z5j t s.b (s.W.take k)).f3 (z5j t s.b (s.W.take k)).bo (z5j t s.b (s.W.take k)).wa (z5j t s.b (s.W.take k)).bu
 below:Below w.heap.size w wl
 size:B<=wl.heap.size
theorem j0K.over{s:St}{ao:Option Addr}{c:Nat}{t:Int}{B bb:Nat}{w:World}{k:Nat}{A:Option Addr}{C:Nat}{A':Option Addr}{C':Nat}{wl w':World}(h:j0K s ao c t B bb w k A C A' C' wl)(hw:w.heap.size<=wl.heap.size)(hb:Below wl.heap.size wl w'):j0K s ao c t B bb w k A C A' C' w':=
 ⟨h.own9.over hb,h.own10.over hb,h.apart,h.S.later hb h.S.lt,h.R.later hb h.R.lt,h.bank.later hb h.bank.lt,h.below.trans (hb.mono hw),Nat.le_trans h.size hb.size⟩
theorem q4f{t:Int}{W:List Wt}{k:Nat}{x:Wt}(hx:W[k]?=some x)(hd:z7g t x=false):(z1x t (W.take (k+1))).length=(z1x t (W.take k)).length+1/\(z2m t (W.take (k+1))).length=(z2m t (W.take k)).length:=by
 unfold z2m;rw[z1p hx,z5Y,z4I,if_neg (by simp[hd]),if_neg (by simp[hd]),List.length_append]
 exact⟨rfl,rfl⟩
theorem j2g{t:Int}{W:List Wt}{k:Nat}{x:Wt}(hx:W[k]?=some x)(hd:z7g t x=true):(z1x t (W.take (k+1))).length=(z1x t (W.take k)).length/\(z2m t (W.take (k+1))).length=(z2m t (W.take k)).length+1:=by
 unfold z2m;rw[z1p hx,z5Y,z4I,if_pos hd,if_pos hd,List.length_map,List.length_map,List.length_append];exact⟨rfl,rfl⟩
theorem j0K.left{s:St}{ao:Option Addr}{c:Nat}{t:Int}{B bb:Nat}{w:World}{k:Nat}{A:Option Addr}{C:Nat}{A':Option Addr}{C':Nat}{wl w':World}(h:j0K s ao c t B bb w k A C A' C' wl){x:Wt}(hx:s.W[k]?=some x)(hd:z7g t x=false)(hbb:bb<B)(hw:w.heap.size+1<B){g D:Nat}
  (h1:z2y B w' (some ⟨g,0,none⟩) D (z1x t (s.W.take k) ++ [x])) (h4:Below B wl w') (h5:∀ k',k'<wl.heap.size->some k'≠(Value.slice A (z1x t (s.W.take k)).length C).ownBlock->g≠k'/\w'.heap[k']?=wl.heap[k']?):j0K s ao c t B bb w (k+1) (some ⟨g,0,none⟩) D A' C' w':=by
 have eL:z1x t (s.W.take (k+1))=z1x t (s.W.take k) ++ [x]:=by rw[z1p hx,z5Y,if_neg (by simp[hd])]
 have eP:z2m t (s.W.take (k+1))=z2m t (s.W.take k):=by unfold z2m;rw[z1p hx,z4I,if_neg (by simp[hd])]
 have eB:z5j t s.b (s.W.take (k+1))=z5j t s.b (s.W.take k):=by rw[z1p hx,z7H,if_neg (by simp[hd])]
 have hp:∀ k',(Value.slice A' (z2m t (s.W.take k)).length C').ownBlock=some k'->g≠k'/\w'.heap[k']?=wl.heap[k']?:=fun k' hk=>h5 k' (World.ownsRow.lt h.own10 k' hk).2 fun he=>h.apart k' he.symm hk.symm;refine⟨by rw[eL];exact h1,by rw[eP];exact z1n h.own10 fun k' hk=>(hp k' hk).2,?_,(h4.block _ (by omega)).trans h.S,(h4.block _ (by omega)).trans h.R,by rw[eB];exact (h4.block _ hbb).trans h.bank,h.below.trans (h4.mono (by omega)),Nat.le_trans h.size h4.size⟩
 rw[eP];intro k' hk he;cases hk;exact (hp g he.symm).1 rfl
theorem j0K.paid{s:St}{ao:Option Addr}{c:Nat}{t:Int}{B bb:Nat}{w:World}{k:Nat}{A:Option Addr}{C:Nat}{A':Option Addr}{C':Nat}{wl w':World}(h9:z2y B wl A C (z1x t (s.W.take k)))(hap:∀ k',(Value.slice A (z1x t (s.W.take k)).length C).ownBlock=some k'->some k'≠(Value.slice A' (z2m t (s.W.take k)).length C').ownBlock)(hS:SAt wl w.heap.size (stC s (.slice ao s.W.length c)))(hR:SAt wl (w.heap.size+1) Z63)(hbank:BAt wl bb (z5j t s.b (s.W.take (k+1))).f0 (z5j t s.b (s.W.take (k+1))).f1 (z5j t s.b (s.W.take (k+1))).f2 (z5j t s.b (s.W.take (k+1))).f3 (z5j t s.b (s.W.take (k+1))).bo (z5j t s.b (s.W.take (k+1))).wa (z5j t s.b (s.W.take (k+1))).bu)(hbel:Below w.heap.size w wl)(hsz:B<=wl.heap.size)
  {x:Wt} (hx:s.W[k]?=some x) (hd:z7g t x=true) (hbb:bb<B) (hw:w.heap.size+1<B) {g D:Nat}
  (h1:q1I B w' (some ⟨g,0,none⟩) D (z2m t (s.W.take k) ++ [x.num])) (h4:Below B wl w') (h5:∀ k',k'<wl.heap.size->some k'≠(Value.slice A' (z2m t (s.W.take k)).length C').ownBlock->g≠k'/\w'.heap[k']?=wl.heap[k']?):j0K s ao c t B bb w (k+1) A C (some ⟨g,0,none⟩) D w':=by
 have eL:z1x t (s.W.take (k+1))=z1x t (s.W.take k):=by rw[z1p hx,z5Y,if_pos hd]
 have eP:z2m t (s.W.take (k+1))=z2m t (s.W.take k) ++ [x.num]:=by unfold z2m;rw[z1p hx,z4I,if_pos hd,List.map_append];rfl
 have hp:∀ k',(Value.slice A (z1x t (s.W.take k)).length C).ownBlock=some k'->g≠k'/\w'.heap[k']?=wl.heap[k']?:=fun k' hk=>h5 k' (World.ownsRow.lt h9 k' hk).2 (hap k' hk);refine⟨by rw[eL];exact z1n h9 fun k' hk=>(hp k' hk).2,by rw[eP];exact h1,?_,(h4.block _ (by omega)).trans hS,(h4.block _ (by omega)).trans hR,(h4.block _ hbb).trans hbank,hbel.trans (h4.mono (by omega)),Nat.le_trans hsz h4.size⟩
 rw[eL];intro k' hk he;cases he;exact (hp g hk).1 rfl
theorem j1p(s:St)(ao:Option Addr)(sb so c:Nat)(t:Int)(w:World)(hW:z2A w ao sb so s.W)(hg:z0i s=true) :
  Calls prog 84 #[.agg (stC s (.slice ao s.W.length c)),.int .i64 t] w fun e w'=>∃ A C A' C',e=.returned (.tuple #[.agg (stC (z6k s t) (.slice A (z6k s t).W.length C)),.slice A' (z2m t s.W).length C',.int .i64 0])/\z2y w.heap.size w' A C (z6k s t).W/\q1I w.heap.size w' A' C' (z2m t s.W)/\Below w.heap.size w w':=by
 have SS:=(SAt.new w (stC s (.slice ao s.W.length c))).alloc (.cells Z63 43);have RR:=SAt.new2 w (.cells (stC s (.slice ao s.W.length c)) 43) Z63;have HB:Hid (Below w.heap.size w ((w.alloc (.cells (stC s (.slice ao s.W.length c)) 43)).alloc (.cells Z63 43))):=(znw w _).alloc (by simp) _
 have HW:=hide hW;have hG:=fun w h=>z7J s ao sb so c w h;have hl60:s.W.length<=60:=((z0O s).1 hg).2.2.2.1;have hPy:=fun k x hx hd w=>(j3s hg t (k:=k) (x:=x) hx hd) ▸ j6g (z5j t s.b (s.W.take k)) x.d x.amt w;rw[hg]at hG;clear hW
 go_enter func84,ntmps84
 go_upto_region 1 with fail
 change Code.wp prog _ _ _ ((w.alloc (.cells (stC s (.slice ao s.W.length c)) 43)).alloc (.cells Z63 43));generalize (w.alloc (.cells (stC s (.slice ao s.W.length c)) 43)).alloc (.cells Z63 43)=w0 at *;apply wp_region_lit;refine wpList_load_mid rfl 43 _ rfl _ 0 rfl _ _ SS.range underlying43 rfl (by rw[z0y];rfl) ?_
 go_upto_region 3 with (go_at_call 100;refine (hG _ (by exact HW.out.over HB.out)).mono ?_;rintro e w1⟨rfl,h1⟩)
 have HB1:=hide (zbt HB.out h1);have S1:=SS.later h1 SS.lt;have R1:=RR.later h1 RR.lt;have hz1:w.heap.size+1<w1.heap.size:=R1.lt;have hz1a:w.heap.size<w1.heap.size:=by omega
 clear SS RR h1 HB hG;obtain⟨x0,x1,x2,x3,x4,x5,x6,_,_⟩:=z0t S1
 go_upto_region 4 with fail
 have B2:BAt (w1.alloc (.cells #[.int .i64 s.b.f0,.int .i64 s.b.f1,.int .i64 s.b.f2,.int .i64 s.b.f3,.int .i64 s.b.bo,.int .i64 s.b.wa,.int .i64 s.b.bu] 35)) w1.heap.size s.b.f0 s.b.f1 s.b.f2 s.b.f3 s.b.bo s.b.wa s.b.bu:=heap_alloc_new _ _;have S2:=S1.alloc (.cells #[.int .i64 s.b.f0,.int .i64 s.b.f1,.int .i64 s.b.f2,.int .i64 s.b.f3,.int .i64 s.b.bo,.int .i64 s.b.wa,.int .i64 s.b.bu] 35);have R2:=R1.alloc (.cells #[.int .i64 s.b.f0,.int .i64 s.b.f1,.int .i64 s.b.f2,.int .i64 s.b.f3,.int .i64 s.b.bo,.int .i64 s.b.wa,.int .i64 s.b.bu] 35);have HB2:=hide (HB1.out.alloc (by omega) (.cells #[.int .i64 s.b.f0,.int .i64 s.b.f1,.int .i64 s.b.f2,.int .i64 s.b.f3,.int .i64 s.b.bo,.int .i64 s.b.wa,.int .i64 s.b.bu] 35))
 generalize w1.alloc (.cells #[.int .i64 s.b.f0,.int .i64 s.b.f1,.int .i64 s.b.f2,.int .i64 s.b.f3,.int .i64 s.b.bo,.int .i64 s.b.wa,.int .i64 s.b.bu] 35)=w2 at *;clear S1 R1 HB1 x0 x1 x2 x3 x4 x5 x6;have hz2:w1.heap.size<w2.heap.size:=B2.lt;have hz2a:w.heap.size<w2.heap.size:=by omega
 have x7:=(z0t S2).2.2.2.2.2.2.2.1;have HP0:Hid (j0K s ao c t w2.heap.size w1.heap.size w 0 none 0 none 0 w2):=⟨⟨rfl,.inl ⟨rfl,rfl⟩⟩,⟨rfl,.inl ⟨rfl,rfl⟩⟩,fun k' h=>(by cases h),S2,R2,B2,HB2.out,Nat.le_refl _⟩
 clear S2 R2 B2 HB2;have hadr:=HW.out.adr
 go_upto_region 7 with fail
 go_loopw [9,10,22] (fun l9 p10 i wl=>∃ (k:Nat) (A:Option Addr) (C:Nat) (A':Option Addr) (C':Nat),k<=s.W.length/\i=.int .i64 (k:Int)/\l9=.slice A (z1x t (s.W.take k)).length C/\p10=.slice A' (z2m t (s.W.take k)).length C'/\Hid (j0K s ao c t w2.heap.size w1.heap.size w k A C A' C' wl)) (fun _ _ i _=>s.W.length - (intOf i).toNat)
 case atStart=>exact⟨0,none,0,none,0,Nat.zero_le _,rfl,rfl,rfl,HP0⟩
 case round =>
  obtain⟨k,A,C,A',C',hk,rfl,rfl,rfl,HP⟩:=hrel;have hwr:=HP.out.size;clear HP0 x7
  by_cases hlt:k<s.W.length
  ·obtain⟨x,hx,_⟩:=drop_at hlt;obtain⟨c0,c1,c2,c3,c4,c5,c6,c7⟩:=(HW.out.over HP.out.below).cell k x hx;obtain rfl:=hadr (by omega)
   have h9:(z1x t (s.W.take k)).length<=60:=Nat.le_trans (List.length_filter_le _ _) (by rw[List.length_take];omega)
   have h10:(z2m t (s.W.take k)).length<=60:=by unfold z2m;rw[List.length_map];exact Nat.le_trans (List.length_filter_le _ _) (by rw[List.length_take];omega)
   have hH:=q5w x;have hPk:=hPy k x hx;have HX:=hide hx;clear hadr hPy hx;have Yq:YAt (wr.alloc (.cells #[.int .i64 x.num,.int .i64 x.d,.int .i64 x.v,.int .i64 x.amt,.int .i64 x.hei,.int .i64 x.due,.int .i64 x.h0,.int .i64 x.h1] 82)) wr.heap.size x:=heap_alloc_new _ _;have HQ:=hide (HP.out.over (by omega) (znw wr (.cells #[.int .i64 x.num,.int .i64 x.d,.int .i64 x.v,.int .i64 x.amt,.int .i64 x.hei,.int .i64 x.due,.int .i64 x.h0,.int .i64 x.h1] 82)))
   have hzq:wr.heap.size<(wr.alloc (.cells #[.int .i64 x.num,.int .i64 x.d,.int .i64 x.v,.int .i64 x.amt,.int .i64 x.hei,.int .i64 x.due,.int .i64 x.h0,.int .i64 x.h1] 82)).heap.size:=Yq.lt
   by_cases hd1:x.due<=t
   ·by_cases hd2:x.h0=0/\x.h1=0
    ·have HD:Hid (z7g t x=true):=by show z7g t x=true;simp[z7g,hd1,hd2]
     have hPk2:=hPk HD.out;rw[decide_eq_true hd2]at hH;clear hPk hd2
     go_upto_region 9 with fail
     generalize wr.alloc (.cells #[.int .i64 x.num,.int .i64 x.d,.int .i64 x.v,.int .i64 x.amt,.int .i64 x.hei,.int .i64 x.due,.int .i64 x.h0,.int .i64 x.h1] 82)=wq at *;clear c0 c1 c2 c3 c4 c5 c6 c7 HP;obtain⟨c0,c1,c2,c3,c4,c5,c6,c7⟩:=Yq.cells;have hwq:=HQ.out.size;generalize hb0:z5j t s.b (s.W.take k)=bk0 at *;generalize hb1:z5j t s.b (s.W.take (k+1))=bk1 at *
     go_upto_region 12 with (first
      | (go_at_call 115;refine (hH _).mono ?_;rintro e w5⟨rfl,h5⟩;have HQ5:=hide (HQ.out.over (by omega) h5);have Y5:=Yq.later h5 Yq.lt;clear c0 c1 c2 c3 c4 c5 c6 c7;obtain⟨c0,c1,c2,c3,c4,c5,c6,c7⟩:=Y5.cells;have B5:=HQ5.out.bank;rw[hb0]at B5;obtain⟨b0,b1,b2,b3,b4,b5,b6⟩:=B5.cells;have hz5:=Y5.lt;have hz5b:=B5.lt;clear h5 B5)
      | (go_at_call 116;refine (hPk2 _).mono ?_;rintro e w6⟨rfl,h6⟩;have HQ6:=hide (HQ5.out.over (by omega) h6);have Y6:=Y5.later h6 Y5.lt;have B6:=HQ6.out.bank;clear b0 b1 b2 b3 b4 b5 b6;obtain⟨b0,b1,b2,b3,b4,b5,b6⟩:=B6.cells;obtain⟨f0,f1,f2,f3,f4,f5,f6⟩:=B6.frees;have hz6:=Y6.lt;have hz6b:=B6.lt;clear h6))
     change Code.wp prog _ _ _ (z6y w6 w1.heap.size bk1);have hbt:But w1.heap.size w6 (z6y w6 w1.heap.size bk1):=(((((((But.refl _ _).set 0 _).set 1 _).set 2 _).set 3 _).set 4 _).set 5 _).set 6 _;have B7:BAt (z6y w6 w1.heap.size bk1) w1.heap.size bk1.f0 bk1.f1 bk1.f2 bk1.f3 bk1.bo bk1.wa bk1.bu:=BAt.z6Y B6 _ _ _ _ _ _ _;have S7:=hbt.z1l (by omega) HQ6.out.S
     have R7:=hbt.z1l (by omega) HQ6.out.R
     have Y7:YAt (z6y w6 w1.heap.size bk1) wr.heap.size x:=(hbt.block _ (by omega)).trans Y6
     have HO9:Hid (z2y w2.heap.size (z6y w6 w1.heap.size bk1) A C (z1x t (s.W.take k))):=z1n HQ6.out.own9 fun k' hk=>hbt.block _ (by have:=(World.ownsRow.lt HQ6.out.own9 k' hk).1;omega)
     have HO10:Hid (q1I w2.heap.size (z6y w6 w1.heap.size bk1) A' C' (z2m t (s.W.take k))):=z1n HQ6.out.own10 fun k' hk=>hbt.block _ (by have:=(World.ownsRow.lt HQ6.out.own10 k' hk).1;omega)
     have HB7:=hide (HQ6.out.below.trans (hbt.below (by omega)))
     have HAP:=hide HQ6.out.apart;clear c0 c1 c2 c3 c4 c5 c6 c7 b0 b1 b2 b3 b4 b5 b6 f0 f1 f2 f3 f4 f5 f6 hbt HQ6 Y6 B6 hb0;generalize z6y w6 w1.heap.size bk1=w7 at *;have c0:=Y7.cells.1;have hz7:=Y7.lt;have hz7w:w2.heap.size<=w7.heap.size:=by omega
     have HS7:=hide S7;have HR7:=hide R7;have HB7':=hide B7;rw[← hb1]at HB7';clear S7 R7 B7 hb1
     go_wp2_with (at_builtin;refine q3k rfl rfl _ _ rfl w2.heap.size A' C' w7.heap.size (z2m t (s.W.take k)) x.num rfl rfl (by exact HO10.out.over (znw w7 _)) (by omega) (by simp;omega) (by rw[World.cell?_alloc_at _ _ _ _ rfl];rfl) ?_;rintro g D w13⟨hO13,hg1,hg2,hb13,hk13⟩;have HO13:=hide hO13;have HB13:=hide hb13;have HK13:=hide hk13;clear hO13 hb13 hk13)
     have hba:=(Below.refl w7.heap.size w7).alloc (Nat.le_refl _) (.cells #[.int .i64 x.num] 3);have HP1:=hide (j0K.paid (HO9.out.over hba) HAP.out (HS7.out.later hba HS7.out.lt) (HR7.out.later hba HR7.out.lt) (HB7'.out.later hba HB7'.out.lt) (HB7.out.trans (hba.mono (by omega))) (Nat.le_trans hz7w hba.size) HX.out HD.out (by omega) (by omega) HO13.out HB13.out HK13.out)
     have hll:=j2g HX.out HD.out;exact⟨⟨k+1,A,C,some ⟨g,0,none⟩,D,by omega,by go_num,by rw[hll.1],by rw[hll.2],HP1⟩,by simp[intOf];omega⟩
    ·have HD:Hid (z7g t x=false):=by show z7g t x=false;simp[z7g,hd1,hd2]
     rw[decide_eq_false hd2]at hH
     go_upto_region 9 with fail
     generalize wr.alloc (.cells #[.int .i64 x.num,.int .i64 x.d,.int .i64 x.v,.int .i64 x.amt,.int .i64 x.hei,.int .i64 x.due,.int .i64 x.h0,.int .i64 x.h1] 82)=wp at *;clear c0 c1 c2 c3 c4 c5 c6 c7 HP hPk hd2;obtain⟨c0,c1,c2,c3,c4,c5,c6,c7⟩:=Yq.cells;have hwq:=HQ.out.size
     go_upto_region 10 with (go_at_call 115;refine (hH _).mono ?_;rintro e wq⟨rfl,h5⟩;have HQ5:=hide (HQ.out.over (by omega) h5);have Y5:=Yq.later h5 Yq.lt;clear h5)
     clear c0 c1 c2 c3 c4 c5 c6 c7 HQ Yq;obtain⟨c0,c1,c2,c3,c4,c5,c6,c7⟩:=Y5.cells;have HQ:=hide HQ5.out;have hz5:=Y5.lt
     go_wp2_with (at_builtin;refine z9e rfl rfl _ _ rfl w2.heap.size A C wq.heap.size (z1x t (s.W.take k)) x rfl rfl (by exact HQ.out.own9.over (znw wq _)) (by omega) (by simp;omega) (by exact fun j u hj=>j0s wq x _ j u hj) ?_;rintro g D w13⟨hO13,hg1,hg2,hb13,hk13⟩;have HO13:=hide hO13;have HB13:=hide hb13;have HK13:=hide hk13;clear hO13 hb13 hk13)
     have HP1:=hide ((HQ.out.over (by omega) (znw wq (.cells #[.int .i64 x.num,.int .i64 x.d,.int .i64 x.v,.int .i64 x.amt,.int .i64 x.hei,.int .i64 x.due,.int .i64 x.h0,.int .i64 x.h1] 82))).left HX.out HD.out (by omega) (by omega) HO13.out HB13.out HK13.out)
     have hll:=q4f HX.out HD.out;exact⟨⟨k+1,some ⟨g,0,none⟩,D,A',C',by omega,by go_num,by rw[hll.1],by rw[hll.2],HP1⟩,by simp[intOf];omega⟩
   ·have HD:Hid (z7g t x=false):=by show z7g t x=false;simp[z7g,hd1]
    go_upto_region 9 with fail
    generalize wr.alloc (.cells #[.int .i64 x.num,.int .i64 x.d,.int .i64 x.v,.int .i64 x.amt,.int .i64 x.hei,.int .i64 x.due,.int .i64 x.h0,.int .i64 x.h1] 82)=wq at *;clear c0 c1 c2 c3 c4 c5 c6 c7 HP hPk hH;obtain⟨c0,c1,c2,c3,c4,c5,c6,c7⟩:=Yq.cells;have hwq:=HQ.out.size
    go_wp2_with (at_builtin;refine z9e rfl rfl _ _ rfl w2.heap.size A C wq.heap.size (z1x t (s.W.take k)) x rfl rfl (by exact HQ.out.own9.over (znw wq _)) (by omega) (by simp;omega) (by exact fun j u hj=>j0s wq x _ j u hj) ?_;rintro g D w13⟨hO13,hg1,hg2,hb13,hk13⟩;have HO13:=hide hO13;have HB13:=hide hb13;have HK13:=hide hk13;clear hO13 hb13 hk13)
    have HP1:=hide ((HQ.out.over (by omega) (znw wq (.cells #[.int .i64 x.num,.int .i64 x.d,.int .i64 x.v,.int .i64 x.amt,.int .i64 x.hei,.int .i64 x.due,.int .i64 x.h0,.int .i64 x.h1] 82))).left HX.out HD.out (by omega) (by omega) HO13.out HB13.out HK13.out)
    have hll:=q4f HX.out HD.out;exact⟨⟨k+1,some ⟨g,0,none⟩,D,A',C',by omega,by go_num,by rw[hll.1],by rw[hll.2],HP1⟩,by simp[intOf];omega⟩
  ·obtain rfl:k=s.W.length:=by omega
   clear hPy hadr;rw[List.take_length];have HS:=hide HP.out.S;have HR:=hide HP.out.R;have HBk:=hide HP.out.bank;have HO9:=hide HP.out.own9;have HO10:=hide HP.out.own10;have HBw:=hide HP.out.below;clear HP;rw[List.take_length]at HBk HO9 HO10;obtain⟨x0,x1,x2,x3,x4,x5,x6,x7,_⟩:=z0t HS.out;obtain⟨b0,b1,b2,b3,b4,b5,b6⟩:=HBk.out.cells;have f0:=HS.out.free 0;have f1:=HS.out.free 1;have f2:=HS.out.free 2;have f3:=HS.out.free 3;have f4:=HS.out.free 4;have f5:=HS.out.free 5;have f6:=HS.out.free 6;have f61:=HS.out.free 61;have hne:w1.heap.size≠w.heap.size:=by omega
   have hzr:w.heap.size<wr.heap.size:=by omega
   have hzr1:w1.heap.size<wr.heap.size:=by omega
   generalize hbk:z5j t s.b s.W=bk at *
   go_upto_region 17 with fail
   change Code.wp prog _ _ _ ((z6y wr w.heap.size bk).setCell ⟨w.heap.size,61,none⟩ (.slice A (z1x t s.W).length C));have hbt:But w.heap.size wr ((z6y wr w.heap.size bk).setCell ⟨w.heap.size,61,none⟩ (.slice A (z1x t s.W).length C)):=((((((((But.refl _ _).set 0 _).set 1 _).set 2 _).set 3 _).set 4 _).set 5 _).set 6 _).set 61 _;have S8:=(z7r HS.out bk).set 61 (.slice A (z1x t s.W).length C);rw[q0X]at S8;have R8:=hbt.z1l (by omega) HR.out
   have HO9':Hid (z2y w2.heap.size ((z6y wr w.heap.size bk).setCell ⟨w.heap.size,61,none⟩ (.slice A (z1x t s.W).length C)) A C (z1x t s.W)):=z1n HO9.out fun k' hk=>hbt.block _ (by have:=(World.ownsRow.lt HO9.out k' hk).1;omega)
   have HO10':Hid (q1I w2.heap.size ((z6y wr w.heap.size bk).setCell ⟨w.heap.size,61,none⟩ (.slice A (z1x t s.W).length C)) A' C' (z2m t s.W)):=z1n HO10.out fun k' hk=>hbt.block _ (by have:=(World.ownsRow.lt HO10.out k' hk).1;omega)
   have HB8:=hide (HBw.out.trans (hbt.below (Nat.le_refl _)));generalize (z6y wr w.heap.size bk).setCell ⟨w.heap.size,61,none⟩ (.slice A (z1x t s.W).length C)=w8 at *;clear x0 x1 x2 x3 x4 x5 x6 x7 b0 b1 b2 b3 b4 b5 b6 f0 f1 f2 f3 f4 f5 f6 f61 hbt HS HR HBk HO9 HO10 HBw
   have S9:SAt w8 w.heap.size (stC (z6k s t) (.slice A (z1x t s.W).length C)):=by
    have e:stC (z6k s t) (.slice A (z1x t s.W).length C)=stC { s with b:=bk } (.slice A (z1x t s.W).length C):=by rw[← hbk];rfl
    rw[e];exact S8
   clear S8 hbk;apply wp_region_lit;refine wpList_load_mid rfl 43 _ rfl _ 0 rfl _ _ S9.range underlying43 rfl (by rw[z0y];rfl) ?_
   refine z1R rfl _ rfl ?_;refine wpList_store_mid rfl 43 _ _ rfl _ 0 (stC (z6k s t) (.slice A (z1x t s.W).length C)) rfl rfl (R8.there 0 _ (by rw[z0s,z0g];omega)) (by rw[z0y];rfl) (z0C _ _ _ _) ?_
   go_wp2;exact z9C results84 R8 rfl (z6k s t) _ _ _ _ ⟨A,C,A',C',rfl,z4p (z1n HO9'.out fun k' hk=>z1k (by have:=(World.ownsRow.lt HO9'.out k' hk).1;omega) _ _ _) (by omega),z4p (z1n HO10'.out fun k' hk=>z1k (by have:=(World.ownsRow.lt HO10'.out k' hk).1;omega) _ _ _) (by omega),z0b (by omega) _ _ _ HB8.out⟩ _ rfl rfl rfl rfl
theorem q6F(s:St)(ao:Option Addr)(sb so c v:Nat)(h f:Int)(w:World)(hW:z2A w ao sb so s.W)(hg:z0i s=true)(hv:v<6)(hf:0<=f/\f<=1000) :
  Calls prog 112 #[.agg (stC s (.slice ao s.W.length c)),.int .i64 (v:Int),.int .i64 h,.int .i64 f] w fun e w'=>∃ A C,e=.returned (.tuple #[.agg (stC (z2f s v h f) (.slice A (z2f s v h f).W.length C)),.int .i64 (ptN (s.V v).tok f+slN v h f s.W),.int .i64 0])/\z2y w.heap.size w' A C (z2f s v h f).W/\Below w.heap.size w w':=by
 have SS:=(SAt.new w (stC s (.slice ao s.W.length c))).alloc (.cells Z63 43);have RR:=SAt.new2 w (.cells (stC s (.slice ao s.W.length c)) 43) Z63;have HB:Hid (Below w.heap.size w ((w.alloc (.cells (stC s (.slice ao s.W.length c)) 43)).alloc (.cells Z63 43))):=(znw w _).alloc (by simp) _
 have HW:=hide hW;have hRf:=z3Q hg hv;have hv':(v:Int)<6:=by omega
 have hv0:(0:Int)<=(v:Int):=by omega
 obtain⟨n1,n2,n3,n4,n5,n6,n7,n8,n9,n10,n11⟩:=z4M hg hv h hf;obtain⟨b0,-⟩:=z6v hg hv h hf;have hP:=q3N (s.V v).tok f;have hSl:=fun w hw=>z8A ao s.W c sb so v h f w hw hf n10 n9 n11;have hBu:=fun w=>j3E s.b (ptN (s.V v).tok f) (slN v h f s.W) w;rw[b0]at hBu;rw[n1]at hP;have eS:z2f s v h f={ s with b:=(z2U s.b (ptN (s.V v).tok f) (slN v h f s.W)).1,V:=z1P s.V v (z8r (s.V v) (ptN (s.V v).tok f) (slN v h f s.W)),W:=slW v h f s.W }:=rfl
 generalize (z2U s.b (ptN (s.V v).tok f) (slN v h f s.W)).1=B at *;have hWs:(z2f s v h f).W=slW v h f s.W:=rfl;generalize z2f s v h f=r at *;generalize ptN (s.V v).tok f=pb at *;generalize slN v h f s.W=pw at *;rw[hWs];generalize slW v h f s.W=Ws at *;obtain⟨n20,n21⟩:=n2;obtain⟨n30,n31⟩:=n3;obtain⟨n50,n51⟩:=n5;have hw0:wrap64 (pb+pw)=pb+pw:=z0f (by omega) (by omega)
 have HES:=hide eS;clear hW hf hg n1 n9 n10 n11 b0 eS hWs
 go_enter func112,ntmps112
 go_upto_region 1 with fail
 change Code.wp prog _ _ _ ((w.alloc (.cells (stC s (.slice ao s.W.length c)) 43)).alloc (.cells Z63 43));generalize (w.alloc (.cells (stC s (.slice ao s.W.length c)) 43)).alloc (.cells Z63 43)=w0 at *
 go_upto_region 2 with (go_at_call 79;refine (z1T s ao sb so c w.heap.size v _ SS (by exact HW.out.over HB.out)).mono ?_;rintro e w1⟨rfl,h1⟩)
 have HB1:=hide (zbt HB.out h1);have S1:=SS.later h1 SS.lt;have R1:=RR.later h1 RR.lt;clear SS RR h1 HB;have c0:=(S1.val v hv).1;have x7:=(z0t S1).2.2.2.2.2.2.2.1;have hz1:w.heap.size+1<w1.heap.size:=R1.lt;have hz1a:w.heap.size<w1.heap.size:=by omega
 go_upto_region 14 with (first
  | (go_at_call 154;refine (hP _).mono ?_;rintro e w2⟨rfl,h2⟩;have HB2:=hide (HB1.out.trans (h2.mono (by omega)));have S2:=S1.later h2 S1.lt;have R2:=R1.later h2 R1.lt;have hz2:=R2.lt;clear x7;have x7:=(z0t S2).2.2.2.2.2.2.2.1;have hz2a:=S2.lt;clear h2)
  | (go_at_call 155;refine (hSl _ (by exact HW.out.over HB2.out)).mono ?_;rintro e w3⟨A,C,rfl,hO3,h3⟩;have HB3:=hide (HB2.out.trans (h3.mono (by omega)));have S3:=S2.later h3 S2.lt;have R3:=R2.later h3 R2.lt;have HO3:=hide hO3;have hz3:=R3.lt;have hz3a:=S3.lt;obtain⟨x0,x1,x2,x3,x4,x5,x6,_,_⟩:=z0t S3;clear h3 hO3)
  | (go_at_call 156;refine (hBu _).mono ?_;rintro e w4⟨rfl,h4⟩;have HB4:=hide (HB3.out.trans (h4.mono (by omega)));have S4:=S3.later h4 S3.lt;have R4:=R3.later h4 R3.lt;have HO4:=hide (HO3.out.over h4);have hz4:=R4.lt;clear h4 x0 x1 x2 x3 x4 x5 x6))
 have B5:BAt (w4.alloc (.cells #[.int .i64 B.f0,.int .i64 B.f1,.int .i64 B.f2,.int .i64 B.f3,.int .i64 B.bo,.int .i64 B.wa,.int .i64 B.bu] 35)) w4.heap.size B.f0 B.f1 B.f2 B.f3 B.bo B.wa B.bu:=heap_alloc_new _ _;have S5:=S4.alloc (.cells #[.int .i64 B.f0,.int .i64 B.f1,.int .i64 B.f2,.int .i64 B.f3,.int .i64 B.bo,.int .i64 B.wa,.int .i64 B.bu] 35);have R5:=R4.alloc (.cells #[.int .i64 B.f0,.int .i64 B.f1,.int .i64 B.f2,.int .i64 B.f3,.int .i64 B.bo,.int .i64 B.wa,.int .i64 B.bu] 35);have HB5:=hide (HB4.out.alloc (by omega) (.cells #[.int .i64 B.f0,.int .i64 B.f1,.int .i64 B.f2,.int .i64 B.f3,.int .i64 B.bo,.int .i64 B.wa,.int .i64 B.bu] 35))
 have HO5:=hide (HO4.out.over (znw w4 (.cells #[.int .i64 B.f0,.int .i64 B.f1,.int .i64 B.f2,.int .i64 B.f3,.int .i64 B.bo,.int .i64 B.wa,.int .i64 B.bu] 35)));generalize w4.alloc (.cells #[.int .i64 B.f0,.int .i64 B.f1,.int .i64 B.f2,.int .i64 B.f3,.int .i64 B.bo,.int .i64 B.wa,.int .i64 B.bu] 35)=w5 at *;clear S1 R1 HB1 S2 R2 HB2 S3 R3 HB3 S4 R4 HB4 HO3 HO4 hP hSl hBu;have hz5:w4.heap.size<w5.heap.size:=B5.lt;have hz5a:w.heap.size<w5.heap.size:=by omega
 have c0:=(S5.val v hv).1;have c2:=(S5.val v hv).2.2.1;have f0:=S5.free (7+v * 5)
 go_upto_region 16 with fail
 have S6:=S5.set (7+v * 5) (.int .i64 ((s.V v).tok - pb));rw[q8e _ _ v hv]at S6;have HBt:=hide ((But.refl w.heap.size w5).set (7+v * 5) (.int .i64 ((s.V v).tok - pb)));generalize w5.setCell ⟨w.heap.size,7+v * 5,none⟩ (.int .i64 ((s.V v).tok - pb))=w6 at *;clear c0 c2 f0;have c2:=(S6.val v hv).2.2.1;simp only[z6z]at c2;have f0:=S6.free (7+v * 5+2);have hz6a:w.heap.size<w6.heap.size:=S6.lt
 go_upto_region 17 with fail
 have S7:=S6.set (7+v * 5+2) (.int .i64 ((s.V v).lost+(pb+pw)));rw[j3r _ _ v hv]at S7;have HBt2:=hide (HBt.out.set (7+v * 5+2) (.int .i64 ((s.V v).lost+(pb+pw))));generalize w6.setCell ⟨w.heap.size,7+v * 5+2,none⟩ (.int .i64 ((s.V v).lost+(pb+pw)))=w7 at *;have hz7a:w.heap.size<w7.heap.size:=S7.lt;have B7:BAt w7 w4.heap.size B.f0 B.f1 B.f2 B.f3 B.bo B.wa B.bu:=(HBt2.out.block _ (by omega)).trans B5
 have hz7b:=B7.lt;obtain⟨x0,x1,x2,x3,x4,x5,x6,x7,_⟩:=z0t S7;obtain⟨y0,y1,y2,y3,y4,y5,y6⟩:=B7.cells;have g0:=S7.free 0;have g1:=S7.free 1;have g2:=S7.free 2;have g3:=S7.free 3;have g4:=S7.free 4;have g5:=S7.free 5;have g6:=S7.free 6;have g61:=S7.free 61;have hne:w4.heap.size≠w.heap.size:=by omega
 clear c2 f0 S6 HBt
 go_upto_region 18 with fail
 change Code.wp prog _ _ _ ((z6y w7 w.heap.size B).setCell ⟨w.heap.size,61,none⟩ (.slice A Ws.length C));have HBt3:Hid (But w.heap.size w5 ((z6y w7 w.heap.size B).setCell ⟨w.heap.size,61,none⟩ (.slice A Ws.length C))):=(((((((HBt2.out.set 0 _).set 1 _).set 2 _).set 3 _).set 4 _).set 5 _).set 6 _).set 61 _;have S8:=(z7r S7 B).set 61 (.slice A Ws.length C);rw[q0X]at S8;have R8:=HBt3.out.z1l (by omega) R5
 have HO8:Hid (z2y w2.heap.size ((z6y w7 w.heap.size B).setCell ⟨w.heap.size,61,none⟩ (.slice A Ws.length C)) A C Ws):=z1n HO5.out fun k' hk=>HBt3.out.block _ (by have:=(World.ownsRow.lt HO5.out k' hk).1;omega)
 have HB8:=hide (HB5.out.trans (HBt3.out.below (Nat.le_refl _)));generalize (z6y w7 w.heap.size B).setCell ⟨w.heap.size,61,none⟩ (.slice A Ws.length C)=w8 at *;clear x0 x1 x2 x3 x4 x5 x6 x7 y0 y1 y2 y3 y4 y5 y6 g0 g1 g2 g3 g4 g5 g6 g61 S7 B7 B5 HBt2 HBt3 R5 HB5 HO5 S5
 have S9:SAt w8 w.heap.size (stC r (.slice A Ws.length C)):=by
  have e:stC r (.slice A Ws.length C)=stC { ({ s with V:=z1P (z1P s.V v { s.V v with tok:=(s.V v).tok - pb }) v { z1P s.V v { s.V v with tok:=(s.V v).tok - pb } v with lost:=(s.V v).lost+(pb+pw) } }:St) with b:=B } (.slice A Ws.length C):=by
   rw[HES.out,z6z]
   have hV:z1P (z1P s.V v { s.V v with tok:=(s.V v).tok - pb }) v { s.V v with tok:=(s.V v).tok - pb,lost:=(s.V v).lost+(pb+pw) }=z1P s.V v (z8r (s.V v) pb pw):=by
    funext i
    unfold z1P z8r
    split <;> rfl
   rw[hV];rfl
  rw[e];exact S8
 clear S8;apply wp_region_lit;refine wpList_load_mid rfl 43 _ rfl _ 0 rfl _ _ S9.range underlying43 rfl (by rw[z0y];rfl) ?_
 refine z1R rfl _ rfl ?_;refine wpList_store_mid rfl 43 _ _ rfl _ 0 (stC r (.slice A Ws.length C)) rfl rfl (R8.there 0 _ (by rw[z0s,z0g];omega)) (by rw[z0y];rfl) (z0C _ _ _ _) ?_
 go_wp2;exact z9C results112 R8 rfl r _ _ _ _ ⟨A,C,rfl,z4p (z1n HO8.out fun k' hk=>z1k (by have:=(World.ownsRow.lt HO8.out k' hk).1;omega) _ _ _) (by omega),z0b (by omega) _ _ _ HB8.out⟩ _ rfl rfl rfl rfl
end
end Go.Proofs.YtmopekkhmhhcaaaGreat
