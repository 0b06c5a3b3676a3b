/- Parts of the proof. -/
import Derived.Test.YtddlhnoedldidaaGreatGL
import Derived.Test.YtddlhnoedldidaaGreatGK17
import Derived.Test.YtddlhnoedldidaaGreatGK18
set_option maxRecDepth 100000
set_option maxHeartbeats 16000000
namespace Go.Proofs.YtddlhnoedldidaaGreat
open Go.Proofs.Tryz
open Value renaming int->J,slice->J1,pointer->J2,bool->J3,agg->J4
open IntKind renaming i64->I
open Obj renaming cells->J5
namespace Wd
open Go.RowKit Pv
structure Row(w:World)(A:Option Addr)(n C sz:Nat)(cs:List Value):Prop where
 len:cs.length=n*sz
 nil:A=none->n=0/\C=0
 at_:∀ad,A=some ad->∀j u,cs[j]?=some u->w.cell? (ad.add j)=some u
theorem row_of{P:Nat->Prop}{w:World}{v:Value}{sz bts:Nat}{cs:List Value}(h:Rep P w v sz bts cs){n:Nat}(a:cs.length=n*sz)(b:0<sz):∃A C,v=J1 A n C/\Row w A n C sz cs/\n*bts<=140737488351232:=by
 obtain⟨A,C,rfl,c,h0,-,h1⟩:=h.open a b;exact⟨A,C,rfl,⟨a,h0,h1⟩,c⟩
theorem z5B{P:Nat->Prop}{w:World}{v:Value}{sz bts:Nat}{cs:List Value}(h:z0U P w v sz bts cs){n:Nat}(a:cs.length=n*sz)(b:0<sz):∃A C,v=J1 A n C/\Row w A n C sz cs/\n*bts<=140737488351232:=by
 obtain⟨A,m,C,C',rfl,hc,h'⟩:=h;obtain⟨d,f,e,c,h0,-,h1⟩:=h'.open a b;cases e;exact⟨A,C,rfl,⟨a,λe=>⟨(h0 e).1,hc e⟩,h1⟩,c⟩
theorem j9h:(prog.info? 3).map (λi=>(i.zero,i.size,i.bytes))=some (some (J I 0),1,8):=by kernel_rfl
theorem j4P(w:World)(a:Option Addr)(n c:Nat):(binOp .eql 45 (J1 a n c) (J1 none 0 0)).run prog w=.ok (J3 a.isNone) w:=by
 simp[binOp,run_equal_slice_nil w 45 3 a n c underlying45]
theorem j2Y(w:World):(w.alloc (J5 #[] 3)).ownsRow w.heap.size 3 1 (J1 (some ⟨w.heap.size,0,none⟩) 0 0) 0 []:=⟨rfl,.inr ⟨w.heap.size,0,#[],rfl,Nat.le_refl _,heap_alloc_new _ _,Nat.le_refl _,Nat.zero_le _,rfl,rfl⟩⟩
theorem j0K(w:World)(a:Addr)(n c:Nat)(cs:List Value)(h:Row w (some a) n c 1 cs)(h1:∀u∈cs,u.oneCell'=true)(hb:n*8<=140737488351232) :
  ∃A C w',(Builtin.append_ #[45,45] 45 #[J1 (some ⟨w.heap.size,0,none⟩) 0 0,J1 (some a) n c]).run prog (w.alloc (J5 #[] 3))=.ok (J1 A n C) w'/\w'.ownsRow w.heap.size 3 1 (J1 A n C) n cs/\Bl w w':=by
 obtain⟨i0,m,d,e,f⟩:=info_parts j9h
 have i:∀j u,cs[j]?=some u->(w.alloc (J5 #[] 3)).cell? (a.add j)=some u:=λj u o=>by
  have h2:=h.at_ a rfl j u o;have h3:(a.add j).block<w.heap.size:=World.block_lt_of_cell? w _ h2;rw[((Below.refl w.heap.size w).alloc (Nat.le_refl _) (J5 #[] 3)).cell h3];exact h2
 obtain⟨v',w',p,l,b,-,q⟩:=run_append_own_at (P:=prog) (w.alloc (J5 #[] 3)) w.heap.size 45 45 3 i0 _ 1 8 underlying45 m d e f rfl (by omega) _ 0 [] (j2Y w) a n c cs h.len
  i h1 (by simp only[maxLen];omega) (by omega) (by simp)
 rw[Nat.zero_add,List.nil_append]at l
 have r:∃A C,v'=J1 A n C:=by
  rcases l.2 with⟨rfl,h0⟩|⟨g,cap,cur,rfl,_⟩
  ·rw[h0];exact⟨none,0,rfl⟩
  ·exact⟨_,_,rfl⟩
 obtain⟨A,C,rfl⟩:=r;refine⟨A,C,w',p,l,?_⟩;have hb:=(Below.refl w.heap.size w).alloc (Nat.le_refl _) (J5 #[] 3);exact⟨b.os.trans hb.os,b.tape.trans hb.tape,b.output.trans hb.output,Nat.le_trans hb.size b.size,λk s=>(b.block k (by simp;omega) (by simp[Value.ownBlock];omega)).trans (hb.block k s)⟩
theorem q6D{ops:Array Oper}{rest:List Oper}{o:Oper}{a:Act}{w:World}{Q:Exit->Act->World->Prop}(f:o.guard=none)(b:o.type=45)(p q:Operand)
  (d:o.op=Op.call { callee:=Callee.builtin Builtin.append,args:=#[p,q],argTypes:=#[45,45]}) (ad:Addr) (n c:Nat) (cs:List Value) (hs:a.eval p=J1 (some ⟨w.heap.size,0,none⟩) 0 0) (g:a.eval q=J1 (some ad) n c) (h:Row w (some ad) n c 1 cs) (h1:∀u∈cs,u.oneCell'=true) (hb:n*8<=140737488351232)
  (i:∀A C w',w'.ownsRow w.heap.size 3 1 (J1 A n C) n cs/\Bl w w'->wpList prog ops Q rest (a.put o.dst (J1 A n C)) w'):wpList prog ops Q (o :: rest) a (w.alloc (J5 #[] 3)):=by
 refine wpList_plain f λ_ e=>?_;unfold Oper.wp;obtain⟨A,C,w',j,h1⟩:=j0K w ad n c cs h h1 hb
 simp[execOp,d,resolve,invoke,builtin,hs,g,b,j,Result.andThen]
 exact e _ _ (i _ _ _ h1)
theorem z6R(A:Option Addr)(n C:Nat)(cs:List Value)(w:World)(h:Row w A n C 1 cs)(h1:∀u∈cs,u.oneCell'=true)(hb:n*8<=140737488351232) :
  Calls prog 40 #[J1 A n C] w λe w'=>∃A' C',e=.returned (J1 A' n C')/\Rep (λb=>w.heap.size<=b) w' (J1 A' n C') 1 8 cs/\Bl w w':=by
 cases A with
 | none =>
  obtain⟨rfl,rfl⟩:=h.nil rfl;obtain rfl:cs=[]:=List.length_eq_zero_iff.1 (by rw[h.len])
  have d:=λw=>j4P w none 0 0;clear h h1
  go_enter func40,ntmps40
  go_wp2;go_ret;exact⟨_,_,rfl,Rep.nil _ _ _ _,Below.refl _ _⟩
 | some a =>
  have d:=λw=>j4P w (some a) n C;have f:=J6 h;have c:=J6 h1;clear h h1
  go_enter func40,ntmps40
  go_upto_region 3 with fail
  apply wp_region_lit
  iterate 6 go_step
  refine q6D rfl rfl _ _ rfl a n C cs rfl rfl f.out c.out hb ?_;rintro A' C' w'⟨h1,h2⟩;have c:=J6 h1;have g:=J6 h2;clear h1 h2;go_wp2;go_ret;exact⟨_,_,rfl,Rep.own c.out hb,g.out⟩
theorem y0D:(prog.info? 9).map (λi=>(i.zero,i.size,i.bytes))=some (some (.string ⟨#[]⟩),1,16):=by kernel_rfl
theorem j4N(w:World)(a:Option Addr)(n c:Nat):(binOp .eql 46 (J1 a n c) (J1 none 0 0)).run prog w=.ok (J3 a.isNone) w:=by
 simp[binOp,run_equal_slice_nil w 46 9 a n c underlying46]
theorem j1Q(w:World):(w.alloc (J5 #[] 9)).ownsRow w.heap.size 9 1 (J1 (some ⟨w.heap.size,0,none⟩) 0 0) 0 []:=⟨rfl,.inr ⟨w.heap.size,0,#[],rfl,Nat.le_refl _,heap_alloc_new _ _,Nat.le_refl _,Nat.zero_le _,rfl,rfl⟩⟩
theorem q9S(w:World)(a:Addr)(n c:Nat)(cs:List Value)(h:Row w (some a) n c 1 cs)(h1:∀u∈cs,u.oneCell'=true)(hb:n*16<=140737488351232) :
  ∃A C w',(Builtin.append_ #[46,46] 46 #[J1 (some ⟨w.heap.size,0,none⟩) 0 0,J1 (some a) n c]).run prog (w.alloc (J5 #[] 9))=.ok (J1 A n C) w'/\w'.ownsRow w.heap.size 9 1 (J1 A n C) n cs/\Bl w w':=by
 obtain⟨i0,m,d,e,f⟩:=info_parts y0D
 have i:∀j u,cs[j]?=some u->(w.alloc (J5 #[] 9)).cell? (a.add j)=some u:=λj u o=>by
  have h2:=h.at_ a rfl j u o;have h3:(a.add j).block<w.heap.size:=World.block_lt_of_cell? w _ h2;rw[((Below.refl w.heap.size w).alloc (Nat.le_refl _) (J5 #[] 9)).cell h3];exact h2
 obtain⟨v',w',p,l,b,-,q⟩:=run_append_own_at (P:=prog) (w.alloc (J5 #[] 9)) w.heap.size 46 46 9 i0 _ 1 16 underlying46 m d e f rfl (by omega) _ 0 [] (j1Q w) a n c cs h.len
  i h1 (by simp only[maxLen];omega) (by omega) (by simp)
 rw[Nat.zero_add,List.nil_append]at l
 have r:∃A C,v'=J1 A n C:=by
  rcases l.2 with⟨rfl,h0⟩|⟨g,cap,cur,rfl,_⟩
  ·rw[h0];exact⟨none,0,rfl⟩
  ·exact⟨_,_,rfl⟩
 obtain⟨A,C,rfl⟩:=r;refine⟨A,C,w',p,l,?_⟩;have hb:=(Below.refl w.heap.size w).alloc (Nat.le_refl _) (J5 #[] 9);exact⟨b.os.trans hb.os,b.tape.trans hb.tape,b.output.trans hb.output,Nat.le_trans hb.size b.size,λk s=>(b.block k (by simp;omega) (by simp[Value.ownBlock];omega)).trans (hb.block k s)⟩
theorem q5B{ops:Array Oper}{rest:List Oper}{o:Oper}{a:Act}{w:World}{Q:Exit->Act->World->Prop}(f:o.guard=none)(b:o.type=46)(p q:Operand)
  (d:o.op=Op.call { callee:=Callee.builtin Builtin.append,args:=#[p,q],argTypes:=#[46,46]}) (ad:Addr) (n c:Nat) (cs:List Value) (hs:a.eval p=J1 (some ⟨w.heap.size,0,none⟩) 0 0) (g:a.eval q=J1 (some ad) n c) (h:Row w (some ad) n c 1 cs) (h1:∀u∈cs,u.oneCell'=true) (hb:n*16<=140737488351232)
  (i:∀A C w',w'.ownsRow w.heap.size 9 1 (J1 A n C) n cs/\Bl w w'->wpList prog ops Q rest (a.put o.dst (J1 A n C)) w'):wpList prog ops Q (o :: rest) a (w.alloc (J5 #[] 9)):=by
 refine wpList_plain f λ_ e=>?_;unfold Oper.wp;obtain⟨A,C,w',j,h1⟩:=q9S w ad n c cs h h1 hb
 simp[execOp,d,resolve,invoke,builtin,hs,g,b,j,Result.andThen]
 exact e _ _ (i _ _ _ h1)
theorem q5D(A:Option Addr)(n C:Nat)(cs:List Value)(w:World)(h:Row w A n C 1 cs)(h1:∀u∈cs,u.oneCell'=true)(hb:n*16<=140737488351232) :
  Calls prog 66 #[J1 A n C] w λe w'=>∃A' C',e=.returned (J1 A' n C')/\Rep (λb=>w.heap.size<=b) w' (J1 A' n C') 1 16 cs/\Bl w w':=by
 cases A with
 | none =>
  obtain⟨rfl,rfl⟩:=h.nil rfl;obtain rfl:cs=[]:=List.length_eq_zero_iff.1 (by rw[h.len])
  have d:=λw=>j4N w none 0 0;clear h h1
  go_enter func66,ntmps66
  go_wp2;go_ret;exact⟨_,_,rfl,Rep.nil _ _ _ _,Below.refl _ _⟩
 | some a =>
  have d:=λw=>j4N w (some a) n C;have f:=J6 h;have c:=J6 h1;clear h h1
  go_enter func66,ntmps66
  go_upto_region 3 with fail
  apply wp_region_lit
  iterate 6 go_step
  refine q5B rfl rfl _ _ rfl a n C cs rfl rfl f.out c.out hb ?_;rintro A' C' w'⟨h1,h2⟩;have c:=J6 h1;have g:=J6 h2;clear h1 h2;go_wp2;go_ret;exact⟨_,_,rfl,Rep.own c.out hb,g.out⟩
theorem j9H:(prog.info? 70).map (λi=>(i.zero,i.size,i.bytes))=some (some (J4 #[J I 0,J I 0,J I 0,J I 0,J I 0,J1 none 0 0,J1 none 0 0]),7,88):=by kernel_rfl
theorem j4U(w:World)(a:Option Addr)(n c:Nat):(binOp .eql 56 (J1 a n c) (J1 none 0 0)).run prog w=.ok (J3 a.isNone) w:=by
 simp[binOp,run_equal_slice_nil w 56 70 a n c underlying56]
theorem j4m(w:World):(w.alloc (J5 #[] 70)).ownsRow w.heap.size 70 7 (J1 (some ⟨w.heap.size,0,none⟩) 0 0) 0 []:=⟨rfl,.inr ⟨w.heap.size,0,#[],rfl,Nat.le_refl _,heap_alloc_new _ _,Nat.le_refl _,Nat.zero_le _,rfl,rfl⟩⟩
theorem q7A(w:World)(a:Addr)(n c:Nat)(cs:List Value)(h:Row w (some a) n c 7 cs)(h1:∀u∈cs,u.oneCell'=true)(hb:n*88<=140737488351232) :
  ∃A C w',(Builtin.append_ #[56,56] 56 #[J1 (some ⟨w.heap.size,0,none⟩) 0 0,J1 (some a) n c]).run prog (w.alloc (J5 #[] 70))=.ok (J1 A n C) w'/\w'.ownsRow w.heap.size 70 7 (J1 A n C) n cs/\Bl w w':=by
 obtain⟨i0,m,d,e,f⟩:=info_parts j9H
 have i:∀j u,cs[j]?=some u->(w.alloc (J5 #[] 70)).cell? (a.add j)=some u:=λj u o=>by
  have h2:=h.at_ a rfl j u o;have h3:(a.add j).block<w.heap.size:=World.block_lt_of_cell? w _ h2;rw[((Below.refl w.heap.size w).alloc (Nat.le_refl _) (J5 #[] 70)).cell h3];exact h2
 obtain⟨v',w',p,l,b,-,q⟩:=run_append_own_at (P:=prog) (w.alloc (J5 #[] 70)) w.heap.size 56 56 70 i0 _ 7 88 underlying56 m d e f rfl (by omega) _ 0 [] (j4m w) a n c cs h.len
  i h1 (by simp only[maxLen];omega) (by omega) (by simp)
 rw[Nat.zero_add,List.nil_append]at l
 have r:∃A C,v'=J1 A n C:=by
  rcases l.2 with⟨rfl,h0⟩|⟨g,cap,cur,rfl,_⟩
  ·rw[h0];exact⟨none,0,rfl⟩
  ·exact⟨_,_,rfl⟩
 obtain⟨A,C,rfl⟩:=r;refine⟨A,C,w',p,l,?_⟩;have hb:=(Below.refl w.heap.size w).alloc (Nat.le_refl _) (J5 #[] 70);exact⟨b.os.trans hb.os,b.tape.trans hb.tape,b.output.trans hb.output,Nat.le_trans hb.size b.size,λk s=>(b.block k (by simp;omega) (by simp[Value.ownBlock];omega)).trans (hb.block k s)⟩
theorem q6m{ops:Array Oper}{rest:List Oper}{o:Oper}{a:Act}{w:World}{Q:Exit->Act->World->Prop}(f:o.guard=none)(b:o.type=56)(p q:Operand)
  (d:o.op=Op.call { callee:=Callee.builtin Builtin.append,args:=#[p,q],argTypes:=#[56,56]}) (ad:Addr) (n c:Nat) (cs:List Value) (hs:a.eval p=J1 (some ⟨w.heap.size,0,none⟩) 0 0) (g:a.eval q=J1 (some ad) n c) (h:Row w (some ad) n c 7 cs) (h1:∀u∈cs,u.oneCell'=true) (hb:n*88<=140737488351232)
  (i:∀A C w',w'.ownsRow w.heap.size 70 7 (J1 A n C) n cs/\Bl w w'->wpList prog ops Q rest (a.put o.dst (J1 A n C)) w'):wpList prog ops Q (o :: rest) a (w.alloc (J5 #[] 70)):=by
 refine wpList_plain f λ_ e=>?_;unfold Oper.wp;obtain⟨A,C,w',j,h1⟩:=q7A w ad n c cs h h1 hb
 simp[execOp,d,resolve,invoke,builtin,hs,g,b,j,Result.andThen]
 exact e _ _ (i _ _ _ h1)
theorem j9v:(prog.info? 68).map (λi=>(i.zero,i.size,i.bytes))=some (some (J4 #[J I 0,J I 0,J I 0,J I 0,J1 none 0 0,J1 none 0 0]),6,80):=by kernel_rfl
theorem j4K(w:World)(a:Option Addr)(n c:Nat):(binOp .eql 71 (J1 a n c) (J1 none 0 0)).run prog w=.ok (J3 a.isNone) w:=by
 simp[binOp,run_equal_slice_nil w 71 68 a n c underlying71]
theorem j3x(w:World):(w.alloc (J5 #[] 68)).ownsRow w.heap.size 68 6 (J1 (some ⟨w.heap.size,0,none⟩) 0 0) 0 []:=⟨rfl,.inr ⟨w.heap.size,0,#[],rfl,Nat.le_refl _,heap_alloc_new _ _,Nat.le_refl _,Nat.zero_le _,rfl,rfl⟩⟩
theorem j1a(w:World)(a:Addr)(n c:Nat)(cs:List Value)(h:Row w (some a) n c 6 cs)(h1:∀u∈cs,u.oneCell'=true)(hb:n*80<=140737488351232) :
  ∃A C w',(Builtin.append_ #[71,71] 71 #[J1 (some ⟨w.heap.size,0,none⟩) 0 0,J1 (some a) n c]).run prog (w.alloc (J5 #[] 68))=.ok (J1 A n C) w'/\w'.ownsRow w.heap.size 68 6 (J1 A n C) n cs/\Bl w w':=by
 obtain⟨i0,m,d,e,f⟩:=info_parts j9v
 have i:∀j u,cs[j]?=some u->(w.alloc (J5 #[] 68)).cell? (a.add j)=some u:=λj u o=>by
  have h2:=h.at_ a rfl j u o;have h3:(a.add j).block<w.heap.size:=World.block_lt_of_cell? w _ h2;rw[((Below.refl w.heap.size w).alloc (Nat.le_refl _) (J5 #[] 68)).cell h3];exact h2
 obtain⟨v',w',p,l,b,-,q⟩:=run_append_own_at (P:=prog) (w.alloc (J5 #[] 68)) w.heap.size 71 71 68 i0 _ 6 80 underlying71 m d e f rfl (by omega) _ 0 [] (j3x w) a n c cs h.len
  i h1 (by simp only[maxLen];omega) (by omega) (by simp)
 rw[Nat.zero_add,List.nil_append]at l
 have r:∃A C,v'=J1 A n C:=by
  rcases l.2 with⟨rfl,h0⟩|⟨g,cap,cur,rfl,_⟩
  ·rw[h0];exact⟨none,0,rfl⟩
  ·exact⟨_,_,rfl⟩
 obtain⟨A,C,rfl⟩:=r;refine⟨A,C,w',p,l,?_⟩;have hb:=(Below.refl w.heap.size w).alloc (Nat.le_refl _) (J5 #[] 68);exact⟨b.os.trans hb.os,b.tape.trans hb.tape,b.output.trans hb.output,Nat.le_trans hb.size b.size,λk s=>(b.block k (by simp;omega) (by simp[Value.ownBlock];omega)).trans (hb.block k s)⟩
theorem q5p{ops:Array Oper}{rest:List Oper}{o:Oper}{a:Act}{w:World}{Q:Exit->Act->World->Prop}(f:o.guard=none)(b:o.type=71)(p q:Operand)
  (d:o.op=Op.call { callee:=Callee.builtin Builtin.append,args:=#[p,q],argTypes:=#[71,71]}) (ad:Addr) (n c:Nat) (cs:List Value) (hs:a.eval p=J1 (some ⟨w.heap.size,0,none⟩) 0 0) (g:a.eval q=J1 (some ad) n c) (h:Row w (some ad) n c 6 cs) (h1:∀u∈cs,u.oneCell'=true) (hb:n*80<=140737488351232)
  (i:∀A C w',w'.ownsRow w.heap.size 68 6 (J1 A n C) n cs/\Bl w w'->wpList prog ops Q rest (a.put o.dst (J1 A n C)) w'):wpList prog ops Q (o :: rest) a (w.alloc (J5 #[] 68)):=by
 refine wpList_plain f λ_ e=>?_;unfold Oper.wp;obtain⟨A,C,w',j,h1⟩:=j1a w ad n c cs h h1 hb
 simp[execOp,d,resolve,invoke,builtin,hs,g,b,j,Result.andThen]
 exact e _ _ (i _ _ _ h1)
theorem y0d:(prog.info? 79).map (λi=>(i.zero,i.size,i.bytes))=some (some (J4 #[J I 0,J I 0]),2,16):=by kernel_rfl
theorem j5o(w:World)(a:Option Addr)(n c:Nat):(binOp .eql 72 (J1 a n c) (J1 none 0 0)).run prog w=.ok (J3 a.isNone) w:=by
 simp[binOp,run_equal_slice_nil w 72 79 a n c underlying72]
theorem j2t(w:World):(w.alloc (J5 #[] 79)).ownsRow w.heap.size 79 2 (J1 (some ⟨w.heap.size,0,none⟩) 0 0) 0 []:=⟨rfl,.inr ⟨w.heap.size,0,#[],rfl,Nat.le_refl _,heap_alloc_new _ _,Nat.le_refl _,Nat.zero_le _,rfl,rfl⟩⟩
theorem q9C(w:World)(a:Addr)(n c:Nat)(cs:List Value)(h:Row w (some a) n c 2 cs)(h1:∀u∈cs,u.oneCell'=true)(hb:n*16<=140737488351232) :
  ∃A C w',(Builtin.append_ #[72,72] 72 #[J1 (some ⟨w.heap.size,0,none⟩) 0 0,J1 (some a) n c]).run prog (w.alloc (J5 #[] 79))=.ok (J1 A n C) w'/\w'.ownsRow w.heap.size 79 2 (J1 A n C) n cs/\Bl w w':=by
 obtain⟨i0,m,d,e,f⟩:=info_parts y0d
 have i:∀j u,cs[j]?=some u->(w.alloc (J5 #[] 79)).cell? (a.add j)=some u:=λj u o=>by
  have h2:=h.at_ a rfl j u o;have h3:(a.add j).block<w.heap.size:=World.block_lt_of_cell? w _ h2;rw[((Below.refl w.heap.size w).alloc (Nat.le_refl _) (J5 #[] 79)).cell h3];exact h2
 obtain⟨v',w',p,l,b,-,q⟩:=run_append_own_at (P:=prog) (w.alloc (J5 #[] 79)) w.heap.size 72 72 79 i0 _ 2 16 underlying72 m d e f rfl (by omega) _ 0 [] (j2t w) a n c cs h.len
  i h1 (by simp only[maxLen];omega) (by omega) (by simp)
 rw[Nat.zero_add,List.nil_append]at l
 have r:∃A C,v'=J1 A n C:=by
  rcases l.2 with⟨rfl,h0⟩|⟨g,cap,cur,rfl,_⟩
  ·rw[h0];exact⟨none,0,rfl⟩
  ·exact⟨_,_,rfl⟩
 obtain⟨A,C,rfl⟩:=r;refine⟨A,C,w',p,l,?_⟩;have hb:=(Below.refl w.heap.size w).alloc (Nat.le_refl _) (J5 #[] 79);exact⟨b.os.trans hb.os,b.tape.trans hb.tape,b.output.trans hb.output,Nat.le_trans hb.size b.size,λk s=>(b.block k (by simp;omega) (by simp[Value.ownBlock];omega)).trans (hb.block k s)⟩
theorem q5S{ops:Array Oper}{rest:List Oper}{o:Oper}{a:Act}{w:World}{Q:Exit->Act->World->Prop}(f:o.guard=none)(b:o.type=72)(p q:Operand)
  (d:o.op=Op.call { callee:=Callee.builtin Builtin.append,args:=#[p,q],argTypes:=#[72,72]}) (ad:Addr) (n c:Nat) (cs:List Value) (hs:a.eval p=J1 (some ⟨w.heap.size,0,none⟩) 0 0) (g:a.eval q=J1 (some ad) n c) (h:Row w (some ad) n c 2 cs) (h1:∀u∈cs,u.oneCell'=true) (hb:n*16<=140737488351232)
  (i:∀A C w',w'.ownsRow w.heap.size 79 2 (J1 A n C) n cs/\Bl w w'->wpList prog ops Q rest (a.put o.dst (J1 A n C)) w'):wpList prog ops Q (o :: rest) a (w.alloc (J5 #[] 79)):=by
 refine wpList_plain f λ_ e=>?_;unfold Oper.wp;obtain⟨A,C,w',j,h1⟩:=q9C w ad n c cs h h1 hb
 simp[execOp,d,resolve,invoke,builtin,hs,g,b,j,Result.andThen]
 exact e _ _ (i _ _ _ h1)
theorem q5y(A:Option Addr)(n C:Nat)(cs:List Value)(w:World)(h:Row w A n C 2 cs)(h1:∀u∈cs,u.oneCell'=true)(hb:n*16<=140737488351232) :
  Calls prog 45 #[J1 A n C] w λe w'=>∃A' C',e=.returned (J1 A' n C')/\Rep (λb=>w.heap.size<=b) w' (J1 A' n C') 2 16 cs/\Bl w w':=by
 cases A with
 | none =>
  obtain⟨rfl,rfl⟩:=h.nil rfl;obtain rfl:cs=[]:=List.length_eq_zero_iff.1 (by rw[h.len])
  have d:=λw=>j5o w none 0 0;clear h h1
  go_enter func45,ntmps45
  go_wp2;go_ret;exact⟨_,_,rfl,Rep.nil _ _ _ _,Below.refl _ _⟩
 | some a =>
  have d:=λw=>j5o w (some a) n C;have f:=J6 h;have c:=J6 h1;clear h h1
  go_enter func45,ntmps45
  go_upto_region 3 with fail
  apply wp_region_lit
  iterate 6 go_step
  refine q5S rfl rfl _ _ rfl a n C cs rfl rfl f.out c.out hb ?_;rintro A' C' w'⟨h1,h2⟩;have c:=J6 h1;have g:=J6 h2;clear h1 h2;go_wp2;go_ret;exact⟨_,_,rfl,Rep.own c.out hb,g.out⟩
theorem y0m:(prog.info? 65).map (λi=>(i.zero,i.size,i.bytes))=some (some (J4 #[J I 0,J I 0]),2,16):=by kernel_rfl
theorem q2i(w:World)(a:Option Addr)(n c:Nat):(binOp .eql 44 (J1 a n c) (J1 none 0 0)).run prog w=.ok (J3 a.isNone) w:=by
 simp[binOp,run_equal_slice_nil w 44 65 a n c underlying44]
theorem z9V(w:World):(w.alloc (J5 #[] 65)).ownsRow w.heap.size 65 2 (J1 (some ⟨w.heap.size,0,none⟩) 0 0) 0 []:=⟨rfl,.inr ⟨w.heap.size,0,#[],rfl,Nat.le_refl _,heap_alloc_new _ _,Nat.le_refl _,Nat.zero_le _,rfl,rfl⟩⟩
theorem z7O(w:World)(a:Addr)(n c:Nat)(cs:List Value)(h:Row w (some a) n c 2 cs)(h1:∀u∈cs,u.oneCell'=true)(hb:n*16<=140737488351232) :
  ∃A C w',(Builtin.append_ #[44,44] 44 #[J1 (some ⟨w.heap.size,0,none⟩) 0 0,J1 (some a) n c]).run prog (w.alloc (J5 #[] 65))=.ok (J1 A n C) w'/\w'.ownsRow w.heap.size 65 2 (J1 A n C) n cs/\Bl w w':=by
 obtain⟨i0,m,d,e,f⟩:=info_parts y0m
 have i:∀j u,cs[j]?=some u->(w.alloc (J5 #[] 65)).cell? (a.add j)=some u:=λj u o=>by
  have h2:=h.at_ a rfl j u o;have h3:(a.add j).block<w.heap.size:=World.block_lt_of_cell? w _ h2;rw[((Below.refl w.heap.size w).alloc (Nat.le_refl _) (J5 #[] 65)).cell h3];exact h2
 obtain⟨v',w',p,l,b,-,q⟩:=run_append_own_at (P:=prog) (w.alloc (J5 #[] 65)) w.heap.size 44 44 65 i0 _ 2 16 underlying44 m d e f rfl (by omega) _ 0 [] (z9V w) a n c cs h.len
  i h1 (by simp only[maxLen];omega) (by omega) (by simp)
 rw[Nat.zero_add,List.nil_append]at l
 have r:∃A C,v'=J1 A n C:=by
  rcases l.2 with⟨rfl,h0⟩|⟨g,cap,cur,rfl,_⟩
  ·rw[h0];exact⟨none,0,rfl⟩
  ·exact⟨_,_,rfl⟩
 obtain⟨A,C,rfl⟩:=r;refine⟨A,C,w',p,l,?_⟩;have hb:=(Below.refl w.heap.size w).alloc (Nat.le_refl _) (J5 #[] 65);exact⟨b.os.trans hb.os,b.tape.trans hb.tape,b.output.trans hb.output,Nat.le_trans hb.size b.size,λk s=>(b.block k (by simp;omega) (by simp[Value.ownBlock];omega)).trans (hb.block k s)⟩
theorem z6B{ops:Array Oper}{rest:List Oper}{o:Oper}{a:Act}{w:World}{Q:Exit->Act->World->Prop}(f:o.guard=none)(b:o.type=44)(p q:Operand)
  (d:o.op=Op.call { callee:=Callee.builtin Builtin.append,args:=#[p,q],argTypes:=#[44,44]}) (ad:Addr) (n c:Nat) (cs:List Value) (hs:a.eval p=J1 (some ⟨w.heap.size,0,none⟩) 0 0) (g:a.eval q=J1 (some ad) n c) (h:Row w (some ad) n c 2 cs) (h1:∀u∈cs,u.oneCell'=true) (hb:n*16<=140737488351232)
  (i:∀A C w',w'.ownsRow w.heap.size 65 2 (J1 A n C) n cs/\Bl w w'->wpList prog ops Q rest (a.put o.dst (J1 A n C)) w'):wpList prog ops Q (o :: rest) a (w.alloc (J5 #[] 65)):=by
 refine wpList_plain f λ_ e=>?_;unfold Oper.wp;obtain⟨A,C,w',j,h1⟩:=z7O w ad n c cs h h1 hb
 simp[execOp,d,resolve,invoke,builtin,hs,g,b,j,Result.andThen]
 exact e _ _ (i _ _ _ h1)
theorem z4U(A:Option Addr)(n C:Nat)(cs:List Value)(w:World)(h:Row w A n C 2 cs)(h1:∀u∈cs,u.oneCell'=true)(hb:n*16<=140737488351232) :
  Calls prog 39 #[J1 A n C] w λe w'=>∃A' C',e=.returned (J1 A' n C')/\Rep (λb=>w.heap.size<=b) w' (J1 A' n C') 2 16 cs/\Bl w w':=by
 cases A with
 | none =>
  obtain⟨rfl,rfl⟩:=h.nil rfl;obtain rfl:cs=[]:=List.length_eq_zero_iff.1 (by rw[h.len])
  have d:=λw=>q2i w none 0 0;clear h h1
  go_enter func39,ntmps39
  go_wp2;go_ret;exact⟨_,_,rfl,Rep.nil _ _ _ _,Below.refl _ _⟩
 | some a =>
  have d:=λw=>q2i w (some a) n C;have f:=J6 h;have c:=J6 h1;clear h h1
  go_enter func39,ntmps39
  go_upto_region 3 with fail
  apply wp_region_lit
  iterate 6 go_step
  refine z6B rfl rfl _ _ rfl a n C cs rfl rfl f.out c.out hb ?_;rintro A' C' w'⟨h1,h2⟩;have c:=J6 h1;have g:=J6 h2;clear h1 h2;go_wp2;go_ret;exact⟨_,_,rfl,Rep.own c.out hb,g.out⟩
end Wd
namespace Pv
open Go.RowKit
abbrev QE:=(Int×Pkt)×(Value×Value)
def qeL(b:QE):List Value:=akL b.1 b.2
theorem q2k:∀L:List QE,L.flatMap qeL=quL (L.map (·.1)) (L.map (·.2))
 | []=>rfl
 | a :: L=>by rw[List.flatMap_cons,q2k L];rfl
theorem q1k{ops:Array Oper}{rest:List Oper}{o:Oper}{a:Act}{w:World}{Q:Exit->Act->World->Prop}(f:o.guard=none)(s x:Operand)(t:TypeId)
  (D:o.op=.call { callee:=.builtin .append,args:=#[s,x],argTypes:=#[t,t]})
  (base:Nat) (e:TypeId) (i:TypeInfo) (z:Value) (size bytes:Nat) (F:prog.underlying t=some (.slice e)) (G:prog.info? e=some i) (H:i.zero=some z)
  (k:i.size=size) (q:i.bytes=bytes) (r:z.cells.size=size) (y:0<size)
  (v:Value) (n:Nat) (A:List Value) (hs:a.eval s=v) (hown:w.ownsRow base e size v n A)
  (ad:Addr) (m c:Nat) (b:List Value) (L:a.eval x=J1 (some ad) m c) (M:b.length=m*size) (l:∀j u,b[j]?=some u->w.cell? (ad.add j)=some u) (h1:∀u∈b,u.oneCell'=true)
  (N:0<m) (B:n+m<=maxLen) (d:(n+m)*bytes<=140737488355328) (p:base<=w.heap.size)
  (h:∀g cap w',w'.ownsRow base e size (J1 (some ⟨g,0,none⟩) (n+m) cap) (n+m) (A++b)->w.grownBy w' v.ownBlock->(v.ownBlock=some g∨g=w.heap.size)->g<w'.heap.size->wpList prog ops Q rest (a.put o.dst (J1 (some ⟨g,0,none⟩) (n+m) cap)) w'):wpList prog ops Q (o :: rest) a w:=by
 refine wpList_plain f λK C=>?_;have:=step_append_lies (P:=prog) (ops:=ops) (o:=o) (a:=a) (w:=w) (K:=K) (Q:=Q) (E:=False) f s x t D base e i z size bytes F G H k q r y v n A hs hown ad m c b L M l h1 N B d p w.heap.size rfl (λg cap w' r1 r2 R S=>C _ _ (h g cap w' r1 r2 R S));have T:Region.wanted o (yielded ops a.tmps)=true:=by simp[Region.wanted,f]
 rwa [if_pos T]at this
structure WoS(w:World)(L:List QE)(lv:Value)(wl:World):Prop where
 B:Bl w wl
 own:wl.ownsRow w.heap.size 70 7 lv L.length (L.flatMap qeL)
theorem j2f(w:World)(b:QE)(j:Nat)(v:Value)(a:(qeL b)[j]?=some v):(w.alloc (J5 #[J I b.1.1,J I b.1.2.k,J I b.1.2.i,J I b.1.2.v,J I b.1.2.n,b.2.1,b.2.2] 70)).cell? ((⟨w.heap.size,0,none⟩:Addr).add j)=some v:=by
 rw[Addr.add_lit,Nat.zero_add,(CAt.new 70 w #[J I b.1.1,J I b.1.2.k,J I b.1.2.i,J I b.1.2.v,J I b.1.2.n,b.2.1,b.2.2]).cell j]
 simpa [qeL,akL] using a
theorem q1G(q:List (Int×Pkt))(v:Value)(P:Nat->Prop)(w:World)(c:Int)(hq:q4E P w v q)(F:q.length*88<=140737488351232) :
  Calls prog 129 #[v,J I c] w λe w'=>∃u,e=.returned u/\q4E (New P w 0) w' u (q.filter λa=>decide (a.1≠c))/\Bl w w':=by
 obtain⟨z,s,G,H⟩:=hq;obtain⟨Aq,Cq,rfl,sq,-,cq,-⟩:=G.open (z2I _ _ s) (by decide)
 obtain⟨i0,hi,K,M,N⟩:=info_parts q8n;have b6:q.length<=1800000000000:=by omega
 have HC:=J6 cq;have HI:=J6 (show _/\_ from⟨s,H⟩);have Q:=J6 F;have R:(q.zip z).length=q.length:=by simp[s]
 have T:=J6 R;clear G cq s H sq F R
 go_enter func129,ntmps129
 go_upto_region 3 with fail
 go_loopw [5,10] (λlv i wl=>∃(k:Nat),k<=q.length/\i=J I (k:Int)/\Hid (WoS w (((q.zip z).take k).filter λb=>decide (b.1.1≠c)) lv wl)) (λ_ i _=>q.length - (intOf i).toNat)
 case atStart=>exact⟨0,Nat.zero_le _,rfl,Below.refl _ _,World.ownsRow_nil _ _ _ _⟩
 case round =>
  obtain⟨k,hk,rfl,HW⟩:=hrel
  by_cases U:k<q.length
  ·have b8:(k:Int)<(q.length:Int):=by omega
   obtain⟨x,d⟩:∃x,q[k]?=some x:=⟨_,List.getElem?_eq_getElem U⟩;obtain⟨y,t⟩:∃y,z[k]?=some y:=⟨_,List.getElem?_eq_getElem (by rw[HI.out.1];exact U)⟩
   have V:=HI.out.2 k x y d t;have W:(q.zip z)[k]?=some (x,y):=by simp[List.getElem?_zip_eq_some,d,t]
   have X:(q.zip z).take (k+1)=(q.zip z).take k++[(x,y)]:=(take_one W).symm;obtain⟨y1,y2⟩:=y;obtain⟨⟨h,n1,l,Y,-⟩,⟨m,o,r,Z,-⟩⟩:=id V;dsimp only at Y Z;subst Y Z;obtain⟨bq,oq,rfl,-,a5,hcell⟩:=HC.out (by omega)
   have hc:∀j,j<7->∀u,(akL x (J1 h n1 l,J1 m o r))[j]?=some u->wr.cell? ⟨bq,oq+k*7+j,none⟩=some u:=λj hj u hu=>by
    rw[HW.out.B.cell (p:=⟨bq,oq+k*7+j,none⟩) a5,Nat.add_assoc];exact hcell _ _ ((z6O q z k x _ j d t hj).trans hu)
   have e0:=hc 0 (by omega) _ rfl
   have e1:=hc 1 (by omega) _ rfl
   have e2:=hc 2 (by omega) _ rfl
   have e3:=hc 3 (by omega) _ rfl
   have e4:=hc 4 (by omega) _ rfl
   have e5:=hc 5 (by omega) _ rfl
   have e6:=hc 6 (by omega) _ rfl
   rw[Nat.add_zero]at e0;have b1:Bl wr (wr.alloc (J5 #[J I x.1,J I x.2.k,J I x.2.i,J I x.2.v,J I x.2.n,J1 h n1 l,J1 m o r] 70)):=znw wr _;have C:=zbt HW.out.B b1;have E:=Ln.z9W HW.out.own b1;have a0:=J6 X;have b9:=HW.out.B.size;have a6:(((q.zip z).take k).filter λb=>decide (b.1.1≠c)).length<=k:=Nat.le_trans (List.length_filter_le _ _) (List.length_take_le _ _);clear hc hcell V d t W X
   by_cases f:x.1=c
   ·have a7:(x.1 != c)=false:=by simpa using f
    have HF:Hid (WoS w (((q.zip z).take (k+1)).filter λb=>decide (b.1.1≠c)) u5 (wr.alloc (J5 #[J I x.1,J I x.2.k,J I x.2.i,J I x.2.v,J I x.2.n,J1 h n1 l,J1 m o r] 70))):=by
     rw[a0.out,List.filter_append,show List.filter (λb:QE=>decide (b.1.1≠c)) [(x,(J1 h n1 l,J1 m o r))]=[] by simp[f],List.append_nil]
     exact⟨C,E⟩
    clear C E HW b1 f;go_wp2
    first|exact⟨⟨k+1,by omega,by go_num,HF⟩,by simp[intOf];omega⟩|((repeat apply Exists.intro);exact⟨⟨k+1,by omega,by go_num,HF⟩,rfl⟩)
   ·have a7:(x.1 != c)=true:=by simpa using f
    have a8:Hid (((q.zip z).take (k+1)).filter (λb=>decide (b.1.1≠c))=((q.zip z).take k).filter (λb=>decide (b.1.1≠c))++[(x,(J1 h n1 l,J1 m o r))]):=by
     show _=_
     rw[a0.out,List.filter_append]
     congr 1
     simp[f]
    generalize ((q.zip z).take k).filter (λb=>decide (b.1.1≠c))=L at *
    go_upto_region 6 with fail
    have A:=CAt.new 70 wr #[J I x.1,J I x.2.k,J I x.2.i,J I x.2.v,J I x.2.n,J1 h n1 l,J1 m o r];generalize wr.alloc (J5 #[J I x.1,J I x.2.k,J I x.2.i,J I x.2.v,J I x.2.n,J1 h n1 l,J1 m o r] 70)=w2 at *;have t0:w2.cell? ⟨wr.heap.size,0,none⟩=some (J I x.1):=A.cell 0;have t1:w2.cell? ⟨wr.heap.size,1,none⟩=some (J I x.2.k):=A.cell 1;have t2:w2.cell? ⟨wr.heap.size,2,none⟩=some (J I x.2.i):=A.cell 2;have t3:w2.cell? ⟨wr.heap.size,3,none⟩=some (J I x.2.v):=A.cell 3;have t4:w2.cell? ⟨wr.heap.size,4,none⟩=some (J I x.2.n):=A.cell 4;have t5:w2.cell? ⟨wr.heap.size,5,none⟩=some (J1 h n1 l):=A.cell 5;have t6:w2.cell? ⟨wr.heap.size,6,none⟩=some (J1 m o r):=A.cell 6;have b7:=A.lt;obtain⟨AL,CL,eL⟩:=Ln.z3N E;subst eL;have a1:=Q.out;clear e0 e1 e2 e3 e4 e5 e6 A HW;apply wp_region_lit
    iterate 9 go_step
    refine q1k rfl _ _ 56 rfl w.heap.size 70 i0 _ 7 88 underlying56 hi K M N rfl (by decide) (J1 AL L.length CL) L.length (L.flatMap qeL) rfl (Ln.z9W E (znw w2 _)) ⟨w2.heap.size,0,none⟩ 1 1 (qeL (x,(J1 h n1 l,J1 m o r))) rfl rfl (λj u hu=>j2f w2 (x,(J1 h n1 l,J1 m o r)) j u hu) (λu hu=>by simp only[qeL,akL,List.mem_cons,List.not_mem_nil,or_false]at hu;rcases hu with rfl|rfl|rfl|rfl|rfl|rfl|rfl <;> rfl) (by decide) (by unfold maxLen;omega) (by omega) (by simp;omega) ?_
    intro g cap w7 a2 a3 a9 a4;have B7:Bl w w7:=(C.alloc (by have:=C.size;omega) _).grown a3 (by simp;have:=C.size;omega) (λx d=>(World.ownsRow.lt E x d).1)
    have HF:Hid (WoS w (((q.zip z).take (k+1)).filter λb=>decide (b.1.1≠c)) (J1 (some ⟨g,0,none⟩) (L.length+1) cap) w7):=by
     rw[a8.out];refine⟨B7,?_⟩;rw[List.flatMap_append,List.length_append]
     simpa using a2
    clear a2 a3 a9 a4 B7 E C b1 t0 t1 t2 t3 t4 t5 t6 hi K M N;go_simp
    go_upto_region 7 with fail
    go_wp2
    first|exact⟨⟨k+1,by omega,by go_num,HF⟩,by simp[intOf];omega⟩|((repeat apply Exists.intro);exact⟨⟨k+1,by omega,by go_num,HF⟩,rfl⟩)
  ·obtain rfl:k=q.length:=by omega
   have HZ:Hid (q4E (New P w 0) wr u5 (q.filter λa=>decide (a.1≠c))/\Bl w wr):=by
    have hW:=HW.out;rw[List.take_of_length_le (by rw[T.out];exact Nat.le_refl _)]at hW
    have b4:(q.zip z).map (·.1)=q:=List.map_fst_zip (by rw[HI.out.1];exact Nat.le_refl _)
    have b5:q.filter (λa=>decide (a.1≠c))=((q.zip z).filter λb=>decide (b.1.1≠c)).map (·.1):=by
     conv=>lhs;rw[<-b4]
     rw[List.filter_map];rfl
    have a6:((q.zip z).filter λb=>decide (b.1.1≠c)).length<=q.length:=by rw[<-T.out];exact List.length_filter_le _ _
    have a1:=Q.out
    have hmem:∀b∈((q.zip z).filter λb=>decide (b.1.1≠c)),Rep P w b.2.1 2 16 (pwC b.1.2.S)/\Rep P w b.2.2 1 8 (inC b.1.2.D):=λb hb=>by
     obtain⟨j,hj⟩:=List.getElem?_of_mem (List.mem_filter.1 hb).1;rw[List.getElem?_zip_eq_some]at hj;exact HI.out.2 j b.1 b.2 hj.1 hj.2
    rw[b5];generalize (q.zip z).filter (λb=>decide (b.1.1≠c))=L at *;refine⟨⟨L.map (·.2),by simp,?_,λi x y d t=>?_⟩,hW.B⟩
    ·rw[<-q2k];exact(Rep.own hW.own (by omega)).mono λb _ hb=>.inr hb
    ·rw[List.getElem?_map]at d t
     rcases hb:L[i]? with _|b
     ·rw[hb]at d;simp at d
     ·rw[hb]at d t
      simp at d t
      subst d t;have:=hmem b (List.mem_of_getElem? hb);exact⟨(this.1.mono (P':=New P w 0) λb hl hP=>.inl ⟨hP,hl⟩).over hW.B,(this.2.mono (P':=New P w 0) λb hl hP=>.inl ⟨hP,hl⟩).over hW.B⟩
   obtain⟨A',C',e'⟩:=Ln.z3N HW.out.own;subst e';clear HW;go_wp2;go_ret;exact⟨_,rfl,HZ.out.1,HZ.out.2⟩
def q2O:Value:=J1 none 0 0
def q2y:PrV:=⟨q2O,q2O,λ_=>⟨q2O,q2O,q2O,q2O⟩,q2O⟩
theorem j7A(P:Nat->Prop)(w:World):PIn P w newP q2y:=
 ⟨Rep.nil _ _ _ _,Rep.nil _ _ _ _,λ_ _=>⟨Rep.nil _ _ _ _,Rep.nil _ _ _ _,z0U.nil _ _ _ _,z0U.nil _ _ _ _⟩,[],rfl,Rep.nil _ _ _ _,λi _ _ h=>by simp[newP]at h⟩
theorem z6m{c:Func}{p:Tmp}(h:c.results=#[.cell p 58])(a:Array Value)(w:World)(g:Nat)(cs:Array Value)
  (hp:a.getD p undef=J2 (some ⟨g,0,none⟩)) (d:CAt 58 w g cs) (b:cs.size=97) :
  (results c a).run prog w=.ok (J4 cs) w:=
 results_cell_row h _ _ g 58 cs (0,0) _ hp d underlying58 rfl (by rw[z3y,b])
theorem j1N(w:World):Calls prog 21 #[] w λe w'=>e=.returned (J4 (prC newP q2y))/\Bl w w':=by
 have R0:CAt 58 (w.alloc (J5 zeroCells58 58)) w.heap.size zeroCells58:=CAt.new _ w _;have a:Hid (Bl w (w.alloc (J5 zeroCells58 58))):=znw w _;have c:=Mt.q4w 0 0 (by unfold Mt.I64;omega)
 rw[show Mt.alw 0=1 from rfl,show wrap64 (0+10)=10 by first|rfl|(unfold wrap64;omega)|(unfold wrap64;decide)|(simp[wrap64])]at c
 go_enter func21,ntmps21
 go_upto_region 1 with fail
 generalize w.alloc (J5 zeroCells58 58)=w0 at *;apply wp_region_lit
 go_step
 go_step
 refine(z4S _).mono ?_;rintro e w1⟨rfl,h1⟩;have f:=R0.over h1;have b:=J6 (zbt a.out h1);clear h1 R0 a;dsimp only
 go_step
 go_step
 go_step
 refine(c _).mono ?_;rintro e g⟨rfl,h2⟩;have h:=f.over h2;have d:=J6 (zbt b.out h2);clear h2 f b c;dsimp only
 go_step
 go_step
 go_step
 change Oper.upon prog _ _ _ _ (Result.ok (Next.value (J4 (prC newP q2y))) g);go_simp;apply_assumption;refine wpList_store_mid rfl 58 _ _ rfl _ 0 (prC newP q2y) rfl rfl (h.there 0 _ (by rw[z0e,z0a];omega)) (by rw[z3y];rfl) (z1m (j7A (λ_=>True) g)) ?_
 go_wp2;have i:=h.z0L (ds:=prC newP q2y) (by rw[z0e];rfl)
 exact bodyPost_ret (v:=J4 (prC newP q2y)) (z6m results21 _ _ _ _ rfl i rfl) rfl ⟨rfl,z0b (Nat.le_refl _) _ _ _ d.out⟩
end Pv
namespace Pv
open Go.RowKit
def y2U(P:Nat->Prop)(w:World)(r:Pr)(e:Ending)(w':World):Prop:=∃v',e=.returned (J4 (prC r v'))/\PIn (New P w 2) w' r v'/\Bl w w'
theorem q0W{f:Func}{t:Tmp}(a:f.results=#[.cell t 58]){P:Nat->Prop}{w wq:World}{c:Array Value}(R:CAt 58 wq (w.heap.size+1) c)(d:c.size=97)(H:Bl w wq)(b:Pr)(v':PrV)(r:Pr)(e:r=b)(hp:PIn (New P w 2) wq b v')(act:Act)
  (g:act.tmps.getD t undef=J2 (some ⟨w.heap.size+1,0,none⟩)) (hd:act.defers=[]) :
  bodyPost prog f (y2U P w r) Exit.ret act (wq.setCells (w.heap.size+1) 0 (prC b v').toList):=by
 subst e;have h:=R.z0L (ds:=prC r v') (by rw[d];rfl)
 exact bodyPost_ret (v:=J4 (prC r v')) (z6m a _ _ _ _ g h rfl) hd ⟨v',rfl,hp.sets (z4d (by omega)) _ _,z0b (Nat.le_succ _) _ _ _ H⟩
theorem j6b(p:Pr)(v:PrV)(k:Nat)(d:k<2):(((((prC p v).setIfInBounds (66+k*14) (J3 false)).setIfInBounds (66+k*14+1) (J3 true)).setIfInBounds (66+k*14+6+3) (J3 true)).setIfInBounds (66+k*14+4) (J3 false)).setIfInBounds (66+k*14+5) q2O=prC { p with L:=z0P p.L k (z4w (p.L k))} (v.upd k { v.l k with done:=q2O}):=by
 obtain⟨a,c,b,h1,h2⟩:=z6s p v k d;rw[h1,h2,<-Nat.add_zero (66+k*14)];rw[set_mid _ _ _ _ 0 _ b (by simp[lkL]),Nat.add_zero,set_mid _ _ _ _ 1 _ b (by simp[lkL]),Nat.add_assoc (66+k*14) 6 3,set_mid _ _ _ _ (6+3) _ b (by simp[lkL]),set_mid _ _ _ _ 4 _ b (by simp[lkL]),set_mid _ _ _ _ 5 _ b (by simp[lkL])]
 rfl
attribute [local go_sem ↓] z1P z0T z0F z1H
theorem z8n(p:Pr)(v:PrV)(P:Nat->Prop)(w:World)(c:Int)(hp:PIn P w p v)(Q:p.q.length*88<=140737488351232) :
  Calls prog 90 #[J4 (prC p v),.int .i64 c] w (y2U P w (z0j p c)):=by
 have hD:z0j p c=if z0o p=true/\z8G p c=true then { p with s:={ p.s with W:=z4X c.toNat 1099511627776 p.s.W},L:=z0P p.L c.toNat (z4w (p.L c.toNat)),q:=p.q.filter λa=>decide (a.1≠c)} else p:=by unfold z0j;rfl
 generalize z0j p c=D at *;have HD:=J6 hD;clear hD;have Z:=J6 Q;clear Q;have j:=z1m hp;have H:=J6 (λ(K:World) (hb:Bl w K)=>z3A p v P K (hp.over hb));have HN:=J6 (λ(K:World) (hb:Bl w K)=>hp.z2X hb 2);have HP:=J6 hp;clear hp;generalize z0o p=G at *
 go_enter func90,ntmps90
 go_upto_region 1 with fail
 change Code.wp prog _ _ _ ((w.alloc (J5 (prC p v) 58)).alloc (J5 zeroCells58 58));have C0:CAt 58 ((w.alloc (J5 (prC p v) 58)).alloc (J5 zeroCells58 58)) w.heap.size (prC p v):=(CAt.new _ w _).alloc _;have R0:CAt 58 ((w.alloc (J5 (prC p v) 58)).alloc (J5 zeroCells58 58)) (w.heap.size+1) zeroCells58:=CAt.new2 _ w _ _;have B0:Bl w ((w.alloc (J5 (prC p v) 58)).alloc (J5 zeroCells58 58)):=(znw w _).alloc (by simp) _
 generalize (w.alloc (J5 (prC p v) 58)).alloc (J5 zeroCells58 58)=w0 at *;have l0:=z0l C0 (z0a _ _);have u:=J6 (show _/\_/\_ from⟨C0,R0,B0⟩);clear C0 R0 B0
 by_cases M:G=true/\z8G p c=true
 ·obtain⟨rfl,m⟩:=M;replace HD:=J6 (HD.out.trans (if_pos ⟨rfl,m⟩));have a0:isC c=true:=by unfold z8G at m;simp at m;exact m.1
  obtain⟨k,rfl,hk⟩:=z9F a0;rw[Int.toNat_natCast]at HD;clear a0
  go_upto_region 3 with(first
   | (go_at_call 67;refine(H.out _ u.out.2.2).mono ?_;rintro e w1⟨rfl,d⟩;have f:=u.out.1.over d;clear l0)
   | (go_at_call 97;refine(z5Q w.heap.size p v k _ f).mono ?_;rintro e w'⟨rfl,rfl⟩;simp only[m]))
  have X:=u.out.2.1.over d;have B1:=zbt u.out.2.2 d;clear d u H;have b7:(k:Int)<2:=by omega
  have b8:(0:Int)<=(k:Int):=by omega
  obtain⟨c0,c1,-,-,c4,c5,-,-,-,c9⟩:=(f.lk hk).facts;have f0:=f.free (66+k*14);have f1:=f.free (66+k*14+1);have f4:=f.free (66+k*14+4);have f5:=f.free (66+k*14+5);have f9:=f.free (66+k*14+6+3);have b9:=f.lt;have r:=J6 (show _/\_/\_ from⟨f,X,B1⟩);clear f X B1 j;have a1:=J6 (λ(K:World) (hb:Bl w K)=>j4F (HP.out.ws.over hb) k 1099511627776 hk);have S:=J6 (λ(K:World) (hb:Bl w K)=>q1G p.q v.q (λb=>P b/\b<w.heap.size) K k ((HP.out.q.mono (P':=λb=>P b/\b<w.heap.size) λ_ hl hP=>⟨hP,hl⟩).keep λb _ a5=>hb.block b a5) Z.out)
  go_upto_region 7 with fail
  have C2:=((((r.out.1.set (66+k*14) (J3 false)).set (66+k*14+1) (J3 true)).set (66+k*14+6+3) (J3 true)).set (66+k*14+4) (J3 false)).set (66+k*14+5) (J1 none 0 0);rw[show(Value.slice none 0 0)=q2O from rfl,j6b p v k hk]at C2;have A2:Alt w.heap.size w1 _:=(((((Alt.refl w.heap.size w1).set (66+k*14) (J3 false)).set (66+k*14+1) (J3 true)).set (66+k*14+6+3) (J3 true)).set (66+k*14+4) (J3 false)).set (66+k*14+5) q2O;have R2:=A2.cat (b:=w.heap.size+1) (by omega) r.out.2.1
  have B2:=r.out.2.2.trans (A2.below (Nat.le_refl _) r.out.2.2.size);change Code.wp prog _ _ _ (((((w1.setCell ⟨w.heap.size,66+k*14,none⟩ (J3 false)).setCell ⟨w.heap.size,66+k*14+1,none⟩ (J3 true)).setCell ⟨w.heap.size,66+k*14+6+3,none⟩ (J3 true)).setCell ⟨w.heap.size,66+k*14+4,none⟩ (J3 false)).setCell ⟨w.heap.size,66+k*14+5,none⟩ q2O);clear A2 r c0 c1 c4 c5 c9 f0 f1 f4 f5 f9;generalize ((((w1.setCell ⟨w.heap.size,66+k*14,none⟩ (J3 false)).setCell ⟨w.heap.size,66+k*14+1,none⟩ (J3 true)).setCell ⟨w.heap.size,66+k*14+6+3,none⟩ (J3 true)).setCell ⟨w.heap.size,66+k*14+4,none⟩ (J3 false)).setCell ⟨w.heap.size,66+k*14+5,none⟩ q2O=w2 at *;have m2:=z2y C2;change (z8M (J2 (some ⟨w.heap.size,2,none⟩))).run prog w2=.ok (J4 (stC p.s v.ws)) w2 at m2;have c6:=R2.lt;have H2:=J6 (show _/\_/\_ from⟨C2,R2,B2⟩);clear C2 R2 B2
  go_upto_region 8 with(go_at_call 128;refine(a1.out _ H2.out.2.2).mono ?_;rintro e w3⟨T,rfl,U3,N⟩;clear m2;have C3:=H2.out.1.over N;have a6:=z3g C3 (z0a _ _) (z0f { p.s with W:=z4X k 1099511627776 p.s.W} T) (z7b _ U3.one'))
  have R3:=H2.out.2.1.over N;have B3:=zbt H2.out.2.2 N;have C4:=C3.z1q { p.s with W:=z4X k 1099511627776 p.s.W} T
  have R4:=R3.others (c:=w.heap.size) (o:=2) (by omega) (stC { p.s with W:=z4X k 1099511627776 p.s.W} T).toList
  have B4:=z0b (b:=w.heap.size) (Nat.le_refl _) (stC { p.s with W:=z4X k 1099511627776 p.s.W} T).toList 2 _ B3
  have U4:=U3.sets (g:=w.heap.size) (λh=>by omega) 2 (stC { p.s with W:=z4X k 1099511627776 p.s.W} T).toList
  clear a6 N H2 C3 R3 B3 U3 a1;generalize w3.setCells w.heap.size 2 (stC { p.s with W:=z4X k 1099511627776 p.s.W} T).toList=w4 at *
  have a2:w4.cell? ⟨w.heap.size,96,none⟩=some v.q:=C4.cell 96;have a7:=R4.lt;have Y:=J6 (show _/\_/\_/\_ from⟨C4,R4,B4,U4⟩);clear C4 R4 B4 U4;obtain⟨zq,a8,a3,a9⟩:=HP.out.q;obtain⟨Aq,nq,Dq,eq⟩:=a3.one';have c7:=J6 eq;rw[eq]at a2 S;clear eq a8 a3 a9
  go_upto_region 9 with(go_at_call 129;refine(S.out _ Y.out.2.2.1).mono ?_;rintro e w5⟨u5,rfl,U5,t⟩;clear a2;obtain⟨B,E,F,e5⟩:∃A n C,u5=J1 A n C:=(by obtain⟨_,_,h,_⟩:=id U5;exact h.one');subst e5;have C5:=Y.out.1.over t;have b4:w5.cell? ⟨w.heap.size,96,none⟩=some v.q:=C5.cell 96;have b5:=C5.free 96;have c8:=C5.lt)
  have C6:=C5.set 96 (J1 B E F);rw[y2G]at C6;have R6:=(Y.out.2.1.over t).other (c:=w.heap.size) (o:=96) (by omega) (J1 B E F)
  have B5:=zbt Y.out.2.2.1 t;have B6:=B5.setCell (p:=⟨w.heap.size,96,none⟩) (Nat.le_refl _) (J1 B E F);have A6:Alt w.heap.size w5 (w5.setCell ⟨w.heap.size,96,none⟩ (J1 B E F)):=(Alt.refl _ _).set 96 _
  have N6:PIn (New P w 2) (w5.setCell ⟨w.heap.size,96,none⟩ (J1 B E F)) { p with s:={ p.s with W:=z4X k 1099511627776 p.s.W},L:=z0P p.L k (z4w (p.L k)),q:=p.q.filter λa=>decide (a.1≠k)} { ws:=T,set:=v.set,l:=(v.upd k { v.l k with done:=q2O}).l,q:=J1 B E F}:=by
   have n6:=HN.out _ B6;have d0:w.heap.size+1<w4.heap.size:=a7;refine⟨?_,n6.set,λc hc=>?_,?_⟩
   ·have h4:=(Y.out.2.2.2.mono (P':=λb=>w2.heap.size<=b/\b<w4.heap.size) λ_ hl h=>⟨h,hl⟩).over t;exact(A6.rep (λh=>by omega) h4).mono λb _ hb=>.inr (by omega)
   ·have h:=n6.lk c hc
    show z5M _ _ (if c=k then z4w (p.L k)else p.L c) (if c=k then { v.l k with done:=q2O} else v.l c)
    by_cases U:c=k
    ·subst U;rw[if_pos rfl,if_pos rfl];exact⟨h.told,Rep.nil _ _ _ _,h.said,h.due⟩
    ·rw[if_neg U,if_neg U];exact h
   ·obtain⟨z,h1,h2,h3⟩:=U5
    have V:¬ New (λb=>P b/\b<w.heap.size) w4 0 w.heap.size:=λh=>by
     rcases h with⟨h,_⟩|h
     ·have:=h.2;omega
     ·omega
    have hm:∀b,b<(w5.setCell ⟨w.heap.size,96,none⟩ (J1 B E F)).heap.size->New (λb=>P b/\b<w.heap.size) w4 0 b->New P w 2 b:=λb _ h=>by
     rcases h with⟨h,_⟩|h
     ·exact .inl h
     ·exact .inr (by omega)
    exact⟨z,h1,(A6.rep V h2).mono hm,λi x y hx hy=>⟨(A6.rep V (h3 i x y hx hy).1).mono hm,(A6.rep V (h3 i x y hx hy).2).mono hm⟩⟩
  obtain⟨p6,v6,a4,K6,M6⟩:∃p6 v6,D=p6/\CAt 58 (w5.setCell ⟨w.heap.size,96,none⟩ (J1 B E F)) w.heap.size (prC p6 v6)/\PIn (New P w 2) (w5.setCell ⟨w.heap.size,96,none⟩ (J1 B E F)) p6 v6:=⟨_,_,HD.out,C6,N6⟩;have l6:=z0l K6 (z0a _ _);have s6:=z0m R6 z0e (z0a p6 v6) (z1m M6);have R:=J6 (show _/\_/\_/\_ from⟨R6,B6,M6,a4⟩);clear C6 K6 R6 B6 A6 N6 M6 B5 C5 U5 t Y S b4 b5 HD a4;generalize w5.setCell ⟨w.heap.size,96,none⟩ (J1 B E F)=w6 at *;go_wp2;exact q0W results90 R.out.1 z0e R.out.2.1 p6 v6 D R.out.2.2.2 R.out.2.2.1 _ rfl rfl
 ·replace HD:=J6 (HD.out.trans (if_neg M))
  have b6:G=false∨(G=true/\z8G p c=false):=by
   cases G
   ·exact .inl rfl
   ·cases h:z8G p c
    ·exact .inr ⟨rfl,rfl⟩
    ·exact absurd ⟨rfl,h⟩ M
  clear M
  rcases b6 with rfl|⟨rfl,h1⟩
  all_goals
   go_upto_region 2 with(first
    | (go_at_call 67;refine(H.out _ u.out.2.2).mono ?_;rintro e w1⟨rfl,d⟩;have f:=u.out.1.over d;clear l0)
    | (go_at_call 97;refine(z5Q w.heap.size p v c _ f).mono ?_;rintro e w'⟨rfl,rfl⟩;simp only[h1]))
   have X:=u.out.2.1.over d;have l1:=z0l f (z0a _ _);have s1:=z0m X z0e (z0a p v) j;have B1:=zbt u.out.2.2 d;have R:=J6 (show _/\_ from⟨X,B1⟩);clear X B1 d j u H f;go_wp2;exact q0W results90 R.out.1 z0e R.out.2 p v D HD.out (HN.out _ R.out.2) _ rfl rfl
end Pv
namespace Pv
open Go.RowKit
def z4E(w:World)(g:Nat)(P:Nat->Prop)(r:Pr×Bool)(e:Ending)(w':World):Prop:=∃v',e=.returned (J3 r.2)/\CAt 58 w' g (prC r.1 v')/\PIn (New P w 0) w' r.1 v'/\Alt g w w'
attribute [local go_sem ↓] z1P z0T z0F z1H
theorem q2e(g:Nat)(p:Pr)(v:PrV)(P:Nat->Prop)(w:World)(c:Nat)(hc:c<2)(x:Pkt)(R S:Value)(hC:CAt 58 w g (prC p v))(hp:PIn P w p v)(hg:¬ P g)(a0:z0k p.s=true)(C:x.k=4)(hv:x.k=3∨x.k=4->0<=x.v/\x.v<6) :
  Calls prog 109 #[J2 (some ⟨g,0,none⟩),J4 #[.int .i64 (c:Int),.int .i64 x.k,.int .i64 x.i,.int .i64 x.v,.int .i64 x.n,R,S]] w (z4E w g P (z1y p c x)):=by
 have hD:z1y p c x=if x.k=2 then({ p with s:={ p.s with W:=z4X c x.i p.s.W}},true)
  else if x.k=4 then
   if(p.s.V x.v.toNat).dead=true then(p,true)else({ p with s:=z8x p.s x.v.toNat (j6w x.i (p.L c).base)},true)
  else if(p.s.V x.v.toNat).jail=true then({ p with L:=z0P p.L c { p.L c with done:=z3s (p.L c).done x.v}},true)
  else if p.ml<1 then(p,false)
  else({ p with ml:=wrap64 (p.ml - j8v (p.s.V x.v.toNat)),s:=z5m p.s x.v.toNat true (p.s.V x.v.toNat).dead,L:=z0P p.L c { p.L c with done:=z3s (p.L c).done x.v}},true):=by unfold z1y;rfl
 generalize z1y p c x=D at *;have HD:=J6 hD;have a1:=J6 C;clear C;have T:=J6 hp;have a2:=hC.lt;have b7:(c:Int)<2:=by omega
 have b8:(0:Int)<=(c:Int):=by omega
 clear hD
 go_enter func109,ntmps109
 go_upto_region 1 with fail
 have U:=CAt.new 70 w #[.int .i64 (c:Int),.int .i64 x.k,.int .i64 x.i,.int .i64 x.v,.int .i64 x.n,R,S];have b0:Bl w (w.alloc (J5 #[.int .i64 (c:Int),.int .i64 x.k,.int .i64 x.i,.int .i64 x.v,.int .i64 x.n,R,S] 70)):=znw w _;generalize w.alloc (J5 #[.int .i64 (c:Int),.int .i64 x.k,.int .i64 x.i,.int .i64 x.v,.int .i64 x.n,R,S] 70)=w0 at *;have k0:w0.cell? ⟨w.heap.size,0,none⟩=some (.int .i64 (c:Int)):=U.cell 0;have b9:=U.lt;have X:=J6 (show _/\_/\_ from⟨hC.over b0,U,b0⟩);clear hC hp U b0;go_quiet (fail);simp only[Exit.then];apply_assumption;have Y:=X.out.1.over (below_drewN (Below.refl w0.heap.size w0) nq);have t:=X.out.2.1.over (below_drewN (Below.refl w0.heap.size w0) nq);have b1:=below_drewN X.out.2.2 nq;clear k0 X;generalize w0.drewN nq=w1 at *;have a3:w1.cell? ⟨w.heap.size,0,none⟩=some (.int .i64 (c:Int)):=t.cell 0;have k1:w1.cell? ⟨w.heap.size,1,none⟩=some (.int .i64 x.k):=t.cell 1;have k2:w1.cell? ⟨w.heap.size,2,none⟩=some (.int .i64 x.i):=t.cell 2;have k3:w1.cell? ⟨w.heap.size,3,none⟩=some (.int .i64 x.v):=t.cell 3;have a4:=t.lt;have a5:=Y.lt;have P1:=T.out.z2X b1 0;have m1:=z2y Y;have F:=J6 (show _/\_/\_/\_ from⟨Y,t,b1,P1⟩);clear Y t b1 P1;have C:=a1.out;rw[C]at k1;replace HD:=J6 ((HD.out.trans (if_neg (by omega))).trans (if_pos C))
 obtain⟨a6,a7⟩:=hv (.inr C);obtain⟨n,Z,G⟩:∃n:Nat,x.v=(n:Int)/\n<6:=⟨x.v.toNat,by omega,by omega⟩
 rw[Z,Int.toNat_natCast]at HD;rw[Z]at k3;have c4:(n:Int)<6:=by omega
 have c5:(0:Int)<=(n:Int):=by omega
 have d4:=(q2r F.out.1 G).2.2;have H:=J6 Z;clear hv a6 a7 Z
 go_upto_region 8 with fail
 go_quiet (fail);simp only[Exit.then];apply_assumption;have y:=F.out.1.over (below_drewN (Below.refl w1.heap.size w1) nq);have E:=F.out.2.1.over (below_drewN (Below.refl w1.heap.size w1) nq);have b2:=below_drewN F.out.2.2.1 nq;clear a3 k1 k2 k3 d4 m1 a4 a5 F;generalize w1.drewN nq=w2 at *;cases z:(p.s.V n).dead
 ·replace HD:=J6 (HD.out.trans (if_neg (by simp[z])))
  have e2:w2.cell? ⟨w.heap.size,2,none⟩=some (.int .i64 x.i):=E.cell 2;have e3:w2.cell? ⟨w.heap.size,3,none⟩=some (.int .i64 (n:Int)):=by rw[<-H.out];exact E.cell 3
  have e6:w2.cell? ⟨g,66+c*14+2,none⟩=some (.int .i64 (p.L c).base):=(y.lk hc).facts.2.2.1;have l:=y.lt;have d:=E.lt;have K:=J6 (λ(a:World) (hb:Bl w2 a)=>z8f g p v P a n (j6w x.i (p.L c).base) (y.over hb) ((T.out.ws.over b2).over hb) a0 G z);have A:Hid (j6w x.i (p.L c).base=if x.i<(p.L c).base then(p.L c).base else x.i):=rfl;have H2:=J6 (show _/\_/\_ from⟨y,E,b2⟩);clear y E b2;generalize hO:66+c*14=o at *;have HO:=J6 hO;clear hO
  go_upto_region 9 with fail
  generalize M:(p.L c).base=bs at *;have a8:=J6 M;clear M;generalize j6w x.i bs=mx at *;generalize z8x p.s n mx=s2 at *
  have a9:(x.i<bs/\mx=bs)∨(¬ x.i<bs/\mx=x.i):=by
   by_cases h:x.i<bs
   ·exact .inl ⟨h,A.out.trans (if_pos h)⟩
   ·exact .inr ⟨h,A.out.trans (if_neg h)⟩
  clear A
  rcases a9 with⟨hlt,hmx⟩|⟨hlt,hmx⟩
  all_goals
   rw[hmx]at K;apply z3u (λw'=>∃u,CAt 58 w' g (prC { p with s:=s2} { v with ws:=u})/\Rep (λb=>w2.heap.size<=b) w' u 8 64 (wsL s2.W)/\Alt g w2 w')
   ·refine wp_region_noPanic ?_;have b4:Hid (∀a,Bl w2 a->a.cell? ⟨w.heap.size,2,none⟩=some (.int .i64 x.i)/\a.cell? ⟨w.heap.size,3,none⟩=some (.int .i64 (n:Int))/\a.cell? ⟨g,o+2,none⟩=some (.int .i64 bs)):=λa hb=>⟨(hb.cell (p:=⟨w.heap.size,2,none⟩) d).trans e2,(hb.cell (p:=⟨w.heap.size,3,none⟩) d).trans e3,(hb.cell (p:=⟨g,o+2,none⟩) l).trans e6⟩
    have b5:Hid (∀(m:World) (N:Value),CAt 58 m g (prC { p with s:=s2} { v with ws:=N})->Alt g w2.drew m->m.cell? ⟨w.heap.size,2,none⟩=some (.int .i64 x.i)/\m.cell? ⟨w.heap.size,3,none⟩=some (.int .i64 (n:Int))/\m.cell? ⟨g,o+2,none⟩=some (.int .i64 bs)):=λm N r j=>by
     have K3:=j.cat (b:=w.heap.size) (by omega) (H2.out.2.1.over (Below.refl w2.heap.size w2).drew)
     refine⟨K3.cell 2,by rw[<-H.out];exact K3.cell 3,?_⟩
     have h:=(r.lk hc).facts.2.2.1;rw[HO.out,a8.out]at h;exact h
    have hb:=Below.refl w2.heap.size w2
    go_region_held3 (λa=>a.cell? ⟨w.heap.size,2,none⟩=some (.int .i64 x.i)/\a.cell? ⟨w.heap.size,3,none⟩=some (.int .i64 (n:Int))/\a.cell? ⟨g,o+2,none⟩=some (.int .i64 bs)) (first|exact b6.out|(refine b4.out _ ?_;first|with_reducible exact hb|with_reducible exact hb.drew)) ((go_at_call 74;refine(K.out _ (by exact(Below.refl _ _).drew)).mono ?_;rintro e m⟨N,rfl,r,Q,j⟩;have b6:=J6 (b5.out m N r j);have B:=J6 (show _/\_/\_ from⟨r,Q,j⟩);clear r Q j;dsimp only))
    all_goals
     exact NoPanic.normal ⟨rfl,rfl,N,B.out.1,B.out.2.1,(Alt.of (Below.refl _ _).drew).trans B.out.2.2⟩
   rintro w'⟨u,r,Q,j⟩;have N3:=j.pin (z0R hg a2) (T.out.z2X H2.out.2.2 0);have c6:=H2.out.2.2.size;have f:=J6 (show _/\_/\_/\_ from⟨r,(Alt.of (g:=g) H2.out.2.2).trans j,Q,N3⟩);clear r Q j N3 e2 e3 e6 l d
   first|simp only[Exit.inBlock,Exit.then] |simp only[Exit.then] |skip
   apply_assumption;go_wp2;go_ret;rw[HD.out];exact⟨{ v with ws:=u},rfl,f.out.1,⟨f.out.2.2.1.mono λb _ h=>.inr (by omega),f.out.2.2.2.set,f.out.2.2.2.lk,f.out.2.2.2.q⟩,f.out.2.1⟩
 ·replace HD:=J6 (HD.out.trans (if_pos z));have P2:=T.out.z2X b2 0;have f:=J6 (show _/\_/\_ from⟨y,b2,P2⟩);clear y E b2 P2;go_wp2;go_ret;rw[HD.out];exact⟨v,rfl,f.out.1,f.out.2.2,Alt.of f.out.2.1⟩
end Pv
namespace Pv
open Go.RowKit
theorem apI{P:Nat->Prop}(w:World)(A:Option Addr)(y:Nat)(l:List Int)(x:Int)(B:Rep P w (J1 A l.length l.length) 1 8 (inC l))(q:l.length<=60)(D:w.cell? ⟨y,0,none⟩=some (.int .i64 x)) :
  ∃C w',(Builtin.append_ #[45,45] 45 #[J1 A l.length l.length,J1 (some ⟨y,0,none⟩) 1 1]).run prog w=.ok (J1 (some ⟨w.heap.size,0,none⟩) (l.length+1) C) w'/\l.length+1<=C/\z6r w' w.heap.size (l++[x])/\Bl w w':=by
 obtain⟨i0,t,g,d,k⟩:=info_parts Ln.j9i
 have c:∀j v,([.int .i64 x]:List Value)[j]?=some v->w.cell? ((⟨y,0,none⟩:Addr).add j)=some v:=λj v f=>by
  rw[Addr.add_lit,Nat.zero_add];have E:=(List.getElem?_eq_some_iff.1 f).1;obtain rfl:j=0:=by simpa using E
  simp at f
  rw[D,f]
 have new:∀(arr tail:Array Value),arr.toList=inC (l++[x])->z6r (w.drew.alloc (J5 (arr++tail) 3)) w.heap.size (l++[x]):=λarr tail F=>by
  refine⟨arr++tail,heap_alloc_new w.drew _,λi z G=>?_⟩;have m:(inC (l++[x]))[i]?=some (.int .i64 z):=by unfold inC;rw[List.getElem?_map,G];rfl
  have o:arr[i]?=some (Value.int .i64 z):=by rw[<-F]at m;simpa using m
  rw[Array.getElem?_append_left (Array.getElem?_eq_some_iff.1 o).1];exact o
 have p:inC (l++[x])=inC l++[.int .i64 x]:=by simp[inC]
 have r:(inC l).length=l.length:=by simp[inC]
 have s:∀n:Nat,n<=60->Builtin.nextslicecap (n+1) n*8<=281474976710656:=λn H=>by
  rcases Nat.eq_zero_or_pos n with rfl|hp
  ·rw[nextslicecap_zero (by omega)];omega
  ·have:=nextslicecap_succ hp;omega
 obtain⟨A',K,C',h1,h2,h3,L,u⟩:=B;cases h1;cases A with
 | none =>
  have h0:l.length=0:=by
   rcases Nat.eq_zero_or_pos l.length with h|h
   ·exact h
   ·obtain⟨b,off,e,_⟩:=u h;cases e
  obtain rfl:l=[]:=List.length_eq_zero_iff.1 h0;refine⟨_,_,run_append_nil (P:=prog) w 45 45 3 i0 _ underlying45 t g ⟨y,0,none⟩ 1 1 [.int .i64 x] (by rw[d];rfl) c (by omega) (by omega) (by rw[k];omega),grownCap_ge _ _ _ _,?_,(Below.refl _ w).drew.alloc (Nat.le_refl _) _⟩
  exact new _ _ (by simp[inC])
 | some a =>
  have hold:∀j v,(inC l)[j]?=some v->w.cell? (a.add j)=some v:=λj v f=>by
   have h0:0<l.length:=by
    have:=(List.getElem?_eq_some_iff.1 f).1;omega
   obtain⟨b,off,e,_,_,hc⟩:=u h0;cases e;rw[Addr.add_lit];exact hc j v f
  refine⟨_,_,run_append_grow (P:=prog) w 45 45 3 i0 _ underlying45 t g a l.length l.length (inC l) (by rw[d,r];omega) hold ⟨y,0,none⟩ 1 1 [.int .i64 x] (by rw[d];rfl) c (by omega) (by omega) (by rw[k];exact s _ q),grownCap_ge _ _ _ _,?_,(Below.refl _ w).drew.alloc (Nat.le_refl _) _⟩
  exact new _ _ (by simp[p])
theorem q5U{P:Nat->Prop}{ops:Array Oper}{rest:List Oper}{o:Oper}{a:Act}{w:World}{Q:Exit->Act->World->Prop}(c:o.guard=none)(d:o.type=45)(p q:Operand)
  (e:o.op=Op.call { callee:=Callee.builtin Builtin.append,args:=#[p,q],argTypes:=#[45,45]}) (A:Option Addr) (y:Nat) (l:List Int) (x:Int) (hs:a.eval p=J1 A l.length l.length) (k:a.eval q=J1 (some ⟨y,0,none⟩) 1 1)
  (f:Rep P w (J1 A l.length l.length) 1 8 (inC l)) (i:l.length<=60) (m:w.cell? ⟨y,0,none⟩=some (J I x))
  (h:∀g C w',g=w.heap.size->l.length+1<=C->z6r w' g (l++[x])->Bl w w'->wpList prog ops Q rest (a.put o.dst (J1 (some ⟨g,0,none⟩) (l.length+1) C)) w'):wpList prog ops Q (o :: rest) a w:=by
 refine wpList_plain c λK j=>?_;unfold Oper.wp;obtain⟨C,w',f,n,b,r⟩:=apI w A y l x f i m
 simp[execOp,e,resolve,invoke,builtin,hs,k,d,f,Result.andThen]
 exact j _ _ (h _ _ _ rfl n b r)
theorem z9Q(D:List Int)(u:Value)(P:Nat->Prop)(w:World)(v:Int)(hu:Rep P w u 1 8 (inC D))(k:z2m (-1) D=true)(h0:0<=v)(L:v<6) :
  Calls prog 174 #[u,J I v] w λe w'=>∃x,e=.returned x/\Rep (New P w 0) w' x 1 8 (inC (z3s D v))/\Bl w w':=by
 have o:=J6 (q0J D u P w v hu);have y:=q4H k
 by_cases j:v∈D
 ·have l:=j7b k j;rw[l];have hd:decide (v∈D)=true:=by simpa using j
  rw[hd]at o;have p:=J6 hu;clear hu k l hd j
  go_enter func174,ntmps174
  go_wp2_with (go_at_call 193;refine o.out.mono ?_;rintro e w1⟨rfl,rfl⟩)
  go_ret;exact⟨_,rfl,p.out.mono λb G hb=>.inl ⟨hb,G⟩,Below.refl _ _⟩
 ·have l:=q8I k h0 (by omega) j
  rw[<-l];have hd:decide (v∈D)=false:=by simpa using j
  rw[hd]at o;obtain⟨A,C,rfl,hs,z,hc,-⟩:=hu.open (z0s _) (by decide)
  have c:=hu.room rfl;have b1:Bl w (w.alloc (J5 #[J I v] 3)):=znw w _;have p:=J6 (hu.clip.over b1);have q:=j0A A D.length C c.1 (λe=>(z e).1) (by omega) w
  have a:(D++[v]).length=D.length+1:=by simp
  have H:Hid (∀(g C':Nat) (w':World),z6r w' g (D++[v])->Calls prog 195 #[J1 (some ⟨g,0,none⟩) (D.length+1) C'] w' λe r=>e=.returned (.tuple #[])/\z6r r g (z5y (D++[v]))/\z3q g w' r):=λg C' w' h=>by
   have:=j1p g C' (D++[v]) w' h (by omega)
   rw[a]at this;exact this
  have m:=J6 b1;have s:=J6 a;have hcell:=(CAt.new 3 w #[J I v]).cell 0;have t:=J6 hcell;clear hu k l hd j hs z hc c b1 a hcell
  go_enter func174,ntmps174
  go_wp2_with (first
   | (go_at_call 193;refine o.out.mono ?_;rintro e w1⟨rfl,rfl⟩)
   | (go_at_call 194;refine q.mono ?_;rintro e w1⟨rfl,rfl⟩)
   | (at_builtin;refine q5U rfl rfl _ _ rfl A w.heap.size D v rfl rfl p.out (by omega) t.out ?_;intro g C' w' B n d f;have K:=J6 B;have HR:=J6 (show _/\_/\_ from⟨n,d,f⟩);clear B n d f)
   | (go_at_call 195;refine(H.out _ _ _ HR.out.2.1).mono ?_;rintro e r⟨rfl,h1⟩;have E:=J6 h1;clear h1))
  go_ret;have M:g=w.heap.size+1:=by rw[K.out];simp
  have i:(z5y (D++[v])).length=D.length+1:=by rw[q1n];exact s.out
  have F:=z6r.rep (C:=C') E.out.1 (by rw[i];exact HR.out.1) (by rw[i];omega)
  rw[i]at F;refine⟨_,rfl,F.mono λb _ e=>.inr (by omega),(zbt m.out HR.out.2.2).trans (E.out.2.below (by omega) ?_)⟩
  have:=HR.out.2.2.size;have:=m.out.size;omega
end Pv
namespace Pv
open Go.RowKit
theorem j5L{p:Pr}{v:PrV}(k:Nat)(a:k<2)(l:List Int)(U:Value) :
  (prC p v).setIfInBounds (66+k*14+5) U=prC { p with L:=z0P p.L k { p.L k with done:=l}} (v.upd k ⟨(v.l k).told,U,(v.l k).said,(v.l k).due⟩):=by
 match k,a with
 | 0,_=>rfl
 | 1,_=>rfl
theorem j2Q{P:Nat->Prop}{w:World}{p:Pr}{v:PrV}(h:PIn P w p v)(k:Nat)(l:List Int)(U:Value)(h1:Rep P w U 1 8 (inC l)) :
  PIn P w { p with L:=z0P p.L k { p.L k with done:=l}} (v.upd k ⟨(v.l k).told,U,(v.l k).said,(v.l k).due⟩):=by
 refine⟨h.ws,h.set,λc hc=>?_,h.q⟩
 show z5M P w (if c=k then _ else p.L c) (if c=k then _ else v.l c)
 by_cases e:c=k
 ·subst e;rw[if_pos rfl,if_pos rfl];have:=h.lk c hc;exact⟨this.told,h1,this.said,this.due⟩
 ·rw[if_neg e,if_neg e];exact h.lk c hc
theorem PIn.put{P:Nat->Prop}{w:World}{p:Pr}{v:PrV}(h:PIn P w p v){g:Nat}(a:¬ P g)(o:Nat)(x:Value):PIn P (w.setCell ⟨g,o,none⟩ x) p v:=h.keep λb hb _=>Below.heap_setCell _ _ _ _ (show b≠g from λe=>a (by rw[<-e];exact hb))
theorem Rep.put{P:Nat->Prop}{w:World}{v:Value}{sz bts:Nat}{cs:List Value}(h:Rep P w v sz bts cs){g:Nat}(a:¬ P g)(o:Nat)(x:Value):Rep P (w.setCell ⟨g,o,none⟩ x) v sz bts cs:=h.keep λb hb _=>Below.heap_setCell _ _ _ _ (show b≠g from λe=>a (by rw[<-e];exact hb))
theorem Alt.put{g:Nat}{w w':World}(h:Alt g w w')(o:Nat)(x:Value):Alt g w (w'.setCell ⟨g,o,none⟩ x):=⟨h.os,h.tape,h.output,(by simp[World.setCell];exact h.size),λk b a=>(Below.heap_setCell _ _ _ _ a).trans (h.block k b a)⟩
theorem z9N{g:Nat}{p a:Pr}{v':PrV}{P:Nat->Prop}{w d e:World}{c:Nat}(hc:c<2){u:Value}{l:List Int}(f:g<w.heap.size)(n:¬ P g)(o:CAt 58 d g (prC a v'))(hp:PIn (New P w 0) d a v')(j:Alt g w d)(q:Rep (New (New P w 0) d 0) e u 1 8 (inC l))(i:Bl d e)
  (r:p={ a with L:=z0P a.L c { a.L c with done:=l}}) (b:Bool) :
  z4E w g P (p,b) (.returned (J3 b)) (e.setCell ⟨g,66+c*14+5,none⟩ u):=by
 subst r;have k:¬ New P w 0 g:=z0R n f
 have s:Rep (New P w 0) e u 1 8 (inC l):=q.mono λb _ h=>by
  rcases h with⟨h,_⟩|h
  ·exact h
  ·exact .inr (by have:=j.size;omega)
 have m:=(o.over i).set (66+c*14+5) u;rw[j5L c hc l u]at m;exact⟨_,rfl,m,j2Q ((hp.over i).put k _ _) c l u (s.put k _ _),(j.trans (Alt.of i)).put _ _⟩
attribute [local go_sem ↓] z1P z0T z0F z1H
theorem q2f(g:Nat)(p:Pr)(v:PrV)(P:Nat->Prop)(w:World)(c:Nat)(hc:c<2)(n:Nat)(h:n<6)(b:CAt 58 w g (prC p v))(hp:PIn P w p v)(t:¬ P g)(k:z2m (-1) (p.L c).done=true)(m:(p.s.V n).jail=true) :
  Calls prog 152 #[J2 (some ⟨g,0,none⟩),J2 (some ⟨g,66+c*14,none⟩),J I (n:Int)] w (z4E w g P ({ p with L:=z0P p.L c { p.L c with done:=z3s (p.L c).done n}},true)):=by
 have HW:=J6 (z9Q (p.L c).done (v.l c).done (New P w 0) w n (((hp.z2X (Below.refl _ w) 0).lk c hc).done) k (by omega) (by omega))
 have x:=(q2r b h).2.1;rw[m]at x;have q:w.cell? ⟨g,66+c*14+5,none⟩=some (v.l c).done:=(b.lk hc).facts.2.2.2.2.2.1;have d:=b.lt;have y:=J6 (λ(u:Value) (f:World) (z:Rep (New (New P w 0) w 0) f u 1 8 (inC (z3s (p.L c).done n))) (A:Bl w f)=>z9N (p:={ p with L:=z0P p.L c { p.L c with done:=z3s (p.L c).done n}}) hc d t b (hp.z2X (Below.refl _ w) 0) (Alt.of (Below.refl _ w)) z A rfl true)
 obtain⟨B,C,i,D⟩:=(hp.lk c hc).done.one';rw[D]at q HW;have E:(n:Int)<6:=by omega
 have F:(0:Int)<=(n:Int):=by omega
 have G:=J6 b;clear b hp k m;generalize 66+c*14=o at *;generalize z3s (p.L c).done n=dl at *
 go_enter func152,ntmps152
 go_wp2_with (go_at_call 174;refine HW.out.mono ?_;rintro e f⟨u,rfl,j,a⟩;have H:f.cell? ⟨g,o+5,none⟩=some (J1 B C i):=(a.cell (p:=⟨g,o+5,none⟩) d).trans q;have K:f.frozen? ⟨g,o+5,none⟩=false:=(G.out.over a).free _;obtain⟨M,N,Q,rfl⟩:=j.one';have r:=J6 (show _/\_ from⟨j,a⟩);clear j a)
 go_ret;exact y.out _ _ r.out.1 r.out.2
def y2k(F:Nat->Act)(R:Nat->World->Prop)(ex:Exit)(a:Act)(w:World):Prop:=∃g,ex=Exit.normal/\a=F g/\R g w
theorem j3y{P:Program}{c:Code}{Q:Exit->Act->World->Prop}{a:Act}{w:World}(R:Nat->World->Prop)(F:Nat->Act)(h1:Code.wp P c (y2k F R) a w)(h2:∀g w',R g w'->Q Exit.normal (F g) w'):Code.wp P c Q a w:=
 Code.wp_mono (λe b w' h=>by obtain⟨g,rfl,rfl,h⟩:=h;exact h2 g w' h) h1
theorem q5W(g:Nat)(p:Pr)(v:PrV)(P:Nat->Prop)(w:World)(c:Nat)(hc:c<2)(n:Nat)(C:n<6)(z:CAt 58 w g (prC p v))(hp:PIn P w p v)(hg:¬ P g)(hr:z2m (-1) (p.L c).done=true)(H:z0k p.s=true)(hj:(p.s.V n).jail=false)(a1:0<=(p.s.V n).tok)(d0:(p.s.V n).tok<=1125899906842624) :
  Calls prog 152 #[J2 (some ⟨g,0,none⟩),J2 (some ⟨g,66+c*14,none⟩),.int .i64 (n:Int)] w (z4E w g P (if p.ml<1 then(p,false)else({ p with ml:=wrap64 (p.ml - j8v (p.s.V n)),s:=z5m p.s n true (p.s.V n).dead,L:=z0P p.L c { p.L c with done:=z3s (p.L c).done n}},true))):=by
 generalize hD:(if p.ml<1 then(p,false)else(_,true):Pr×Bool)=D;have HD:=J6 hD;clear hD;have d3:=(q2r z C).2.1;rw[hj]at d3;have k:=z.lt;have d1:(n:Int)<6:=by omega
 have d2:(0:Int)<=(n:Int):=by omega
 have K:Hid (∀a,Bl w a->a.cell? ⟨g,94,none⟩=some (.int .i64 p.ml)/\a.cell? ⟨g,94+1,none⟩=some (.int .i64 p.mn)/\a.cell? ⟨g,9+n*5,none⟩=some (.int .i64 (p.s.V n).tok)):=λa hb=>⟨(z.over hb).cell 94,(z.over hb).cell 95,(q2r (z.over hb) C).1⟩;have a2:Hid (j8v (p.s.V n)=if(p.s.V n).tok / 100<1 then 1 else(p.s.V n).tok / 100):=rfl;generalize j8v (p.s.V n)=pw at *;have HT:=J6 (λ(a:World)=>Mt.q7V p.ml p.mn pw a);have HQ:Hid (∀a,Bl w a->z4E w g P (p,false) (.returned (J3 false)) a):=λa hb=>⟨v,rfl,z.over hb,hp.z2X hb 0,Alt.of hb⟩;generalize hA:(if p.ml<1 then p.ml else wrap64 (p.ml - pw))=ml' at *;generalize F:(if p.ml<1 then false else true)=may at *;generalize (p.s.V n).tok=tk at *;have hq:IntKind.i64.wrap (tk.tdiv 100)=tk / 100:=by rw[Int.tdiv_eq_ediv_of_nonneg a1];exact z5z (by omega) (by omega)
 go_enter func152,ntmps152
 go_upto_region 3 with fail
 have M:Hid (Bl w (w.alloc (J5 #[.int .i64 0,.int .i64 0] 55))):=znw w _;have A:=J6 M.out.drew;have N:(if tk / 100<1 then 1 else tk / 100)=pw:=a2.out.symm;have Q:Hid (CAt 55 (w.alloc (J5 #[.int .i64 0,.int .i64 0] 55)).drew w.heap.size #[.int .i64 0,.int .i64 0]):=CAt.new 55 w _;apply j3y (λG w'=>CAt 55 w' G #[.int .i64 ml',.int .i64 p.mn]/\w.heap.size<=G/\Bl w w')
 ·refine wp_region_noPanic ?_;have hb:=Below.refl w.heap.size w
  go_region_held3 (λa=>a.cell? ⟨g,94,none⟩=some (.int .i64 p.ml)/\a.cell? ⟨g,94+1,none⟩=some (.int .i64 p.mn)/\a.cell? ⟨g,9+n*5,none⟩=some (.int .i64 tk)) ((refine K.out _ ?_;first|with_reducible exact hb|with_reducible exact hb.drew|with_reducible exact hb.alloc hb.size _|with_reducible exact(hb.alloc hb.size _).drew|with_reducible exact hb.drew.alloc hb.drew.size _|exact(hb.setCell (Nat.le_refl _) _).setCell (Nat.le_refl _) _|exact((hb.alloc hb.size _).setCell hb.size _).setCell hb.size _)) (first
   | (go_at_call 172;refine(HT.out w.drew).mono ?_;rintro e wb⟨rfl,b⟩;have hb:=(Below.refl w.heap.size w).drew.trans b;have a3:True:=trivial;clear b;dsimp only)
   | (go_at_call 172;refine(HT.out (w.alloc (J5 #[.int .i64 0,.int .i64 0] 55)).drew).mono ?_;rintro e wb⟨rfl,b⟩;have hb:=zbt A.out b;have d:=J6 (Q.out.over b);have z0:=d.out.cell 0;have z1:wb.cell? ⟨w.heap.size,0+1,none⟩=_:=d.out.cell 1;have d4:=d.out.free 0;have d5:=d.out.free (0+1);clear b;dsimp only))
  all_goals first
   | (have _m:=a3;obtain⟨gn,f⟩:∃gn,gn=wb.heap.size:=⟨_,rfl⟩;rw[<-f];exact NoPanic.normal ⟨gn,rfl,rfl,by subst f;exact⟨CAt.new _ _ _,hb.size,hb.alloc hb.size _⟩⟩)
   | (obtain⟨gn,f⟩:∃gn,gn=w.heap.size:=⟨_,rfl⟩;rw[<-f];exact NoPanic.normal ⟨gn,rfl,rfl,by subst f;exact⟨(d.out.set 0 _).set 1 _,Nat.le_refl _,(hb.setCell (Nat.le_refl _) _).setCell (Nat.le_refl _) _⟩⟩)
 rintro G B⟨M3,d6,B3⟩;have h:=J6 B3;have a4:=J6 M3;have m0:B.cell? ⟨G,0,none⟩=some (.int .i64 ml'):=M3.cell 0;have m1:B.cell? ⟨G,0+1,none⟩=some (.int .i64 p.mn):=M3.cell 1;clear M A Q N HT K d3 B3 M3;simp only[Exit.then];apply_assumption
 by_cases i:p.ml<1
 ·rw[if_pos i]at F;subst F;have m:=J6 (HD.out.symm.trans (if_pos i));clear HD;go_wp2;go_ret;rw[m.out];exact HQ.out _ h.out
 ·rw[if_neg i]at hA F;subst F;have m:=J6 (HD.out.symm.trans (if_neg i));clear HD HQ;have E:=z.over h.out;have a5:B.cell? ⟨g,94,none⟩=some (.int .i64 p.ml):=E.cell 94;have a6:B.cell? ⟨g,94+1,none⟩=some (.int .i64 p.mn):=E.cell 95;have a7:=E.free 94;have a8:=E.free (94+1);have c7:=E.lt;have c8:¬ G=g:=by omega
  have a9:=J6 hp;have b4:=J6 hr;have r:=J6 hg;have b5:=J6 H;have b6:=J6 hj;have R:=J6 E;have S:=J6 hA;clear z hp hr H hj E hA hg i
  go_upto_region 7 with fail
  have C4:CAt 58 ((B.setCell ⟨g,94,none⟩ (.int .i64 ml')).setCell ⟨g,95,none⟩ (.int .i64 p.mn)) g (prC { p with ml:=ml' } v):=(R.out.set 94 _).set 95 _
  have A4:Alt g w ((B.setCell ⟨g,94,none⟩ (.int .i64 ml')).setCell ⟨g,95,none⟩ (.int .i64 p.mn)):=((Alt.of (g:=g) h.out).put 94 _).put 95 _
  have P4:PIn (New P w 0) ((B.setCell ⟨g,94,none⟩ (.int .i64 ml')).setCell ⟨g,95,none⟩ (.int .i64 p.mn)) { p with ml:=ml' } v:=by
   have:=((a9.out.z2X h.out 0).put (z0R r.out k) 94 (.int .i64 ml')).put (z0R r.out k) 95 (.int .i64 p.mn);exact⟨this.ws,this.set,this.lk,this.q⟩
  clear a5 a6 a7 a8 m0 m1 a4 R h;generalize (B.setCell ⟨g,94,none⟩ (.int .i64 ml')).setCell ⟨g,95,none⟩ (.int .i64 p.mn)=w4 at *
  have T:q0F p.s (n:Int)=(z5m p.s n true (p.s.V n).dead,0):=by
   unfold q0F;rw[if_pos (z3Y b5.out C),Int.toNat_natCast,if_neg (by rw[b6.out];simp)]
  have t:=j8a P4.ws (n:Int);dsimp only at t;rw[T]at t;have U:=J6 t;have m4:=z2y C4;have b7:Hid ((z5m p.s n true (p.s.V n).dead).W=p.s.W):=rfl;generalize X:z5m p.s n true (p.s.V n).dead=s1 at *;have b8:=J6 X;have c9:=C4.lt;have Y:=z7b s1 P4.ws.one';have Z:=J6 (show _/\_/\_ from⟨C4,P4,A4⟩);clear C4 P4 A4 t T X
  go_upto_region 8 with(go_at_call 173;refine U.out.mono ?_;rintro e w5⟨rfl,j⟩;clear m4;have b9:=z3g (Z.out.1.over j) (z0a _ _) (z0f s1 v.ws) Y)
  have C6:=(Z.out.1.over j).z1q s1 v.ws;have A6:=(Z.out.2.2.trans (Alt.of j)).sets (stC s1 v.ws).toList 2;have P6:=(Z.out.2.1.over j).sets (g:=g) (z0R r.out k) 2 (stC s1 v.ws).toList;have x:PIn (New P w 0) (w5.setCells g 2 (stC s1 v.ws).toList) { p with ml:=ml',s:=s1} v:=⟨by rw[show({ p with ml:=ml',s:=s1}:Pr).s.W=p.s.W from b7.out];exact P6.ws,P6.set,P6.lk,P6.q⟩
  clear b9 j U Z P6;generalize w5.setCells g 2 (stC s1 v.ws).toList=w6 at *;have HW:=J6 (z9Q (p.L c).done (v.l c).done (New P w 0) w6 n ((x.lk c hc).done) b4.out (by omega) (by omega))
  have q5:w6.cell? ⟨g,66+c*14+5,none⟩=some (v.l c).done:=(C6.lk hc).facts.2.2.2.2.2.1;obtain⟨Ad,nd,c4,ed⟩:=(x.lk c hc).done.one';rw[ed]at q5 HW;have a0:=C6.lt;have HE:=J6 (λ(u:Value) (w2:World) (hU:Rep (New (New P w 0) w6 0) w2 u 1 8 (inC (z3s (p.L c).done n))) (F:Bl w6 w2)=>z9N (p:={ p with ml:=ml',s:=s1,L:=z0P p.L c { p.L c with done:=z3s (p.L c).done n}}) hc k r.out C6 x A6 hU F rfl true)
  have c5:=J6 C6;have c6:Hid (D=({ p with ml:=ml',s:=s1,L:=z0P p.L c { p.L c with done:=z3s (p.L c).done n}},true)):=by rw[Hid,m.out,S.out]
  clear m b8 S C6 x A6 ed;generalize 66+c*14=o at *;generalize z3s (p.L c).done n=dl at *
  go_wp2_with (go_at_call 174;refine HW.out.mono ?_;rintro e w7⟨u,rfl,U2,y⟩;have q6:w7.cell? ⟨g,o+5,none⟩=some (J1 Ad nd c4):=(y.cell (p:=⟨g,o+5,none⟩) a0).trans q5;have fz:w7.frozen? ⟨g,o+5,none⟩=false:=(c5.out.over y).free _;obtain⟨Au,nu,Cu,rfl⟩:=U2.one';have HU:=J6 (show _/\_ from⟨U2,y⟩);clear U2 y)
  go_ret;rw[c6.out];exact HE.out _ _ HU.out.1 HU.out.2
theorem y1s{s:St}(a:z0k s=true){n:Nat}(b:n<6):0<=(s.V n).tok/\(s.V n).tok<=1125899906842624:=((z1O _).1 (((z0h s).1 a).2.2.2.2.2.1 n b).1).1
theorem q9V(g:Nat)(p:Pr)(v:PrV)(P:Nat->Prop)(w:World)(c:Nat)(hc:c<2)(x:Pkt)(d:CAt 58 w g (prC p v))(hp:PIn P w p v)(e:¬ P g)(j:x.k=3)(f:z2m (-1) (p.L c).done=true)(b:z0k p.s=true)(h0:0<=x.v)(l:x.v<6) :
  Calls prog 152 #[J2 (some ⟨g,0,none⟩),J2 (some ⟨g,66+c*14,none⟩),J I x.v] w (z4E w g P (z1y p c x)):=by
 obtain⟨n,i,a⟩:∃n:Nat,x.v=(n:Int)/\n<6:=⟨x.v.toNat,by omega,by omega⟩
 unfold z1y;rw[if_neg (by omega),if_neg (by omega),i,Int.toNat_natCast]
 cases h:(p.s.V n).jail
 ·rw[if_neg (by simp)]
  exact q5W g p v P w c hc n a d hp e f b h (y1s b a).1 (y1s b a).2
 ·rw[if_pos rfl];exact q2f g p v P w c hc n a d hp e f h
end Pv
namespace Pv
open Go.RowKit
def y2v(F:Option Addr->Nat->Nat->Nat->Act)(R:Option Addr->Nat->Nat->Nat->World->Prop)(ex:Exit)(a:Act)(w:World):Prop:=∃A n C g,ex=Exit.normal/\a=F A n C g/\R A n C g w
theorem j1E{P:Program}{c:Code}{Q:Exit->Act->World->Prop}{a:Act}{w:World}(R:Option Addr->Nat->Nat->Nat->World->Prop)(F:Option Addr->Nat->Nat->Nat->Act)(h1:Code.wp P c (y2v F R) a w)(h2:∀A n C g w',R A n C g w'->Q Exit.normal (F A n C g) w'):Code.wp P c Q a w:=
 Code.wp_mono (λe b w' h=>by obtain⟨A,n,C,g,rfl,rfl,h⟩:=h;exact h2 A n C g w' h) h1
def q4C(a v:Value):Sem Unit:=Instr.storeAt 68 a v
theorem z8l(a v:Value):Instr.storeAt 68 a v=q4C a v:=rfl
def q2g(a v:Value):Sem Unit:=Instr.storeAt 48 a v
theorem z7U(a v:Value):Instr.storeAt 48 a v=q2g a v:=rfl
theorem j5y:(prog.info? 68).map (·.size)=some 6:=by kernel_rfl
theorem q9k:(prog.info? 48).map (·.size)=some 4:=by kernel_rfl
def Z6:Array Value:=#[J I 0,J I 0,J I 0,J I 0,J1 none 0 0,J1 none 0 0]
def Z4:Array Value:=#[J1 none 0 0,J1 none 0 0,J I 0,J3 false]
theorem q4V{w:World}{g:Nat}{a cs:Array Value}(h:CAt 68 w g a)(b:a.size=6)(hs:cs.size=6)(h1:cs.all (·.oneCell')=true):(q4C (J2 (some ⟨g,0,none⟩)) (J4 cs)).run prog w=.ok () (w.setCells g 0 cs.toList):=
 run_storeAt_mid (P:=prog) w g 0 68 cs (h.there 0 _ (by rw[b,hs];omega)) (by rw[j5y,hs]) h1
theorem q4Z{w:World}{g:Nat}{a cs:Array Value}(h:CAt 48 w g a)(b:a.size=4)(hs:cs.size=4)(h1:cs.all (·.oneCell')=true):(q2g (J2 (some ⟨g,0,none⟩)) (J4 cs)).run prog w=.ok () (w.setCells g 0 cs.toList):=
 run_storeAt_mid (P:=prog) w g 0 48 cs (h.there 0 _ (by rw[b,hs];omega)) (by rw[q9k,hs]) h1
structure Tds(w1:World)(cs:Array Value)(dl:List (Int×Int))(u:Value)(g4:Nat)(w5:World):Prop where
 cat:CAt 68 w5 g4 cs
 rep:Rep (λb=>w1.heap.size<=b/\b≠g4) w5 u 2 16 (pwC dl)
 bel:Bl w1 w5
 le:w1.heap.size<=g4
theorem j7H{w1 w0 a:World}{cs:Array Value}{dl:List (Int×Int)}{u:Value}(hs:cs.size=6)(U:Rep (λb=>w0.heap.size<=b) a u 2 16 (pwC dl))(h0:w1.heap.size<=w0.heap.size)(hb:Bl w1 a):Tds w1 cs dl u a.heap.size ((a.alloc (J5 Z6 68)).setCells a.heap.size 0 cs.toList):=by
 have c:Bl a (a.alloc (J5 Z6 68)):=znw a _;have d:Rep (λb=>w1.heap.size<=b/\b≠a.heap.size) a u 2 16 (pwC dl):=U.mono λb e h=>⟨Nat.le_trans h0 h,by omega⟩
 exact⟨(CAt.new 68 a Z6).z0L (by rw[hs];rfl),(d.over c).sets (λh=>h.2 rfl) 0 _,z0b hb.size _ _ _ (hb.alloc hb.size _),hb.size⟩
theorem j6O{w1 ws a:World}{cs:Array Value}{dl:List (Int×Int)}{u:Value}(hs:cs.size=6)(U:Rep (λb=>ws.heap.size<=b) a u 2 16 (pwC dl))(h0:w1.heap.size+1<=ws.heap.size)(hb:Bl w1 a)(hc:CAt 68 a w1.heap.size Z6):Tds w1 cs dl u w1.heap.size (a.setCells w1.heap.size 0 cs.toList):=by
 have c:Rep (λb=>w1.heap.size<=b/\b≠w1.heap.size) a u 2 16 (pwC dl):=U.mono λb d h=>by have h':ws.heap.size<=b:=h;exact⟨by omega,by omega⟩
 exact⟨hc.z0L (by rw[hs];rfl),c.sets (λh=>h.2 rfl) 0 _,z0b (Nat.le_refl _) _ _ _ hb,Nat.le_refl _⟩
theorem j4D(a b:Int){u:Value}(h:∃A n C,u=J1 A n C)(A:Option Addr)(n C:Nat):(#[J I a,J I b,J I 0,J I 0,u,J1 A n C]:Array Value).all (·.oneCell')=true:=by
 obtain⟨A',d,C',rfl⟩:=h
 first|(simp[Value.oneCell'];done)|(rw[Array.all_eq_true_iff_forall_mem];intro x c;simp at c;rcases c with rfl|rfl|rfl|rfl|rfl|rfl <;> rfl)
theorem j2M{w1 w0 a:World}{cs:Array Value}{dl:List (Int×Int)}{u:Value}(hs:cs.size=6)(h1:cs.all (·.oneCell')=true)(U:Rep (λb=>w0.heap.size<=b) a u 2 16 (pwC dl))(h0:w1.heap.size<=w0.heap.size)(hb:Bl w1 a):∃c,(q4C (J2 (some ⟨a.heap.size,0,none⟩)) (J4 cs)).run prog (a.alloc (J5 Z6 68))=.ok () c/\Tds w1 cs dl u a.heap.size c:=
 ⟨_,q4V (CAt.new 68 a Z6) rfl hs h1,j7H hs U h0 hb⟩
theorem j3i{w1 ws a:World}{cs:Array Value}{dl:List (Int×Int)}{u:Value}(hs:cs.size=6)(h1:cs.all (·.oneCell')=true)(U:Rep (λb=>ws.heap.size<=b) a u 2 16 (pwC dl))(h0:w1.heap.size+1<=ws.heap.size)(hb:Bl w1 a)(hc:CAt 68 a w1.heap.size Z6):∃c,(q4C (J2 (some ⟨w1.heap.size,0,none⟩)) (J4 cs)).run prog a=.ok () c/\Tds w1 cs dl u w1.heap.size c:=
 ⟨_,q4V hc rfl hs h1,j6O hs U h0 hb hc⟩
theorem j0C(p:Pr)(v:PrV)(k:Nat)(b:k<2):∃a c:List Value,a.length=66+k*14/\prC p v=(a++(lkL (p.L k) (v.l k)++c)).toArray/\∀y x,prC { p with L:=z0P p.L k y} (v.upd k x)=(a++(lkL y x++c)).toArray:=by
 have h0:([J I p.h,J I p.t] ++ ((stC p.s v.ws).toList++[v.set]):List Value).length=66:=by simp[z0f]
 match k,b with
 | 0,_ =>
  refine⟨[J I p.h,J I p.t] ++ ((stC p.s v.ws).toList++[v.set]),lkL (p.L 1) (v.l 1)++[J I p.ml,J I p.mn,v.q],h0,?_,λy x=>?_⟩
  ·simp[prC]
  ·simp[prC,PrV.upd,z0P]
 | 1,_ =>
  refine⟨[J I p.h,J I p.t] ++ ((stC p.s v.ws).toList++[v.set])++lkL (p.L 0) (v.l 0),[J I p.ml,J I p.mn,v.q],?_,?_,λy x=>?_⟩
  ·rw[List.length_append,h0];rfl
  ·simp[prC]
  ·simp[prC,PrV.upd,z0P]
theorem j5Q{p:Pr}{v:PrV}(k:Nat)(d:k<2)(x:Ln.Line)(l:List (Int×Int))(T S U:Value) :
  (((((((prC p v).setIfInBounds (66+k*14+6) S).setIfInBounds (66+k*14+7) U).setIfInBounds (66+k*14+8) (J I x.g)).setIfInBounds (66+k*14+9) (J3 x.cl)).setIfInBounds (66+k*14+3) T).setIfInBounds (66+k*14+4) (J3 false)).setIfInBounds (66+k*14+5) (J1 none 0 0)
   = prC { p with L:=z0P p.L k { p.L k with out:=x,told:=l,fresh:=false,done:=[]}} (v.upd k ⟨T,J1 none 0 0,S,U⟩):=by
 obtain⟨a,c,b,h1,h2⟩:=j0C p v k d;rw[h1,h2,set_mid _ _ _ _ _ _ b (by show 6<14;omega),set_mid _ _ _ _ _ _ b (by simp[lkL]),set_mid _ _ _ _ _ _ b (by simp[lkL]),set_mid _ _ _ _ _ _ b (by simp[lkL]),set_mid _ _ _ _ _ _ b (by simp[lkL]),set_mid _ _ _ _ _ _ b (by simp[lkL]),set_mid _ _ _ _ _ _ b (by simp[lkL])]
 rfl
theorem j5N{P:Nat->Prop}{w:World}{p:Pr}{v:PrV}(h:PIn P w p v)(k:Nat)(x:Ln.Line)(T S U:Value)(h1:Rep P w T 2 16 (pwC p.set))(h2:z0U P w S 1 16 (txC x.S))(h3:z0U P w U 1 8 (inC x.D)) :
  PIn P w { p with L:=z0P p.L k { p.L k with out:=x,told:=p.set,fresh:=false,done:=[]}} (v.upd k ⟨T,J1 none 0 0,S,U⟩):=by
 refine⟨h.ws,h.set,λc hc=>?_,h.q⟩
 show z5M P w (if c=k then _ else p.L c) (if c=k then _ else v.l c)
 by_cases e:c=k
 ·rw[if_pos e,if_pos e];exact⟨h1,Rep.nil _ _ _ _,h2,h3⟩
 ·rw[if_neg e,if_neg e];exact h.lk c hc
noncomputable def j9C:Code:=q3H [1,1] (f80.body.getD .skip)
noncomputable def j8V:Code:=q3H [1,1,1,1,1] (f80.body.getD .skip)
end Pv
namespace Pv
open Go.RowKit
attribute [local go_sem ↓] z8l z7U
set_option maxRecDepth 1000000 in
theorem j2K(g:Nat)(p D:Pr)(v:PrV)(P:Nat->Prop)(w w5:World)(c o g7:Nat)(x:Ln.Line)(s1 s2:Value)(E1:Int)(hc:c<2)(hC:CAt 58 w g (prC p v))(hp:PIn P w p v)(hg:¬ P g)(G:Hid (o=66+c*14))(H:Hid (Bl w w5))(m5:w.heap.size<=g7)(a:Hid (CAt 48 w5 g7 #[s1,s2,.int .i64 x.g,J3 x.cl]))(r:Hid (z0U (λb=>New P w 0 b/\b≠g7) w5 s1 1 16 (txC x.S)))(s:Hid (z0U (λb=>New P w 0 b/\b≠g7) w5 s2 1 8 (inC x.D)))
  (HD:Hid (D=if E1=0 then { p with L:=z0P p.L c { p.L c with out:=x,told:=p.set,fresh:=false,done:=[]}} else p)) (v2 v3 v4 v5 v8 v9 a0 a1 a2 a3 a4 a5 a6 a7 a8 a9 b4 b5 b6 b7 b8 b9 c4 c5 c6 c7 c8 c9 d0 d1 d2 d3 d4 d5 d6 d7 d8 d9 e0 e1 e2 e3 e4 e5 e6 e7 e8 e9 g0 g1 g2 g3 g5 g6 g8 g9 h4 h5 h6 h7 h8 h9 i2 i3 i4 i5 i6 i7 i8 i9 j0 j1 j2 j3 j4 j5 j6 j7 j8 j9 k4 k5 k6 k7 k8 k9 l0 l1 l2 l3 l4 l5 l6 l7:Value) :
  Code.wp prog j8V (bodyPost prog f80 (Turns w g P D)) ⟨List.toArray ((J2 (some ⟨g,0,none⟩)) :: (J2 (some ⟨g,o,none⟩)) :: v2 :: v3 :: v4 :: v5 :: (.int .i64 E1) :: (J2 (some ⟨g7,0,none⟩)) :: v8 :: v9 :: a0 :: a1 :: a2 :: a3 :: a4 :: a5 :: a6 :: a7 :: a8 :: a9 :: b4 :: b5 :: b6 :: b7 :: b8 :: b9 :: c4 :: c5 :: c6 :: c7 :: c8 :: c9 :: d0 :: d1 :: d2 :: d3 :: d4 :: d5 :: d6 :: d7 :: d8 :: d9 :: e0 :: e1 :: e2 :: e3 :: e4 :: e5 :: e6 :: e7 :: e8 :: e9 :: g0 :: g1 :: g2 :: g3 :: g5 :: g6 :: g8 :: g9 :: h4 :: h5 :: h6 :: h7 :: h8 :: h9 :: i2 :: i3 :: i4 :: i5 :: i6 :: i7 :: i8 :: i9 :: j0 :: j1 :: j2 :: j3 :: j4 :: j5 :: j6 :: j7 :: j8 :: j9 :: k4 :: k5 :: k6 :: k7 :: k8 :: k9 :: l0 :: l1 :: l2 :: l3 :: l4 :: l5 :: l6 :: l7 :: []),[]⟩ w5:=by
 conv=>arg 2;whnf
 have R:=J6 hp;have HC:=J6 hC;have l8:=hC.lt;obtain⟨d,n1,f,B1,rfl,-,-⟩:=id r.out;obtain⟨i,m,n,B2,rfl,-,-⟩:=id s.out
 by_cases hE:E1=0
 rotate_left
 ·have hq:Hid (D=p):=HD.out.trans (if_neg hE);have m6:(E1 != 0)=true:=by simpa using hE
  clear HD r s a hC hp;go_wp2;go_end0;rw[hq.out];exact⟨v,rfl,HC.out.over H.out,R.out.z2X H.out 0,Alt.of H.out⟩
 subst hE;replace HD:=J6 (HD.out.trans (if_pos rfl));have t:=HC.out.over H.out;have m7:¬ g7=g:=by omega
 have hf:=(t.lk hc).facts;rw[<-G.out]at hf;obtain⟨-,-,-,f3,f4,f5,f6,f7,f8,f9⟩:=hf;have k0:w5.cell? ⟨g7,0,none⟩=_:=a.out.cell 0;have k1:w5.cell? ⟨g7,0+1,none⟩=_:=a.out.cell 1;have k2:w5.cell? ⟨g7,0+2,none⟩=_:=a.out.cell 2;have k3:w5.cell? ⟨g7,0+3,none⟩=_:=a.out.cell 3;have z6:=t.free (o+6);have z7:=t.free (o+6+1);have z8:=t.free (o+6+2);have z9:=t.free (o+6+3);have T:=J6 t;clear hC hp t
 have sN:(q2g (J2 (some ⟨g,o+6,none⟩)) (J4 #[J1 d n1 f,J1 i m n,.int .i64 x.g,J3 x.cl])).run prog w5=.ok () (w5.setCells g (o+6) [J1 d n1 f,J1 i m n,.int .i64 x.g,J3 x.cl]):=
  run_storeAt_mid (P:=prog) w5 g (o+6) 48 #[J1 d n1 f,J1 i m n,.int .i64 x.g,J3 x.cl] (T.out.there (o+6) 4 (by rw[z0a,G.out];omega)) (by rw[q9k];rfl) (by simp[Value.oneCell'])
 go_upto_region 7 with fail
 have U:CAt 58 (w5.setCells g (o+6) [J1 d n1 f,J1 i m n,.int .i64 x.g,J3 x.cl]) g (((((prC p v).setIfInBounds (o+6) (J1 d n1 f)).setIfInBounds (o+7) (J1 i m n)).setIfInBounds (o+8) (.int .i64 x.g)).setIfInBounds (o+9) (J3 x.cl)):=(((T.out.set (o+6) _).set (o+7) _).set (o+8) _).set (o+9) _;have V:¬ New P w 0 g:=z0R hg l8;have W:Hid (Alt g w (w5.setCells g (o+6) [J1 d n1 f,J1 i m n,.int .i64 x.g,J3 x.cl])):=(Alt.of H.out).sets _ _;have y:Hid (∀b,b≠g->(w5.setCells g (o+6) [J1 d n1 f,J1 i m n,.int .i64 x.g,J3 x.cl]).heap[b]?=w5.heap[b]?):=λb hb=>z1l hb _ _ _;have m8:Hid (w5.heap.size=(w5.setCells g (o+6) [J1 d n1 f,J1 i m n,.int .i64 x.g,J3 x.cl]).heap.size):=by show _=_;simp[World.setCells,World.setCell]
 clear f6 f7 f8 f9 k0 k1 k2 k3 z6 z7 z8 z9 sN f3 f4 f5;generalize w5.setCells g (o+6) [J1 d n1 f,J1 i m n,.int .i64 x.g,J3 x.cl]=w6 at *;have X:=U.lt;have P6:PIn (New P w 0) w6 p v:=(R.out.z2X H.out 0).keep λb hb _=>y.out b (λe=>V (by rw[<-e];exact hb))
 have A:=J6 (z6P p.set v.set (New P w 0) w6 P6.set)
 have l9:w6.cell? ⟨g,65,none⟩=some v.set:=by
  rw[U.cell 65];simp only[Array.getElem?_setIfInBounds];have:=G.out;rw[if_neg (by omega),if_neg (by omega),if_neg (by omega),if_neg (by omega)]
  rfl
 obtain⟨At,nt,Ct,et⟩:=(R.out.lk c hc).told.one';obtain⟨Ad,nd,m0,ed⟩:=(R.out.lk c hc).done.one'
 have Y:Hid (∀B,Bl w6 B->B.cell? ⟨g,o+3,none⟩=some (J1 At nt Ct)/\B.cell? ⟨g,o+4,none⟩=some (J3 (p.L c).fresh)/\B.cell? ⟨g,o+5,none⟩=some (J1 Ad nd m0)/\∀k,B.frozen? ⟨g,k,none⟩=false):=λB hb=>by
  have C:=U.over hb
  have hl:∀j,j<6->∀z,(lkL (p.L c) (v.l c))[j]?=some z->B.cell? ⟨g,o+j,none⟩=some z:=λj hj z hz=>by
   rw[C.cell (o+j)];simp only[Array.getElem?_setIfInBounds];rw[if_neg (by omega),if_neg (by omega),if_neg (by omega),if_neg (by omega),G.out,z4o c hc j (by omega),hz]
  exact⟨hl 3 (by omega) _ (by rw[<-et];rfl),hl 4 (by omega) _ rfl,hl 5 (by omega) _ (by rw[<-ed];rfl),λk=>C.free k⟩
 have H6:=J6 (show _/\_ from⟨U,P6⟩);clear U P6 et ed;obtain⟨As,ns,Cs,es⟩:=R.out.set.one';rw[es]at l9 A;clear es
 go_upto_region 8 with(go_at_call 39;refine A.out.mono ?_;rintro e E⟨u,rfl,U7,q⟩;obtain⟨K,M,N,rfl⟩:=U7.one';obtain⟨q3,q4,q5,qz⟩:=Y.out E q;have m4:g<E.heap.size:=Nat.lt_of_lt_of_le X q.size;have m1:=qz (o+3);have Q:=J6 (show _/\_ from⟨U7,q⟩);have Z:=J6 qz;clear U7 q qz)
 have m2:=Z.out (o+4);have m3:=Z.out (o+5);go_wp2;go_end0;have e:=G.out;clear G q3 q4 q5 m1 m2 m3 Y A;subst e;rw[HD.out];have hk:∀b,New P w 0 b->b≠g:=λb hb e=>V (by rw[<-e];exact hb)
 have F:∀b,New P w 0 b->(((E.setCell ⟨g,66+c*14+3,none⟩ (J1 K M N)).setCell ⟨g,66+c*14+4,none⟩ (J3 false)).setCell ⟨g,66+c*14+5,none⟩ (J1 none 0 0)).heap[b]?=E.heap[b]?:=λb hb=>(Below.heap_setCell _ _ _ _ (hk b hb)).trans ((Below.heap_setCell _ _ _ _ (hk b hb)).trans (Below.heap_setCell _ _ _ _ (hk b hb)));have C9:=(((H6.out.1.over Q.out.2).set (66+c*14+3) (J1 K M N)).set (66+c*14+4) (J3 false)).set (66+c*14+5) (J1 none 0 0);rw[j5Q c hc x p.set (J1 K M N) (J1 d n1 f) (J1 i m n)]at C9;have m9:=W.out.size;have R1:=(((r.out.mono (P':=New P w 0) λb _ h=>h.1).keep (w':=w6) λb hb _=>y.out b (hk b hb)).over Q.out.2).keep (w':=((E.setCell ⟨g,66+c*14+3,none⟩ (J1 K M N)).setCell ⟨g,66+c*14+4,none⟩ (J3 false)).setCell ⟨g,66+c*14+5,none⟩ (J1 none 0 0)) λb hb _=>F b hb;have R2:=(((s.out.mono (P':=New P w 0) λb _ h=>h.1).keep (w':=w6) λb hb _=>y.out b (hk b hb)).over Q.out.2).keep (w':=((E.setCell ⟨g,66+c*14+3,none⟩ (J1 K M N)).setCell ⟨g,66+c*14+4,none⟩ (J3 false)).setCell ⟨g,66+c*14+5,none⟩ (J1 none 0 0)) λb hb _=>F b hb;have T9:=(Q.out.1.mono (P':=New P w 0) λb _ h=>.inr (by omega)).keep (w':=((E.setCell ⟨g,66+c*14+3,none⟩ (J1 K M N)).setCell ⟨g,66+c*14+4,none⟩ (J3 false)).setCell ⟨g,66+c*14+5,none⟩ (J1 none 0 0)) λb hb _=>F b hb
 exact⟨_,rfl,C9,j5N ((((H6.out.2.over Q.out.2).put V _ _).put V _ _).put V _ _) c x _ _ _ T9 R1 R2,(((W.out.trans (Alt.of Q.out.2)).put _ _).put _ _).put _ _⟩
end Pv
namespace Pv
open Go.RowKit
structure Sds(P:Nat->Prop)(w w6:World)(x:Ln.Line)(u1 u2:Value)(g7:Nat)(w':World):Prop where
 cat:CAt 48 w' g7 #[u1,u2,J I x.g,J3 x.cl]
 r1:z0U (λb=>New P w 0 b/\b≠g7) w' u1 1 16 (txC x.S)
 r2:z0U (λb=>New P w 0 b/\b≠g7) w' u2 1 8 (inC x.D)
 bel:Bl w6 w'
 le:w6.heap.size<=g7
theorem z0U.sets{P:Nat->Prop}{w:World}{v:Value}{sz bts:Nat}{cs:List Value}(h:z0U P w v sz bts cs){g:Nat}(c:¬ P g)(o:Nat)(a:List Value):z0U P (w.setCells g o a) v sz bts cs:=h.keep λb hb _=>z1l (show b≠g from λe=>c (by rw[<-e];exact hb)) a o w
theorem z0U.one'{P:Nat->Prop}{w:World}{v:Value}{sz bts:Nat}{cs:List Value}(h:z0U P w v sz bts cs):∃A n C,v=J1 A n C:=by
 obtain⟨A,n,C,-,rfl,-⟩:=h;exact⟨A,n,C,rfl⟩
theorem z3r{u1 u2:Value}(h1:∃A n C,u1=J1 A n C)(h2:∃A n C,u2=J1 A n C)(a:Int)(b:Bool):(#[u1,u2,J I a,J3 b]:Array Value).all (·.oneCell')=true:=by
 obtain⟨A,n,C,rfl⟩:=h1;obtain⟨A',c,C',rfl⟩:=h2
 simp[Value.oneCell']
theorem j7t{P:Nat->Prop}{w w6 w0 a:World}{x:Ln.Line}{u1 u2:Value}(i:w.heap.size<=w6.heap.size)(h0:w6.heap.size<=w0.heap.size)(c:z0U (New (λb=>P b/\b<w.heap.size) w0 0) a u1 1 16 (txC x.S))(d:z0U (New (λb=>P b/\b<w.heap.size) w0 0) a u2 1 8 (inC x.D))(hb:Bl w6 a) :
  ∃e,(q2g (J2 (some ⟨a.heap.size,0,none⟩)) (J4 #[u1,u2,J I x.g,J3 x.cl])).run prog (a.alloc (J5 Z4 48))=.ok () e/\Sds P w w6 x u1 u2 a.heap.size e:=by
 have f:Bl a (a.alloc (J5 Z4 48)):=znw a _
 have m:∀b,b<a.heap.size->New (λb=>P b/\b<w.heap.size) w0 0 b->New P w 0 b/\b≠a.heap.size:=λb j h=>by
  refine⟨?_,by omega⟩
  rcases h with⟨h,_⟩|h
  ·exact .inl h
  ·exact .inr (by omega)
 refine⟨_,q4Z (CAt.new 48 a Z4) rfl rfl (z3r c.one' d.one' _ _),(CAt.new 48 a Z4).z0L rfl,((c.mono m).over f).sets (λh=>h.2 rfl) _ _,((d.mono m).over f).sets (λh=>h.2 rfl) _ _,z0b hb.size _ _ _ (hb.alloc hb.size _),hb.size⟩
theorem j5E{P:Nat->Prop}{w w6 w0 a:World}{x:Ln.Line}{u1 u2:Value}(f:w.heap.size<=w6.heap.size)(h0:w6.heap.size+1<=w0.heap.size)(c:z0U (New (λb=>P b/\b<w.heap.size) w0 0) a u1 1 16 (txC x.S))(d:z0U (New (λb=>P b/\b<w.heap.size) w0 0) a u2 1 8 (inC x.D))(hb:Bl w6 a)(hc:CAt 48 a w6.heap.size Z4) :
  ∃e,(q2g (J2 (some ⟨w6.heap.size,0,none⟩)) (J4 #[u1,u2,J I x.g,J3 x.cl])).run prog a=.ok () e/\Sds P w w6 x u1 u2 w6.heap.size e:=by
 have m:∀b,b<a.heap.size->New (λb=>P b/\b<w.heap.size) w0 0 b->New P w 0 b/\b≠w6.heap.size:=λb i h=>by
  rcases h with⟨h,_⟩|h
  ·exact⟨.inl h,by have:=h.2;omega⟩
  ·exact⟨.inr (by omega),by omega⟩
 refine⟨_,q4Z hc rfl rfl (z3r c.one' d.one' _ _),hc.z0L rfl,(c.mono m).sets (λh=>h.2 rfl) _ _,(d.mono m).sets (λh=>h.2 rfl) _ _,z0b (Nat.le_refl _) _ _ _ hb,Nat.le_refl _⟩
def y2n(F:Option Addr->Nat->Nat->Option Addr->Nat->Nat->Nat->Act)(R:Option Addr->Nat->Nat->Option Addr->Nat->Nat->Nat->World->Prop)(ex:Exit)(a:Act)(w:World):Prop:=∃A n C A' b C' g,ex=Exit.normal/\a=F A n C A' b C' g/\R A n C A' b C' g w
theorem j2v{P:Program}{c:Code}{Q:Exit->Act->World->Prop}{a:Act}{w:World}(R:Option Addr->Nat->Nat->Option Addr->Nat->Nat->Nat->World->Prop)(F:Option Addr->Nat->Nat->Option Addr->Nat->Nat->Nat->Act)(h1:Code.wp P c (y2n F R) a w)(h2:∀A n C A' b C' g w',R A n C A' b C' g w'->Q Exit.normal (F A n C A' b C' g) w'):Code.wp P c Q a w:=
 Code.wp_mono (λe d w' h=>by obtain⟨A,n,C,A',b,C',g,rfl,rfl,h⟩:=h;exact h2 A n C A' b C' g w' h) h1
attribute [local go_sem ↓] z8l z7U
set_option maxRecDepth 1000000 in
theorem j3d(g:Nat)(p D:Pr)(v:PrV)(P:Nat->Prop)(w w5:World)(c o g4:Nat)(dl:List (Int×Int))(ud ut:Value)(hc:c<2)(hC:CAt 58 w g (prC p v))(hp:PIn P w p v)(hg:¬ P g)(g2:0<=p.t)(g3:p.t<=1099511627776)(HO:Hid (o=66+c*14))(HB:Hid (Bl w w5))(Q:Hid (CAt 68 w5 g4 #[.int .i64 1,.int .i64 p.h,.int .i64 0,.int .i64 0,ud,ut]))(Y:Hid (Rep (λ_=>True) w5 ud 2 16 (pwC dl)))(a0:Hid (Rep (λ_=>True) w5 ut 1 8 (inC (p.L c).done)))
  (HD:Hid (D=if Cd.z0n 1 p.h 0 0 dl (p.L c).done=0 then if Ln.z5O (p.L c).out (p.t+40)=0 then { p with L:=z0P p.L c { p.L c with out:=Ln.z4C (p.L c).out (Cd.encS 1 p.h 0 0 dl (p.L c).done) (p.t+40),told:=p.set,fresh:=false,done:=[]}} else p else p)) (v8 v9 a2 a3 a4 a5 a6 a7 a8 a9 b4 b5 b6 b7 b8 b9 c4 c5 c6 c7 c8 c9 d0 d1 d2 d3 d4 d5 d6 d7 d8 d9 e0 e1 e2 e3 e4 e5 e6 e7 e8 e9 f4 f5 f6 f7 f8 f9 g0:Value) :
  Code.wp prog j9C (bodyPost prog f80 (Turns w g P D)) ⟨List.toArray ((J2 (some ⟨g,0,none⟩)) :: (J2 (some ⟨g,o,none⟩)) :: undef :: undef :: (J2 (some ⟨g4,0,none⟩)) :: undef :: undef :: undef :: v8 :: v9 :: a2 :: a3 :: a4 :: a5 :: a6 :: a7 :: a8 :: a9 :: b4 :: b5 :: b6 :: b7 :: b8 :: b9 :: c4 :: c5 :: c6 :: c7 :: c8 :: c9 :: d0 :: d1 :: d2 :: d3 :: d4 :: d5 :: d6 :: d7 :: d8 :: d9 :: e0 :: e1 :: e2 :: e3 :: e4 :: e5 :: e6 :: e7 :: e8 :: e9 :: f4 :: f5 :: f6 :: f7 :: f8 :: f9 :: g0 :: undef :: undef :: undef :: undef :: undef :: undef :: undef :: undef :: undef :: undef :: undef :: undef :: undef :: undef :: undef :: undef :: undef :: undef :: undef :: undef :: undef :: undef :: undef :: undef :: undef :: undef :: undef :: undef :: undef :: undef :: undef :: undef :: undef :: undef :: undef :: undef :: undef :: undef :: undef :: undef :: undef :: []),[]⟩ w5:=by
 conv=>arg 2;whnf
 have X:=J6 hp;have HC:=J6 hC;have g5:=hC.lt;obtain⟨A1,C1,A2,C2,sb,so,db,dO,rfl,rfl,hL⟩:=Rep.lies Y.out a0.out;have R:=J6 (Cd.z6E 1 p.h 0 0 dl (p.L c).done A1 A2 C1 C2 sb so db dO w5 hL);generalize Cd.encS 1 p.h 0 0 dl (p.L c).done=es at *;generalize Cd.z0n 1 p.h 0 0 dl (p.L c).done=E0 at *;have k0:w5.cell? ⟨g4,0,none⟩=some (.int .i64 1):=Q.out.cell 0;have k1:w5.cell? ⟨g4,0+1,none⟩=some (.int .i64 p.h):=Q.out.cell 1;have k2:w5.cell? ⟨g4,0+2,none⟩=some (.int .i64 0):=Q.out.cell 2;have k3:w5.cell? ⟨g4,0+3,none⟩=some (.int .i64 0):=Q.out.cell 3;have k4:w5.cell? ⟨g4,0+4,none⟩=some (J1 A1 dl.length C1):=Q.out.cell 4;have k5:w5.cell? ⟨g4,0+5,none⟩=some (J1 A2 (p.L c).done.length C2):=Q.out.cell 5;clear hL Q Y a0 hC hp
 by_cases hE:E0=0
 rotate_left
 ·have hq:Hid (D=p):=HD.out.trans (if_neg hE);have g6:(E0 != 0)=true:=by simpa using hE
  clear HD
  go_wp2_with (go_at_call 117;refine R.out.mono ?_;rintro e w6⟨rfl,s⟩;have f:=J6 (zbt HB.out s);clear s)
  go_end0;rw[hq.out];exact⟨v,rfl,HC.out.over f.out,X.out.z2X f.out 0,Alt.of f.out⟩
 subst hE;replace HD:=J6 (HD.out.trans (if_pos rfl))
 go_upto_region 4 with(go_at_call 117;refine R.out.mono ?_;rintro e w6⟨rfl,s⟩;have f:=J6 (zbt HB.out s);clear s k0 k1 k2 k3 k4 k5)
 have m:=f.out.size;obtain⟨As,ns,Cs,T⟩:=(X.out.lk c hc).said.one';obtain⟨Ae,ne,Ce,U⟩:=(X.out.lk c hc).due.one';have V:=J6 (λ(d:World) (hb:Bl w6 d)=>q9o (p.L c).out es (p.t+40) (v.l c).said (v.l c).due (λb=>P b/\b<w.heap.size) d (((X.out.lk c hc).said.mono λb hl h=>⟨h,hl⟩).over (f.out.trans (hb.mono m))) (((X.out.lk c hc).due.mono λb hl h=>⟨h,hl⟩).over (f.out.trans (hb.mono m))));rw[T,U]at V
 have HF:Hid (∀d,Bl w6 d->d.cell? ⟨g,o+6,none⟩=some (J1 As ns Cs)/\d.cell? ⟨g,o+6+1,none⟩=some (J1 Ae ne Ce)/\d.cell? ⟨g,o+6+2,none⟩=some (.int .i64 (p.L c).out.g)/\d.cell? ⟨g,o+6+3,none⟩=some (J3 (p.L c).out.cl)/\d.cell? ⟨g,1,none⟩=some (.int .i64 p.t)):=λd hb=>by
  have C:=HC.out.over (f.out.trans (hb.mono m));have hf:=(C.lk hc).facts;rw[<-HO.out,T,U]at hf;exact⟨hf.2.2.2.2.2.2.1,hf.2.2.2.2.2.2.2.1,hf.2.2.2.2.2.2.2.2.1,hf.2.2.2.2.2.2.2.2.2,C.cell 1⟩
 clear T U;generalize Ln.z4C (p.L c).out es (p.t+40)=x at *;generalize Ln.z5O (p.L c).out (p.t+40)=E1 at *;generalize (p.L c).out.g=gg at *;generalize (p.L c).out.cl=gc at *;have a1:Hid (Bl w6 (w6.alloc (J5 Z4 48))):=znw w6 _;have u:=J6 a1.out.drew;have B:Hid (CAt 48 (w6.alloc (J5 Z4 48)).drew w6.heap.size Z4):=CAt.new 48 w6 Z4;have g1:Hid (w6.heap.size+1<=(w6.alloc (J5 Z4 48)).drew.heap.size):=B.out.lt;have y:=J6 m;have g8:IntKind.i64.wrap (p.t+40)=p.t+40:=z5z (by omega) (by omega)
 clear m R;unfold Z4 at a1 u;apply j2v (λA n C A' n' C' g7 w'=>Sds P w w6 x (J1 A n C) (J1 A' n' C') g7 w')
 ·refine wp_region_noPanic ?_;refine wp_region_held_drew (S:=λd=>Bl w6 d) (by kernel_rfl) (Below.refl _ _).drew (λr=>?_)
  refine O.Z 0 (J2 (some ⟨g,o,none⟩)) 65 rfl rfl r (λd a=>?_) ?_
  ·try dsimp only at a
   go_simp
  simp only[O.pp,O.pb,O.pc];refine O.Z 1 (J2 (some ⟨g,o,none⟩)) 66 rfl rfl r (λd a=>?_) ?_
  ·try dsimp only at a
   go_simp
  simp only[O.pp,O.pb,O.pc];refine O.Z 2 (J2 (some ⟨g,o+6,none⟩)) 67 rfl rfl r (λd a=>?_) ?_
  ·try dsimp only at a
   go_simp
  simp only[O.pp,O.pb,O.pc];refine O.Z 3 (J4 #[J1 As ns Cs,J1 Ae ne Ce,.int .i64 gg,J3 gc]) 68 rfl rfl r (λd a=>?_) ?_
  ·try dsimp only at a
   obtain⟨l6,l7,l8,l9,l1⟩:=HF.out d a;go_simp
  simp only[O.pp,O.pb,O.pc];refine O.Z 4 (.string es) 69 rfl rfl r (λd a=>?_) ?_
  ·try dsimp only at a
   go_simp
  simp only[O.pp,O.pb,O.pc];refine O.Z 5 (J2 (some ⟨g,0,none⟩)) 70 rfl rfl r (λd a=>?_) ?_
  ·try dsimp only at a
   go_simp
  simp only[O.pp,O.pb,O.pc];refine O.Z 6 (J2 (some ⟨g,0,none⟩)) 71 rfl rfl r (λd a=>?_) ?_
  ·try dsimp only at a
   go_simp
  simp only[O.pp,O.pb,O.pc];refine O.Z 7 (J2 (some ⟨g,1,none⟩)) 72 rfl rfl r (λd a=>?_) ?_
  ·try dsimp only at a
   go_simp
  simp only[O.pp,O.pb,O.pc];refine O.Z 8 (.int .i64 p.t) 73 rfl rfl r (λd a=>?_) ?_
  ·try dsimp only at a
   obtain⟨l6,l7,l8,l9,l1⟩:=HF.out d a;go_simp
  simp only[O.pp,O.pb,O.pc];refine O.Z 9 (.int .i64 (p.t+40)) 74 rfl rfl r (λd a=>?_) ?_
  ·try dsimp only at a
   go_simp
  simp only[O.pp,O.pb,O.pc];refine O.z4n (i:=10) (j:=14) (by kernel_rfl) rfl rfl rfl rfl (λK q=>?_) (λK q=>?_)
  ·go_simp
   go_at_call 118
   refine(V.out _ (by with_reducible exact(Below.refl w6.heap.size w6).drew)).mono ?_
   rintro e wb⟨u1,u2,rfl,U1,U2,z⟩;obtain⟨E,F,G,rfl⟩:=U1.one';obtain⟨H,M,N,rfl⟩:=U2.one';have hb:=(Below.refl w6.heap.size w6).drew.trans (z.mono (Below.refl w6.heap.size w6).drew.size);dsimp only;refine q _ _ hb ?_;clear q K
   try simp only[O.pp,O.pb,O.pc]
   refine O.Z 11 (.tuple #[J4 #[J1 E F G,J1 H M N,.int .i64 x.g,J3 x.cl],.int .i64 E1]) 64 rfl rfl hb (λd a=>?_) ?_
   ·try dsimp only at a
    go_simp
   simp only[O.pp,O.pb,O.pc];refine O.Z 12 (J4 #[J1 E F G,J1 H M N,.int .i64 x.g,J3 x.cl]) 76 rfl rfl hb (λd a=>?_) ?_
   ·try dsimp only at a
    go_simp
   simp only[O.pp,O.pb,O.pc];refine O.Z 13 (.int .i64 E1) 77 rfl rfl hb (λd a=>?_) ?_
   ·try dsimp only at a
    go_simp
   simp only[O.pp,O.pb,O.pc];refine O.z1k (i:=14) (by kernel_rfl) rfl rfl (λK q=>?_)
   go_simp;refine q _ _ (hb.alloc hb.size _) ?_;clear q K
   try simp only[O.pp,O.pb,O.pc]
   obtain⟨wS,sA,k⟩:=j7t (P:=P) y.out (Nat.le_refl _) U1 U2 hb;unfold Z4 at sA;refine O.z1k (i:=15) (by kernel_rfl) rfl rfl (λK q=>?_)
   go_simp;refine q _ _ k.bel ?_;clear q K;refine O.Z 16 (.int .i64 E1) 6 rfl rfl k.bel (λd a=>?_) ?_
   ·try dsimp only at a
    go_simp
   simp only[O.pp,O.pb,O.pc];refine wpAnyH_done (by kernel_rfl) ?_ _
   obtain⟨gn,W⟩:∃gn,gn=wb.heap.size:=⟨_,rfl⟩;rw[<-W]at k⊢;exact NoPanic.normal ⟨E,F,G,H,M,N,gn,rfl,rfl,k⟩
  ·go_simp;refine q _ _ (r.alloc r.size _) ?_;clear q K
   try simp only[O.pp,O.pb,O.pc]
   refine O.z1k (i:=10) (by kernel_rfl) rfl rfl (λK q=>?_)
   go_simp
   go_at_call 118
   refine(V.out _ (by with_reducible exact u.out)).mono ?_
   rintro e wb⟨u1,u2,rfl,U1,U2,z⟩;obtain⟨E,F,G,rfl⟩:=U1.one';obtain⟨H,M,N,rfl⟩:=U2.one';have hb:=zbt u.out z;dsimp only;refine q _ _ hb ?_;clear q K
   try simp only[O.pp,O.pb,O.pc]
   refine O.Z 11 (.tuple #[J4 #[J1 E F G,J1 H M N,.int .i64 x.g,J3 x.cl],.int .i64 E1]) 64 rfl rfl hb (λd a=>?_) ?_
   ·try dsimp only at a
    go_simp
   simp only[O.pp,O.pb,O.pc];refine O.Z 12 (J4 #[J1 E F G,J1 H M N,.int .i64 x.g,J3 x.cl]) 76 rfl rfl hb (λd a=>?_) ?_
   ·try dsimp only at a
    go_simp
   simp only[O.pp,O.pb,O.pc];refine O.Z 13 (.int .i64 E1) 77 rfl rfl hb (λd a=>?_) ?_
   ·try dsimp only at a
    go_simp
   simp only[O.pp,O.pb,O.pc];obtain⟨wS,sC,k⟩:=j5E (P:=P) y.out g1.out U1 U2 hb (B.out.over z);refine O.z1k (i:=15) (by kernel_rfl) rfl rfl (λK q=>?_)
   go_simp;refine q _ _ k.bel ?_;clear q K;refine O.Z 16 (.int .i64 E1) 6 rfl rfl k.bel (λd a=>?_) ?_
   ·try dsimp only at a
    go_simp
   simp only[O.pp,O.pb,O.pc];refine wpAnyH_done (by kernel_rfl) ?_ _
   obtain⟨gn,W⟩:∃gn,gn=w6.heap.size:=⟨_,rfl⟩;rw[<-W]at k⊢;exact NoPanic.normal ⟨E,F,G,H,M,N,gn,rfl,rfl,k⟩
 rintro E F G H M N g7 w7 S7;simp only[Exit.then];apply_assumption;refine j2K g p D v P w w7 c o g7 x _ _ E1 hc HC.out X.out hg HO (f.out.trans (S7.bel.mono y.out)) (Nat.le_trans y.out S7.le) S7.cat S7.r1 S7.r2 HD _ _ _ _ _ _ _ _ _ _ _ _ _ _ _ _ _ _ _ _ _ _ _ _ _ _ _ _ _ _ _ _ _ _ _ _ _ _ _ _ _ _ _ _ _ _ _ _ _ _ _ _ _ _ _ _ _ _ _ _ _ _ _ _ _ _ _ _ _ _ _ _ _ _ _ _ _ _ _ _ _ _ _ _ _ _ _ _ _ _ _ _ _ _
end Pv
end Go.Proofs.YtddlhnoedldidaaGreat
