/- Parts of the proof. -/
import Derived.Test.YtddlhnoedldidaaGreatML
import Derived.Test.YtddlhnoedldidaaGreatMK42
import Derived.Test.YtddlhnoedldidaaGreatMK45
set_option maxRecDepth 100000
set_option maxHeartbeats 16000000
namespace Go.Proofs.YtddlhnoedldidaaGreat
open Go.Proofs.Tryz
open Value renaming int->J,slice->J1,pointer->J2,bool->J3,agg->J4
open IntKind renaming i64->I
open Obj renaming cells->J5
namespace Wd
open Go.RowKit Pv
structure Row(w:World)(A:Option Addr)(n C sz:Nat)(cs:List Value):Prop where
 len:cs.length=n * sz
 nil:A=none->n=0/\C=0
 at_:∀ ad,A=some ad->∀ j u,cs[j]?=some u->w.cell? (ad.add j)=some u
theorem row_of{P:Nat->Prop}{w:World}{v:Value}{sz bts:Nat}{cs:List Value}(h:Rep P w v sz bts cs){n:Nat}(a:cs.length=n * sz)(b:0<sz):∃ A C,v=J1 A n C/\Row w A n C sz cs/\n * bts<=140737488351232:=by
 obtain⟨A,C,rfl,c,h0,-,h1⟩:=h.open a b;exact⟨A,C,rfl,⟨a,h0,h1⟩,c⟩
theorem z3b{P:Nat->Prop}{w:World}{v:Value}{sz bts:Nat}{cs:List Value}(h:z0C P w v sz bts cs){n:Nat}(a:cs.length=n * sz)(b:0<sz):∃ A C,v=J1 A n C/\Row w A n C sz cs/\n * bts<=140737488351232:=by
 obtain⟨A,m,C,C',rfl,hc,c⟩:=h;obtain⟨f,g,e,d,h0,-,h1⟩:=c.open a b;cases e;exact⟨A,C,rfl,⟨a,fun e=>⟨(h0 e).1,hc e⟩,h1⟩,d⟩
theorem j5X:(prog.info? 3).map (fun i=>(i.zero,i.size,i.bytes))=some (some (J I 0),1,8):=by kernel_rfl
theorem q3o(w:World)(a:Option Addr)(n c:Nat):(binOp .eql 45 (J1 a n c) (J1 none 0 0)).run prog w=.ok (J3 a.isNone) w:=by
 simp[binOp,run_equal_slice_nil w 45 3 a n c underlying45]
theorem j0b(w:World):(w.alloc (J5 #[] 3)).ownsRow w.heap.size 3 1 (J1 (some ⟨w.heap.size,0,none⟩) 0 0) 0 []:=⟨rfl,.inr ⟨w.heap.size,0,#[],rfl,Nat.le_refl _,heap_alloc_new _ _,Nat.le_refl _,Nat.zero_le _,rfl,rfl⟩⟩
theorem q7r(w:World)(a:Addr)(n c:Nat)(cs:List Value)(h:Row w (some a) n c 1 cs)(h1:∀ u∈cs,u.oneCell'=true)(hb:n * 8<=140737488351232) :
  ∃ A C w',(Builtin.append_ #[45,45] 45 #[J1 (some ⟨w.heap.size,0,none⟩) 0 0,J1 (some a) n c]).run prog (w.alloc (J5 #[] 3))=.ok (J1 A n C) w'/\w'.ownsRow w.heap.size 3 1 (J1 A n C) n cs/\Bl w w':=by
 obtain⟨i0,m,d,e,f⟩:=info_parts j5X
 have i:∀ j u,cs[j]?=some u->(w.alloc (J5 #[] 3)).cell? (a.add j)=some u:=fun j u o=>by
  have h2:=h.at_ a rfl j u o;have h3:(a.add j).block<w.heap.size:=World.block_lt_of_cell? w _ h2;rw[((Below.refl w.heap.size w).alloc (Nat.le_refl _) (J5 #[] 3)).cell h3];exact h2
 obtain⟨v',w',p,l,b,-,q⟩:=run_append_own_at (P:=prog) (w.alloc (J5 #[] 3)) w.heap.size 45 45 3 i0 _ 1 8 underlying45 m d e f rfl (by omega) _ 0 [] (j0b w) a n c cs h.len
  i h1 (by simp only[maxLen];omega) (by omega) (by simp)
 rw[Nat.zero_add,List.nil_append]at l
 have r:∃ A C,v'=J1 A n C:=by
  rcases l.2 with⟨rfl,h0⟩ | ⟨g,cap,cur,rfl,_⟩
  ·rw[h0];exact⟨none,0,rfl⟩
  ·exact⟨_,_,rfl⟩
 obtain⟨A,C,rfl⟩:=r;refine⟨A,C,w',p,l,?_⟩;have hb:=(Below.refl w.heap.size w).alloc (Nat.le_refl _) (J5 #[] 3);exact⟨b.os.trans hb.os,b.tape.trans hb.tape,b.output.trans hb.output,Nat.le_trans hb.size b.size,fun k s=>(b.block k (by simp;omega) (by simp[Value.ownBlock];omega)).trans (hb.block k s)⟩
theorem z9b{ops:Array Oper}{rest:List Oper}{o:Oper}{a:Act}{w:World}{Q:Exit->Act->World->Prop}(f:o.guard=none)(b:o.type=45)(p q:Operand)
  (d:o.op=Op.call { callee:=Callee.builtin Builtin.append,args:=#[p,q],argTypes:=#[45,45] }) (ad:Addr) (n c:Nat) (cs:List Value) (g:a.eval p=J1 (some ⟨w.heap.size,0,none⟩) 0 0) (i:a.eval q=J1 (some ad) n c) (h:Row w (some ad) n c 1 cs) (h1:∀ u∈cs,u.oneCell'=true) (hb:n * 8<=140737488351232)
  (j:∀ A C w',w'.ownsRow w.heap.size 3 1 (J1 A n C) n cs/\Bl w w'->wpList prog ops Q rest (a.put o.dst (J1 A n C)) w'):wpList prog ops Q (o :: rest) a (w.alloc (J5 #[] 3)):=by
 refine wpList_plain f fun _ e=>?_;unfold Oper.wp;obtain⟨A,C,w',k,h1⟩:=q7r w ad n c cs h h1 hb
 simp[execOp,d,resolve,invoke,builtin,g,i,b,k,Result.andThen]
 exact e _ _ (j _ _ _ h1)
theorem z6j(A:Option Addr)(n C:Nat)(cs:List Value)(w:World)(h:Row w A n C 1 cs)(h1:∀ u∈cs,u.oneCell'=true)(hb:n * 8<=140737488351232) :
  Calls prog 40 #[J1 A n C] w fun e w'=>∃ A' C',e=.returned (J1 A' n C')/\Rep (fun b=>w.heap.size<=b) w' (J1 A' n C') 1 8 cs/\Bl w w':=by
 cases A with
 | none =>
  obtain⟨rfl,rfl⟩:=h.nil rfl;obtain rfl:cs=[]:=List.length_eq_zero_iff.1 (by rw[h.len])
  have d:=fun w=>q3o w none 0 0;clear h h1
  go_enter func40,ntmps40
  go_wp2;go_ret;exact⟨_,_,rfl,Rep.nil _ _ _ _,Below.refl _ _⟩
 | some a =>
  have d:=fun w=>q3o w (some a) n C;have f:=J6 h;have c:=J6 h1;clear h h1
  go_enter func40,ntmps40
  go_upto_region 3 with fail
  apply wp_region_lit
  iterate 6 go_step
  refine z9b rfl rfl _ _ rfl a n C cs rfl rfl f.out c.out hb ?_;rintro A' C' w'⟨h1,h2⟩;have c:=J6 h1;have g:=J6 h2;clear h1 h2;go_wp2;go_ret;exact⟨_,_,rfl,Rep.own c.out hb,g.out⟩
theorem j6u:(prog.info? 9).map (fun i=>(i.zero,i.size,i.bytes))=some (some (.string ⟨#[]⟩),1,16):=by kernel_rfl
theorem q3j(w:World)(a:Option Addr)(n c:Nat):(binOp .eql 46 (J1 a n c) (J1 none 0 0)).run prog w=.ok (J3 a.isNone) w:=by
 simp[binOp,run_equal_slice_nil w 46 9 a n c underlying46]
theorem j0h(w:World):(w.alloc (J5 #[] 9)).ownsRow w.heap.size 9 1 (J1 (some ⟨w.heap.size,0,none⟩) 0 0) 0 []:=⟨rfl,.inr ⟨w.heap.size,0,#[],rfl,Nat.le_refl _,heap_alloc_new _ _,Nat.le_refl _,Nat.zero_le _,rfl,rfl⟩⟩
theorem q6T(w:World)(a:Addr)(n c:Nat)(cs:List Value)(h:Row w (some a) n c 1 cs)(h1:∀ u∈cs,u.oneCell'=true)(hb:n * 16<=140737488351232) :
  ∃ A C w',(Builtin.append_ #[46,46] 46 #[J1 (some ⟨w.heap.size,0,none⟩) 0 0,J1 (some a) n c]).run prog (w.alloc (J5 #[] 9))=.ok (J1 A n C) w'/\w'.ownsRow w.heap.size 9 1 (J1 A n C) n cs/\Bl w w':=by
 obtain⟨i0,m,d,e,f⟩:=info_parts j6u
 have i:∀ j u,cs[j]?=some u->(w.alloc (J5 #[] 9)).cell? (a.add j)=some u:=fun j u o=>by
  have h2:=h.at_ a rfl j u o;have h3:(a.add j).block<w.heap.size:=World.block_lt_of_cell? w _ h2;rw[((Below.refl w.heap.size w).alloc (Nat.le_refl _) (J5 #[] 9)).cell h3];exact h2
 obtain⟨v',w',p,l,b,-,q⟩:=run_append_own_at (P:=prog) (w.alloc (J5 #[] 9)) w.heap.size 46 46 9 i0 _ 1 16 underlying46 m d e f rfl (by omega) _ 0 [] (j0h w) a n c cs h.len
  i h1 (by simp only[maxLen];omega) (by omega) (by simp)
 rw[Nat.zero_add,List.nil_append]at l
 have r:∃ A C,v'=J1 A n C:=by
  rcases l.2 with⟨rfl,h0⟩ | ⟨g,cap,cur,rfl,_⟩
  ·rw[h0];exact⟨none,0,rfl⟩
  ·exact⟨_,_,rfl⟩
 obtain⟨A,C,rfl⟩:=r;refine⟨A,C,w',p,l,?_⟩;have hb:=(Below.refl w.heap.size w).alloc (Nat.le_refl _) (J5 #[] 9);exact⟨b.os.trans hb.os,b.tape.trans hb.tape,b.output.trans hb.output,Nat.le_trans hb.size b.size,fun k s=>(b.block k (by simp;omega) (by simp[Value.ownBlock];omega)).trans (hb.block k s)⟩
theorem z8u{ops:Array Oper}{rest:List Oper}{o:Oper}{a:Act}{w:World}{Q:Exit->Act->World->Prop}(f:o.guard=none)(b:o.type=46)(p q:Operand)
  (d:o.op=Op.call { callee:=Callee.builtin Builtin.append,args:=#[p,q],argTypes:=#[46,46] }) (ad:Addr) (n c:Nat) (cs:List Value) (g:a.eval p=J1 (some ⟨w.heap.size,0,none⟩) 0 0) (i:a.eval q=J1 (some ad) n c) (h:Row w (some ad) n c 1 cs) (h1:∀ u∈cs,u.oneCell'=true) (hb:n * 16<=140737488351232)
  (j:∀ A C w',w'.ownsRow w.heap.size 9 1 (J1 A n C) n cs/\Bl w w'->wpList prog ops Q rest (a.put o.dst (J1 A n C)) w'):wpList prog ops Q (o :: rest) a (w.alloc (J5 #[] 9)):=by
 refine wpList_plain f fun _ e=>?_;unfold Oper.wp;obtain⟨A,C,w',k,h1⟩:=q6T w ad n c cs h h1 hb
 simp[execOp,d,resolve,invoke,builtin,g,i,b,k,Result.andThen]
 exact e _ _ (j _ _ _ h1)
theorem q5m(A:Option Addr)(n C:Nat)(cs:List Value)(w:World)(h:Row w A n C 1 cs)(h1:∀ u∈cs,u.oneCell'=true)(hb:n * 16<=140737488351232) :
  Calls prog 66 #[J1 A n C] w fun e w'=>∃ A' C',e=.returned (J1 A' n C')/\Rep (fun b=>w.heap.size<=b) w' (J1 A' n C') 1 16 cs/\Bl w w':=by
 cases A with
 | none =>
  obtain⟨rfl,rfl⟩:=h.nil rfl;obtain rfl:cs=[]:=List.length_eq_zero_iff.1 (by rw[h.len])
  have d:=fun w=>q3j w none 0 0;clear h h1
  go_enter func66,ntmps66
  go_wp2;go_ret;exact⟨_,_,rfl,Rep.nil _ _ _ _,Below.refl _ _⟩
 | some a =>
  have d:=fun w=>q3j w (some a) n C;have f:=J6 h;have c:=J6 h1;clear h h1
  go_enter func66,ntmps66
  go_upto_region 3 with fail
  apply wp_region_lit
  iterate 6 go_step
  refine z8u rfl rfl _ _ rfl a n C cs rfl rfl f.out c.out hb ?_;rintro A' C' w'⟨h1,h2⟩;have c:=J6 h1;have g:=J6 h2;clear h1 h2;go_wp2;go_ret;exact⟨_,_,rfl,Rep.own c.out hb,g.out⟩
theorem j7i:(prog.info? 70).map (fun i=>(i.zero,i.size,i.bytes))=some (some (J4 #[J I 0,J I 0,J I 0,J I 0,J I 0,J1 none 0 0,J1 none 0 0]),7,88):=by kernel_rfl
theorem j2P(w:World)(a:Option Addr)(n c:Nat):(binOp .eql 56 (J1 a n c) (J1 none 0 0)).run prog w=.ok (J3 a.isNone) w:=by
 simp[binOp,run_equal_slice_nil w 56 70 a n c underlying56]
theorem j0j(w:World):(w.alloc (J5 #[] 70)).ownsRow w.heap.size 70 7 (J1 (some ⟨w.heap.size,0,none⟩) 0 0) 0 []:=⟨rfl,.inr ⟨w.heap.size,0,#[],rfl,Nat.le_refl _,heap_alloc_new _ _,Nat.le_refl _,Nat.zero_le _,rfl,rfl⟩⟩
theorem q7B(w:World)(a:Addr)(n c:Nat)(cs:List Value)(h:Row w (some a) n c 7 cs)(h1:∀ u∈cs,u.oneCell'=true)(hb:n * 88<=140737488351232) :
  ∃ A C w',(Builtin.append_ #[56,56] 56 #[J1 (some ⟨w.heap.size,0,none⟩) 0 0,J1 (some a) n c]).run prog (w.alloc (J5 #[] 70))=.ok (J1 A n C) w'/\w'.ownsRow w.heap.size 70 7 (J1 A n C) n cs/\Bl w w':=by
 obtain⟨i0,m,d,e,f⟩:=info_parts j7i
 have i:∀ j u,cs[j]?=some u->(w.alloc (J5 #[] 70)).cell? (a.add j)=some u:=fun j u o=>by
  have h2:=h.at_ a rfl j u o;have h3:(a.add j).block<w.heap.size:=World.block_lt_of_cell? w _ h2;rw[((Below.refl w.heap.size w).alloc (Nat.le_refl _) (J5 #[] 70)).cell h3];exact h2
 obtain⟨v',w',p,l,b,-,q⟩:=run_append_own_at (P:=prog) (w.alloc (J5 #[] 70)) w.heap.size 56 56 70 i0 _ 7 88 underlying56 m d e f rfl (by omega) _ 0 [] (j0j w) a n c cs h.len
  i h1 (by simp only[maxLen];omega) (by omega) (by simp)
 rw[Nat.zero_add,List.nil_append]at l
 have r:∃ A C,v'=J1 A n C:=by
  rcases l.2 with⟨rfl,h0⟩ | ⟨g,cap,cur,rfl,_⟩
  ·rw[h0];exact⟨none,0,rfl⟩
  ·exact⟨_,_,rfl⟩
 obtain⟨A,C,rfl⟩:=r;refine⟨A,C,w',p,l,?_⟩;have hb:=(Below.refl w.heap.size w).alloc (Nat.le_refl _) (J5 #[] 70);exact⟨b.os.trans hb.os,b.tape.trans hb.tape,b.output.trans hb.output,Nat.le_trans hb.size b.size,fun k s=>(b.block k (by simp;omega) (by simp[Value.ownBlock];omega)).trans (hb.block k s)⟩
theorem q5v{ops:Array Oper}{rest:List Oper}{o:Oper}{a:Act}{w:World}{Q:Exit->Act->World->Prop}(f:o.guard=none)(b:o.type=56)(p q:Operand)
  (d:o.op=Op.call { callee:=Callee.builtin Builtin.append,args:=#[p,q],argTypes:=#[56,56] }) (ad:Addr) (n c:Nat) (cs:List Value) (g:a.eval p=J1 (some ⟨w.heap.size,0,none⟩) 0 0) (i:a.eval q=J1 (some ad) n c) (h:Row w (some ad) n c 7 cs) (h1:∀ u∈cs,u.oneCell'=true) (hb:n * 88<=140737488351232)
  (j:∀ A C w',w'.ownsRow w.heap.size 70 7 (J1 A n C) n cs/\Bl w w'->wpList prog ops Q rest (a.put o.dst (J1 A n C)) w'):wpList prog ops Q (o :: rest) a (w.alloc (J5 #[] 70)):=by
 refine wpList_plain f fun _ e=>?_;unfold Oper.wp;obtain⟨A,C,w',k,h1⟩:=q7B w ad n c cs h h1 hb
 simp[execOp,d,resolve,invoke,builtin,g,i,b,k,Result.andThen]
 exact e _ _ (j _ _ _ h1)
theorem j5J:(prog.info? 68).map (fun i=>(i.zero,i.size,i.bytes))=some (some (J4 #[J I 0,J I 0,J I 0,J I 0,J1 none 0 0,J1 none 0 0]),6,80):=by kernel_rfl
theorem j2G(w:World)(a:Option Addr)(n c:Nat):(binOp .eql 71 (J1 a n c) (J1 none 0 0)).run prog w=.ok (J3 a.isNone) w:=by
 simp[binOp,run_equal_slice_nil w 71 68 a n c underlying71]
theorem j0R(w:World):(w.alloc (J5 #[] 68)).ownsRow w.heap.size 68 6 (J1 (some ⟨w.heap.size,0,none⟩) 0 0) 0 []:=⟨rfl,.inr ⟨w.heap.size,0,#[],rfl,Nat.le_refl _,heap_alloc_new _ _,Nat.le_refl _,Nat.zero_le _,rfl,rfl⟩⟩
theorem q8F(w:World)(a:Addr)(n c:Nat)(cs:List Value)(h:Row w (some a) n c 6 cs)(h1:∀ u∈cs,u.oneCell'=true)(hb:n * 80<=140737488351232) :
  ∃ A C w',(Builtin.append_ #[71,71] 71 #[J1 (some ⟨w.heap.size,0,none⟩) 0 0,J1 (some a) n c]).run prog (w.alloc (J5 #[] 68))=.ok (J1 A n C) w'/\w'.ownsRow w.heap.size 68 6 (J1 A n C) n cs/\Bl w w':=by
 obtain⟨i0,m,d,e,f⟩:=info_parts j5J
 have i:∀ j u,cs[j]?=some u->(w.alloc (J5 #[] 68)).cell? (a.add j)=some u:=fun j u o=>by
  have h2:=h.at_ a rfl j u o;have h3:(a.add j).block<w.heap.size:=World.block_lt_of_cell? w _ h2;rw[((Below.refl w.heap.size w).alloc (Nat.le_refl _) (J5 #[] 68)).cell h3];exact h2
 obtain⟨v',w',p,l,b,-,q⟩:=run_append_own_at (P:=prog) (w.alloc (J5 #[] 68)) w.heap.size 71 71 68 i0 _ 6 80 underlying71 m d e f rfl (by omega) _ 0 [] (j0R w) a n c cs h.len
  i h1 (by simp only[maxLen];omega) (by omega) (by simp)
 rw[Nat.zero_add,List.nil_append]at l
 have r:∃ A C,v'=J1 A n C:=by
  rcases l.2 with⟨rfl,h0⟩ | ⟨g,cap,cur,rfl,_⟩
  ·rw[h0];exact⟨none,0,rfl⟩
  ·exact⟨_,_,rfl⟩
 obtain⟨A,C,rfl⟩:=r;refine⟨A,C,w',p,l,?_⟩;have hb:=(Below.refl w.heap.size w).alloc (Nat.le_refl _) (J5 #[] 68);exact⟨b.os.trans hb.os,b.tape.trans hb.tape,b.output.trans hb.output,Nat.le_trans hb.size b.size,fun k s=>(b.block k (by simp;omega) (by simp[Value.ownBlock];omega)).trans (hb.block k s)⟩
theorem q4C{ops:Array Oper}{rest:List Oper}{o:Oper}{a:Act}{w:World}{Q:Exit->Act->World->Prop}(f:o.guard=none)(b:o.type=71)(p q:Operand)
  (d:o.op=Op.call { callee:=Callee.builtin Builtin.append,args:=#[p,q],argTypes:=#[71,71] }) (ad:Addr) (n c:Nat) (cs:List Value) (g:a.eval p=J1 (some ⟨w.heap.size,0,none⟩) 0 0) (i:a.eval q=J1 (some ad) n c) (h:Row w (some ad) n c 6 cs) (h1:∀ u∈cs,u.oneCell'=true) (hb:n * 80<=140737488351232)
  (j:∀ A C w',w'.ownsRow w.heap.size 68 6 (J1 A n C) n cs/\Bl w w'->wpList prog ops Q rest (a.put o.dst (J1 A n C)) w'):wpList prog ops Q (o :: rest) a (w.alloc (J5 #[] 68)):=by
 refine wpList_plain f fun _ e=>?_;unfold Oper.wp;obtain⟨A,C,w',k,h1⟩:=q8F w ad n c cs h h1 hb
 simp[execOp,d,resolve,invoke,builtin,g,i,b,k,Result.andThen]
 exact e _ _ (j _ _ _ h1)
theorem j6x:(prog.info? 79).map (fun i=>(i.zero,i.size,i.bytes))=some (some (J4 #[J I 0,J I 0]),2,16):=by kernel_rfl
theorem q3P(w:World)(a:Option Addr)(n c:Nat):(binOp .eql 72 (J1 a n c) (J1 none 0 0)).run prog w=.ok (J3 a.isNone) w:=by
 simp[binOp,run_equal_slice_nil w 72 79 a n c underlying72]
theorem j0S(w:World):(w.alloc (J5 #[] 79)).ownsRow w.heap.size 79 2 (J1 (some ⟨w.heap.size,0,none⟩) 0 0) 0 []:=⟨rfl,.inr ⟨w.heap.size,0,#[],rfl,Nat.le_refl _,heap_alloc_new _ _,Nat.le_refl _,Nat.zero_le _,rfl,rfl⟩⟩
theorem q6i(w:World)(a:Addr)(n c:Nat)(cs:List Value)(h:Row w (some a) n c 2 cs)(h1:∀ u∈cs,u.oneCell'=true)(hb:n * 16<=140737488351232) :
  ∃ A C w',(Builtin.append_ #[72,72] 72 #[J1 (some ⟨w.heap.size,0,none⟩) 0 0,J1 (some a) n c]).run prog (w.alloc (J5 #[] 79))=.ok (J1 A n C) w'/\w'.ownsRow w.heap.size 79 2 (J1 A n C) n cs/\Bl w w':=by
 obtain⟨i0,m,d,e,f⟩:=info_parts j6x
 have i:∀ j u,cs[j]?=some u->(w.alloc (J5 #[] 79)).cell? (a.add j)=some u:=fun j u o=>by
  have h2:=h.at_ a rfl j u o;have h3:(a.add j).block<w.heap.size:=World.block_lt_of_cell? w _ h2;rw[((Below.refl w.heap.size w).alloc (Nat.le_refl _) (J5 #[] 79)).cell h3];exact h2
 obtain⟨v',w',p,l,b,-,q⟩:=run_append_own_at (P:=prog) (w.alloc (J5 #[] 79)) w.heap.size 72 72 79 i0 _ 2 16 underlying72 m d e f rfl (by omega) _ 0 [] (j0S w) a n c cs h.len
  i h1 (by simp only[maxLen];omega) (by omega) (by simp)
 rw[Nat.zero_add,List.nil_append]at l
 have r:∃ A C,v'=J1 A n C:=by
  rcases l.2 with⟨rfl,h0⟩ | ⟨g,cap,cur,rfl,_⟩
  ·rw[h0];exact⟨none,0,rfl⟩
  ·exact⟨_,_,rfl⟩
 obtain⟨A,C,rfl⟩:=r;refine⟨A,C,w',p,l,?_⟩;have hb:=(Below.refl w.heap.size w).alloc (Nat.le_refl _) (J5 #[] 79);exact⟨b.os.trans hb.os,b.tape.trans hb.tape,b.output.trans hb.output,Nat.le_trans hb.size b.size,fun k s=>(b.block k (by simp;omega) (by simp[Value.ownBlock];omega)).trans (hb.block k s)⟩
theorem z8T{ops:Array Oper}{rest:List Oper}{o:Oper}{a:Act}{w:World}{Q:Exit->Act->World->Prop}(f:o.guard=none)(b:o.type=72)(p q:Operand)
  (d:o.op=Op.call { callee:=Callee.builtin Builtin.append,args:=#[p,q],argTypes:=#[72,72] }) (ad:Addr) (n c:Nat) (cs:List Value) (g:a.eval p=J1 (some ⟨w.heap.size,0,none⟩) 0 0) (i:a.eval q=J1 (some ad) n c) (h:Row w (some ad) n c 2 cs) (h1:∀ u∈cs,u.oneCell'=true) (hb:n * 16<=140737488351232)
  (j:∀ A C w',w'.ownsRow w.heap.size 79 2 (J1 A n C) n cs/\Bl w w'->wpList prog ops Q rest (a.put o.dst (J1 A n C)) w'):wpList prog ops Q (o :: rest) a (w.alloc (J5 #[] 79)):=by
 refine wpList_plain f fun _ e=>?_;unfold Oper.wp;obtain⟨A,C,w',k,h1⟩:=q6i w ad n c cs h h1 hb
 simp[execOp,d,resolve,invoke,builtin,g,i,b,k,Result.andThen]
 exact e _ _ (j _ _ _ h1)
theorem q5y(A:Option Addr)(n C:Nat)(cs:List Value)(w:World)(h:Row w A n C 2 cs)(h1:∀ u∈cs,u.oneCell'=true)(hb:n * 16<=140737488351232) :
  Calls prog 45 #[J1 A n C] w fun e w'=>∃ A' C',e=.returned (J1 A' n C')/\Rep (fun b=>w.heap.size<=b) w' (J1 A' n C') 2 16 cs/\Bl w w':=by
 cases A with
 | none =>
  obtain⟨rfl,rfl⟩:=h.nil rfl;obtain rfl:cs=[]:=List.length_eq_zero_iff.1 (by rw[h.len])
  have d:=fun w=>q3P w none 0 0;clear h h1
  go_enter func45,ntmps45
  go_wp2;go_ret;exact⟨_,_,rfl,Rep.nil _ _ _ _,Below.refl _ _⟩
 | some a =>
  have d:=fun w=>q3P w (some a) n C;have f:=J6 h;have c:=J6 h1;clear h h1
  go_enter func45,ntmps45
  go_upto_region 3 with fail
  apply wp_region_lit
  iterate 6 go_step
  refine z8T rfl rfl _ _ rfl a n C cs rfl rfl f.out c.out hb ?_;rintro A' C' w'⟨h1,h2⟩;have c:=J6 h1;have g:=J6 h2;clear h1 h2;go_wp2;go_ret;exact⟨_,_,rfl,Rep.own c.out hb,g.out⟩
theorem j6f:(prog.info? 65).map (fun i=>(i.zero,i.size,i.bytes))=some (some (J4 #[J I 0,J I 0]),2,16):=by kernel_rfl
theorem z7k(w:World)(a:Option Addr)(n c:Nat):(binOp .eql 44 (J1 a n c) (J1 none 0 0)).run prog w=.ok (J3 a.isNone) w:=by
 simp[binOp,run_equal_slice_nil w 44 65 a n c underlying44]
theorem z9r(w:World):(w.alloc (J5 #[] 65)).ownsRow w.heap.size 65 2 (J1 (some ⟨w.heap.size,0,none⟩) 0 0) 0 []:=⟨rfl,.inr ⟨w.heap.size,0,#[],rfl,Nat.le_refl _,heap_alloc_new _ _,Nat.le_refl _,Nat.zero_le _,rfl,rfl⟩⟩
theorem z7B(w:World)(a:Addr)(n c:Nat)(cs:List Value)(h:Row w (some a) n c 2 cs)(h1:∀ u∈cs,u.oneCell'=true)(hb:n * 16<=140737488351232) :
  ∃ A C w',(Builtin.append_ #[44,44] 44 #[J1 (some ⟨w.heap.size,0,none⟩) 0 0,J1 (some a) n c]).run prog (w.alloc (J5 #[] 65))=.ok (J1 A n C) w'/\w'.ownsRow w.heap.size 65 2 (J1 A n C) n cs/\Bl w w':=by
 obtain⟨i0,m,d,e,f⟩:=info_parts j6f
 have i:∀ j u,cs[j]?=some u->(w.alloc (J5 #[] 65)).cell? (a.add j)=some u:=fun j u o=>by
  have h2:=h.at_ a rfl j u o;have h3:(a.add j).block<w.heap.size:=World.block_lt_of_cell? w _ h2;rw[((Below.refl w.heap.size w).alloc (Nat.le_refl _) (J5 #[] 65)).cell h3];exact h2
 obtain⟨v',w',p,l,b,-,q⟩:=run_append_own_at (P:=prog) (w.alloc (J5 #[] 65)) w.heap.size 44 44 65 i0 _ 2 16 underlying44 m d e f rfl (by omega) _ 0 [] (z9r w) a n c cs h.len
  i h1 (by simp only[maxLen];omega) (by omega) (by simp)
 rw[Nat.zero_add,List.nil_append]at l
 have r:∃ A C,v'=J1 A n C:=by
  rcases l.2 with⟨rfl,h0⟩ | ⟨g,cap,cur,rfl,_⟩
  ·rw[h0];exact⟨none,0,rfl⟩
  ·exact⟨_,_,rfl⟩
 obtain⟨A,C,rfl⟩:=r;refine⟨A,C,w',p,l,?_⟩;have hb:=(Below.refl w.heap.size w).alloc (Nat.le_refl _) (J5 #[] 65);exact⟨b.os.trans hb.os,b.tape.trans hb.tape,b.output.trans hb.output,Nat.le_trans hb.size b.size,fun k s=>(b.block k (by simp;omega) (by simp[Value.ownBlock];omega)).trans (hb.block k s)⟩
theorem z4E{ops:Array Oper}{rest:List Oper}{o:Oper}{a:Act}{w:World}{Q:Exit->Act->World->Prop}(f:o.guard=none)(b:o.type=44)(p q:Operand)
  (d:o.op=Op.call { callee:=Callee.builtin Builtin.append,args:=#[p,q],argTypes:=#[44,44] }) (ad:Addr) (n c:Nat) (cs:List Value) (g:a.eval p=J1 (some ⟨w.heap.size,0,none⟩) 0 0) (i:a.eval q=J1 (some ad) n c) (h:Row w (some ad) n c 2 cs) (h1:∀ u∈cs,u.oneCell'=true) (hb:n * 16<=140737488351232)
  (j:∀ A C w',w'.ownsRow w.heap.size 65 2 (J1 A n C) n cs/\Bl w w'->wpList prog ops Q rest (a.put o.dst (J1 A n C)) w'):wpList prog ops Q (o :: rest) a (w.alloc (J5 #[] 65)):=by
 refine wpList_plain f fun _ e=>?_;unfold Oper.wp;obtain⟨A,C,w',k,h1⟩:=z7B w ad n c cs h h1 hb
 simp[execOp,d,resolve,invoke,builtin,g,i,b,k,Result.andThen]
 exact e _ _ (j _ _ _ h1)
theorem z4r(A:Option Addr)(n C:Nat)(cs:List Value)(w:World)(h:Row w A n C 2 cs)(h1:∀ u∈cs,u.oneCell'=true)(hb:n * 16<=140737488351232) :
  Calls prog 39 #[J1 A n C] w fun e w'=>∃ A' C',e=.returned (J1 A' n C')/\Rep (fun b=>w.heap.size<=b) w' (J1 A' n C') 2 16 cs/\Bl w w':=by
 cases A with
 | none =>
  obtain⟨rfl,rfl⟩:=h.nil rfl;obtain rfl:cs=[]:=List.length_eq_zero_iff.1 (by rw[h.len])
  have d:=fun w=>z7k w none 0 0;clear h h1
  go_enter func39,ntmps39
  go_wp2;go_ret;exact⟨_,_,rfl,Rep.nil _ _ _ _,Below.refl _ _⟩
 | some a =>
  have d:=fun w=>z7k w (some a) n C;have f:=J6 h;have c:=J6 h1;clear h h1
  go_enter func39,ntmps39
  go_upto_region 3 with fail
  apply wp_region_lit
  iterate 6 go_step
  refine z4E rfl rfl _ _ rfl a n C cs rfl rfl f.out c.out hb ?_;rintro A' C' w'⟨h1,h2⟩;have c:=J6 h1;have g:=J6 h2;clear h1 h2;go_wp2;go_ret;exact⟨_,_,rfl,Rep.own c.out hb,g.out⟩
end Wd
namespace Pv
open Go.RowKit
abbrev QE:=(Int×Pkt)×(Value×Value)
def qeL(b:QE):List Value:=akL b.1 b.2
theorem q0V:∀ L:List QE,L.flatMap qeL=quL (L.map (·.1)) (L.map (·.2))
 | []=>rfl
 | a :: L=>by rw[List.flatMap_cons,q0V L];rfl
theorem q0l{ops:Array Oper}{rest:List Oper}{o:Oper}{a:Act}{w:World}{Q:Exit->Act->World->Prop}(f:o.guard=none)(s x:Operand)(t:TypeId)
  (D:o.op=.call { callee:=.builtin .append,args:=#[s,x],argTypes:=#[t,t] })
  (base:Nat) (e:TypeId) (i:TypeInfo) (z:Value) (size bytes:Nat) (F:prog.underlying t=some (.slice e)) (G:prog.info? e=some i) (H:i.zero=some z)
  (k:i.size=size) (q:i.bytes=bytes) (r:z.cells.size=size) (y:0<size)
  (v:Value) (n:Nat) (A:List Value) (L:a.eval s=v) (hown:w.ownsRow base e size v n A)
  (ad:Addr) (m c:Nat) (b:List Value) (M:a.eval x=J1 (some ad) m c) (N:b.length=m * size) (l:∀ j u,b[j]?=some u->w.cell? (ad.add j)=some u) (h1:∀ u∈b,u.oneCell'=true)
  (R:0<m) (B:n+m<=maxLen) (d:(n+m) * bytes<=140737488355328) (p:base<=w.heap.size)
  (h:∀ g cap w',w'.ownsRow base e size (J1 (some ⟨g,0,none⟩) (n+m) cap) (n+m) (A ++ b)->w.grownBy w' v.ownBlock->(v.ownBlock=some g∨g=w.heap.size)->g<w'.heap.size->wpList prog ops Q rest (a.put o.dst (J1 (some ⟨g,0,none⟩) (n+m) cap)) w'):wpList prog ops Q (o :: rest) a w:=by
 refine wpList_plain f fun K C=>?_;have:=step_append_lies (P:=prog) (ops:=ops) (o:=o) (a:=a) (w:=w) (K:=K) (Q:=Q) (E:=False) f s x t D base e i z size bytes F G H k q r y v n A L hown ad m c b M N l h1 R B d p w.heap.size rfl (fun g cap w' r1 r2 S T=>C _ _ (h g cap w' r1 r2 S T));have U:Region.wanted o (yielded ops a.tmps)=true:=by simp[Region.wanted,f]
 rwa [if_pos U]at this
structure WoS(w:World)(L:List QE)(lv:Value)(wl:World):Prop where
 B:Bl w wl
 own:wl.ownsRow w.heap.size 70 7 lv L.length (L.flatMap qeL)
theorem j0J(w:World)(b:QE)(j:Nat)(v:Value)(a:(qeL b)[j]?=some v):(w.alloc (J5 #[J I b.1.1,J I b.1.2.k,J I b.1.2.i,J I b.1.2.v,J I b.1.2.n,b.2.1,b.2.2] 70)).cell? ((⟨w.heap.size,0,none⟩:Addr).add j)=some v:=by
 rw[Addr.add_lit,Nat.zero_add,(CAt.new 70 w #[J I b.1.1,J I b.1.2.k,J I b.1.2.i,J I b.1.2.v,J I b.1.2.n,b.2.1,b.2.2]).cell j]
 simpa [qeL,akL] using a
theorem q1c(q:List (Int×Pkt))(v:Value)(P:Nat->Prop)(w:World)(c:Int)(hq:q1Q P w v q)(G:q.length * 88<=140737488351232) :
  Calls prog 129 #[v,J I c] w fun e w'=>∃ u,e=.returned u/\q1Q (New P w 0) w' u (q.filter fun a=>decide (a.1≠c))/\Bl w w':=by
 obtain⟨z,s,H,K⟩:=hq;obtain⟨Aq,Cq,rfl,sq,-,cq,-⟩:=H.open (z0U _ _ s) (by decide)
 obtain⟨i0,hi,M,N,Q⟩:=info_parts q7T;have b7:q.length<=1800000000000:=by omega
 have HC:=J6 cq;have HI:=J6 (show _/\_ from⟨s,K⟩);have R:=J6 G;have T:(q.zip z).length=q.length:=by simp[s]
 have U:=J6 T;clear H cq s K sq G T
 go_enter func129,ntmps129
 go_upto_region 3 with fail
 go_loopw [5,10] (fun lv i wl=>∃ (k:Nat),k<=q.length/\i=J I (k:Int)/\Hid (WoS w (((q.zip z).take k).filter fun b=>decide (b.1.1≠c)) lv wl)) (fun _ i _=>q.length - (intOf i).toNat)
 case atStart=>exact⟨0,Nat.zero_le _,rfl,Below.refl _ _,World.ownsRow_nil _ _ _ _⟩
 case round =>
  obtain⟨k,hk,rfl,t⟩:=hrel
  by_cases V:k<q.length
  ·have b9:(k:Int)<(q.length:Int):=by omega
   obtain⟨x,d⟩:∃ x,q[k]?=some x:=⟨_,List.getElem?_eq_getElem V⟩;obtain⟨y,A⟩:∃ y,z[k]?=some y:=⟨_,List.getElem?_eq_getElem (by rw[HI.out.1];exact V)⟩
   have W:=HI.out.2 k x y d A;have X:(q.zip z)[k]?=some (x,y):=by simp[List.getElem?_zip_eq_some,d,A]
   have Y:(q.zip z).take (k+1)=(q.zip z).take k ++ [(x,y)]:=(take_one X).symm;obtain⟨y1,y2⟩:=y;obtain⟨⟨h,n1,l,Z,-⟩,⟨m,o,r,a0,-⟩⟩:=id W;dsimp only at Z a0;subst Z a0;obtain⟨bq,oq,rfl,-,a6,hcell⟩:=HC.out (by omega)
   have hc:∀ j,j<7->∀ u,(akL x (J1 h n1 l,J1 m o r))[j]?=some u->wr.cell? ⟨bq,oq+k * 7+j,none⟩=some u:=fun j hj u hu=>by
    rw[t.out.B.cell (p:=⟨bq,oq+k * 7+j,none⟩) a6,Nat.add_assoc];exact hcell _ _ ((z4b q z k x _ j d A hj).trans hu)
   have e0:=hc 0 (by omega) _ rfl
   have e1:=hc 1 (by omega) _ rfl
   have e2:=hc 2 (by omega) _ rfl
   have e3:=hc 3 (by omega) _ rfl
   have e4:=hc 4 (by omega) _ rfl
   have e5:=hc 5 (by omega) _ rfl
   have e6:=hc 6 (by omega) _ rfl
   rw[Nat.add_zero]at e0;have b1:Bl wr (wr.alloc (J5 #[J I x.1,J I x.2.k,J I x.2.i,J I x.2.v,J I x.2.n,J1 h n1 l,J1 m o r] 70)):=znw wr _;have E:=zbt t.out.B b1;have F:=Ln.z9k t.out.own b1;have a1:=J6 Y;have c4:=t.out.B.size;have a7:(((q.zip z).take k).filter fun b=>decide (b.1.1≠c)).length<=k:=Nat.le_trans (List.length_filter_le _ _) (List.length_take_le _ _);clear hc hcell W d A X Y
   by_cases f:x.1=c
   ·have a8:(x.1 != c)=false:=by simpa using f
    have HF:Hid (WoS w (((q.zip z).take (k+1)).filter fun b=>decide (b.1.1≠c)) u5 (wr.alloc (J5 #[J I x.1,J I x.2.k,J I x.2.i,J I x.2.v,J I x.2.n,J1 h n1 l,J1 m o r] 70))):=by
     rw[a1.out,List.filter_append,show List.filter (fun b:QE=>decide (b.1.1≠c)) [(x,(J1 h n1 l,J1 m o r))]=[] by simp[f],List.append_nil]
     exact⟨E,F⟩
    clear E F t b1 f;go_wp2
    first | exact⟨⟨k+1,by omega,by go_num,HF⟩,by simp[intOf];omega⟩ | ((repeat apply Exists.intro);exact⟨⟨k+1,by omega,by go_num,HF⟩,rfl⟩)
   ·have a8:(x.1 != c)=true:=by simpa using f
    have a9:Hid (((q.zip z).take (k+1)).filter (fun b=>decide (b.1.1≠c))=((q.zip z).take k).filter (fun b=>decide (b.1.1≠c)) ++ [(x,(J1 h n1 l,J1 m o r))]):=by
     show _=_
     rw[a1.out,List.filter_append]
     congr 1
     simp[f]
    generalize ((q.zip z).take k).filter (fun b=>decide (b.1.1≠c))=L at *
    go_upto_region 6 with fail
    have C:=CAt.new 70 wr #[J I x.1,J I x.2.k,J I x.2.i,J I x.2.v,J I x.2.n,J1 h n1 l,J1 m o r];generalize wr.alloc (J5 #[J I x.1,J I x.2.k,J I x.2.i,J I x.2.v,J I x.2.n,J1 h n1 l,J1 m o r] 70)=w2 at *;have t0:w2.cell? ⟨wr.heap.size,0,none⟩=some (J I x.1):=C.cell 0;have t1:w2.cell? ⟨wr.heap.size,1,none⟩=some (J I x.2.k):=C.cell 1;have t2:w2.cell? ⟨wr.heap.size,2,none⟩=some (J I x.2.i):=C.cell 2;have t3:w2.cell? ⟨wr.heap.size,3,none⟩=some (J I x.2.v):=C.cell 3;have t4:w2.cell? ⟨wr.heap.size,4,none⟩=some (J I x.2.n):=C.cell 4;have t5:w2.cell? ⟨wr.heap.size,5,none⟩=some (J1 h n1 l):=C.cell 5;have t6:w2.cell? ⟨wr.heap.size,6,none⟩=some (J1 m o r):=C.cell 6;have b8:=C.lt;obtain⟨AL,CL,eL⟩:=Ln.z3k F;subst eL;have a2:=R.out;clear e0 e1 e2 e3 e4 e5 e6 C t;apply wp_region_lit
    iterate 9 go_step
    refine q0l rfl _ _ 56 rfl w.heap.size 70 i0 _ 7 88 underlying56 hi M N Q rfl (by decide) (J1 AL L.length CL) L.length (L.flatMap qeL) rfl (Ln.z9k F (znw w2 _)) ⟨w2.heap.size,0,none⟩ 1 1 (qeL (x,(J1 h n1 l,J1 m o r))) rfl rfl (fun j u hu=>j0J w2 (x,(J1 h n1 l,J1 m o r)) j u hu) (fun u hu=>by simp only[qeL,akL,List.mem_cons,List.not_mem_nil,or_false]at hu;rcases hu with rfl | rfl | rfl | rfl | rfl | rfl | rfl <;> rfl) (by decide) (by unfold maxLen;omega) (by omega) (by simp;omega) ?_
    intro g cap w7 a3 a4 b4 a5;have B7:Bl w w7:=(E.alloc (by have:=E.size;omega) _).grown a4 (by simp;have:=E.size;omega) (fun x d=>(World.ownsRow.lt F x d).1)
    have HF:Hid (WoS w (((q.zip z).take (k+1)).filter fun b=>decide (b.1.1≠c)) (J1 (some ⟨g,0,none⟩) (L.length+1) cap) w7):=by
     rw[a9.out];refine⟨B7,?_⟩;rw[List.flatMap_append,List.length_append]
     simpa using a3
    clear a3 a4 b4 a5 B7 F E b1 t0 t1 t2 t3 t4 t5 t6 hi M N Q;go_simp
    go_upto_region 7 with fail
    go_wp2
    first | exact⟨⟨k+1,by omega,by go_num,HF⟩,by simp[intOf];omega⟩ | ((repeat apply Exists.intro);exact⟨⟨k+1,by omega,by go_num,HF⟩,rfl⟩)
  ·obtain rfl:k=q.length:=by omega
   have HZ:Hid (q1Q (New P w 0) wr u5 (q.filter fun a=>decide (a.1≠c))/\Bl w wr):=by
    have hW:=t.out;rw[List.take_of_length_le (by rw[U.out];exact Nat.le_refl _)]at hW
    have b5:(q.zip z).map (·.1)=q:=List.map_fst_zip (by rw[HI.out.1];exact Nat.le_refl _)
    have b6:q.filter (fun a=>decide (a.1≠c))=((q.zip z).filter fun b=>decide (b.1.1≠c)).map (·.1):=by
     conv=>lhs;rw[<- b5]
     rw[List.filter_map];rfl
    have a7:((q.zip z).filter fun b=>decide (b.1.1≠c)).length<=q.length:=by rw[<- U.out];exact List.length_filter_le _ _
    have a2:=R.out
    have hmem:∀ b∈((q.zip z).filter fun b=>decide (b.1.1≠c)),Rep P w b.2.1 2 16 (pwC b.1.2.S)/\Rep P w b.2.2 1 8 (inC b.1.2.D):=fun b hb=>by
     obtain⟨j,hj⟩:=List.getElem?_of_mem (List.mem_filter.1 hb).1;rw[List.getElem?_zip_eq_some]at hj;exact HI.out.2 j b.1 b.2 hj.1 hj.2
    rw[b6];generalize (q.zip z).filter (fun b=>decide (b.1.1≠c))=L at *;refine⟨⟨L.map (·.2),by simp,?_,fun i x y d A=>?_⟩,hW.B⟩
    ·rw[<- q0V];exact (Rep.own hW.own (by omega)).mono fun b _ hb=>.inr hb
    ·rw[List.getElem?_map]at d A
     rcases hb:L[i]? with _ | b
     ·rw[hb]at d;simp at d
     ·rw[hb]at d A
      simp at d A
      subst d A;have:=hmem b (List.mem_of_getElem? hb);exact⟨(this.1.mono (P':=New P w 0) fun b hl hP=>.inl ⟨hP,hl⟩).over hW.B,(this.2.mono (P':=New P w 0) fun b hl hP=>.inl ⟨hP,hl⟩).over hW.B⟩
   obtain⟨A',C',e'⟩:=Ln.z3k t.out.own;subst e';clear t;go_wp2;go_ret;exact⟨_,rfl,HZ.out.1,HZ.out.2⟩
def q2l:Value:=J1 none 0 0
def q1N:PrV:=⟨q2l,q2l,fun _=>⟨q2l,q2l,q2l,q2l⟩,q2l⟩
theorem j4w(P:Nat->Prop)(w:World):PIn P w newP q1N:=
 ⟨Rep.nil _ _ _ _,Rep.nil _ _ _ _,fun _ _=>⟨Rep.nil _ _ _ _,Rep.nil _ _ _ _,z0C.nil _ _ _ _,z0C.nil _ _ _ _⟩,[],rfl,Rep.nil _ _ _ _,fun i _ _ h=>by simp[newP]at h⟩
theorem z5v{c:Func}{p:Tmp}(h:c.results=#[.cell p 58])(a:Array Value)(w:World)(g:Nat)(cs:Array Value)
  (hp:a.getD p undef=J2 (some ⟨g,0,none⟩)) (d:CAt 58 w g cs) (b:cs.size=97) :
  (results c a).run prog w=.ok (J4 cs) w:=
 results_cell_row h _ _ g 58 cs (0,0) _ hp d underlying58 rfl (by rw[z2E,b])
theorem j0a(w:World):Calls prog 21 #[] w fun e w'=>e=.returned (J4 (prC newP q1N))/\Bl w w':=by
 have R0:CAt 58 (w.alloc (J5 zeroCells58 58)) w.heap.size zeroCells58:=CAt.new _ w _;have a:Hid (Bl w (w.alloc (J5 zeroCells58 58))):=znw w _;have c:=Mt.q3p 0 0 (by unfold Mt.I64;omega)
 rw[show Mt.alw 0=1 from rfl,show wrap64 (0+10)=10 by first | rfl | (unfold wrap64;omega) | (unfold wrap64;decide) | (simp[wrap64])]at c
 go_enter func21,ntmps21
 go_upto_region 1 with fail
 generalize w.alloc (J5 zeroCells58 58)=w0 at *;apply wp_region_lit
 go_step
 go_step
 refine (z4v _).mono ?_;rintro e w1⟨rfl,h1⟩;have f:=R0.over h1;have b:=J6 (zbt a.out h1);clear h1 R0 a;dsimp only
 go_step
 go_step
 go_step
 refine (c _).mono ?_;rintro e g⟨rfl,h2⟩;have h:=f.over h2;have d:=J6 (zbt b.out h2);clear h2 f b c;dsimp only
 go_step
 go_step
 go_step
 change Oper.upon prog _ _ _ _ (Result.ok (Next.value (J4 (prC newP q1N))) g);go_simp;apply_assumption;refine wpList_store_mid rfl 58 _ _ rfl _ 0 (prC newP q1N) rfl rfl (h.there 0 _ (by rw[z0d,z0b];omega)) (by rw[z2E];rfl) (z0Y (j4w (fun _=>True) g)) ?_
 go_wp2;have i:=h.z0t (ds:=prC newP q1N) (by rw[z0d];rfl)
 exact bodyPost_ret (v:=J4 (prC newP q1N)) (z5v results21 _ _ _ _ rfl i rfl) rfl ⟨rfl,z0a (Nat.le_refl _) _ _ _ d.out⟩
end Pv
namespace Pv
open Go.RowKit
def z4d(w:World)(g:Nat)(P:Nat->Prop)(r:Pr×Bool)(e:Ending)(w':World):Prop:=∃ v',e=.returned (J3 r.2)/\CAt 58 w' g (prC r.1 v')/\PIn (New P w 0) w' r.1 v'/\Alt g w w'
attribute [local go_sem ↓] z1B z0H z0w z1w
theorem q0m(g:Nat)(p:Pr)(v:PrV)(P:Nat->Prop)(w:World)(c:Nat)(hc:c<2)(x:Pkt)(S T:Value)(hC:CAt 58 w g (prC p v))(hp:PIn P w p v)(hg:¬ P g)(a0:z0m p.s=true)(E:x.k=4)(hv:x.k=3∨x.k=4->0<=x.v/\x.v<6) :
  Calls prog 109 #[J2 (some ⟨g,0,none⟩),J4 #[J I (c:Int),J I x.k,J I x.i,J I x.v,J I x.n,S,T]] w (z4d w g P (z1L p c x)):=by
 have hD:z1L p c x=if x.k=2 then ({ p with s:={ p.s with W:=z5f c x.i p.s.W } },true)
  else if x.k=4 then
   if (p.s.V x.v.toNat).dead=true then (p,true) else ({ p with s:=q1H p.s x.v.toNat (j4e x.i (p.L c).base) },true)
  else if (p.s.V x.v.toNat).jail=true then ({ p with L:=z1a p.L c { p.L c with done:=z2P (p.L c).done x.v } },true)
  else if p.ml<1 then (p,false)
  else ({ p with ml:=wrap64 (p.ml - j3S (p.s.V x.v.toNat)),s:=z5Q p.s x.v.toNat true (p.s.V x.v.toNat).dead,L:=z1a p.L c { p.L c with done:=z2P (p.L c).done x.v } },true):=by unfold z1L;rfl
 generalize z1L p c x=D at *;have j:=J6 hD;have a1:=J6 E;clear E;have U:=J6 hp;have a2:=hC.lt;have b7:(c:Int)<2:=by omega
 have b8:(0:Int)<=(c:Int):=by omega
 clear hD
 go_enter func109,ntmps109
 go_upto_region 1 with fail
 have X:=CAt.new 70 w #[J I (c:Int),J I x.k,J I x.i,J I x.v,J I x.n,S,T];have b0:Bl w (w.alloc (J5 #[J I (c:Int),J I x.k,J I x.i,J I x.v,J I x.n,S,T] 70)):=znw w _;generalize w.alloc (J5 #[J I (c:Int),J I x.k,J I x.i,J I x.v,J I x.n,S,T] 70)=w0 at *;have k0:w0.cell? ⟨w.heap.size,0,none⟩=some (J I (c:Int)):=X.cell 0;have b9:=X.lt;have Y:=J6 (show _/\_/\_ from⟨hC.over b0,X,b0⟩);clear hC hp X b0;go_quiet (fail);simp only[Exit.then];apply_assumption;have Z:=Y.out.1.over (below_drewN (Below.refl w0.heap.size w0) nq);have y:=Y.out.2.1.over (below_drewN (Below.refl w0.heap.size w0) nq);have b1:=below_drewN Y.out.2.2 nq;clear k0 Y;generalize w0.drewN nq=w1 at *;have a3:w1.cell? ⟨w.heap.size,0,none⟩=some (J I (c:Int)):=y.cell 0;have k1:w1.cell? ⟨w.heap.size,1,none⟩=some (J I x.k):=y.cell 1;have k2:w1.cell? ⟨w.heap.size,2,none⟩=some (J I x.i):=y.cell 2;have k3:w1.cell? ⟨w.heap.size,3,none⟩=some (J I x.v):=y.cell 3;have a4:=y.lt;have a5:=Z.lt;have P1:=U.out.z2y b1 0;have m1:=z2a Z;have G:=J6 (show _/\_/\_/\_ from⟨Z,y,b1,P1⟩);clear Z y b1 P1;have E:=a1.out;rw[E]at k1;replace j:=J6 ((j.out.trans (if_neg (by omega))).trans (if_pos E))
 obtain⟨a6,a7⟩:=hv (.inr E);obtain⟨n,hn,H⟩:∃ n:Nat,x.v=(n:Int)/\n<6:=⟨x.v.toNat,by omega,by omega⟩
 rw[hn,Int.toNat_natCast]at j;rw[hn]at k3;have c4:(n:Int)<6:=by omega
 have c5:(0:Int)<=(n:Int):=by omega
 have d4:=(q1h G.out.1 H).2.2;have K:=J6 hn;clear hv a6 a7 hn
 go_upto_region 8 with fail
 go_quiet (fail);simp only[Exit.then];apply_assumption;have z:=G.out.1.over (below_drewN (Below.refl w1.heap.size w1) nq);have F:=G.out.2.1.over (below_drewN (Below.refl w1.heap.size w1) nq);have b2:=below_drewN G.out.2.2.1 nq;clear a3 k1 k2 k3 d4 m1 a4 a5 G;generalize w1.drewN nq=w2 at *;cases A:(p.s.V n).dead
 ·replace j:=J6 (j.out.trans (if_neg (by simp[A])))
  have e2:w2.cell? ⟨w.heap.size,2,none⟩=some (J I x.i):=F.cell 2;have e3:w2.cell? ⟨w.heap.size,3,none⟩=some (J I (n:Int)):=by rw[<- K.out];exact F.cell 3
  have e6:w2.cell? ⟨g,66+c * 14+2,none⟩=some (J I (p.L c).base):=(z.lk hc).facts.2.2.1;have m:=z.lt;have d:=F.lt;have M:=J6 (fun (a:World) (hb:Bl w2 a)=>z7f g p v P a n (j4e x.i (p.L c).base) (z.over hb) ((U.out.ws.over b2).over hb) a0 H A);have B:Hid (j4e x.i (p.L c).base=if x.i<(p.L c).base then (p.L c).base else x.i):=rfl;have H2:=J6 (show _/\_/\_ from⟨z,F,b2⟩);clear z F b2;generalize hO:66+c * 14=o at *;have HO:=J6 hO;clear hO
  go_upto_region 9 with fail
  generalize N:(p.L c).base=bs at *;have a8:=J6 N;clear N;generalize j4e x.i bs=mx at *;generalize q1H p.s n mx=s2 at *
  have a9:(x.i<bs/\mx=bs)∨(¬ x.i<bs/\mx=x.i):=by
   by_cases h:x.i<bs
   ·exact .inl ⟨h,B.out.trans (if_pos h)⟩
   ·exact .inr ⟨h,B.out.trans (if_neg h)⟩
  clear B
  rcases a9 with⟨hlt,hmx⟩ | ⟨hlt,hmx⟩
  all_goals
   rw[hmx]at M;apply z3M (fun w'=>∃ u,CAt 58 w' g (prC { p with s:=s2 } { v with ws:=u })/\Rep (fun b=>w2.heap.size<=b) w' u 8 64 (wsL s2.W)/\Alt g w2 w')
   ·refine wp_region_noPanic ?_;have b4:Hid (∀ a,Bl w2 a->a.cell? ⟨w.heap.size,2,none⟩=some (J I x.i)/\a.cell? ⟨w.heap.size,3,none⟩=some (J I (n:Int))/\a.cell? ⟨g,o+2,none⟩=some (J I bs)):=fun a hb=>⟨(hb.cell (p:=⟨w.heap.size,2,none⟩) d).trans e2,(hb.cell (p:=⟨w.heap.size,3,none⟩) d).trans e3,(hb.cell (p:=⟨g,o+2,none⟩) m).trans e6⟩
    have b5:Hid (∀ (r:World) (Q:Value),CAt 58 r g (prC { p with s:=s2 } { v with ws:=Q })->Alt g w2.drew r->r.cell? ⟨w.heap.size,2,none⟩=some (J I x.i)/\r.cell? ⟨w.heap.size,3,none⟩=some (J I (n:Int))/\r.cell? ⟨g,o+2,none⟩=some (J I bs)):=fun r Q t l=>by
     have K3:=l.cat (b:=w.heap.size) (by omega) (H2.out.2.1.over (Below.refl w2.heap.size w2).drew)
     refine⟨K3.cell 2,by rw[<- K.out];exact K3.cell 3,?_⟩
     have h:=(t.lk hc).facts.2.2.1;rw[HO.out,a8.out]at h;exact h
    have hb:=Below.refl w2.heap.size w2
    go_region_held3 (fun a=>a.cell? ⟨w.heap.size,2,none⟩=some (J I x.i)/\a.cell? ⟨w.heap.size,3,none⟩=some (J I (n:Int))/\a.cell? ⟨g,o+2,none⟩=some (J I bs)) (first | exact b6.out | (refine b4.out _ ?_;first | with_reducible exact hb | with_reducible exact hb.drew)) ((go_at_call 74;refine (M.out _ (by exact (Below.refl _ _).drew)).mono ?_;rintro e r⟨Q,rfl,t,R,l⟩;have b6:=J6 (b5.out r Q t l);have C:=J6 (show _/\_/\_ from⟨t,R,l⟩);clear t R l;dsimp only))
    all_goals
     exact NoPanic.normal ⟨rfl,rfl,Q,C.out.1,C.out.2.1,(Alt.of (Below.refl _ _).drew).trans C.out.2.2⟩
   rintro w'⟨u,t,R,l⟩;have N3:=l.pin (z0I hg a2) (U.out.z2y H2.out.2.2 0);have c6:=H2.out.2.2.size;have f:=J6 (show _/\_/\_/\_ from⟨t,(Alt.of (g:=g) H2.out.2.2).trans l,R,N3⟩);clear t R l N3 e2 e3 e6 m d
   first | simp only[Exit.inBlock,Exit.then] | simp only[Exit.then] | skip
   apply_assumption;go_wp2;go_ret;rw[j.out];exact⟨{ v with ws:=u },rfl,f.out.1,⟨f.out.2.2.1.mono fun b _ h=>.inr (by omega),f.out.2.2.2.set,f.out.2.2.2.lk,f.out.2.2.2.q⟩,f.out.2.1⟩
 ·replace j:=J6 (j.out.trans (if_pos A));have P2:=U.out.z2y b2 0;have f:=J6 (show _/\_/\_ from⟨z,b2,P2⟩);clear z F b2 P2;go_wp2;go_ret;rw[j.out];exact⟨v,rfl,f.out.1,f.out.2.2,Alt.of f.out.2.1⟩
end Pv
namespace Pv
open Go.RowKit
theorem apI{P:Nat->Prop}(w:World)(A:Option Addr)(y:Nat)(l:List Int)(x:Int)(D:Rep P w (J1 A l.length l.length) 1 8 (inC l))(r:l.length<=60)(E:w.cell? ⟨y,0,none⟩=some (.int .i64 x)) :
  ∃ C w',(Builtin.append_ #[45,45] 45 #[J1 A l.length l.length,J1 (some ⟨y,0,none⟩) 1 1]).run prog w=.ok (J1 (some ⟨w.heap.size,0,none⟩) (l.length+1) C) w'/\l.length+1<=C/\z5i w' w.heap.size (l ++ [x])/\Bl w w':=by
 obtain⟨i0,u,g,d,k⟩:=info_parts Ln.j6r
 have c:∀ j v,([.int .i64 x]:List Value)[j]?=some v->w.cell? ((⟨y,0,none⟩:Addr).add j)=some v:=fun j v f=>by
  rw[Addr.add_lit,Nat.zero_add];have F:=(List.getElem?_eq_some_iff.1 f).1;obtain rfl:j=0:=by simpa using F
  simp at f
  rw[E,f]
 have new:∀ (arr tail:Array Value),arr.toList=inC (l ++ [x])->z5i (w.drew.alloc (J5 (arr ++ tail) 3)) w.heap.size (l ++ [x]):=fun arr tail G=>by
  refine⟨arr ++ tail,heap_alloc_new w.drew _,fun i z H=>?_⟩;have m:(inC (l ++ [x]))[i]?=some (.int .i64 z):=by unfold inC;rw[List.getElem?_map,H];rfl
  have o:arr[i]?=some (Value.int .i64 z):=by rw[<- G]at m;simpa using m
  rw[Array.getElem?_append_left (Array.getElem?_eq_some_iff.1 o).1];exact o
 have p:inC (l ++ [x])=inC l ++ [.int .i64 x]:=by simp[inC]
 have s:(inC l).length=l.length:=by simp[inC]
 have t:∀ n:Nat,n<=60->Builtin.nextslicecap (n+1) n * 8<=281474976710656:=fun n K=>by
  rcases Nat.eq_zero_or_pos n with rfl | hp
  ·rw[nextslicecap_zero (by omega)];omega
  ·have:=nextslicecap_succ hp;omega
 obtain⟨A',L,C',h1,h2,h3,M,B⟩:=D;cases h1;cases A with
 | none =>
  have h0:l.length=0:=by
   rcases Nat.eq_zero_or_pos l.length with h | h
   ·exact h
   ·obtain⟨b,off,e,_⟩:=B h;cases e
  obtain rfl:l=[]:=List.length_eq_zero_iff.1 h0;refine⟨_,_,run_append_nil (P:=prog) w 45 45 3 i0 _ underlying45 u g ⟨y,0,none⟩ 1 1 [.int .i64 x] (by rw[d];rfl) c (by omega) (by omega) (by rw[k];omega),grownCap_ge _ _ _ _,?_,(Below.refl _ w).drew.alloc (Nat.le_refl _) _⟩
  exact new _ _ (by simp[inC])
 | some a =>
  have q:∀ j v,(inC l)[j]?=some v->w.cell? (a.add j)=some v:=fun j v f=>by
   have h0:0<l.length:=by
    have:=(List.getElem?_eq_some_iff.1 f).1;omega
   obtain⟨b,off,e,_,_,hc⟩:=B h0;cases e;rw[Addr.add_lit];exact hc j v f
  refine⟨_,_,run_append_grow (P:=prog) w 45 45 3 i0 _ underlying45 u g a l.length l.length (inC l) (by rw[d,s];omega) q ⟨y,0,none⟩ 1 1 [.int .i64 x] (by rw[d];rfl) c (by omega) (by omega) (by rw[k];exact t _ r),grownCap_ge _ _ _ _,?_,(Below.refl _ w).drew.alloc (Nat.le_refl _) _⟩
  exact new _ _ (by simp[p])
theorem q4q{P:Nat->Prop}{ops:Array Oper}{rest:List Oper}{o:Oper}{a:Act}{w:World}{Q:Exit->Act->World->Prop}(c:o.guard=none)(d:o.type=45)(p q:Operand)
  (e:o.op=Op.call { callee:=Callee.builtin Builtin.append,args:=#[p,q],argTypes:=#[45,45] }) (A:Option Addr) (y:Nat) (l:List Int) (x:Int) (k:a.eval p=J1 A l.length l.length) (m:a.eval q=J1 (some ⟨y,0,none⟩) 1 1)
  (f:Rep P w (J1 A l.length l.length) 1 8 (inC l)) (i:l.length<=60) (n:w.cell? ⟨y,0,none⟩=some (J I x))
  (h:∀ g C w',g=w.heap.size->l.length+1<=C->z5i w' g (l ++ [x])->Bl w w'->wpList prog ops Q rest (a.put o.dst (J1 (some ⟨g,0,none⟩) (l.length+1) C)) w'):wpList prog ops Q (o :: rest) a w:=by
 refine wpList_plain c fun K j=>?_;unfold Oper.wp;obtain⟨C,w',f,r,b,s⟩:=apI w A y l x f i n
 simp[execOp,e,resolve,invoke,builtin,k,m,d,f,Result.andThen]
 exact j _ _ (h _ _ _ rfl r b s)
theorem z8A(D:List Int)(u:Value)(P:Nat->Prop)(w:World)(v:Int)(hu:Rep P w u 1 8 (inC D))(k:z2j (-1) D=true)(h0:0<=v)(N:v<6) :
  Calls prog 174 #[u,J I v] w fun e w'=>∃ y,e=.returned y/\Rep (New P w 0) w' y 1 8 (inC (z2P D v))/\Bl w w':=by
 have o:=J6 (z9s D u P w v hu);have z:=q3k k
 by_cases j:v∈D
 ·have l:=j4h k j;rw[l];have hd:decide (v∈D)=true:=by simpa using j
  rw[hd]at o;have q:=J6 hu;clear hu k l hd j
  go_enter func174,ntmps174
  go_wp2_with (go_at_call 193;refine o.out.mono ?_;rintro e w1⟨rfl,rfl⟩)
  go_ret;exact⟨_,rfl,q.out.mono fun b H hb=>.inl ⟨hb,H⟩,Below.refl _ _⟩
 ·have l:=q7k k h0 (by omega) j
  rw[<- l];have hd:decide (v∈D)=false:=by simpa using j
  rw[hd]at o;obtain⟨A,C,rfl,K,B,hc,-⟩:=hu.open (z0h _) (by decide)
  have c:=hu.room rfl;have b1:Bl w (w.alloc (J5 #[J I v] 3)):=znw w _;have q:=J6 (hu.clip.over b1);have r:=q8s A D.length C c.1 (fun e=>(B e).1) (by omega) w
  have a:(D ++ [v]).length=D.length+1:=by simp
  have L:Hid (∀ (g C':Nat) (w':World),z5i w' g (D ++ [v])->Calls prog 195 #[J1 (some ⟨g,0,none⟩) (D.length+1) C'] w' fun e s=>e=.returned (.tuple #[])/\z5i s g (z4X (D ++ [v]))/\z2M g w' s):=fun g C' w' h=>by
   have:=q7f g C' (D ++ [v]) w' h (by omega)
   rw[a]at this;exact this
  have m:=J6 b1;have t:=J6 a;have hcell:=(CAt.new 3 w #[J I v]).cell 0;have x:=J6 hcell;clear hu k l hd j K B hc c b1 a hcell
  go_enter func174,ntmps174
  go_wp2_with (first
   | (go_at_call 193;refine o.out.mono ?_;rintro e w1⟨rfl,rfl⟩)
   | (go_at_call 194;refine r.mono ?_;rintro e w1⟨rfl,rfl⟩)
   | (at_builtin;refine q4q rfl rfl _ _ rfl A w.heap.size D v rfl rfl q.out (by omega) x.out ?_;intro g C' w' E n d f;have M:=J6 E;have p:=J6 (show _/\_/\_ from⟨n,d,f⟩);clear E n d f)
   | (go_at_call 195;refine (L.out _ _ _ p.out.2.1).mono ?_;rintro e s⟨rfl,h1⟩;have F:=J6 h1;clear h1))
  go_ret;have Q:g=w.heap.size+1:=by rw[M.out];simp
  have i:(z4X (D ++ [v])).length=D.length+1:=by rw[q0C];exact t.out
  have G:=z5i.rep (C:=C') F.out.1 (by rw[i];exact p.out.1) (by rw[i];omega)
  rw[i]at G;refine⟨_,rfl,G.mono fun b _ e=>.inr (by omega),(zbt m.out p.out.2.2).trans (F.out.2.below (by omega) ?_)⟩
  have:=p.out.2.2.size;have:=m.out.size;omega
end Pv
namespace Pv
open Go.RowKit
theorem j3s{p:Pr}{v:PrV}(k:Nat)(a:k<2)(l:List Int)(U:Value) :
  (prC p v).setIfInBounds (66+k * 14+5) U=prC { p with L:=z1a p.L k { p.L k with done:=l } } (v.upd k ⟨(v.l k).told,U,(v.l k).said,(v.l k).due⟩):=by
 match k,a with
 | 0,_=>rfl
 | 1,_=>rfl
theorem j1K{P:Nat->Prop}{w:World}{p:Pr}{v:PrV}(h:PIn P w p v)(k:Nat)(l:List Int)(U:Value)(h1:Rep P w U 1 8 (inC l)) :
  PIn P w { p with L:=z1a p.L k { p.L k with done:=l } } (v.upd k ⟨(v.l k).told,U,(v.l k).said,(v.l k).due⟩):=by
 refine⟨h.ws,h.set,fun c hc=>?_,h.q⟩
 show z5g P w (if c=k then _ else p.L c) (if c=k then _ else v.l c)
 by_cases e:c=k
 ·subst e;rw[if_pos rfl,if_pos rfl];have:=h.lk c hc;exact⟨this.told,h1,this.said,this.due⟩
 ·rw[if_neg e,if_neg e];exact h.lk c hc
theorem PIn.put{P:Nat->Prop}{w:World}{p:Pr}{v:PrV}(h:PIn P w p v){g:Nat}(a:¬ P g)(o:Nat)(x:Value):PIn P (w.setCell ⟨g,o,none⟩ x) p v:=h.keep fun b hb _=>Below.heap_setCell _ _ _ _ (show b≠g from fun e=>a (by rw[<- e];exact hb))
theorem Rep.put{P:Nat->Prop}{w:World}{v:Value}{sz bts:Nat}{cs:List Value}(h:Rep P w v sz bts cs){g:Nat}(a:¬ P g)(o:Nat)(x:Value):Rep P (w.setCell ⟨g,o,none⟩ x) v sz bts cs:=h.keep fun b hb _=>Below.heap_setCell _ _ _ _ (show b≠g from fun e=>a (by rw[<- e];exact hb))
theorem Alt.put{g:Nat}{w w':World}(h:Alt g w w')(o:Nat)(x:Value):Alt g w (w'.setCell ⟨g,o,none⟩ x):=⟨h.os,h.tape,h.output,(by simp[World.setCell];exact h.size),fun k b a=>(Below.heap_setCell _ _ _ _ a).trans (h.block k b a)⟩
theorem z9c{g:Nat}{p a:Pr}{v':PrV}{P:Nat->Prop}{w d e:World}{c:Nat}(hc:c<2){u:Value}{l:List Int}(f:g<w.heap.size)(n:¬ P g)(o:CAt 58 d g (prC a v'))(hp:PIn (New P w 0) d a v')(j:Alt g w d)(q:Rep (New (New P w 0) d 0) e u 1 8 (inC l))(i:Bl d e)
  (r:p={ a with L:=z1a a.L c { a.L c with done:=l } }) (b:Bool) :
  z4d w g P (p,b) (.returned (J3 b)) (e.setCell ⟨g,66+c * 14+5,none⟩ u):=by
 subst r;have k:¬ New P w 0 g:=z0I n f
 have s:Rep (New P w 0) e u 1 8 (inC l):=q.mono fun b _ h=>by
  rcases h with⟨h,_⟩ | h
  ·exact h
  ·exact .inr (by have:=j.size;omega)
 have m:=(o.over i).set (66+c * 14+5) u;rw[j3s c hc l u]at m;exact⟨_,rfl,m,j1K ((hp.over i).put k _ _) c l u (s.put k _ _),(j.trans (Alt.of i)).put _ _⟩
attribute [local go_sem ↓] z1B z0H z0w z1w
theorem q0G(g:Nat)(p:Pr)(v:PrV)(P:Nat->Prop)(w:World)(c:Nat)(hc:c<2)(n:Nat)(h:n<6)(b:CAt 58 w g (prC p v))(hp:PIn P w p v)(x:¬ P g)(k:z2j (-1) (p.L c).done=true)(m:(p.s.V n).jail=true) :
  Calls prog 152 #[J2 (some ⟨g,0,none⟩),J2 (some ⟨g,66+c * 14,none⟩),J I (n:Int)] w (z4d w g P ({ p with L:=z1a p.L c { p.L c with done:=z2P (p.L c).done n } },true)):=by
 have q:=J6 (z8A (p.L c).done (v.l c).done (New P w 0) w n (((hp.z2y (Below.refl _ w) 0).lk c hc).done) k (by omega) (by omega))
 have y:=(q1h b h).2.1;rw[m]at y;have r:w.cell? ⟨g,66+c * 14+5,none⟩=some (v.l c).done:=(b.lk hc).facts.2.2.2.2.2.1;have d:=b.lt;have z:=J6 (fun (u:Value) (f:World) (A:Rep (New (New P w 0) w 0) f u 1 8 (inC (z2P (p.L c).done n))) (B:Bl w f)=>z9c (p:={ p with L:=z1a p.L c { p.L c with done:=z2P (p.L c).done n } }) hc d x b (hp.z2y (Below.refl _ w) 0) (Alt.of (Below.refl _ w)) A B rfl true)
 obtain⟨C,D,i,E⟩:=(hp.lk c hc).done.one';rw[E]at r q;have F:(n:Int)<6:=by omega
 have G:(0:Int)<=(n:Int):=by omega
 have H:=J6 b;clear b hp k m;generalize 66+c * 14=o at *;generalize z2P (p.L c).done n=dl at *
 go_enter func152,ntmps152
 go_wp2_with (go_at_call 174;refine q.out.mono ?_;rintro e f⟨u,rfl,j,a⟩;have K:f.cell? ⟨g,o+5,none⟩=some (J1 C D i):=(a.cell (p:=⟨g,o+5,none⟩) d).trans r;have M:f.frozen? ⟨g,o+5,none⟩=false:=(H.out.over a).free _;obtain⟨N,Q,R,rfl⟩:=j.one';have t:=J6 (show _/\_ from⟨j,a⟩);clear j a)
 go_ret;exact z.out _ _ t.out.1 t.out.2
def j7t(F:Nat->Act)(R:Nat->World->Prop)(ex:Exit)(a:Act)(w:World):Prop:=∃ g,ex=Exit.normal/\a=F g/\R g w
theorem j0U{P:Program}{c:Code}{Q:Exit->Act->World->Prop}{a:Act}{w:World}(R:Nat->World->Prop)(F:Nat->Act)(h1:Code.wp P c (j7t F R) a w)(h2:∀ g w',R g w'->Q Exit.normal (F g) w'):Code.wp P c Q a w:=
 Code.wp_mono (fun e b w' h=>by obtain⟨g,rfl,rfl,h⟩:=h;exact h2 g w' h) h1
theorem q5K(g:Nat)(p:Pr)(v:PrV)(P:Nat->Prop)(w:World)(c:Nat)(hc:c<2)(n:Nat)(C:n<6)(z:CAt 58 w g (prC p v))(hp:PIn P w p v)(hg:¬ P g)(hr:z2j (-1) (p.L c).done=true)(H:z0m p.s=true)(hj:(p.s.V n).jail=false)(a1:0<=(p.s.V n).tok)(d0:(p.s.V n).tok<=1125899906842624) :
  Calls prog 152 #[J2 (some ⟨g,0,none⟩),J2 (some ⟨g,66+c * 14,none⟩),.int .i64 (n:Int)] w (z4d w g P (if p.ml<1 then (p,false) else ({ p with ml:=wrap64 (p.ml - j3S (p.s.V n)),s:=z5Q p.s n true (p.s.V n).dead,L:=z1a p.L c { p.L c with done:=z2P (p.L c).done n } },true))):=by
 generalize hD:(if p.ml<1 then (p,false) else (_,true):Pr×Bool)=D;have HD:=J6 hD;clear hD;have d3:=(q1h z C).2.1;rw[hj]at d3;have k:=z.lt;have d1:(n:Int)<6:=by omega
 have d2:(0:Int)<=(n:Int):=by omega
 have K:Hid (∀ a,Bl w a->a.cell? ⟨g,94,none⟩=some (.int .i64 p.ml)/\a.cell? ⟨g,94+1,none⟩=some (.int .i64 p.mn)/\a.cell? ⟨g,9+n * 5,none⟩=some (.int .i64 (p.s.V n).tok)):=fun a hb=>⟨(z.over hb).cell 94,(z.over hb).cell 95,(q1h (z.over hb) C).1⟩;have a2:Hid (j3S (p.s.V n)=if (p.s.V n).tok / 100<1 then 1 else (p.s.V n).tok / 100):=rfl;generalize j3S (p.s.V n)=pw at *;have HT:=J6 (fun (a:World)=>Mt.q7t p.ml p.mn pw a);have HQ:Hid (∀ a,Bl w a->z4d w g P (p,false) (.returned (J3 false)) a):=fun a hb=>⟨v,rfl,z.over hb,hp.z2y hb 0,Alt.of hb⟩;generalize hA:(if p.ml<1 then p.ml else wrap64 (p.ml - pw))=ml' at *;generalize F:(if p.ml<1 then false else true)=may at *;generalize (p.s.V n).tok=tk at *;have hq:IntKind.i64.wrap (tk.tdiv 100)=tk / 100:=by rw[Int.tdiv_eq_ediv_of_nonneg a1];exact z7l (by omega) (by omega)
 go_enter func152,ntmps152
 go_upto_region 3 with fail
 have M:Hid (Bl w (w.alloc (J5 #[.int .i64 0,.int .i64 0] 55))):=znw w _;have A:=J6 M.out.drew;have N:(if tk / 100<1 then 1 else tk / 100)=pw:=a2.out.symm;have Q:Hid (CAt 55 (w.alloc (J5 #[.int .i64 0,.int .i64 0] 55)).drew w.heap.size #[.int .i64 0,.int .i64 0]):=CAt.new 55 w _;apply j0U (fun G w'=>CAt 55 w' G #[.int .i64 ml',.int .i64 p.mn]/\w.heap.size<=G/\Bl w w')
 ·refine wp_region_noPanic ?_;have hb:=Below.refl w.heap.size w
  go_region_held3 (fun a=>a.cell? ⟨g,94,none⟩=some (.int .i64 p.ml)/\a.cell? ⟨g,94+1,none⟩=some (.int .i64 p.mn)/\a.cell? ⟨g,9+n * 5,none⟩=some (.int .i64 tk)) ((refine K.out _ ?_;first | with_reducible exact hb | with_reducible exact hb.drew | with_reducible exact hb.alloc hb.size _ | with_reducible exact (hb.alloc hb.size _).drew | with_reducible exact hb.drew.alloc hb.drew.size _ | exact (hb.setCell (Nat.le_refl _) _).setCell (Nat.le_refl _) _ | exact ((hb.alloc hb.size _).setCell hb.size _).setCell hb.size _)) (first
   | (go_at_call 172;refine (HT.out w.drew).mono ?_;rintro e wb⟨rfl,b⟩;have hb:=(Below.refl w.heap.size w).drew.trans b;have a3:True:=trivial;clear b;dsimp only)
   | (go_at_call 172;refine (HT.out (w.alloc (J5 #[.int .i64 0,.int .i64 0] 55)).drew).mono ?_;rintro e wb⟨rfl,b⟩;have hb:=zbt A.out b;have d:=J6 (Q.out.over b);have z0:=d.out.cell 0;have z1:wb.cell? ⟨w.heap.size,0+1,none⟩=_:=d.out.cell 1;have d4:=d.out.free 0;have d5:=d.out.free (0+1);clear b;dsimp only))
  all_goals first
   | (have _m:=a3;obtain⟨gn,f⟩:∃ gn,gn=wb.heap.size:=⟨_,rfl⟩;rw[<- f];exact NoPanic.normal ⟨gn,rfl,rfl,by subst f;exact⟨CAt.new _ _ _,hb.size,hb.alloc hb.size _⟩⟩)
   | (obtain⟨gn,f⟩:∃ gn,gn=w.heap.size:=⟨_,rfl⟩;rw[<- f];exact NoPanic.normal ⟨gn,rfl,rfl,by subst f;exact⟨(d.out.set 0 _).set 1 _,Nat.le_refl _,(hb.setCell (Nat.le_refl _) _).setCell (Nat.le_refl _) _⟩⟩)
 rintro G B⟨M3,d6,B3⟩;have h:=J6 B3;have a4:=J6 M3;have m0:B.cell? ⟨G,0,none⟩=some (.int .i64 ml'):=M3.cell 0;have m1:B.cell? ⟨G,0+1,none⟩=some (.int .i64 p.mn):=M3.cell 1;clear M A Q N HT K d3 B3 M3;simp only[Exit.then];apply_assumption
 by_cases i:p.ml<1
 ·rw[if_pos i]at F;subst F;have m:=J6 (HD.out.symm.trans (if_pos i));clear HD;go_wp2;go_ret;rw[m.out];exact HQ.out _ h.out
 ·rw[if_neg i]at hA F;subst F;have m:=J6 (HD.out.symm.trans (if_neg i));clear HD HQ;have E:=z.over h.out;have a5:B.cell? ⟨g,94,none⟩=some (.int .i64 p.ml):=E.cell 94;have a6:B.cell? ⟨g,94+1,none⟩=some (.int .i64 p.mn):=E.cell 95;have a7:=E.free 94;have a8:=E.free (94+1);have c7:=E.lt;have c8:¬ G=g:=by omega
  have a9:=J6 hp;have b4:=J6 hr;have r:=J6 hg;have b5:=J6 H;have b6:=J6 hj;have R:=J6 E;have S:=J6 hA;clear z hp hr H hj E hA hg i
  go_upto_region 7 with fail
  have C4:CAt 58 ((B.setCell ⟨g,94,none⟩ (.int .i64 ml')).setCell ⟨g,95,none⟩ (.int .i64 p.mn)) g (prC { p with ml:=ml' } v):=(R.out.set 94 _).set 95 _
  have A4:Alt g w ((B.setCell ⟨g,94,none⟩ (.int .i64 ml')).setCell ⟨g,95,none⟩ (.int .i64 p.mn)):=((Alt.of (g:=g) h.out).put 94 _).put 95 _
  have P4:PIn (New P w 0) ((B.setCell ⟨g,94,none⟩ (.int .i64 ml')).setCell ⟨g,95,none⟩ (.int .i64 p.mn)) { p with ml:=ml' } v:=by
   have:=((a9.out.z2y h.out 0).put (z0I r.out k) 94 (.int .i64 ml')).put (z0I r.out k) 95 (.int .i64 p.mn);exact⟨this.ws,this.set,this.lk,this.q⟩
  clear a5 a6 a7 a8 m0 m1 a4 R h;generalize (B.setCell ⟨g,94,none⟩ (.int .i64 ml')).setCell ⟨g,95,none⟩ (.int .i64 p.mn)=w4 at *
  have T:z9R p.s (n:Int)=(z5Q p.s n true (p.s.V n).dead,0):=by
   unfold z9R;rw[if_pos (z3A b5.out C),Int.toNat_natCast,if_neg (by rw[b6.out];simp)]
  have t:=j3E P4.ws (n:Int);dsimp only at t;rw[T]at t;have U:=J6 t;have m4:=z2a C4;have b7:Hid ((z5Q p.s n true (p.s.V n).dead).W=p.s.W):=rfl;generalize X:z5Q p.s n true (p.s.V n).dead=s1 at *;have b8:=J6 X;have c9:=C4.lt;have Y:=z6r s1 P4.ws.one';have Z:=J6 (show _/\_/\_ from⟨C4,P4,A4⟩);clear C4 P4 A4 t T X
  go_upto_region 8 with (go_at_call 173;refine U.out.mono ?_;rintro e w5⟨rfl,j⟩;clear m4;have b9:=z2D (Z.out.1.over j) (z0b _ _) (z0f s1 v.ws) Y)
  have C6:=(Z.out.1.over j).z1g s1 v.ws;have A6:=(Z.out.2.2.trans (Alt.of j)).sets (stC s1 v.ws).toList 2;have P6:=(Z.out.2.1.over j).sets (g:=g) (z0I r.out k) 2 (stC s1 v.ws).toList;have x:PIn (New P w 0) (w5.setCells g 2 (stC s1 v.ws).toList) { p with ml:=ml',s:=s1 } v:=⟨by rw[show ({ p with ml:=ml',s:=s1 }:Pr).s.W=p.s.W from b7.out];exact P6.ws,P6.set,P6.lk,P6.q⟩
  clear b9 j U Z P6;generalize w5.setCells g 2 (stC s1 v.ws).toList=w6 at *;have HW:=J6 (z8A (p.L c).done (v.l c).done (New P w 0) w6 n ((x.lk c hc).done) b4.out (by omega) (by omega))
  have q5:w6.cell? ⟨g,66+c * 14+5,none⟩=some (v.l c).done:=(C6.lk hc).facts.2.2.2.2.2.1;obtain⟨Ad,nd,c4,ed⟩:=(x.lk c hc).done.one';rw[ed]at q5 HW;have a0:=C6.lt;have HE:=J6 (fun (u:Value) (w2:World) (hU:Rep (New (New P w 0) w6 0) w2 u 1 8 (inC (z2P (p.L c).done n))) (F:Bl w6 w2)=>z9c (p:={ p with ml:=ml',s:=s1,L:=z1a p.L c { p.L c with done:=z2P (p.L c).done n } }) hc k r.out C6 x A6 hU F rfl true)
  have c5:=J6 C6;have c6:Hid (D=({ p with ml:=ml',s:=s1,L:=z1a p.L c { p.L c with done:=z2P (p.L c).done n } },true)):=by rw[Hid,m.out,S.out]
  clear m b8 S C6 x A6 ed;generalize 66+c * 14=o at *;generalize z2P (p.L c).done n=dl at *
  go_wp2_with (go_at_call 174;refine HW.out.mono ?_;rintro e w7⟨u,rfl,U2,y⟩;have q6:w7.cell? ⟨g,o+5,none⟩=some (J1 Ad nd c4):=(y.cell (p:=⟨g,o+5,none⟩) a0).trans q5;have fz:w7.frozen? ⟨g,o+5,none⟩=false:=(c5.out.over y).free _;obtain⟨Au,nu,Cu,rfl⟩:=U2.one';have HU:=J6 (show _/\_ from⟨U2,y⟩);clear U2 y)
  go_ret;rw[c6.out];exact HE.out _ _ HU.out.1 HU.out.2
theorem j7U{s:St}(a:z0m s=true){n:Nat}(b:n<6):0<=(s.V n).tok/\(s.V n).tok<=1125899906842624:=((z1T _).1 (((z0N s).1 a).2.2.2.2.2.1 n b).1).1
theorem q8A(g:Nat)(p:Pr)(v:PrV)(P:Nat->Prop)(w:World)(c:Nat)(hc:c<2)(x:Pkt)(d:CAt 58 w g (prC p v))(hp:PIn P w p v)(e:¬ P g)(j:x.k=3)(f:z2j (-1) (p.L c).done=true)(b:z0m p.s=true)(h0:0<=x.v)(l:x.v<6) :
  Calls prog 152 #[J2 (some ⟨g,0,none⟩),J2 (some ⟨g,66+c * 14,none⟩),J I x.v] w (z4d w g P (z1L p c x)):=by
 obtain⟨n,i,a⟩:∃ n:Nat,x.v=(n:Int)/\n<6:=⟨x.v.toNat,by omega,by omega⟩
 unfold z1L;rw[if_neg (by omega),if_neg (by omega),i,Int.toNat_natCast]
 cases h:(p.s.V n).jail
 ·rw[if_neg (by simp)]
  exact q5K g p v P w c hc n a d hp e f b h (j7U b a).1 (j7U b a).2
 ·rw[if_pos rfl];exact q0G g p v P w c hc n a d hp e f h
end Pv
namespace Pv
open Go.RowKit
def j7W(F:Option Addr->Nat->Nat->Nat->Act)(R:Option Addr->Nat->Nat->Nat->World->Prop)(ex:Exit)(a:Act)(w:World):Prop:=∃ A n C g,ex=Exit.normal/\a=F A n C g/\R A n C g w
theorem q9S{P:Program}{c:Code}{Q:Exit->Act->World->Prop}{a:Act}{w:World}(R:Option Addr->Nat->Nat->Nat->World->Prop)(F:Option Addr->Nat->Nat->Nat->Act)(h1:Code.wp P c (j7W F R) a w)(h2:∀ A n C g w',R A n C g w'->Q Exit.normal (F A n C g) w'):Code.wp P c Q a w:=
 Code.wp_mono (fun e b w' h=>by obtain⟨A,n,C,g,rfl,rfl,h⟩:=h;exact h2 A n C g w' h) h1
def q3K(a v:Value):Sem Unit:=Instr.storeAt 68 a v
theorem z7F(a v:Value):Instr.storeAt 68 a v=q3K a v:=rfl
def q0D(a v:Value):Sem Unit:=Instr.storeAt 48 a v
theorem z7h(a v:Value):Instr.storeAt 48 a v=q0D a v:=rfl
theorem j4X:(prog.info? 68).map (·.size)=some 6:=by kernel_rfl
theorem q6Q:(prog.info? 48).map (·.size)=some 4:=by kernel_rfl
def Z6:Array Value:=#[J I 0,J I 0,J I 0,J I 0,J1 none 0 0,J1 none 0 0]
def Z4:Array Value:=#[J1 none 0 0,J1 none 0 0,J I 0,J3 false]
theorem q3f{w:World}{g:Nat}{a cs:Array Value}(h:CAt 68 w g a)(c:a.size=6)(b:cs.size=6)(h1:cs.all (·.oneCell')=true):(q3K (J2 (some ⟨g,0,none⟩)) (J4 cs)).run prog w=.ok () (w.setCells g 0 cs.toList):=
 run_storeAt_mid (P:=prog) w g 0 68 cs (h.there 0 _ (by rw[c,b];omega)) (by rw[j4X,b]) h1
theorem q2P{w:World}{g:Nat}{a cs:Array Value}(h:CAt 48 w g a)(c:a.size=4)(b:cs.size=4)(h1:cs.all (·.oneCell')=true):(q0D (J2 (some ⟨g,0,none⟩)) (J4 cs)).run prog w=.ok () (w.setCells g 0 cs.toList):=
 run_storeAt_mid (P:=prog) w g 0 48 cs (h.there 0 _ (by rw[c,b];omega)) (by rw[q6Q,b]) h1
structure Tds(w1:World)(cs:Array Value)(dl:List (Int×Int))(u:Value)(g4:Nat)(w5:World):Prop where
 cat:CAt 68 w5 g4 cs
 rep:Rep (fun b=>w1.heap.size<=b/\b≠g4) w5 u 2 16 (pwC dl)
 bel:Bl w1 w5
 le:w1.heap.size<=g4
theorem j4k{w1 w0 a:World}{cs:Array Value}{dl:List (Int×Int)}{u:Value}(c:cs.size=6)(U:Rep (fun b=>w0.heap.size<=b) a u 2 16 (pwC dl))(h0:w1.heap.size<=w0.heap.size)(hb:Bl w1 a):Tds w1 cs dl u a.heap.size ((a.alloc (J5 Z6 68)).setCells a.heap.size 0 cs.toList):=by
 have d:Bl a (a.alloc (J5 Z6 68)):=znw a _;have e:Rep (fun b=>w1.heap.size<=b/\b≠a.heap.size) a u 2 16 (pwC dl):=U.mono fun b f h=>⟨Nat.le_trans h0 h,by omega⟩
 exact⟨(CAt.new 68 a Z6).z0t (by rw[c];rfl),(e.over d).sets (fun h=>h.2 rfl) 0 _,z0a hb.size _ _ _ (hb.alloc hb.size _),hb.size⟩
theorem j2R{w1 ws a:World}{cs:Array Value}{dl:List (Int×Int)}{u:Value}(c:cs.size=6)(U:Rep (fun b=>ws.heap.size<=b) a u 2 16 (pwC dl))(h0:w1.heap.size+1<=ws.heap.size)(hb:Bl w1 a)(hc:CAt 68 a w1.heap.size Z6):Tds w1 cs dl u w1.heap.size (a.setCells w1.heap.size 0 cs.toList):=by
 have d:Rep (fun b=>w1.heap.size<=b/\b≠w1.heap.size) a u 2 16 (pwC dl):=U.mono fun b e h=>by have f:ws.heap.size<=b:=h;exact⟨by omega,by omega⟩
 exact⟨hc.z0t (by rw[c];rfl),d.sets (fun h=>h.2 rfl) 0 _,z0a (Nat.le_refl _) _ _ _ hb,Nat.le_refl _⟩
theorem j2L(a b:Int){u:Value}(h:∃ A n C,u=J1 A n C)(A:Option Addr)(n C:Nat):(#[J I a,J I b,J I 0,J I 0,u,J1 A n C]:Array Value).all (·.oneCell')=true:=by
 obtain⟨A',d,C',rfl⟩:=h
 first | (simp[Value.oneCell'];done) | (rw[Array.all_eq_true_iff_forall_mem];intro x c;simp at c;rcases c with rfl | rfl | rfl | rfl | rfl | rfl <;> rfl)
theorem j0u{w1 w0 a:World}{cs:Array Value}{dl:List (Int×Int)}{u:Value}(c:cs.size=6)(h1:cs.all (·.oneCell')=true)(U:Rep (fun b=>w0.heap.size<=b) a u 2 16 (pwC dl))(h0:w1.heap.size<=w0.heap.size)(hb:Bl w1 a):∃ d,(q3K (J2 (some ⟨a.heap.size,0,none⟩)) (J4 cs)).run prog (a.alloc (J5 Z6 68))=.ok () d/\Tds w1 cs dl u a.heap.size d:=
 ⟨_,q3f (CAt.new 68 a Z6) rfl c h1,j4k c U h0 hb⟩
theorem j1Z{w1 ws a:World}{cs:Array Value}{dl:List (Int×Int)}{u:Value}(c:cs.size=6)(h1:cs.all (·.oneCell')=true)(U:Rep (fun b=>ws.heap.size<=b) a u 2 16 (pwC dl))(h0:w1.heap.size+1<=ws.heap.size)(hb:Bl w1 a)(hc:CAt 68 a w1.heap.size Z6):∃ d,(q3K (J2 (some ⟨w1.heap.size,0,none⟩)) (J4 cs)).run prog a=.ok () d/\Tds w1 cs dl u w1.heap.size d:=
 ⟨_,q3f hc rfl c h1,j2R c U h0 hb hc⟩
theorem q9r(p:Pr)(v:PrV)(k:Nat)(b:k<2):∃ a c:List Value,a.length=66+k * 14/\prC p v=(a ++ (lkL (p.L k) (v.l k) ++ c)).toArray/\∀ y x,prC { p with L:=z1a p.L k y } (v.upd k x)=(a ++ (lkL y x ++ c)).toArray:=by
 have h0:([J I p.h,J I p.t] ++ ((stC p.s v.ws).toList ++ [v.set]):List Value).length=66:=by simp[z0f]
 match k,b with
 | 0,_ =>
  refine⟨[J I p.h,J I p.t] ++ ((stC p.s v.ws).toList ++ [v.set]),lkL (p.L 1) (v.l 1) ++ [J I p.ml,J I p.mn,v.q],h0,?_,fun y x=>?_⟩
  ·simp[prC]
  ·simp[prC,PrV.upd,z1a]
 | 1,_ =>
  refine⟨[J I p.h,J I p.t] ++ ((stC p.s v.ws).toList ++ [v.set]) ++ lkL (p.L 0) (v.l 0),[J I p.ml,J I p.mn,v.q],?_,?_,fun y x=>?_⟩
  ·rw[List.length_append,h0];rfl
  ·simp[prC]
  ·simp[prC,PrV.upd,z1a]
theorem j3O{p:Pr}{v:PrV}(k:Nat)(d:k<2)(x:Ln.Line)(l:List (Int×Int))(T S U:Value) :
  (((((((prC p v).setIfInBounds (66+k * 14+6) S).setIfInBounds (66+k * 14+7) U).setIfInBounds (66+k * 14+8) (J I x.g)).setIfInBounds (66+k * 14+9) (J3 x.cl)).setIfInBounds (66+k * 14+3) T).setIfInBounds (66+k * 14+4) (J3 false)).setIfInBounds (66+k * 14+5) (J1 none 0 0)
   = prC { p with L:=z1a p.L k { p.L k with out:=x,told:=l,fresh:=false,done:=[] } } (v.upd k ⟨T,J1 none 0 0,S,U⟩):=by
 obtain⟨a,c,b,h1,h2⟩:=q9r p v k d;rw[h1,h2,set_mid _ _ _ _ _ _ b (by show 6<14;omega),set_mid _ _ _ _ _ _ b (by simp[lkL]),set_mid _ _ _ _ _ _ b (by simp[lkL]),set_mid _ _ _ _ _ _ b (by simp[lkL]),set_mid _ _ _ _ _ _ b (by simp[lkL]),set_mid _ _ _ _ _ _ b (by simp[lkL]),set_mid _ _ _ _ _ _ b (by simp[lkL])]
 rfl
theorem j4m{P:Nat->Prop}{w:World}{p:Pr}{v:PrV}(h:PIn P w p v)(k:Nat)(x:Ln.Line)(T S U:Value)(h1:Rep P w T 2 16 (pwC p.set))(h2:z0C P w S 1 16 (txC x.S))(h3:z0C P w U 1 8 (inC x.D)) :
  PIn P w { p with L:=z1a p.L k { p.L k with out:=x,told:=p.set,fresh:=false,done:=[] } } (v.upd k ⟨T,J1 none 0 0,S,U⟩):=by
 refine⟨h.ws,h.set,fun c hc=>?_,h.q⟩
 show z5g P w (if c=k then _ else p.L c) (if c=k then _ else v.l c)
 by_cases e:c=k
 ·rw[if_pos e,if_pos e];exact⟨h1,Rep.nil _ _ _ _,h2,h3⟩
 ·rw[if_neg e,if_neg e];exact h.lk c hc
noncomputable def j5M:Code:=q2V [1,1] (f80.body.getD .skip)
noncomputable def j7m:Code:=q2V [1,1,1,1,1] (f80.body.getD .skip)
end Pv
end Go.Proofs.YtddlhnoedldidaaGreat
