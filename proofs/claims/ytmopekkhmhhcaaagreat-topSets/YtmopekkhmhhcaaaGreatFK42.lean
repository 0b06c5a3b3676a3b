/- Parts of the proof. -/
import Derived.Test.YtmopekkhmhhcaaaGreatFL
import Derived.Test.YtmopekkhmhhcaaaGreatFK17
set_option maxRecDepth 100000
set_option maxHeartbeats 16000000
namespace Go.Proofs.YtmopekkhmhhcaaaGreat
open Go.Proofs.Tryz
namespace Wd
open Go.RowKit Pv
structure Row(w:World)(A:Option Addr)(n C sz:Nat)(cs:List Value):Prop where
 len:cs.length=n * sz
 nil:A=none->n=0/\C=0
 at_:∀ ad,A=some ad->∀ j u,cs[j]?=some u->w.cell? (ad.add j)=some u
theorem row_of{P:Nat->Prop}{w:World}{v:Value}{sz bts:Nat}{cs:List Value}(h:Rep P w v sz bts cs){n:Nat}(hn:cs.length=n * sz)(hz:0<sz):∃ A C,v=.slice A n C/\Row w A n C sz cs/\n * bts<=140737488351232:=by
 obtain⟨A,C,rfl,hl,h0,-,h1⟩:=h.open hn hz;exact⟨A,C,rfl,⟨hn,h0,h1⟩,hl⟩
theorem z5s{P:Nat->Prop}{w:World}{v:Value}{sz bts:Nat}{cs:List Value}(h:z0I P w v sz bts cs){n:Nat}(hn:cs.length=n * sz)(hz:0<sz):∃ A C,v=.slice A n C/\Row w A n C sz cs/\n * bts<=140737488351232:=by
 obtain⟨A,m,C,C',rfl,hc,h'⟩:=h;obtain⟨A1,C1,e,hl,h0,-,h1⟩:=h'.open hn hz;cases e;exact⟨A,C,rfl,⟨hn,fun e=>⟨(h0 e).1,hc e⟩,h1⟩,hl⟩
theorem j8W:(prog.info? 3).map (fun i=>(i.zero,i.size,i.bytes))=some (some (.int .i64 0),1,8):=by kernel_rfl
theorem j3R(w:World)(a:Option Addr)(n c:Nat):(binOp .eql 45 (.slice a n c) (.slice none 0 0)).run prog w=.ok (.bool a.isNone) w:=by
 simp[binOp,run_equal_slice_nil w 45 3 a n c underlying45]
theorem j3f(w:World):(w.alloc (.cells #[] 3)).ownsRow w.heap.size 3 1 (.slice (some ⟨w.heap.size,0,none⟩) 0 0) 0 []:=⟨rfl,.inr ⟨w.heap.size,0,#[],rfl,Nat.le_refl _,heap_alloc_new _ _,Nat.le_refl _,Nat.zero_le _,rfl,rfl⟩⟩
theorem q9G(w:World)(a:Addr)(n c:Nat)(cs:List Value)(h:Row w (some a) n c 1 cs)(h1:∀ u∈cs,u.oneCell'=true)(hb:n * 8<=140737488351232) :
  ∃ A C w',(Builtin.append_ #[45,45] 45 #[.slice (some ⟨w.heap.size,0,none⟩) 0 0,.slice (some a) n c]).run prog (w.alloc (.cells #[] 3))=.ok (.slice A n C) w'/\w'.ownsRow w.heap.size 3 1 (.slice A n C) n cs/\Below w.heap.size w w':=by
 obtain⟨i0,hi,hz0,hz1,hz2⟩:=info_parts j8W
 have hlt:∀ j u,cs[j]?=some u->(w.alloc (.cells #[] 3)).cell? (a.add j)=some u:=fun j u hj=>by
  have h2:=h.at_ a rfl j u hj;have h3:(a.add j).block<w.heap.size:=World.block_lt_of_cell? w _ h2;rw[((Below.refl w.heap.size w).alloc (Nat.le_refl _) (.cells #[] 3)).cell h3];exact h2
 obtain⟨v',w',hr,ho,hg,-,hat⟩:=run_append_own_at (P:=prog) (w.alloc (.cells #[] 3)) w.heap.size 45 45 3 i0 _ 1 8 underlying45 hi hz0 hz1 hz2 rfl (by omega) _ 0 [] (j3f w) a n c cs h.len
  hlt h1 (by simp only[maxLen];omega) (by omega) (by simp)
 rw[Nat.zero_add,List.nil_append]at ho
 have hv:∃ A C,v'=.slice A n C:=by
  rcases ho.2 with⟨rfl,h0⟩ | ⟨g,cap,cur,rfl,_⟩
  ·rw[h0];exact⟨none,0,rfl⟩
  ·exact⟨_,_,rfl⟩
 obtain⟨A,C,rfl⟩:=hv;refine⟨A,C,w',hr,ho,?_⟩;have hb:=(Below.refl w.heap.size w).alloc (Nat.le_refl _) (.cells #[] 3);exact⟨hg.os.trans hb.os,hg.tape.trans hb.tape,hg.output.trans hb.output,Nat.le_trans hb.size hg.size,fun k hk=>(hg.block k (by simp;omega) (by simp[Value.ownBlock];omega)).trans (hb.block k hk)⟩
theorem q4N{ops:Array Oper}{rest:List Oper}{o:Oper}{a:Act}{w:World}{Q:Exit->Act->World->Prop}(hg:o.guard=none)(hty:o.type=45)(p q:Operand)
  (hop:o.op=Op.call { callee:=Callee.builtin Builtin.append,args:=#[p,q],argTypes:=#[45,45] }) (ad:Addr) (n c:Nat) (cs:List Value) (hs:a.eval p=.slice (some ⟨w.heap.size,0,none⟩) 0 0) (hx:a.eval q=.slice (some ad) n c) (h:Row w (some ad) n c 1 cs) (h1:∀ u∈cs,u.oneCell'=true) (hb:n * 8<=140737488351232)
  (hK:∀ A C w',w'.ownsRow w.heap.size 3 1 (.slice A n C) n cs/\Below w.heap.size w w'->wpList prog ops Q rest (a.put o.dst (.slice A n C)) w'):wpList prog ops Q (o :: rest) a (w.alloc (.cells #[] 3)):=by
 refine wpList_plain hg fun _ hK'=>?_;unfold Oper.wp;obtain⟨A,C,w',hr,h1⟩:=q9G w ad n c cs h h1 hb
 simp[execOp,hop,resolve,invoke,builtin,hs,hx,hty,hr,Result.andThen]
 exact hK' _ _ (hK _ _ _ h1)
theorem z6p(A:Option Addr)(n C:Nat)(cs:List Value)(w:World)(h:Row w A n C 1 cs)(h1:∀ u∈cs,u.oneCell'=true)(hb:n * 8<=140737488351232) :
  Calls prog 42 #[.slice A n C] w fun e w'=>∃ A' C',e=.returned (.slice A' n C')/\Rep (fun b=>w.heap.size<=b) w' (.slice A' n C') 1 8 cs/\Below w.heap.size w w':=by
 cases A with
 | none =>
  obtain⟨rfl,rfl⟩:=h.nil rfl;obtain rfl:cs=[]:=List.length_eq_zero_iff.1 (by rw[h.len])
  have hq:=fun w=>j3R w none 0 0;clear h h1
  go_enter func42,ntmps42
  go_wp2;go_ret;exact⟨_,_,rfl,Rep.nil _ _ _ _,Below.refl _ _⟩
 | some a =>
  have hq:=fun w=>j3R w (some a) n C;have HH:=hide h;have H1:=hide h1;clear h h1
  go_enter func42,ntmps42
  go_upto_region 3 with fail
  apply wp_region_lit
  iterate 6 go_step
  refine q4N rfl rfl _ _ rfl a n C cs rfl rfl HH.out H1.out hb ?_;rintro A' C' w'⟨h1,h2⟩;have H1:=hide h1;have H2:=hide h2;clear h1 h2;go_wp2;go_ret;exact⟨_,_,rfl,Rep.own H1.out hb,H2.out⟩
theorem j9u:(prog.info? 9).map (fun i=>(i.zero,i.size,i.bytes))=some (some (.string ⟨#[]⟩),1,16):=by kernel_rfl
theorem j3Y(w:World)(a:Option Addr)(n c:Nat):(binOp .eql 23 (.slice a n c) (.slice none 0 0)).run prog w=.ok (.bool a.isNone) w:=by
 simp[binOp,run_equal_slice_nil w 23 9 a n c underlying23]
theorem j1y(w:World):(w.alloc (.cells #[] 9)).ownsRow w.heap.size 9 1 (.slice (some ⟨w.heap.size,0,none⟩) 0 0) 0 []:=⟨rfl,.inr ⟨w.heap.size,0,#[],rfl,Nat.le_refl _,heap_alloc_new _ _,Nat.le_refl _,Nat.zero_le _,rfl,rfl⟩⟩
theorem j0k(w:World)(a:Addr)(n c:Nat)(cs:List Value)(h:Row w (some a) n c 1 cs)(h1:∀ u∈cs,u.oneCell'=true)(hb:n * 16<=140737488351232) :
  ∃ A C w',(Builtin.append_ #[23,23] 23 #[.slice (some ⟨w.heap.size,0,none⟩) 0 0,.slice (some a) n c]).run prog (w.alloc (.cells #[] 9))=.ok (.slice A n C) w'/\w'.ownsRow w.heap.size 9 1 (.slice A n C) n cs/\Below w.heap.size w w':=by
 obtain⟨i0,hi,hz0,hz1,hz2⟩:=info_parts j9u
 have hlt:∀ j u,cs[j]?=some u->(w.alloc (.cells #[] 9)).cell? (a.add j)=some u:=fun j u hj=>by
  have h2:=h.at_ a rfl j u hj;have h3:(a.add j).block<w.heap.size:=World.block_lt_of_cell? w _ h2;rw[((Below.refl w.heap.size w).alloc (Nat.le_refl _) (.cells #[] 9)).cell h3];exact h2
 obtain⟨v',w',hr,ho,hg,-,hat⟩:=run_append_own_at (P:=prog) (w.alloc (.cells #[] 9)) w.heap.size 23 23 9 i0 _ 1 16 underlying23 hi hz0 hz1 hz2 rfl (by omega) _ 0 [] (j1y w) a n c cs h.len
  hlt h1 (by simp only[maxLen];omega) (by omega) (by simp)
 rw[Nat.zero_add,List.nil_append]at ho
 have hv:∃ A C,v'=.slice A n C:=by
  rcases ho.2 with⟨rfl,h0⟩ | ⟨g,cap,cur,rfl,_⟩
  ·rw[h0];exact⟨none,0,rfl⟩
  ·exact⟨_,_,rfl⟩
 obtain⟨A,C,rfl⟩:=hv;refine⟨A,C,w',hr,ho,?_⟩;have hb:=(Below.refl w.heap.size w).alloc (Nat.le_refl _) (.cells #[] 9);exact⟨hg.os.trans hb.os,hg.tape.trans hb.tape,hg.output.trans hb.output,Nat.le_trans hb.size hg.size,fun k hk=>(hg.block k (by simp;omega) (by simp[Value.ownBlock];omega)).trans (hb.block k hk)⟩
theorem q6S{ops:Array Oper}{rest:List Oper}{o:Oper}{a:Act}{w:World}{Q:Exit->Act->World->Prop}(hg:o.guard=none)(hty:o.type=23)(p q:Operand)
  (hop:o.op=Op.call { callee:=Callee.builtin Builtin.append,args:=#[p,q],argTypes:=#[23,23] }) (ad:Addr) (n c:Nat) (cs:List Value) (hs:a.eval p=.slice (some ⟨w.heap.size,0,none⟩) 0 0) (hx:a.eval q=.slice (some ad) n c) (h:Row w (some ad) n c 1 cs) (h1:∀ u∈cs,u.oneCell'=true) (hb:n * 16<=140737488351232)
  (hK:∀ A C w',w'.ownsRow w.heap.size 9 1 (.slice A n C) n cs/\Below w.heap.size w w'->wpList prog ops Q rest (a.put o.dst (.slice A n C)) w'):wpList prog ops Q (o :: rest) a (w.alloc (.cells #[] 9)):=by
 refine wpList_plain hg fun _ hK'=>?_;unfold Oper.wp;obtain⟨A,C,w',hr,h1⟩:=j0k w ad n c cs h h1 hb
 simp[execOp,hop,resolve,invoke,builtin,hs,hx,hty,hr,Result.andThen]
 exact hK' _ _ (hK _ _ _ h1)
theorem q5T(A:Option Addr)(n C:Nat)(cs:List Value)(w:World)(h:Row w A n C 1 cs)(h1:∀ u∈cs,u.oneCell'=true)(hb:n * 16<=140737488351232) :
  Calls prog 61 #[.slice A n C] w fun e w'=>∃ A' C',e=.returned (.slice A' n C')/\Rep (fun b=>w.heap.size<=b) w' (.slice A' n C') 1 16 cs/\Below w.heap.size w w':=by
 cases A with
 | none =>
  obtain⟨rfl,rfl⟩:=h.nil rfl;obtain rfl:cs=[]:=List.length_eq_zero_iff.1 (by rw[h.len])
  have hq:=fun w=>j3Y w none 0 0;clear h h1
  go_enter func61,ntmps61
  go_wp2;go_ret;exact⟨_,_,rfl,Rep.nil _ _ _ _,Below.refl _ _⟩
 | some a =>
  have hq:=fun w=>j3Y w (some a) n C;have HH:=hide h;have H1:=hide h1;clear h h1
  go_enter func61,ntmps61
  go_upto_region 3 with fail
  apply wp_region_lit
  iterate 6 go_step
  refine q6S rfl rfl _ _ rfl a n C cs rfl rfl HH.out H1.out hb ?_;rintro A' C' w'⟨h1,h2⟩;have H1:=hide h1;have H2:=hide h2;clear h1 h2;go_wp2;go_ret;exact⟨_,_,rfl,Rep.own H1.out hb,H2.out⟩
theorem j8D:(prog.info? 85).map (fun i=>(i.zero,i.size,i.bytes))=some (some (.agg #[.int .i64 0,.int .i64 0,.int .i64 0,.int .i64 0,.int .i64 0,.slice none 0 0,.slice none 0 0]),7,88):=by kernel_rfl
theorem j3F(w:World)(a:Option Addr)(n c:Nat):(binOp .eql 55 (.slice a n c) (.slice none 0 0)).run prog w=.ok (.bool a.isNone) w:=by
 simp[binOp,run_equal_slice_nil w 55 85 a n c underlying55]
theorem j2X(w:World):(w.alloc (.cells #[] 85)).ownsRow w.heap.size 85 7 (.slice (some ⟨w.heap.size,0,none⟩) 0 0) 0 []:=⟨rfl,.inr ⟨w.heap.size,0,#[],rfl,Nat.le_refl _,heap_alloc_new _ _,Nat.le_refl _,Nat.zero_le _,rfl,rfl⟩⟩
theorem q7D(w:World)(a:Addr)(n c:Nat)(cs:List Value)(h:Row w (some a) n c 7 cs)(h1:∀ u∈cs,u.oneCell'=true)(hb:n * 88<=140737488351232) :
  ∃ A C w',(Builtin.append_ #[55,55] 55 #[.slice (some ⟨w.heap.size,0,none⟩) 0 0,.slice (some a) n c]).run prog (w.alloc (.cells #[] 85))=.ok (.slice A n C) w'/\w'.ownsRow w.heap.size 85 7 (.slice A n C) n cs/\Below w.heap.size w w':=by
 obtain⟨i0,hi,hz0,hz1,hz2⟩:=info_parts j8D
 have hlt:∀ j u,cs[j]?=some u->(w.alloc (.cells #[] 85)).cell? (a.add j)=some u:=fun j u hj=>by
  have h2:=h.at_ a rfl j u hj;have h3:(a.add j).block<w.heap.size:=World.block_lt_of_cell? w _ h2;rw[((Below.refl w.heap.size w).alloc (Nat.le_refl _) (.cells #[] 85)).cell h3];exact h2
 obtain⟨v',w',hr,ho,hg,-,hat⟩:=run_append_own_at (P:=prog) (w.alloc (.cells #[] 85)) w.heap.size 55 55 85 i0 _ 7 88 underlying55 hi hz0 hz1 hz2 rfl (by omega) _ 0 [] (j2X w) a n c cs h.len
  hlt h1 (by simp only[maxLen];omega) (by omega) (by simp)
 rw[Nat.zero_add,List.nil_append]at ho
 have hv:∃ A C,v'=.slice A n C:=by
  rcases ho.2 with⟨rfl,h0⟩ | ⟨g,cap,cur,rfl,_⟩
  ·rw[h0];exact⟨none,0,rfl⟩
  ·exact⟨_,_,rfl⟩
 obtain⟨A,C,rfl⟩:=hv;refine⟨A,C,w',hr,ho,?_⟩;have hb:=(Below.refl w.heap.size w).alloc (Nat.le_refl _) (.cells #[] 85);exact⟨hg.os.trans hb.os,hg.tape.trans hb.tape,hg.output.trans hb.output,Nat.le_trans hb.size hg.size,fun k hk=>(hg.block k (by simp;omega) (by simp[Value.ownBlock];omega)).trans (hb.block k hk)⟩
theorem q6L{ops:Array Oper}{rest:List Oper}{o:Oper}{a:Act}{w:World}{Q:Exit->Act->World->Prop}(hg:o.guard=none)(hty:o.type=55)(p q:Operand)
  (hop:o.op=Op.call { callee:=Callee.builtin Builtin.append,args:=#[p,q],argTypes:=#[55,55] }) (ad:Addr) (n c:Nat) (cs:List Value) (hs:a.eval p=.slice (some ⟨w.heap.size,0,none⟩) 0 0) (hx:a.eval q=.slice (some ad) n c) (h:Row w (some ad) n c 7 cs) (h1:∀ u∈cs,u.oneCell'=true) (hb:n * 88<=140737488351232)
  (hK:∀ A C w',w'.ownsRow w.heap.size 85 7 (.slice A n C) n cs/\Below w.heap.size w w'->wpList prog ops Q rest (a.put o.dst (.slice A n C)) w'):wpList prog ops Q (o :: rest) a (w.alloc (.cells #[] 85)):=by
 refine wpList_plain hg fun _ hK'=>?_;unfold Oper.wp;obtain⟨A,C,w',hr,h1⟩:=q7D w ad n c cs h h1 hb
 simp[execOp,hop,resolve,invoke,builtin,hs,hx,hty,hr,Result.andThen]
 exact hK' _ _ (hK _ _ _ h1)
theorem j8e:(prog.info? 70).map (fun i=>(i.zero,i.size,i.bytes))=some (some (.agg #[.int .i64 0,.int .i64 0,.int .i64 0,.int .i64 0,.slice none 0 0,.slice none 0 0]),6,80):=by kernel_rfl
theorem j4e(w:World)(a:Option Addr)(n c:Nat):(binOp .eql 59 (.slice a n c) (.slice none 0 0)).run prog w=.ok (.bool a.isNone) w:=by
 simp[binOp,run_equal_slice_nil w 59 70 a n c underlying59]
theorem j1V(w:World):(w.alloc (.cells #[] 70)).ownsRow w.heap.size 70 6 (.slice (some ⟨w.heap.size,0,none⟩) 0 0) 0 []:=⟨rfl,.inr ⟨w.heap.size,0,#[],rfl,Nat.le_refl _,heap_alloc_new _ _,Nat.le_refl _,Nat.zero_le _,rfl,rfl⟩⟩
theorem j0P(w:World)(a:Addr)(n c:Nat)(cs:List Value)(h:Row w (some a) n c 6 cs)(h1:∀ u∈cs,u.oneCell'=true)(hb:n * 80<=140737488351232) :
  ∃ A C w',(Builtin.append_ #[59,59] 59 #[.slice (some ⟨w.heap.size,0,none⟩) 0 0,.slice (some a) n c]).run prog (w.alloc (.cells #[] 70))=.ok (.slice A n C) w'/\w'.ownsRow w.heap.size 70 6 (.slice A n C) n cs/\Below w.heap.size w w':=by
 obtain⟨i0,hi,hz0,hz1,hz2⟩:=info_parts j8e
 have hlt:∀ j u,cs[j]?=some u->(w.alloc (.cells #[] 70)).cell? (a.add j)=some u:=fun j u hj=>by
  have h2:=h.at_ a rfl j u hj;have h3:(a.add j).block<w.heap.size:=World.block_lt_of_cell? w _ h2;rw[((Below.refl w.heap.size w).alloc (Nat.le_refl _) (.cells #[] 70)).cell h3];exact h2
 obtain⟨v',w',hr,ho,hg,-,hat⟩:=run_append_own_at (P:=prog) (w.alloc (.cells #[] 70)) w.heap.size 59 59 70 i0 _ 6 80 underlying59 hi hz0 hz1 hz2 rfl (by omega) _ 0 [] (j1V w) a n c cs h.len
  hlt h1 (by simp only[maxLen];omega) (by omega) (by simp)
 rw[Nat.zero_add,List.nil_append]at ho
 have hv:∃ A C,v'=.slice A n C:=by
  rcases ho.2 with⟨rfl,h0⟩ | ⟨g,cap,cur,rfl,_⟩
  ·rw[h0];exact⟨none,0,rfl⟩
  ·exact⟨_,_,rfl⟩
 obtain⟨A,C,rfl⟩:=hv;refine⟨A,C,w',hr,ho,?_⟩;have hb:=(Below.refl w.heap.size w).alloc (Nat.le_refl _) (.cells #[] 70);exact⟨hg.os.trans hb.os,hg.tape.trans hb.tape,hg.output.trans hb.output,Nat.le_trans hb.size hg.size,fun k hk=>(hg.block k (by simp;omega) (by simp[Value.ownBlock];omega)).trans (hb.block k hk)⟩
theorem q5W{ops:Array Oper}{rest:List Oper}{o:Oper}{a:Act}{w:World}{Q:Exit->Act->World->Prop}(hg:o.guard=none)(hty:o.type=59)(p q:Operand)
  (hop:o.op=Op.call { callee:=Callee.builtin Builtin.append,args:=#[p,q],argTypes:=#[59,59] }) (ad:Addr) (n c:Nat) (cs:List Value) (hs:a.eval p=.slice (some ⟨w.heap.size,0,none⟩) 0 0) (hx:a.eval q=.slice (some ad) n c) (h:Row w (some ad) n c 6 cs) (h1:∀ u∈cs,u.oneCell'=true) (hb:n * 80<=140737488351232)
  (hK:∀ A C w',w'.ownsRow w.heap.size 70 6 (.slice A n C) n cs/\Below w.heap.size w w'->wpList prog ops Q rest (a.put o.dst (.slice A n C)) w'):wpList prog ops Q (o :: rest) a (w.alloc (.cells #[] 70)):=by
 refine wpList_plain hg fun _ hK'=>?_;unfold Oper.wp;obtain⟨A,C,w',hr,h1⟩:=j0P w ad n c cs h h1 hb
 simp[execOp,hop,resolve,invoke,builtin,hs,hx,hty,hr,Result.andThen]
 exact hK' _ _ (hK _ _ _ h1)
theorem j8f:(prog.info? 88).map (fun i=>(i.zero,i.size,i.bytes))=some (some (.agg #[.int .i64 0,.int .i64 0]),2,16):=by kernel_rfl
theorem j3O(w:World)(a:Option Addr)(n c:Nat):(binOp .eql 60 (.slice a n c) (.slice none 0 0)).run prog w=.ok (.bool a.isNone) w:=by
 simp[binOp,run_equal_slice_nil w 60 88 a n c underlying60]
theorem j1n(w:World):(w.alloc (.cells #[] 88)).ownsRow w.heap.size 88 2 (.slice (some ⟨w.heap.size,0,none⟩) 0 0) 0 []:=⟨rfl,.inr ⟨w.heap.size,0,#[],rfl,Nat.le_refl _,heap_alloc_new _ _,Nat.le_refl _,Nat.zero_le _,rfl,rfl⟩⟩
theorem q7I(w:World)(a:Addr)(n c:Nat)(cs:List Value)(h:Row w (some a) n c 2 cs)(h1:∀ u∈cs,u.oneCell'=true)(hb:n * 16<=140737488351232) :
  ∃ A C w',(Builtin.append_ #[60,60] 60 #[.slice (some ⟨w.heap.size,0,none⟩) 0 0,.slice (some a) n c]).run prog (w.alloc (.cells #[] 88))=.ok (.slice A n C) w'/\w'.ownsRow w.heap.size 88 2 (.slice A n C) n cs/\Below w.heap.size w w':=by
 obtain⟨i0,hi,hz0,hz1,hz2⟩:=info_parts j8f
 have hlt:∀ j u,cs[j]?=some u->(w.alloc (.cells #[] 88)).cell? (a.add j)=some u:=fun j u hj=>by
  have h2:=h.at_ a rfl j u hj;have h3:(a.add j).block<w.heap.size:=World.block_lt_of_cell? w _ h2;rw[((Below.refl w.heap.size w).alloc (Nat.le_refl _) (.cells #[] 88)).cell h3];exact h2
 obtain⟨v',w',hr,ho,hg,-,hat⟩:=run_append_own_at (P:=prog) (w.alloc (.cells #[] 88)) w.heap.size 60 60 88 i0 _ 2 16 underlying60 hi hz0 hz1 hz2 rfl (by omega) _ 0 [] (j1n w) a n c cs h.len
  hlt h1 (by simp only[maxLen];omega) (by omega) (by simp)
 rw[Nat.zero_add,List.nil_append]at ho
 have hv:∃ A C,v'=.slice A n C:=by
  rcases ho.2 with⟨rfl,h0⟩ | ⟨g,cap,cur,rfl,_⟩
  ·rw[h0];exact⟨none,0,rfl⟩
  ·exact⟨_,_,rfl⟩
 obtain⟨A,C,rfl⟩:=hv;refine⟨A,C,w',hr,ho,?_⟩;have hb:=(Below.refl w.heap.size w).alloc (Nat.le_refl _) (.cells #[] 88);exact⟨hg.os.trans hb.os,hg.tape.trans hb.tape,hg.output.trans hb.output,Nat.le_trans hb.size hg.size,fun k hk=>(hg.block k (by simp;omega) (by simp[Value.ownBlock];omega)).trans (hb.block k hk)⟩
theorem q5j{ops:Array Oper}{rest:List Oper}{o:Oper}{a:Act}{w:World}{Q:Exit->Act->World->Prop}(hg:o.guard=none)(hty:o.type=60)(p q:Operand)
  (hop:o.op=Op.call { callee:=Callee.builtin Builtin.append,args:=#[p,q],argTypes:=#[60,60] }) (ad:Addr) (n c:Nat) (cs:List Value) (hs:a.eval p=.slice (some ⟨w.heap.size,0,none⟩) 0 0) (hx:a.eval q=.slice (some ad) n c) (h:Row w (some ad) n c 2 cs) (h1:∀ u∈cs,u.oneCell'=true) (hb:n * 16<=140737488351232)
  (hK:∀ A C w',w'.ownsRow w.heap.size 88 2 (.slice A n C) n cs/\Below w.heap.size w w'->wpList prog ops Q rest (a.put o.dst (.slice A n C)) w'):wpList prog ops Q (o :: rest) a (w.alloc (.cells #[] 88)):=by
 refine wpList_plain hg fun _ hK'=>?_;unfold Oper.wp;obtain⟨A,C,w',hr,h1⟩:=q7I w ad n c cs h h1 hb
 simp[execOp,hop,resolve,invoke,builtin,hs,hx,hty,hr,Result.andThen]
 exact hK' _ _ (hK _ _ _ h1)
theorem q6v(A:Option Addr)(n C:Nat)(cs:List Value)(w:World)(h:Row w A n C 2 cs)(h1:∀ u∈cs,u.oneCell'=true)(hb:n * 16<=140737488351232) :
  Calls prog 47 #[.slice A n C] w fun e w'=>∃ A' C',e=.returned (.slice A' n C')/\Rep (fun b=>w.heap.size<=b) w' (.slice A' n C') 2 16 cs/\Below w.heap.size w w':=by
 cases A with
 | none =>
  obtain⟨rfl,rfl⟩:=h.nil rfl;obtain rfl:cs=[]:=List.length_eq_zero_iff.1 (by rw[h.len])
  have hq:=fun w=>j3O w none 0 0;clear h h1
  go_enter func47,ntmps47
  go_wp2;go_ret;exact⟨_,_,rfl,Rep.nil _ _ _ _,Below.refl _ _⟩
 | some a =>
  have hq:=fun w=>j3O w (some a) n C;have HH:=hide h;have H1:=hide h1;clear h h1
  go_enter func47,ntmps47
  go_upto_region 3 with fail
  apply wp_region_lit
  iterate 6 go_step
  refine q5j rfl rfl _ _ rfl a n C cs rfl rfl HH.out H1.out hb ?_;rintro A' C' w'⟨h1,h2⟩;have H1:=hide h1;have H2:=hide h2;clear h1 h2;go_wp2;go_ret;exact⟨_,_,rfl,Rep.own H1.out hb,H2.out⟩
theorem j9I:(prog.info? 68).map (fun i=>(i.zero,i.size,i.bytes))=some (some (.agg #[.int .i64 0,.int .i64 0]),2,16):=by kernel_rfl
theorem q1P(w:World)(a:Option Addr)(n c:Nat):(binOp .eql 44 (.slice a n c) (.slice none 0 0)).run prog w=.ok (.bool a.isNone) w:=by
 simp[binOp,run_equal_slice_nil w 44 68 a n c underlying44]
theorem q0e(w:World):(w.alloc (.cells #[] 68)).ownsRow w.heap.size 68 2 (.slice (some ⟨w.heap.size,0,none⟩) 0 0) 0 []:=⟨rfl,.inr ⟨w.heap.size,0,#[],rfl,Nat.le_refl _,heap_alloc_new _ _,Nat.le_refl _,Nat.zero_le _,rfl,rfl⟩⟩
theorem z7R(w:World)(a:Addr)(n c:Nat)(cs:List Value)(h:Row w (some a) n c 2 cs)(h1:∀ u∈cs,u.oneCell'=true)(hb:n * 16<=140737488351232) :
  ∃ A C w',(Builtin.append_ #[44,44] 44 #[.slice (some ⟨w.heap.size,0,none⟩) 0 0,.slice (some a) n c]).run prog (w.alloc (.cells #[] 68))=.ok (.slice A n C) w'/\w'.ownsRow w.heap.size 68 2 (.slice A n C) n cs/\Below w.heap.size w w':=by
 obtain⟨i0,hi,hz0,hz1,hz2⟩:=info_parts j9I
 have hlt:∀ j u,cs[j]?=some u->(w.alloc (.cells #[] 68)).cell? (a.add j)=some u:=fun j u hj=>by
  have h2:=h.at_ a rfl j u hj;have h3:(a.add j).block<w.heap.size:=World.block_lt_of_cell? w _ h2;rw[((Below.refl w.heap.size w).alloc (Nat.le_refl _) (.cells #[] 68)).cell h3];exact h2
 obtain⟨v',w',hr,ho,hg,-,hat⟩:=run_append_own_at (P:=prog) (w.alloc (.cells #[] 68)) w.heap.size 44 44 68 i0 _ 2 16 underlying44 hi hz0 hz1 hz2 rfl (by omega) _ 0 [] (q0e w) a n c cs h.len
  hlt h1 (by simp only[maxLen];omega) (by omega) (by simp)
 rw[Nat.zero_add,List.nil_append]at ho
 have hv:∃ A C,v'=.slice A n C:=by
  rcases ho.2 with⟨rfl,h0⟩ | ⟨g,cap,cur,rfl,_⟩
  ·rw[h0];exact⟨none,0,rfl⟩
  ·exact⟨_,_,rfl⟩
 obtain⟨A,C,rfl⟩:=hv;refine⟨A,C,w',hr,ho,?_⟩;have hb:=(Below.refl w.heap.size w).alloc (Nat.le_refl _) (.cells #[] 68);exact⟨hg.os.trans hb.os,hg.tape.trans hb.tape,hg.output.trans hb.output,Nat.le_trans hb.size hg.size,fun k hk=>(hg.block k (by simp;omega) (by simp[Value.ownBlock];omega)).trans (hb.block k hk)⟩
theorem z6G{ops:Array Oper}{rest:List Oper}{o:Oper}{a:Act}{w:World}{Q:Exit->Act->World->Prop}(hg:o.guard=none)(hty:o.type=44)(p q:Operand)
  (hop:o.op=Op.call { callee:=Callee.builtin Builtin.append,args:=#[p,q],argTypes:=#[44,44] }) (ad:Addr) (n c:Nat) (cs:List Value) (hs:a.eval p=.slice (some ⟨w.heap.size,0,none⟩) 0 0) (hx:a.eval q=.slice (some ad) n c) (h:Row w (some ad) n c 2 cs) (h1:∀ u∈cs,u.oneCell'=true) (hb:n * 16<=140737488351232)
  (hK:∀ A C w',w'.ownsRow w.heap.size 68 2 (.slice A n C) n cs/\Below w.heap.size w w'->wpList prog ops Q rest (a.put o.dst (.slice A n C)) w'):wpList prog ops Q (o :: rest) a (w.alloc (.cells #[] 68)):=by
 refine wpList_plain hg fun _ hK'=>?_;unfold Oper.wp;obtain⟨A,C,w',hr,h1⟩:=z7R w ad n c cs h h1 hb
 simp[execOp,hop,resolve,invoke,builtin,hs,hx,hty,hr,Result.andThen]
 exact hK' _ _ (hK _ _ _ h1)
theorem z4S(A:Option Addr)(n C:Nat)(cs:List Value)(w:World)(h:Row w A n C 2 cs)(h1:∀ u∈cs,u.oneCell'=true)(hb:n * 16<=140737488351232) :
  Calls prog 41 #[.slice A n C] w fun e w'=>∃ A' C',e=.returned (.slice A' n C')/\Rep (fun b=>w.heap.size<=b) w' (.slice A' n C') 2 16 cs/\Below w.heap.size w w':=by
 cases A with
 | none =>
  obtain⟨rfl,rfl⟩:=h.nil rfl;obtain rfl:cs=[]:=List.length_eq_zero_iff.1 (by rw[h.len])
  have hq:=fun w=>q1P w none 0 0;clear h h1
  go_enter func41,ntmps41
  go_wp2;go_ret;exact⟨_,_,rfl,Rep.nil _ _ _ _,Below.refl _ _⟩
 | some a =>
  have hq:=fun w=>q1P w (some a) n C;have HH:=hide h;have H1:=hide h1;clear h h1
  go_enter func41,ntmps41
  go_upto_region 3 with fail
  apply wp_region_lit
  iterate 6 go_step
  refine z6G rfl rfl _ _ rfl a n C cs rfl rfl HH.out H1.out hb ?_;rintro A' C' w'⟨h1,h2⟩;have H1:=hide h1;have H2:=hide h2;clear h1 h2;go_wp2;go_ret;exact⟨_,_,rfl,Rep.own H1.out hb,H2.out⟩
end Wd
namespace Pv
open Go.RowKit
def q2m:Value:=.slice none 0 0
def z5q:PrV:=⟨q2m,q2m,fun _=>⟨q2m,q2m,q2m,q2m⟩,q2m⟩
theorem q2t(P:Nat->Prop)(w:World):PIn P w newP z5q:=
 ⟨Rep.nil _ _ _ _,Rep.nil _ _ _ _,fun _ _=>⟨Rep.nil _ _ _ _,Rep.nil _ _ _ _,z0I.nil _ _ _ _,z0I.nil _ _ _ _⟩,[],rfl,Rep.nil _ _ _ _,fun i _ _ h=>by simp[newP]at h⟩
theorem z6g{fn:Func}{p:Tmp}(h:fn.results=#[.cell p 57])(tmps:Array Value)(w:World)(g:Nat)(cs:Array Value)
  (hp:tmps.getD p undef=.pointer (some ⟨g,0,none⟩)) (hg:CAt 57 w g cs) (hsz:cs.size=97) :
  (results fn tmps).run prog w=.ok (.agg cs) w:=
 results_cell_row h _ _ g 57 cs (0,0) _ hp hg underlying57 rfl (by rw[z3l,hsz])
theorem q3F(w:World):Calls prog 18 #[] w fun e w'=>e=.returned (.agg (prC newP z5q))/\Below w.heap.size w w':=by
 have R0:CAt 57 (w.alloc (.cells zeroCells57 57)) w.heap.size zeroCells57:=CAt.new _ w _;have HB0:Hid (Below w.heap.size w (w.alloc (.cells zeroCells57 57))):=znw w _;have hM:=Mt.q4s 0 0 (by unfold Mt.I64;omega)
 rw[show Mt.alw 0=1 from rfl,show wrap64 (0+10)=10 by first | rfl | (unfold wrap64;omega) | (unfold wrap64;decide) | (simp[wrap64])]at hM
 go_enter func18,ntmps18
 go_upto_region 1 with fail
 generalize w.alloc (.cells zeroCells57 57)=w0 at *;apply wp_region_lit
 go_step
 go_step
 refine (z4h _).mono ?_;rintro e w1⟨rfl,h1⟩;have R1:=R0.over h1;have HB1:=hide (zbt HB0.out h1);clear h1 R0 HB0;dsimp only
 go_step
 go_step
 go_step
 refine (hM _).mono ?_;rintro e w2⟨rfl,h2⟩;have R2:=R1.over h2;have HB2:=hide (zbt HB1.out h2);clear h2 R1 HB1 hM;dsimp only
 go_step
 go_step
 go_step
 change Oper.upon prog _ _ _ _ (Result.ok (Next.value (.agg (prC newP z5q))) w2);go_simp;apply_assumption;refine wpList_store_mid rfl 57 _ _ rfl _ 0 (prC newP z5q) rfl rfl (R2.there 0 _ (by rw[z0e,z0a];omega)) (by rw[z3l];rfl) (z1c (q2t (fun _=>True) w2)) ?_
 go_wp2;have R3:=R2.z0H (ds:=prC newP z5q) (by rw[z0e];rfl)
 exact bodyPost_ret (v:=.agg (prC newP z5q)) (z6g results18 _ _ _ _ rfl R3 rfl) rfl ⟨rfl,z0b (Nat.le_refl _) _ _ _ HB2.out⟩
end Pv
namespace Pv
open Go.RowKit
def y1e(P:Nat->Prop)(w:World)(r:Pr)(e:Ending)(w':World):Prop:=∃ v',e=.returned (.agg (prC r v'))/\PIn (New P w 2) w' r v'/\Below w.heap.size w w'
theorem q0H{f:Func}{t:Tmp}(hres:f.results=#[.cell t 57]){P:Nat->Prop}{w wq:World}{zs:Array Value}(R:CAt 57 wq (w.heap.size+1) zs)(hz:zs.size=97)(H:Below w.heap.size w wq)(p':Pr)(v':PrV)(r:Pr)(hr:r=p')(hp:PIn (New P w 2) wq p' v')(act:Act)
  (h8:act.tmps.getD t undef=.pointer (some ⟨w.heap.size+1,0,none⟩)) (hd:act.defers=[]) :
  bodyPost prog f (y1e P w r) Exit.ret act (wq.setCells (w.heap.size+1) 0 (prC p' v').toList):=by
 subst hr;have R3:=R.z0H (ds:=prC r v') (by rw[hz];rfl)
 exact bodyPost_ret (v:=.agg (prC r v')) (z6g hres _ _ _ _ h8 R3 rfl) hd ⟨v',rfl,hp.sets (z3P (by omega)) _ _,z0b (Nat.le_succ _) _ _ _ H⟩
theorem j5t(p:Pr)(v:PrV)(k:Nat)(hk:k<2):(((((prC p v).setIfInBounds (66+k * 14) (.bool false)).setIfInBounds (66+k * 14+1) (.bool true)).setIfInBounds (66+k * 14+6+3) (.bool true)).setIfInBounds (66+k * 14+4) (.bool false)).setIfInBounds (66+k * 14+5) q2m=prC { p with L:=z0Q p.L k (z4s (p.L k)) } (v.upd k { v.l k with done:=q2m }):=by
 obtain⟨a,c,ha,h1,h2⟩:=z5Q p v k hk;rw[h1,h2,← Nat.add_zero (66+k * 14)];rw[set_mid _ _ _ _ 0 _ ha (by simp[lkL]),Nat.add_zero,set_mid _ _ _ _ 1 _ ha (by simp[lkL]),Nat.add_assoc (66+k * 14) 6 3,set_mid _ _ _ _ (6+3) _ ha (by simp[lkL]),set_mid _ _ _ _ 4 _ ha (by simp[lkL]),set_mid _ _ _ _ 5 _ ha (by simp[lkL])]
 rfl
attribute [local go_sem ↓] z1K z0K z0q z1y
theorem z8q(p:Pr)(v:PrV)(P:Nat->Prop)(w:World)(c:Int)(hp:PIn P w p v)(hq88:p.q.length * 88<=140737488351232) :
  Calls prog 96 #[.agg (prC p v),.int .i64 c] w (y1e P w (z0u p c)):=by
 have hD:z0u p c=if z0x p=true/\z9A p c=true then { p with s:={ p.s with W:=z5D c.toNat 1099511627776 p.s.W },L:=z0Q p.L c.toNat (z4s (p.L c.toNat)),q:=p.q.filter fun a=>decide (a.1≠c) } else p:=by unfold z0u;rfl
 generalize z0u p c=D at *;have HD:=hide hD;clear hD;have HQ88:=hide hq88;clear hq88;have hone:=z1c hp;have HGD:=hide (fun (wx:World) (hb:Below w.heap.size w wx)=>z3m p v P wx (hp.over hb));have HN:=hide (fun (wx:World) (hb:Below w.heap.size w wx)=>hp.z2T hb 2);have HP:=hide hp;clear hp;generalize z0x p=G at *
 go_enter func96,ntmps96
 go_upto_region 1 with fail
 change Code.wp prog _ _ _ ((w.alloc (.cells (prC p v) 57)).alloc (.cells zeroCells57 57));have C0:CAt 57 ((w.alloc (.cells (prC p v) 57)).alloc (.cells zeroCells57 57)) w.heap.size (prC p v):=(CAt.new _ w _).alloc _;have R0:CAt 57 ((w.alloc (.cells (prC p v) 57)).alloc (.cells zeroCells57 57)) (w.heap.size+1) zeroCells57:=CAt.new2 _ w _ _;have B0:Below w.heap.size w ((w.alloc (.cells (prC p v) 57)).alloc (.cells zeroCells57 57)):=(znw w _).alloc (by simp) _
 generalize (w.alloc (.cells (prC p v) 57)).alloc (.cells zeroCells57 57)=w0 at *;have l0:=z0k C0 (z0a _ _);have H0:=hide (show _/\_/\_ from⟨C0,R0,B0⟩);clear C0 R0 B0
 by_cases hok:G=true/\z9A p c=true
 ·obtain⟨rfl,hon⟩:=hok;replace HD:=hide (HD.out.trans (if_pos ⟨rfl,hon⟩));have hcc:isC c=true:=by unfold z9A at hon;simp at hon;exact hon.1
  obtain⟨k,rfl,hk⟩:=z9B hcc;rw[Int.toNat_natCast]at HD;clear hcc
  go_upto_region 3 with (first
   | (go_at_call 74;refine (HGD.out _ H0.out.2.2).mono ?_;rintro e w1⟨rfl,hb1⟩;have C1:=H0.out.1.over hb1;clear l0)
   | (go_at_call 103;refine (z6d w.heap.size p v k _ C1).mono ?_;rintro e w'⟨rfl,rfl⟩;simp only[hon]))
  have R1:=H0.out.2.1.over hb1;have B1:=zbt H0.out.2.2 hb1;clear hb1 H0 HGD;have hkk:(k:Int)<2:=by omega
  have hkz:(0:Int)<=(k:Int):=by omega
  obtain⟨c0,c1,-,-,c4,c5,-,-,-,c9⟩:=(C1.lk hk).facts;have f0:=C1.free (66+k * 14);have f1:=C1.free (66+k * 14+1);have f4:=C1.free (66+k * 14+4);have f5:=C1.free (66+k * 14+5);have f9:=C1.free (66+k * 14+6+3);have hz1:=C1.lt;have HC1:=hide (show _/\_/\_ from⟨C1,R1,B1⟩);clear C1 R1 B1 hone;have HRL:=hide (fun (wx:World) (hb:Below w.heap.size w wx)=>j3K (HP.out.ws.over hb) k 1099511627776 hk);have HWC:=hide (fun (wx:World) (hb:Below w.heap.size w wx)=>q1w p.q v.q (fun b=>P b/\b<w.heap.size) wx k ((HP.out.q.mono (P':=fun b=>P b/\b<w.heap.size) fun _ hl hP=>⟨hP,hl⟩).keep fun b _ hlt=>hb.block b hlt) HQ88.out)
  go_upto_region 7 with fail
  have C2:=((((HC1.out.1.set (66+k * 14) (.bool false)).set (66+k * 14+1) (.bool true)).set (66+k * 14+6+3) (.bool true)).set (66+k * 14+4) (.bool false)).set (66+k * 14+5) (.slice none 0 0);rw[show (Value.slice none 0 0)=q2m from rfl,j5t p v k hk]at C2;have A2:Alt w.heap.size w1 _:=(((((Alt.refl w.heap.size w1).set (66+k * 14) (.bool false)).set (66+k * 14+1) (.bool true)).set (66+k * 14+6+3) (.bool true)).set (66+k * 14+4) (.bool false)).set (66+k * 14+5) q2m;have R2:=A2.cat (b:=w.heap.size+1) (by omega) HC1.out.2.1
  have B2:=HC1.out.2.2.trans (A2.below (Nat.le_refl _) HC1.out.2.2.size);change Code.wp prog _ _ _ (((((w1.setCell ⟨w.heap.size,66+k * 14,none⟩ (.bool false)).setCell ⟨w.heap.size,66+k * 14+1,none⟩ (.bool true)).setCell ⟨w.heap.size,66+k * 14+6+3,none⟩ (.bool true)).setCell ⟨w.heap.size,66+k * 14+4,none⟩ (.bool false)).setCell ⟨w.heap.size,66+k * 14+5,none⟩ q2m);clear A2 HC1 c0 c1 c4 c5 c9 f0 f1 f4 f5 f9;generalize ((((w1.setCell ⟨w.heap.size,66+k * 14,none⟩ (.bool false)).setCell ⟨w.heap.size,66+k * 14+1,none⟩ (.bool true)).setCell ⟨w.heap.size,66+k * 14+6+3,none⟩ (.bool true)).setCell ⟨w.heap.size,66+k * 14+4,none⟩ (.bool false)).setCell ⟨w.heap.size,66+k * 14+5,none⟩ q2m=w2 at *;have m2:=z2p C2;change (z8M (.pointer (some ⟨w.heap.size,2,none⟩))).run prog w2=.ok (.agg (stC p.s v.ws)) w2 at m2;have hz2:=R2.lt;have H2:=hide (show _/\_/\_ from⟨C2,R2,B2⟩);clear C2 R2 B2
  go_upto_region 8 with (go_at_call 133;refine (HRL.out _ H2.out.2.2).mono ?_;rintro e w3⟨u3,rfl,U3,hb3⟩;clear m2;have C3:=H2.out.1.over hb3;have sS3:=z2Z C3 (z0a _ _) (z0g { p.s with W:=z5D k 1099511627776 p.s.W } u3) (z7f _ U3.one'))
  have R3:=H2.out.2.1.over hb3;have B3:=zbt H2.out.2.2 hb3;have C4:=C3.z1l { p.s with W:=z5D k 1099511627776 p.s.W } u3
  have R4:=R3.others (c:=w.heap.size) (o:=2) (by omega) (stC { p.s with W:=z5D k 1099511627776 p.s.W } u3).toList
  have B4:=z0b (b:=w.heap.size) (Nat.le_refl _) (stC { p.s with W:=z5D k 1099511627776 p.s.W } u3).toList 2 _ B3
  have U4:=U3.sets (g:=w.heap.size) (fun h=>by omega) 2 (stC { p.s with W:=z5D k 1099511627776 p.s.W } u3).toList
  clear sS3 hb3 H2 C3 R3 B3 U3 HRL;generalize w3.setCells w.heap.size 2 (stC { p.s with W:=z5D k 1099511627776 p.s.W } u3).toList=w4 at *
  have a96:w4.cell? ⟨w.heap.size,96,none⟩=some v.q:=C4.cell 96;have hz4:=R4.lt;have H4:=hide (show _/\_/\_/\_ from⟨C4,R4,B4,U4⟩);clear C4 R4 B4 U4;obtain⟨zq,hzl,hzr,hzi⟩:=HP.out.q;obtain⟨Aq,nq,Dq,eq⟩:=hzr.one';have HQE:=hide eq;rw[eq]at a96 HWC;clear eq hzl hzr hzi
  go_upto_region 9 with (go_at_call 134;refine (HWC.out _ H4.out.2.2.1).mono ?_;rintro e w5⟨u5,rfl,U5,hb5⟩;clear a96;obtain⟨A5,n5,D5,e5⟩:∃ A n C,u5=.slice A n C:=(by obtain⟨_,_,h,_⟩:=id U5;exact h.one');subst e5;have C5:=H4.out.1.over hb5;have z96:w5.cell? ⟨w.heap.size,96,none⟩=some v.q:=C5.cell 96;have f96:=C5.free 96;have hz5:=C5.lt)
  have C6:=C5.set 96 (.slice A5 n5 D5);rw[y0T]at C6;have R6:=(H4.out.2.1.over hb5).other (c:=w.heap.size) (o:=96) (by omega) (.slice A5 n5 D5)
  have B5:=zbt H4.out.2.2.1 hb5;have B6:=B5.setCell (p:=⟨w.heap.size,96,none⟩) (Nat.le_refl _) (.slice A5 n5 D5);have A6:Alt w.heap.size w5 (w5.setCell ⟨w.heap.size,96,none⟩ (.slice A5 n5 D5)):=(Alt.refl _ _).set 96 _
  have N6:PIn (New P w 2) (w5.setCell ⟨w.heap.size,96,none⟩ (.slice A5 n5 D5)) { p with s:={ p.s with W:=z5D k 1099511627776 p.s.W },L:=z0Q p.L k (z4s (p.L k)),q:=p.q.filter fun a=>decide (a.1≠k) } { ws:=u3,set:=v.set,l:=(v.upd k { v.l k with done:=q2m }).l,q:=.slice A5 n5 D5 }:=by
   have n6:=HN.out _ B6;have hs2:w.heap.size+1<w4.heap.size:=hz4;refine⟨?_,n6.set,fun c hc=>?_,?_⟩
   ·have h4:=(H4.out.2.2.2.mono (P':=fun b=>w2.heap.size<=b/\b<w4.heap.size) fun _ hl h=>⟨h,hl⟩).over hb5;exact (A6.rep (fun h=>by omega) h4).mono fun b _ hb=>.inr (by omega)
   ·have h:=n6.lk c hc
    show z6c _ _ (if c=k then z4s (p.L k) else p.L c) (if c=k then { v.l k with done:=q2m } else v.l c)
    by_cases hck:c=k
    ·subst hck;rw[if_pos rfl,if_pos rfl];exact⟨h.told,Rep.nil _ _ _ _,h.said,h.due⟩
    ·rw[if_neg hck,if_neg hck];exact h
   ·obtain⟨z,h1,h2,h3⟩:=U5
    have hno:¬ New (fun b=>P b/\b<w.heap.size) w4 0 w.heap.size:=fun h=>by
     rcases h with⟨h,_⟩ | h
     ·have:=h.2;omega
     ·omega
    have hm:∀ b,b<(w5.setCell ⟨w.heap.size,96,none⟩ (.slice A5 n5 D5)).heap.size->New (fun b=>P b/\b<w.heap.size) w4 0 b->New P w 2 b:=fun b _ h=>by
     rcases h with⟨h,_⟩ | h
     ·exact .inl h
     ·exact .inr (by omega)
    exact⟨z,h1,(A6.rep hno h2).mono hm,fun i x y hx hy=>⟨(A6.rep hno (h3 i x y hx hy).1).mono hm,(A6.rep hno (h3 i x y hx hy).2).mono hm⟩⟩
  obtain⟨p6,v6,hd6,K6,M6⟩:∃ p6 v6,D=p6/\CAt 57 (w5.setCell ⟨w.heap.size,96,none⟩ (.slice A5 n5 D5)) w.heap.size (prC p6 v6)/\PIn (New P w 2) (w5.setCell ⟨w.heap.size,96,none⟩ (.slice A5 n5 D5)) p6 v6:=⟨_,_,HD.out,C6,N6⟩;have l6:=z0k K6 (z0a _ _);have s6:=z0l R6 z0e (z0a p6 v6) (z1c M6);have HZ:=hide (show _/\_/\_/\_ from⟨R6,B6,M6,hd6⟩);clear C6 K6 R6 B6 A6 N6 M6 B5 C5 U5 hb5 H4 HWC z96 f96 HD hd6;generalize w5.setCell ⟨w.heap.size,96,none⟩ (.slice A5 n5 D5)=w6 at *;go_wp2;exact q0H results96 HZ.out.1 z0e HZ.out.2.1 p6 v6 D HZ.out.2.2.2 HZ.out.2.2.1 _ rfl rfl
 ·replace HD:=hide (HD.out.trans (if_neg hok))
  have hcs:G=false∨(G=true/\z9A p c=false):=by
   cases G
   ·exact .inl rfl
   ·cases h:z9A p c
    ·exact .inr ⟨rfl,rfl⟩
    ·exact absurd ⟨rfl,h⟩ hok
  clear hok
  rcases hcs with rfl | ⟨rfl,h1⟩
  all_goals
   go_upto_region 2 with (first
    | (go_at_call 74;refine (HGD.out _ H0.out.2.2).mono ?_;rintro e w1⟨rfl,hb1⟩;have C1:=H0.out.1.over hb1;clear l0)
    | (go_at_call 103;refine (z6d w.heap.size p v c _ C1).mono ?_;rintro e w'⟨rfl,rfl⟩;simp only[h1]))
   have R1:=H0.out.2.1.over hb1;have l1:=z0k C1 (z0a _ _);have s1:=z0l R1 z0e (z0a p v) hone;have B1:=zbt H0.out.2.2 hb1;have HZ:=hide (show _/\_ from⟨R1,B1⟩);clear R1 B1 hb1 hone H0 HGD C1;go_wp2;exact q0H results96 HZ.out.1 z0e HZ.out.2 p v D HD.out (HN.out _ HZ.out.2) _ rfl rfl
end Pv
namespace Pv
open Go.RowKit
theorem j4O{p:Pr}{v:PrV}(k:Nat)(hk:k<2)(l:List Int)(U:Value) :
  (prC p v).setIfInBounds (66+k * 14+5) U=prC { p with L:=z0Q p.L k { p.L k with done:=l } } (v.upd k ⟨(v.l k).told,U,(v.l k).said,(v.l k).due⟩):=by
 match k,hk with
 | 0,_=>rfl
 | 1,_=>rfl
theorem j2Z{P:Nat->Prop}{w:World}{p:Pr}{v:PrV}(h:PIn P w p v)(k:Nat)(l:List Int)(U:Value)(h1:Rep P w U 1 8 (inC l)) :
  PIn P w { p with L:=z0Q p.L k { p.L k with done:=l } } (v.upd k ⟨(v.l k).told,U,(v.l k).said,(v.l k).due⟩):=by
 refine⟨h.ws,h.set,fun c hc=>?_,h.q⟩
 show z6c P w (if c=k then _ else p.L c) (if c=k then _ else v.l c)
 by_cases e:c=k
 ·subst e;rw[if_pos rfl,if_pos rfl];have:=h.lk c hc;exact⟨this.told,h1,this.said,this.due⟩
 ·rw[if_neg e,if_neg e];exact h.lk c hc
theorem PIn.put{P:Nat->Prop}{w:World}{p:Pr}{v:PrV}(h:PIn P w p v){g:Nat}(hg:¬ P g)(o:Nat)(x:Value):PIn P (w.setCell ⟨g,o,none⟩ x) p v:=h.keep fun b hb _=>Below.heap_setCell _ _ _ _ (show b≠g from fun e=>hg (by rw[← e];exact hb))
theorem Rep.put{P:Nat->Prop}{w:World}{v:Value}{sz bts:Nat}{cs:List Value}(h:Rep P w v sz bts cs){g:Nat}(hg:¬ P g)(o:Nat)(x:Value):Rep P (w.setCell ⟨g,o,none⟩ x) v sz bts cs:=h.keep fun b hb _=>Below.heap_setCell _ _ _ _ (show b≠g from fun e=>hg (by rw[← e];exact hb))
theorem Alt.put{g:Nat}{w w':World}(h:Alt g w w')(o:Nat)(x:Value):Alt g w (w'.setCell ⟨g,o,none⟩ x):=⟨h.os,h.tape,h.output,(by simp[World.setCell];exact h.size),fun k hk hn=>(Below.heap_setCell _ _ _ _ hn).trans (h.block k hk hn)⟩
theorem z8Y{g:Nat}{p p':Pr}{v':PrV}{P:Nat->Prop}{w w3 w4:World}{c:Nat}(hc:c<2){u:Value}{l:List Int}(hgl:g<w.heap.size)(hg:¬ P g)(hC:CAt 57 w3 g (prC p' v'))(hp:PIn (New P w 0) w3 p' v')(hA:Alt g w w3)(hU:Rep (New (New P w 0) w3 0) w4 u 1 8 (inC l))(hB:Below w3.heap.size w3 w4)
  (hr:p={ p' with L:=z0Q p'.L c { p'.L c with done:=l } }) (b:Bool) :
  z4E w g P (p,b) (.returned (.bool b)) (w4.setCell ⟨g,66+c * 14+5,none⟩ u):=by
 subst hr;have hn:¬ New P w 0 g:=z0N hg hgl
 have U2:Rep (New P w 0) w4 u 1 8 (inC l):=hU.mono fun b _ h=>by
  rcases h with⟨h,_⟩ | h
  ·exact h
  ·exact .inr (by have:=hA.size;omega)
 have C4:=(hC.over hB).set (66+c * 14+5) u;rw[j4O c hc l u]at C4;exact⟨_,rfl,C4,j2Z ((hp.over hB).put hn _ _) c l u (U2.put hn _ _),(hA.trans (Alt.of hB)).put _ _⟩
attribute [local go_sem ↓] z1K z0K z0q z1y
theorem q0U(g:Nat)(p:Pr)(v:PrV)(P:Nat->Prop)(w:World)(c:Nat)(hc:c<2)(n:Nat)(hn6:n<6)(hC:CAt 57 w g (prC p v))(hp:PIn P w p v)(hg:¬ P g)(hr:z2g (-1) (p.L c).done=true)(hj:(p.s.V n).jail=true) :
  Calls prog 157 #[.pointer (some ⟨g,0,none⟩),.pointer (some ⟨g,66+c * 14,none⟩),.int .i64 (n:Int)] w (z4E w g P ({ p with L:=z0Q p.L c { p.L c with done:=z3h (p.L c).done n } },true)):=by
 have HW:=hide (z9w (p.L c).done (v.l c).done (New P w 0) w n (((hp.z2T (Below.refl _ w) 0).lk c hc).done) hr (by omega) (by omega))
 have d3:=(q1i hC hn6).2.1;rw[hj]at d3;have q5:w.cell? ⟨g,66+c * 14+5,none⟩=some (v.l c).done:=(hC.lk hc).facts.2.2.2.2.2.1;have hgl:=hC.lt;have HE:=hide (fun (u:Value) (w2:World) (hU:Rep (New (New P w 0) w 0) w2 u 1 8 (inC (z3h (p.L c).done n))) (hB:Below w.heap.size w w2)=>z8Y (p:={ p with L:=z0Q p.L c { p.L c with done:=z3h (p.L c).done n } }) hc hgl hg hC (hp.z2T (Below.refl _ w) 0) (Alt.of (Below.refl _ w)) hU hB rfl true)
 obtain⟨Ad,nd,Cd0,ed⟩:=(hp.lk c hc).done.one';rw[ed]at q5 HW;have hnn:(n:Int)<6:=by omega
 have hnz:(0:Int)<=(n:Int):=by omega
 have HC:=hide hC;clear hC hp hr hj;generalize 66+c * 14=o at *;generalize z3h (p.L c).done n=dl at *
 go_enter func157,ntmps157
 go_wp2_with (go_at_call 178;refine HW.out.mono ?_;rintro e w2⟨u,rfl,U2,hb2⟩;have q6:w2.cell? ⟨g,o+5,none⟩=some (.slice Ad nd Cd0):=(hb2.cell (p:=⟨g,o+5,none⟩) hgl).trans q5;have fz:w2.frozen? ⟨g,o+5,none⟩=false:=(HC.out.over hb2).free _;obtain⟨Au,nu,Cu,rfl⟩:=U2.one';have HU:=hide (show _/\_ from⟨U2,hb2⟩);clear U2 hb2)
 go_ret;exact HE.out _ _ HU.out.1 HU.out.2
def j9Y(F:Nat->Act)(R:Nat->World->Prop)(ex:Exit)(a:Act)(w:World):Prop:=∃ g,ex=Exit.normal/\a=F g/\R g w
theorem j2M{P:Program}{c:Code}{Q:Exit->Act->World->Prop}{a:Act}{w:World}(R:Nat->World->Prop)(F:Nat->Act)(h1:Code.wp P c (j9Y F R) a w)(h2:∀ g w',R g w'->Q Exit.normal (F g) w'):Code.wp P c Q a w:=
 Code.wp_mono (fun e a' w' h=>by obtain⟨g,rfl,rfl,h⟩:=h;exact h2 g w' h) h1
theorem q5V(g:Nat)(p:Pr)(v:PrV)(P:Nat->Prop)(w:World)(c:Nat)(hc:c<2)(n:Nat)(hn6:n<6)(hC:CAt 57 w g (prC p v))(hp:PIn P w p v)(hg:¬ P g)(hr:z2g (-1) (p.L c).done=true)(hgs:z0i p.s=true)(hj:(p.s.V n).jail=false)(ht0:0<=(p.s.V n).tok)(ht1:(p.s.V n).tok<=1125899906842624) :
  Calls prog 157 #[.pointer (some ⟨g,0,none⟩),.pointer (some ⟨g,66+c * 14,none⟩),.int .i64 (n:Int)] w (z4E w g P (if p.ml<1 then (p,false) else ({ p with ml:=wrap64 (p.ml - z9F (p.s.V n)),s:=z4y p.s n true (p.s.V n).dead,L:=z0Q p.L c { p.L c with done:=z3h (p.L c).done n } },true))):=by
 generalize hD:(if p.ml<1 then (p,false) else (_,true):Pr×Bool)=D;have HD:=hide hD;clear hD;have d3:=(q1i hC hn6).2.1;rw[hj]at d3;have hgl:=hC.lt;have hnn:(n:Int)<6:=by omega
 have hnz:(0:Int)<=(n:Int):=by omega
 have HS3:Hid (∀ wx,Below w.heap.size w wx->wx.cell? ⟨g,94,none⟩=some (.int .i64 p.ml)/\wx.cell? ⟨g,94+1,none⟩=some (.int .i64 p.mn)/\wx.cell? ⟨g,9+n * 5,none⟩=some (.int .i64 (p.s.V n).tok)):=fun wx hb=>⟨(hC.over hb).cell 94,(hC.over hb).cell 95,(q1i (hC.over hb) hn6).1⟩;have HPW:Hid (z9F (p.s.V n)=if (p.s.V n).tok / 100<1 then 1 else (p.s.V n).tok / 100):=rfl;generalize z9F (p.s.V n)=pw at *;have HT:=hide (fun (wx:World)=>Mt.q8s p.ml p.mn pw wx);have HQ:Hid (∀ wx,Below w.heap.size w wx->z4E w g P (p,false) (.returned (.bool false)) wx):=fun wx hb=>⟨v,rfl,hC.over hb,hp.z2T hb 0,Alt.of hb⟩;generalize hA:(if p.ml<1 then p.ml else wrap64 (p.ml - pw))=ml' at *;generalize hB:(if p.ml<1 then false else true)=may at *;generalize (p.s.V n).tok=tk at *;have hq:IntKind.i64.wrap (tk.tdiv 100)=tk / 100:=by rw[Int.tdiv_eq_ediv_of_nonneg ht0];exact z6D (by omega) (by omega)
 go_enter func157,ntmps157
 go_upto_region 3 with fail
 have HAL:Hid (Below w.heap.size w (w.alloc (.cells #[.int .i64 0,.int .i64 0] 54))):=znw w _;have HALd:=hide HAL.out.drew;have hmax:(if tk / 100<1 then 1 else tk / 100)=pw:=HPW.out.symm;have HAC:Hid (CAt 54 (w.alloc (.cells #[.int .i64 0,.int .i64 0] 54)).drew w.heap.size #[.int .i64 0,.int .i64 0]):=CAt.new 54 w _;apply j2M (fun gm w'=>CAt 54 w' gm #[.int .i64 ml',.int .i64 p.mn]/\w.heap.size<=gm/\Below w.heap.size w w')
 ·refine wp_region_noPanic ?_;have hb:=Below.refl w.heap.size w
  go_region_held3 (fun wx=>wx.cell? ⟨g,94,none⟩=some (.int .i64 p.ml)/\wx.cell? ⟨g,94+1,none⟩=some (.int .i64 p.mn)/\wx.cell? ⟨g,9+n * 5,none⟩=some (.int .i64 tk)) ((refine HS3.out _ ?_;first | with_reducible exact hb | with_reducible exact hb.drew | with_reducible exact hb.alloc hb.size _ | with_reducible exact (hb.alloc hb.size _).drew | with_reducible exact hb.drew.alloc hb.drew.size _ | exact (hb.setCell (Nat.le_refl _) _).setCell (Nat.le_refl _) _ | exact ((hb.alloc hb.size _).setCell hb.size _).setCell hb.size _)) (first
   | (go_at_call 176;refine (HT.out w.drew).mono ?_;rintro e wb⟨rfl,hbb⟩;have hb:=(Below.refl w.heap.size w).drew.trans hbb;have HN1:True:=trivial;clear hbb;dsimp only)
   | (go_at_call 176;refine (HT.out (w.alloc (.cells #[.int .i64 0,.int .i64 0] 54)).drew).mono ?_;rintro e wb⟨rfl,hbb⟩;have hb:=zbt HALd.out hbb;have HCb:=hide (HAC.out.over hbb);have z0:=HCb.out.cell 0;have z1:wb.cell? ⟨w.heap.size,0+1,none⟩=_:=HCb.out.cell 1;have zf0:=HCb.out.free 0;have zf1:=HCb.out.free (0+1);clear hbb;dsimp only))
  all_goals first
   | (have _m:=HN1;obtain⟨gn,hg'⟩:∃ gn,gn=wb.heap.size:=⟨_,rfl⟩;rw[← hg'];exact NoPanic.normal ⟨gn,rfl,rfl,by subst hg';exact⟨CAt.new _ _ _,hb.size,hb.alloc hb.size _⟩⟩)
   | (obtain⟨gn,hg'⟩:∃ gn,gn=w.heap.size:=⟨_,rfl⟩;rw[← hg'];exact NoPanic.normal ⟨gn,rfl,rfl,by subst hg';exact⟨(HCb.out.set 0 _).set 1 _,Nat.le_refl _,(hb.setCell (Nat.le_refl _) _).setCell (Nat.le_refl _) _⟩⟩)
 rintro gm w3⟨M3,hgm,B3⟩;have HB3:=hide B3;have HM3:=hide M3;have m0:w3.cell? ⟨gm,0,none⟩=some (.int .i64 ml'):=M3.cell 0;have m1:w3.cell? ⟨gm,0+1,none⟩=some (.int .i64 p.mn):=M3.cell 1;clear HAL HALd HAC hmax HT HS3 d3 B3 M3;simp only[Exit.then];apply_assumption
 by_cases hml:p.ml<1
 ·rw[if_pos hml]at hB;subst hB;have HD':=hide (HD.out.symm.trans (if_pos hml));clear HD;go_wp2;go_ret;rw[HD'.out];exact HQ.out _ HB3.out
 ·rw[if_neg hml]at hA hB;subst hB;have HD':=hide (HD.out.symm.trans (if_neg hml));clear HD HQ;have C3:=hC.over HB3.out;have e94:w3.cell? ⟨g,94,none⟩=some (.int .i64 p.ml):=C3.cell 94;have e95:w3.cell? ⟨g,94+1,none⟩=some (.int .i64 p.mn):=C3.cell 95;have z94:=C3.free 94;have z95:=C3.free (94+1);have hgl3:=C3.lt;have hgmg:¬ gm=g:=by omega
  have HHP:=hide hp;have HHR:=hide hr;have HHG:=hide hg;have HHS:=hide hgs;have HHJ:=hide hj;have HC3:=hide C3;have HAA:=hide hA;clear hC hp hr hgs hj C3 hA hg hml
  go_upto_region 7 with fail
  have C4:CAt 57 ((w3.setCell ⟨g,94,none⟩ (.int .i64 ml')).setCell ⟨g,95,none⟩ (.int .i64 p.mn)) g (prC { p with ml:=ml' } v):=(HC3.out.set 94 _).set 95 _
  have A4:Alt g w ((w3.setCell ⟨g,94,none⟩ (.int .i64 ml')).setCell ⟨g,95,none⟩ (.int .i64 p.mn)):=((Alt.of (g:=g) HB3.out).put 94 _).put 95 _
  have P4:PIn (New P w 0) ((w3.setCell ⟨g,94,none⟩ (.int .i64 ml')).setCell ⟨g,95,none⟩ (.int .i64 p.mn)) { p with ml:=ml' } v:=by
   have:=((HHP.out.z2T HB3.out 0).put (z0N HHG.out hgl) 94 (.int .i64 ml')).put (z0N HHG.out hgl) 95 (.int .i64 p.mn);exact⟨this.ws,this.set,this.lk,this.q⟩
  clear e94 e95 z94 z95 m0 m1 HM3 HC3 HB3;generalize (w3.setCell ⟨g,94,none⟩ (.int .i64 ml')).setCell ⟨g,95,none⟩ (.int .i64 p.mn)=w4 at *
  have hj4:q0x p.s (n:Int)=(z4y p.s n true (p.s.V n).dead,0):=by
   unfold q0x;rw[if_pos (z3Q HHS.out hn6),Int.toNat_natCast,if_neg (by rw[HHJ.out];simp)]
  have hjl:=j6p P4.ws (n:Int);dsimp only at hjl;rw[hj4]at hjl;have HJL:=hide hjl;have m4:=z2p C4;have HSW:Hid ((z4y p.s n true (p.s.V n).dead).W=p.s.W):=rfl;generalize hS1:z4y p.s n true (p.s.V n).dead=s1 at *;have HS1:=hide hS1;have hgl4:=C4.lt;have hone:=z7f s1 P4.ws.one';have H4:=hide (show _/\_/\_ from⟨C4,P4,A4⟩);clear C4 P4 A4 hjl hj4 hS1
  go_upto_region 8 with (go_at_call 177;refine HJL.out.mono ?_;rintro e w5⟨rfl,hb5⟩;clear m4;have sS5:=z2Z (H4.out.1.over hb5) (z0a _ _) (z0g s1 v.ws) hone)
  have C6:=(H4.out.1.over hb5).z1l s1 v.ws;have A6:=(H4.out.2.2.trans (Alt.of hb5)).sets (stC s1 v.ws).toList 2;have P6:=(H4.out.2.1.over hb5).sets (g:=g) (z0N HHG.out hgl) 2 (stC s1 v.ws).toList;have P6':PIn (New P w 0) (w5.setCells g 2 (stC s1 v.ws).toList) { p with ml:=ml',s:=s1 } v:=⟨by rw[show ({ p with ml:=ml',s:=s1 }:Pr).s.W=p.s.W from HSW.out];exact P6.ws,P6.set,P6.lk,P6.q⟩
  clear sS5 hb5 HJL H4 P6;generalize w5.setCells g 2 (stC s1 v.ws).toList=w6 at *;have HW:=hide (z9w (p.L c).done (v.l c).done (New P w 0) w6 n ((P6'.lk c hc).done) HHR.out (by omega) (by omega))
  have q5:w6.cell? ⟨g,66+c * 14+5,none⟩=some (v.l c).done:=(C6.lk hc).facts.2.2.2.2.2.1;obtain⟨Ad,nd,Cd0,ed⟩:=(P6'.lk c hc).done.one';rw[ed]at q5 HW;have hgl6:=C6.lt;have HE:=hide (fun (u:Value) (w2:World) (hU:Rep (New (New P w 0) w6 0) w2 u 1 8 (inC (z3h (p.L c).done n))) (hB:Below w6.heap.size w6 w2)=>z8Y (p:={ p with ml:=ml',s:=s1,L:=z0Q p.L c { p.L c with done:=z3h (p.L c).done n } }) hc hgl HHG.out C6 P6' A6 hU hB rfl true)
  have HC6:=hide C6;have HDD:Hid (D=({ p with ml:=ml',s:=s1,L:=z0Q p.L c { p.L c with done:=z3h (p.L c).done n } },true)):=by rw[Hid,HD'.out,HAA.out]
  clear HD' HS1 HAA C6 P6' A6 ed;generalize 66+c * 14=o at *;generalize z3h (p.L c).done n=dl at *
  go_wp2_with (go_at_call 178;refine HW.out.mono ?_;rintro e w7⟨u,rfl,U2,hb2⟩;have q6:w7.cell? ⟨g,o+5,none⟩=some (.slice Ad nd Cd0):=(hb2.cell (p:=⟨g,o+5,none⟩) hgl6).trans q5;have fz:w7.frozen? ⟨g,o+5,none⟩=false:=(HC6.out.over hb2).free _;obtain⟨Au,nu,Cu,rfl⟩:=U2.one';have HU:=hide (show _/\_ from⟨U2,hb2⟩);clear U2 hb2)
  go_ret;rw[HDD.out];exact HE.out _ _ HU.out.1 HU.out.2
theorem j9V{s:St}(hg:z0i s=true){n:Nat}(hn:n<6):0<=(s.V n).tok/\(s.V n).tok<=1125899906842624:=((z1U _).1 (((z0O s).1 hg).2.2.2.2.2.1 n hn).1).1
theorem j0O(g:Nat)(p:Pr)(v:PrV)(P:Nat->Prop)(w:World)(c:Nat)(hc:c<2)(x:Pkt)(hC:CAt 57 w g (prC p v))(hp:PIn P w p v)(hg:¬ P g)(hk:x.k=3)(hr:z2g (-1) (p.L c).done=true)(hgs:z0i p.s=true)(h0:0<=x.v)(h6:x.v<6) :
  Calls prog 157 #[.pointer (some ⟨g,0,none⟩),.pointer (some ⟨g,66+c * 14,none⟩),.int .i64 x.v] w (z4E w g P (z1F p c x)):=by
 obtain⟨n,hn,hn6⟩:∃ n:Nat,x.v=(n:Int)/\n<6:=⟨x.v.toNat,by omega,by omega⟩
 unfold z1F;rw[if_neg (by omega),if_neg (by omega),hn,Int.toNat_natCast]
 cases hj:(p.s.V n).jail
 ·rw[if_neg (by simp)]
  exact q5V g p v P w c hc n hn6 hC hp hg hr hgs hj (j9V hgs hn6).1 (j9V hgs hn6).2
 ·rw[if_pos rfl];exact q0U g p v P w c hc n hn6 hC hp hg hr hj
end Pv
namespace Pv
open Go.RowKit
def y0Q(F:Option Addr->Nat->Nat->Nat->Act)(R:Option Addr->Nat->Nat->Nat->World->Prop)(ex:Exit)(a:Act)(w:World):Prop:=∃ A n C g,ex=Exit.normal/\a=F A n C g/\R A n C g w
theorem j1h{P:Program}{c:Code}{Q:Exit->Act->World->Prop}{a:Act}{w:World}(R:Option Addr->Nat->Nat->Nat->World->Prop)(F:Option Addr->Nat->Nat->Nat->Act)(h1:Code.wp P c (y0Q F R) a w)(h2:∀ A n C g w',R A n C g w'->Q Exit.normal (F A n C g) w'):Code.wp P c Q a w:=
 Code.wp_mono (fun e a' w' h=>by obtain⟨A,n,C,g,rfl,rfl,h⟩:=h;exact h2 A n C g w' h) h1
def q3U(a v:Value):Sem Unit:=Instr.storeAt 70 a v
theorem z7O(a v:Value):Instr.storeAt 70 a v=q3U a v:=rfl
def q0K(a v:Value):Sem Unit:=Instr.storeAt 47 a v
theorem z8g(a v:Value):Instr.storeAt 47 a v=q0K a v:=rfl
theorem j4V:(prog.info? 70).map (·.size)=some 6:=by kernel_rfl
theorem q9E:(prog.info? 47).map (·.size)=some 4:=by kernel_rfl
def Z6:Array Value:=#[.int .i64 0,.int .i64 0,.int .i64 0,.int .i64 0,.slice none 0 0,.slice none 0 0]
def Z4:Array Value:=#[.slice none 0 0,.slice none 0 0,.int .i64 0,.bool false]
theorem q4p{w:World}{g:Nat}{zs cs:Array Value}(h:CAt 70 w g zs)(hz:zs.size=6)(hs:cs.size=6)(h1:cs.all (·.oneCell')=true):(q3U (.pointer (some ⟨g,0,none⟩)) (.agg cs)).run prog w=.ok () (w.setCells g 0 cs.toList):=
 run_storeAt_mid (P:=prog) w g 0 70 cs (h.there 0 _ (by rw[hz,hs];omega)) (by rw[j4V,hs]) h1
theorem q4h{w:World}{g:Nat}{zs cs:Array Value}(h:CAt 47 w g zs)(hz:zs.size=4)(hs:cs.size=4)(h1:cs.all (·.oneCell')=true):(q0K (.pointer (some ⟨g,0,none⟩)) (.agg cs)).run prog w=.ok () (w.setCells g 0 cs.toList):=
 run_storeAt_mid (P:=prog) w g 0 47 cs (h.there 0 _ (by rw[hz,hs];omega)) (by rw[q9E,hs]) h1
structure Tds(w1:World)(cs:Array Value)(dl:List (Int×Int))(u:Value)(g4:Nat)(w5:World):Prop where
 cat:CAt 70 w5 g4 cs
 rep:Rep (fun b=>w1.heap.size<=b/\b≠g4) w5 u 2 16 (pwC dl)
 bel:Below w1.heap.size w1 w5
 le:w1.heap.size<=g4
theorem j6L{w1 w0 wb:World}{cs:Array Value}{dl:List (Int×Int)}{u:Value}(hs:cs.size=6)(U:Rep (fun b=>w0.heap.size<=b) wb u 2 16 (pwC dl))(h0:w1.heap.size<=w0.heap.size)(hb:Below w1.heap.size w1 wb):Tds w1 cs dl u wb.heap.size ((wb.alloc (.cells Z6 70)).setCells wb.heap.size 0 cs.toList):=by
 have bA:Below wb.heap.size wb (wb.alloc (.cells Z6 70)):=znw wb _;have U1:Rep (fun b=>w1.heap.size<=b/\b≠wb.heap.size) wb u 2 16 (pwC dl):=U.mono fun b hl h=>⟨Nat.le_trans h0 h,by omega⟩
 exact⟨(CAt.new 70 wb Z6).z0H (by rw[hs];rfl),(U1.over bA).sets (fun h=>h.2 rfl) 0 _,z0b hb.size _ _ _ (hb.alloc hb.size _),hb.size⟩
theorem j6F{w1 ws wb:World}{cs:Array Value}{dl:List (Int×Int)}{u:Value}(hs:cs.size=6)(U:Rep (fun b=>ws.heap.size<=b) wb u 2 16 (pwC dl))(h0:w1.heap.size+1<=ws.heap.size)(hb:Below w1.heap.size w1 wb)(hc:CAt 70 wb w1.heap.size Z6):Tds w1 cs dl u w1.heap.size (wb.setCells w1.heap.size 0 cs.toList):=by
 have U1:Rep (fun b=>w1.heap.size<=b/\b≠w1.heap.size) wb u 2 16 (pwC dl):=U.mono fun b hl h=>by have h':ws.heap.size<=b:=h;exact⟨by omega,by omega⟩
 exact⟨hc.z0H (by rw[hs];rfl),U1.sets (fun h=>h.2 rfl) 0 _,z0b (Nat.le_refl _) _ _ _ hb,Nat.le_refl _⟩
theorem j4G(a b:Int){u:Value}(h:∃ A n C,u=.slice A n C)(A:Option Addr)(n C:Nat):(#[.int .i64 a,.int .i64 b,.int .i64 0,.int .i64 0,u,.slice A n C]:Array Value).all (·.oneCell')=true:=by
 obtain⟨A',n',C',rfl⟩:=h
 first | (simp[Value.oneCell'];done) | (rw[Array.all_eq_true_iff_forall_mem];intro x hx;simp at hx;rcases hx with rfl | rfl | rfl | rfl | rfl | rfl <;> rfl)
theorem j1u{w1 w0 wb:World}{cs:Array Value}{dl:List (Int×Int)}{u:Value}(hs:cs.size=6)(h1:cs.all (·.oneCell')=true)(U:Rep (fun b=>w0.heap.size<=b) wb u 2 16 (pwC dl))(h0:w1.heap.size<=w0.heap.size)(hb:Below w1.heap.size w1 wb):∃ wS,(q3U (.pointer (some ⟨wb.heap.size,0,none⟩)) (.agg cs)).run prog (wb.alloc (.cells Z6 70))=.ok () wS/\Tds w1 cs dl u wb.heap.size wS:=
 ⟨_,q4p (CAt.new 70 wb Z6) rfl hs h1,j6L hs U h0 hb⟩
theorem j2o{w1 ws wb:World}{cs:Array Value}{dl:List (Int×Int)}{u:Value}(hs:cs.size=6)(h1:cs.all (·.oneCell')=true)(U:Rep (fun b=>ws.heap.size<=b) wb u 2 16 (pwC dl))(h0:w1.heap.size+1<=ws.heap.size)(hb:Below w1.heap.size w1 wb)(hc:CAt 70 wb w1.heap.size Z6):∃ wS,(q3U (.pointer (some ⟨w1.heap.size,0,none⟩)) (.agg cs)).run prog wb=.ok () wS/\Tds w1 cs dl u w1.heap.size wS:=
 ⟨_,q4p hc rfl hs h1,j6F hs U h0 hb hc⟩
theorem q8j(p:Pr)(v:PrV)(k:Nat)(hk:k<2):∃ a c:List Value,a.length=66+k * 14/\prC p v=(a ++ (lkL (p.L k) (v.l k) ++ c)).toArray/\∀ y x,prC { p with L:=z0Q p.L k y } (v.upd k x)=(a ++ (lkL y x ++ c)).toArray:=by
 have h0:([.int .i64 p.h,.int .i64 p.t] ++ ((stC p.s v.ws).toList ++ [v.set]):List Value).length=66:=by simp[z0g]
 match k,hk with
 | 0,_ =>
  refine⟨[.int .i64 p.h,.int .i64 p.t] ++ ((stC p.s v.ws).toList ++ [v.set]),lkL (p.L 1) (v.l 1) ++ [.int .i64 p.ml,.int .i64 p.mn,v.q],h0,?_,fun y x=>?_⟩
  ·simp[prC]
  ·simp[prC,PrV.upd,z0Q]
 | 1,_ =>
  refine⟨[.int .i64 p.h,.int .i64 p.t] ++ ((stC p.s v.ws).toList ++ [v.set]) ++ lkL (p.L 0) (v.l 0),[.int .i64 p.ml,.int .i64 p.mn,v.q],?_,?_,fun y x=>?_⟩
  ·rw[List.length_append,h0];rfl
  ·simp[prC]
  ·simp[prC,PrV.upd,z0Q]
theorem j7v{p:Pr}{v:PrV}(k:Nat)(hk:k<2)(x:Ln.Line)(l:List (Int×Int))(T S U:Value) :
  (((((((prC p v).setIfInBounds (66+k * 14+6) S).setIfInBounds (66+k * 14+7) U).setIfInBounds (66+k * 14+8) (.int .i64 x.g)).setIfInBounds (66+k * 14+9) (.bool x.cl)).setIfInBounds (66+k * 14+3) T).setIfInBounds (66+k * 14+4) (.bool false)).setIfInBounds (66+k * 14+5) (.slice none 0 0)
   = prC { p with L:=z0Q p.L k { p.L k with out:=x,told:=l,fresh:=false,done:=[] } } (v.upd k ⟨T,.slice none 0 0,S,U⟩):=by
 obtain⟨a,c,ha,h1,h2⟩:=q8j p v k hk;rw[h1,h2,set_mid _ _ _ _ _ _ ha (by show 6<14;omega),set_mid _ _ _ _ _ _ ha (by simp[lkL]),set_mid _ _ _ _ _ _ ha (by simp[lkL]),set_mid _ _ _ _ _ _ ha (by simp[lkL]),set_mid _ _ _ _ _ _ ha (by simp[lkL]),set_mid _ _ _ _ _ _ ha (by simp[lkL]),set_mid _ _ _ _ _ _ ha (by simp[lkL])]
 rfl
theorem j7e{P:Nat->Prop}{w:World}{p:Pr}{v:PrV}(h:PIn P w p v)(k:Nat)(x:Ln.Line)(T S U:Value)(h1:Rep P w T 2 16 (pwC p.set))(h2:z0I P w S 1 16 (txC x.S))(h3:z0I P w U 1 8 (inC x.D)) :
  PIn P w { p with L:=z0Q p.L k { p.L k with out:=x,told:=p.set,fresh:=false,done:=[] } } (v.upd k ⟨T,.slice none 0 0,S,U⟩):=by
 refine⟨h.ws,h.set,fun c hc=>?_,h.q⟩
 show z6c P w (if c=k then _ else p.L c) (if c=k then _ else v.l c)
 by_cases e:c=k
 ·rw[if_pos e,if_pos e];exact⟨h1,Rep.nil _ _ _ _,h2,h3⟩
 ·rw[if_neg e,if_neg e];exact h.lk c hc
noncomputable def j7U:Code:=j1c [1,1] (f86.body.getD .skip)
noncomputable def j7W:Code:=j1c [1,1,1,1,1] (f86.body.getD .skip)
end Pv
namespace Pv
open Go.RowKit
attribute [local go_sem ↓] z7O z8g
set_option maxRecDepth 1000000 in
theorem j2j(g:Nat)(p D:Pr)(v:PrV)(P:Nat->Prop)(w w5:World)(c o g7:Nat)(x:Ln.Line)(s1 s2:Value)(E1:Int)(hc:c<2)(hC:CAt 57 w g (prC p v))(hp:PIn P w p v)(hg:¬ P g)(HO:Hid (o=66+c * 14))(HB:Hid (Below w.heap.size w w5))(hg7:w.heap.size<=g7)(HL7:Hid (CAt 47 w5 g7 #[s1,s2,.int .i64 x.g,.bool x.cl]))(HR1:Hid (z0I (fun b=>New P w 0 b/\b≠g7) w5 s1 1 16 (txC x.S)))(HR2:Hid (z0I (fun b=>New P w 0 b/\b≠g7) w5 s2 1 8 (inC x.D)))
  (HD:Hid (D=if E1=0 then { p with L:=z0Q p.L c { p.L c with out:=x,told:=p.set,fresh:=false,done:=[] } } else p)) (v2 v3 v4 v5 v8 v9 v10 v11 v12 v13 v14 v15 v16 v17 v18 v19 v20 v21 v22 v23 v24 v25 v26 v27 v28 v29 v30 v31 v32 v33 v34 v35 v36 v37 v38 v39 v40 v41 v42 v43 v44 v45 v46 v47 v48 v49 v50 v51 v52 v53 v54 v55 v56 v57 v58 v59 v60 v61 v62 v63 v64 v65 v66 v67 v68 v69 v70 v71 v72 v73 v74 v75 v76 v77 v78 v79 v80 v81 v82 v83 v84 v85 v86 v87 v88 v89 v90 v91 v92 v93 v94 v95 v96 v97:Value) :
  Code.wp prog j7W (bodyPost prog f86 (Turns w g P D)) ⟨List.toArray ((.pointer (some ⟨g,0,none⟩)) :: (.pointer (some ⟨g,o,none⟩)) :: v2 :: v3 :: v4 :: v5 :: (.int .i64 E1) :: (.pointer (some ⟨g7,0,none⟩)) :: v8 :: v9 :: v10 :: v11 :: v12 :: v13 :: v14 :: v15 :: v16 :: v17 :: v18 :: v19 :: v20 :: v21 :: v22 :: v23 :: v24 :: v25 :: v26 :: v27 :: v28 :: v29 :: v30 :: v31 :: v32 :: v33 :: v34 :: v35 :: v36 :: v37 :: v38 :: v39 :: v40 :: v41 :: v42 :: v43 :: v44 :: v45 :: v46 :: v47 :: v48 :: v49 :: v50 :: v51 :: v52 :: v53 :: v54 :: v55 :: v56 :: v57 :: v58 :: v59 :: v60 :: v61 :: v62 :: v63 :: v64 :: v65 :: v66 :: v67 :: v68 :: v69 :: v70 :: v71 :: v72 :: v73 :: v74 :: v75 :: v76 :: v77 :: v78 :: v79 :: v80 :: v81 :: v82 :: v83 :: v84 :: v85 :: v86 :: v87 :: v88 :: v89 :: v90 :: v91 :: v92 :: v93 :: v94 :: v95 :: v96 :: v97 :: []),[]⟩ w5:=by
 conv=>arg 2;whnf
 have HP:=hide hp;have HC:=hide hC;have hgl:=hC.lt;obtain⟨A1,n1,K1,B1,rfl,-,-⟩:=id HR1.out;obtain⟨A2,n2,K2,B2,rfl,-,-⟩:=id HR2.out
 by_cases hE:E1=0
 rotate_left
 ·have hq:Hid (D=p):=HD.out.trans (if_neg hE);have hE':(E1 != 0)=true:=by simpa using hE
  clear HD HR1 HR2 HL7 hC hp;go_wp2;go_end0;rw[hq.out];exact⟨v,rfl,HC.out.over HB.out,HP.out.z2T HB.out 0,Alt.of HB.out⟩
 subst hE;replace HD:=hide (HD.out.trans (if_pos rfl));have C5:=HC.out.over HB.out;have hgg:¬ g7=g:=by omega
 have hf:=(C5.lk hc).facts;rw[← HO.out]at hf;obtain⟨-,-,-,f3,f4,f5,f6,f7,f8,f9⟩:=hf;have k0:w5.cell? ⟨g7,0,none⟩=_:=HL7.out.cell 0;have k1:w5.cell? ⟨g7,0+1,none⟩=_:=HL7.out.cell 1;have k2:w5.cell? ⟨g7,0+2,none⟩=_:=HL7.out.cell 2;have k3:w5.cell? ⟨g7,0+3,none⟩=_:=HL7.out.cell 3;have z6:=C5.free (o+6);have z7:=C5.free (o+6+1);have z8:=C5.free (o+6+2);have z9:=C5.free (o+6+3);have HC5:=hide C5;clear hC hp C5
 have sN:(q0K (.pointer (some ⟨g,o+6,none⟩)) (.agg #[.slice A1 n1 K1,.slice A2 n2 K2,.int .i64 x.g,.bool x.cl])).run prog w5=.ok () (w5.setCells g (o+6) [.slice A1 n1 K1,.slice A2 n2 K2,.int .i64 x.g,.bool x.cl]):=
  run_storeAt_mid (P:=prog) w5 g (o+6) 47 #[.slice A1 n1 K1,.slice A2 n2 K2,.int .i64 x.g,.bool x.cl] (HC5.out.there (o+6) 4 (by rw[z0a,HO.out];omega)) (by rw[q9E];rfl) (by simp[Value.oneCell'])
 go_upto_region 7 with fail
 have C6:CAt 57 (w5.setCells g (o+6) [.slice A1 n1 K1,.slice A2 n2 K2,.int .i64 x.g,.bool x.cl]) g (((((prC p v).setIfInBounds (o+6) (.slice A1 n1 K1)).setIfInBounds (o+7) (.slice A2 n2 K2)).setIfInBounds (o+8) (.int .i64 x.g)).setIfInBounds (o+9) (.bool x.cl)):=(((HC5.out.set (o+6) _).set (o+7) _).set (o+8) _).set (o+9) _;have hn:¬ New P w 0 g:=z0N hg hgl;have HA6:Hid (Alt g w (w5.setCells g (o+6) [.slice A1 n1 K1,.slice A2 n2 K2,.int .i64 x.g,.bool x.cl])):=(Alt.of HB.out).sets _ _;have HK6:Hid (∀ b,b≠g->(w5.setCells g (o+6) [.slice A1 n1 K1,.slice A2 n2 K2,.int .i64 x.g,.bool x.cl]).heap[b]?=w5.heap[b]?):=fun b hb=>z1k hb _ _ _;have HS6:Hid (w5.heap.size=(w5.setCells g (o+6) [.slice A1 n1 K1,.slice A2 n2 K2,.int .i64 x.g,.bool x.cl]).heap.size):=by show _=_;simp[World.setCells,World.setCell]
 clear f6 f7 f8 f9 k0 k1 k2 k3 z6 z7 z8 z9 sN f3 f4 f5;generalize w5.setCells g (o+6) [.slice A1 n1 K1,.slice A2 n2 K2,.int .i64 x.g,.bool x.cl]=w6 at *;have hgl6:=C6.lt;have P6:PIn (New P w 0) w6 p v:=(HP.out.z2T HB.out 0).keep fun b hb _=>HK6.out b (fun e=>hn (by rw[← e];exact hb))
 have HCL:=hide (z6F p.set v.set (New P w 0) w6 P6.set)
 have e65:w6.cell? ⟨g,65,none⟩=some v.set:=by
  rw[C6.cell 65];simp only[Array.getElem?_setIfInBounds];have:=HO.out;rw[if_neg (by omega),if_neg (by omega),if_neg (by omega),if_neg (by omega)]
  rfl
 obtain⟨At,nt,Ct,et⟩:=(HP.out.lk c hc).told.one';obtain⟨Ad,nd,Cd0,ed⟩:=(HP.out.lk c hc).done.one'
 have HF6:Hid (∀ wx,Below w6.heap.size w6 wx->wx.cell? ⟨g,o+3,none⟩=some (.slice At nt Ct)/\wx.cell? ⟨g,o+4,none⟩=some (.bool (p.L c).fresh)/\wx.cell? ⟨g,o+5,none⟩=some (.slice Ad nd Cd0)/\∀ k,wx.frozen? ⟨g,k,none⟩=false):=fun wx hb=>by
  have C:=C6.over hb
  have hl:∀ j,j<6->∀ z,(lkL (p.L c) (v.l c))[j]?=some z->wx.cell? ⟨g,o+j,none⟩=some z:=fun j hj z hz=>by
   rw[C.cell (o+j)];simp only[Array.getElem?_setIfInBounds];rw[if_neg (by omega),if_neg (by omega),if_neg (by omega),if_neg (by omega),HO.out,z3I c hc j (by omega),hz]
  exact⟨hl 3 (by omega) _ (by rw[← et];rfl),hl 4 (by omega) _ rfl,hl 5 (by omega) _ (by rw[← ed];rfl),fun k=>C.free k⟩
 have H6:=hide (show _/\_ from⟨C6,P6⟩);clear C6 P6 et ed;obtain⟨As,ns,Cs,es⟩:=HP.out.set.one';rw[es]at e65 HCL;clear es
 go_upto_region 8 with (go_at_call 41;refine HCL.out.mono ?_;rintro e w7⟨u,rfl,U7,hb7⟩;obtain⟨Au,nu,Cu,rfl⟩:=U7.one';obtain⟨q3,q4,q5,qz⟩:=HF6.out w7 hb7;have hgl7:g<w7.heap.size:=Nat.lt_of_lt_of_le hgl6 hb7.size;have qz3:=qz (o+3);have HU:=hide (show _/\_ from⟨U7,hb7⟩);have HQZ:=hide qz;clear U7 hb7 qz)
 have qz4:=HQZ.out (o+4);have qz5:=HQZ.out (o+5);go_wp2;go_end0;have e:=HO.out;clear HO q3 q4 q5 qz3 qz4 qz5 HF6 HCL;subst e;rw[HD.out];have hk:∀ b,New P w 0 b->b≠g:=fun b hb e=>hn (by rw[← e];exact hb)
 have hks:∀ b,New P w 0 b->(((w7.setCell ⟨g,66+c * 14+3,none⟩ (.slice Au nu Cu)).setCell ⟨g,66+c * 14+4,none⟩ (.bool false)).setCell ⟨g,66+c * 14+5,none⟩ (.slice none 0 0)).heap[b]?=w7.heap[b]?:=fun b hb=>(Below.heap_setCell _ _ _ _ (hk b hb)).trans ((Below.heap_setCell _ _ _ _ (hk b hb)).trans (Below.heap_setCell _ _ _ _ (hk b hb)));have C9:=(((H6.out.1.over HU.out.2).set (66+c * 14+3) (.slice Au nu Cu)).set (66+c * 14+4) (.bool false)).set (66+c * 14+5) (.slice none 0 0);rw[j7v c hc x p.set (.slice Au nu Cu) (.slice A1 n1 K1) (.slice A2 n2 K2)]at C9;have hs6:=HA6.out.size;have R1:=(((HR1.out.mono (P':=New P w 0) fun b _ h=>h.1).keep (w':=w6) fun b hb _=>HK6.out b (hk b hb)).over HU.out.2).keep (w':=((w7.setCell ⟨g,66+c * 14+3,none⟩ (.slice Au nu Cu)).setCell ⟨g,66+c * 14+4,none⟩ (.bool false)).setCell ⟨g,66+c * 14+5,none⟩ (.slice none 0 0)) fun b hb _=>hks b hb;have R2:=(((HR2.out.mono (P':=New P w 0) fun b _ h=>h.1).keep (w':=w6) fun b hb _=>HK6.out b (hk b hb)).over HU.out.2).keep (w':=((w7.setCell ⟨g,66+c * 14+3,none⟩ (.slice Au nu Cu)).setCell ⟨g,66+c * 14+4,none⟩ (.bool false)).setCell ⟨g,66+c * 14+5,none⟩ (.slice none 0 0)) fun b hb _=>hks b hb;have T9:=(HU.out.1.mono (P':=New P w 0) fun b _ h=>.inr (by omega)).keep (w':=((w7.setCell ⟨g,66+c * 14+3,none⟩ (.slice Au nu Cu)).setCell ⟨g,66+c * 14+4,none⟩ (.bool false)).setCell ⟨g,66+c * 14+5,none⟩ (.slice none 0 0)) fun b hb _=>hks b hb
 exact⟨_,rfl,C9,j7e ((((H6.out.2.over HU.out.2).put hn _ _).put hn _ _).put hn _ _) c x _ _ _ T9 R1 R2,(((HA6.out.trans (Alt.of HU.out.2)).put _ _).put _ _).put _ _⟩
end Pv
namespace Pv
open Go.RowKit
structure Sds(P:Nat->Prop)(w w6:World)(x:Ln.Line)(u1 u2:Value)(g7:Nat)(w':World):Prop where
 cat:CAt 47 w' g7 #[u1,u2,.int .i64 x.g,.bool x.cl]
 r1:z0I (fun b=>New P w 0 b/\b≠g7) w' u1 1 16 (txC x.S)
 r2:z0I (fun b=>New P w 0 b/\b≠g7) w' u2 1 8 (inC x.D)
 bel:Below w6.heap.size w6 w'
 le:w6.heap.size<=g7
theorem z0I.sets{P:Nat->Prop}{w:World}{v:Value}{sz bts:Nat}{cs:List Value}(h:z0I P w v sz bts cs){g:Nat}(hg:¬ P g)(o:Nat)(vs:List Value):z0I P (w.setCells g o vs) v sz bts cs:=h.keep fun b hb _=>z1k (show b≠g from fun e=>hg (by rw[← e];exact hb)) vs o w
theorem z0I.one'{P:Nat->Prop}{w:World}{v:Value}{sz bts:Nat}{cs:List Value}(h:z0I P w v sz bts cs):∃ A n C,v=.slice A n C:=by
 obtain⟨A,n,C,-,rfl,-⟩:=h;exact⟨A,n,C,rfl⟩
theorem z3b{u1 u2:Value}(h1:∃ A n C,u1=.slice A n C)(h2:∃ A n C,u2=.slice A n C)(a:Int)(b:Bool):(#[u1,u2,.int .i64 a,.bool b]:Array Value).all (·.oneCell')=true:=by
 obtain⟨A,n,C,rfl⟩:=h1;obtain⟨A',n',C',rfl⟩:=h2
 simp[Value.oneCell']
theorem j5a{P:Nat->Prop}{w w6 w0 wb:World}{x:Ln.Line}{u1 u2:Value}(h6:w.heap.size<=w6.heap.size)(h0:w6.heap.size<=w0.heap.size)(U1:z0I (New (fun b=>P b/\b<w.heap.size) w0 0) wb u1 1 16 (txC x.S))(U2:z0I (New (fun b=>P b/\b<w.heap.size) w0 0) wb u2 1 8 (inC x.D))(hb:Below w6.heap.size w6 wb) :
  ∃ wS,(q0K (.pointer (some ⟨wb.heap.size,0,none⟩)) (.agg #[u1,u2,.int .i64 x.g,.bool x.cl])).run prog (wb.alloc (.cells Z4 47))=.ok () wS/\Sds P w w6 x u1 u2 wb.heap.size wS:=by
 have bA:Below wb.heap.size wb (wb.alloc (.cells Z4 47)):=znw wb _
 have m:∀ b,b<wb.heap.size->New (fun b=>P b/\b<w.heap.size) w0 0 b->New P w 0 b/\b≠wb.heap.size:=fun b hl h=>by
  refine⟨?_,by omega⟩
  rcases h with⟨h,_⟩ | h
  ·exact .inl h
  ·exact .inr (by omega)
 refine⟨_,q4h (CAt.new 47 wb Z4) rfl rfl (z3b U1.one' U2.one' _ _),(CAt.new 47 wb Z4).z0H rfl,((U1.mono m).over bA).sets (fun h=>h.2 rfl) _ _,((U2.mono m).over bA).sets (fun h=>h.2 rfl) _ _,z0b hb.size _ _ _ (hb.alloc hb.size _),hb.size⟩
theorem j4M{P:Nat->Prop}{w w6 w0 wb:World}{x:Ln.Line}{u1 u2:Value}(h6:w.heap.size<=w6.heap.size)(h0:w6.heap.size+1<=w0.heap.size)(U1:z0I (New (fun b=>P b/\b<w.heap.size) w0 0) wb u1 1 16 (txC x.S))(U2:z0I (New (fun b=>P b/\b<w.heap.size) w0 0) wb u2 1 8 (inC x.D))(hb:Below w6.heap.size w6 wb)(hc:CAt 47 wb w6.heap.size Z4) :
  ∃ wS,(q0K (.pointer (some ⟨w6.heap.size,0,none⟩)) (.agg #[u1,u2,.int .i64 x.g,.bool x.cl])).run prog wb=.ok () wS/\Sds P w w6 x u1 u2 w6.heap.size wS:=by
 have m:∀ b,b<wb.heap.size->New (fun b=>P b/\b<w.heap.size) w0 0 b->New P w 0 b/\b≠w6.heap.size:=fun b hl h=>by
  rcases h with⟨h,_⟩ | h
  ·exact⟨.inl h,by have:=h.2;omega⟩
  ·exact⟨.inr (by omega),by omega⟩
 refine⟨_,q4h hc rfl rfl (z3b U1.one' U2.one' _ _),hc.z0H rfl,(U1.mono m).sets (fun h=>h.2 rfl) _ _,(U2.mono m).sets (fun h=>h.2 rfl) _ _,z0b (Nat.le_refl _) _ _ _ hb,Nat.le_refl _⟩
def y0m(F:Option Addr->Nat->Nat->Option Addr->Nat->Nat->Nat->Act)(R:Option Addr->Nat->Nat->Option Addr->Nat->Nat->Nat->World->Prop)(ex:Exit)(a:Act)(w:World):Prop:=∃ A n C A' n' C' g,ex=Exit.normal/\a=F A n C A' n' C' g/\R A n C A' n' C' g w
theorem j1X{P:Program}{c:Code}{Q:Exit->Act->World->Prop}{a:Act}{w:World}(R:Option Addr->Nat->Nat->Option Addr->Nat->Nat->Nat->World->Prop)(F:Option Addr->Nat->Nat->Option Addr->Nat->Nat->Nat->Act)(h1:Code.wp P c (y0m F R) a w)(h2:∀ A n C A' n' C' g w',R A n C A' n' C' g w'->Q Exit.normal (F A n C A' n' C' g) w'):Code.wp P c Q a w:=
 Code.wp_mono (fun e a' w' h=>by obtain⟨A,n,C,A',n',C',g,rfl,rfl,h⟩:=h;exact h2 A n C A' n' C' g w' h) h1
attribute [local go_sem ↓] z7O z8g
set_option maxRecDepth 1000000 in
theorem j1P(g:Nat)(p D:Pr)(v:PrV)(P:Nat->Prop)(w w5:World)(c o g4:Nat)(dl:List (Int×Int))(ud ut:Value)(hc:c<2)(hC:CAt 57 w g (prC p v))(hp:PIn P w p v)(hg:¬ P g)(ht0:0<=p.t)(ht1:p.t<=1099511627776)(HO:Hid (o=66+c * 14))(HB:Hid (Below w.heap.size w w5))(HK:Hid (CAt 70 w5 g4 #[.int .i64 1,.int .i64 p.h,.int .i64 0,.int .i64 0,ud,ut]))(HU1:Hid (Rep (fun _=>True) w5 ud 2 16 (pwC dl)))(HU2:Hid (Rep (fun _=>True) w5 ut 1 8 (inC (p.L c).done)))
  (HD:Hid (D=if Cd.z0m 1 p.h 0 0 dl (p.L c).done=0 then if Ln.z5C (p.L c).out (p.t+40)=0 then { p with L:=z0Q p.L c { p.L c with out:=Ln.z5i (p.L c).out (Cd.encS 1 p.h 0 0 dl (p.L c).done) (p.t+40),told:=p.set,fresh:=false,done:=[] } } else p else p)) (v8 v9 v10 v11 v12 v13 v14 v15 v16 v17 v18 v19 v20 v21 v22 v23 v24 v25 v26 v27 v28 v29 v30 v31 v32 v33 v34 v35 v36 v37 v38 v39 v40 v41 v42 v43 v44 v45 v46 v47 v48 v49 v50 v51 v52 v53 v54 v55 v56:Value) :
  Code.wp prog j7U (bodyPost prog f86 (Turns w g P D)) ⟨List.toArray ((.pointer (some ⟨g,0,none⟩)) :: (.pointer (some ⟨g,o,none⟩)) :: undef :: undef :: (.pointer (some ⟨g4,0,none⟩)) :: undef :: undef :: undef :: v8 :: v9 :: v10 :: v11 :: v12 :: v13 :: v14 :: v15 :: v16 :: v17 :: v18 :: v19 :: v20 :: v21 :: v22 :: v23 :: v24 :: v25 :: v26 :: v27 :: v28 :: v29 :: v30 :: v31 :: v32 :: v33 :: v34 :: v35 :: v36 :: v37 :: v38 :: v39 :: v40 :: v41 :: v42 :: v43 :: v44 :: v45 :: v46 :: v47 :: v48 :: v49 :: v50 :: v51 :: v52 :: v53 :: v54 :: v55 :: v56 :: undef :: undef :: undef :: undef :: undef :: undef :: undef :: undef :: undef :: undef :: undef :: undef :: undef :: undef :: undef :: undef :: undef :: undef :: undef :: undef :: undef :: undef :: undef :: undef :: undef :: undef :: undef :: undef :: undef :: undef :: undef :: undef :: undef :: undef :: undef :: undef :: undef :: undef :: undef :: undef :: undef :: []),[]⟩ w5:=by
 conv=>arg 2;whnf
 have HP:=hide hp;have HC:=hide hC;have hgl:=hC.lt;obtain⟨A1,C1,A2,C2,sb,so,db,dO,rfl,rfl,hL⟩:=Rep.lies HU1.out HU2.out;have HEN:=hide (Cd.z6L 1 p.h 0 0 dl (p.L c).done A1 A2 C1 C2 sb so db dO w5 hL);generalize Cd.encS 1 p.h 0 0 dl (p.L c).done=es at *;generalize Cd.z0m 1 p.h 0 0 dl (p.L c).done=E0 at *;have k0:w5.cell? ⟨g4,0,none⟩=some (.int .i64 1):=HK.out.cell 0;have k1:w5.cell? ⟨g4,0+1,none⟩=some (.int .i64 p.h):=HK.out.cell 1;have k2:w5.cell? ⟨g4,0+2,none⟩=some (.int .i64 0):=HK.out.cell 2;have k3:w5.cell? ⟨g4,0+3,none⟩=some (.int .i64 0):=HK.out.cell 3;have k4:w5.cell? ⟨g4,0+4,none⟩=some (.slice A1 dl.length C1):=HK.out.cell 4;have k5:w5.cell? ⟨g4,0+5,none⟩=some (.slice A2 (p.L c).done.length C2):=HK.out.cell 5;clear hL HK HU1 HU2 hC hp
 by_cases hE:E0=0
 rotate_left
 ·have hq:Hid (D=p):=HD.out.trans (if_neg hE);have hE':(E0 != 0)=true:=by simpa using hE
  clear HD
  go_wp2_with (go_at_call 122;refine HEN.out.mono ?_;rintro e w6⟨rfl,hb6⟩;have HB6:=hide (zbt HB.out hb6);clear hb6)
  go_end0;rw[hq.out];exact⟨v,rfl,HC.out.over HB6.out,HP.out.z2T HB6.out 0,Alt.of HB6.out⟩
 subst hE;replace HD:=hide (HD.out.trans (if_pos rfl))
 go_upto_region 4 with (go_at_call 122;refine HEN.out.mono ?_;rintro e w6⟨rfl,hb6⟩;have HB6:=hide (zbt HB.out hb6);clear hb6 k0 k1 k2 k3 k4 k5)
 have hsz6:=HB6.out.size;obtain⟨As,ns,Cs,es'⟩:=(HP.out.lk c hc).said.one';obtain⟨Ae,ne,Ce,ee'⟩:=(HP.out.lk c hc).due.one';have HSY:=hide (fun (wx:World) (hb:Below w6.heap.size w6 wx)=>j0m (p.L c).out es (p.t+40) (v.l c).said (v.l c).due (fun b=>P b/\b<w.heap.size) wx (((HP.out.lk c hc).said.mono fun b hl h=>⟨h,hl⟩).over (HB6.out.trans (hb.mono hsz6))) (((HP.out.lk c hc).due.mono fun b hl h=>⟨h,hl⟩).over (HB6.out.trans (hb.mono hsz6))));rw[es',ee']at HSY
 have HF:Hid (∀ wx,Below w6.heap.size w6 wx->wx.cell? ⟨g,o+6,none⟩=some (.slice As ns Cs)/\wx.cell? ⟨g,o+6+1,none⟩=some (.slice Ae ne Ce)/\wx.cell? ⟨g,o+6+2,none⟩=some (.int .i64 (p.L c).out.g)/\wx.cell? ⟨g,o+6+3,none⟩=some (.bool (p.L c).out.cl)/\wx.cell? ⟨g,1,none⟩=some (.int .i64 p.t)):=fun wx hb=>by
  have C:=HC.out.over (HB6.out.trans (hb.mono hsz6));have hf:=(C.lk hc).facts;rw[← HO.out,es',ee']at hf;exact⟨hf.2.2.2.2.2.2.1,hf.2.2.2.2.2.2.2.1,hf.2.2.2.2.2.2.2.2.1,hf.2.2.2.2.2.2.2.2.2,C.cell 1⟩
 clear es' ee';generalize Ln.z5i (p.L c).out es (p.t+40)=x at *;generalize Ln.z5C (p.L c).out (p.t+40)=E1 at *;generalize (p.L c).out.g=gg at *;generalize (p.L c).out.cl=gc at *;have HAL:Hid (Below w6.heap.size w6 (w6.alloc (.cells Z4 47))):=znw w6 _;have HALd:=hide HAL.out.drew;have HACd:Hid (CAt 47 (w6.alloc (.cells Z4 47)).drew w6.heap.size Z4):=CAt.new 47 w6 Z4;have HSZ:Hid (w6.heap.size+1<=(w6.alloc (.cells Z4 47)).drew.heap.size):=HACd.out.lt;have HS6:=hide hsz6;have hwr:IntKind.i64.wrap (p.t+40)=p.t+40:=z6D (by omega) (by omega)
 clear hsz6 HEN;unfold Z4 at HAL HALd;apply j1X (fun A n C A' n' C' g7 w'=>Sds P w w6 x (.slice A n C) (.slice A' n' C') g7 w')
 ·refine wp_region_noPanic ?_;refine wp_region_held_drew (S:=fun wx=>Below w6.heap.size w6 wx) (by kernel_rfl) (Below.refl _ _).drew (fun hS=>?_)
  refine O.Z 0 (.pointer (some ⟨g,o,none⟩)) 65 rfl rfl hS (fun wx hSw=>?_) ?_
  ·try dsimp only at hSw
   go_simp
  simp only[O.pp,O.pb,O.pc];refine O.Z 1 (.pointer (some ⟨g,o,none⟩)) 66 rfl rfl hS (fun wx hSw=>?_) ?_
  ·try dsimp only at hSw
   go_simp
  simp only[O.pp,O.pb,O.pc];refine O.Z 2 (.pointer (some ⟨g,o+6,none⟩)) 67 rfl rfl hS (fun wx hSw=>?_) ?_
  ·try dsimp only at hSw
   go_simp
  simp only[O.pp,O.pb,O.pc];refine O.Z 3 (.agg #[.slice As ns Cs,.slice Ae ne Ce,.int .i64 gg,.bool gc]) 68 rfl rfl hS (fun wx hSw=>?_) ?_
  ·try dsimp only at hSw
   obtain⟨l6,l7,l8,l9,l1⟩:=HF.out wx hSw;go_simp
  simp only[O.pp,O.pb,O.pc];refine O.Z 4 (.string es) 69 rfl rfl hS (fun wx hSw=>?_) ?_
  ·try dsimp only at hSw
   go_simp
  simp only[O.pp,O.pb,O.pc];refine O.Z 5 (.pointer (some ⟨g,0,none⟩)) 70 rfl rfl hS (fun wx hSw=>?_) ?_
  ·try dsimp only at hSw
   go_simp
  simp only[O.pp,O.pb,O.pc];refine O.Z 6 (.pointer (some ⟨g,0,none⟩)) 71 rfl rfl hS (fun wx hSw=>?_) ?_
  ·try dsimp only at hSw
   go_simp
  simp only[O.pp,O.pb,O.pc];refine O.Z 7 (.pointer (some ⟨g,1,none⟩)) 72 rfl rfl hS (fun wx hSw=>?_) ?_
  ·try dsimp only at hSw
   go_simp
  simp only[O.pp,O.pb,O.pc];refine O.Z 8 (.int .i64 p.t) 73 rfl rfl hS (fun wx hSw=>?_) ?_
  ·try dsimp only at hSw
   obtain⟨l6,l7,l8,l9,l1⟩:=HF.out wx hSw;go_simp
  simp only[O.pp,O.pb,O.pc];refine O.Z 9 (.int .i64 (p.t+40)) 74 rfl rfl hS (fun wx hSw=>?_) ?_
  ·try dsimp only at hSw
   go_simp
  simp only[O.pp,O.pb,O.pc];refine O.z4m (i:=10) (j:=14) (by kernel_rfl) rfl rfl rfl rfl (fun K hK=>?_) (fun K hK=>?_)
  ·go_simp
   go_at_call 123
   refine (HSY.out _ (by with_reducible exact (Below.refl w6.heap.size w6).drew)).mono ?_
   rintro e wb⟨u1,u2,rfl,U1,U2,hbb⟩;obtain⟨Au,nu,Cu,rfl⟩:=U1.one';obtain⟨Aw,nw,Cw,rfl⟩:=U2.one';have hb:=(Below.refl w6.heap.size w6).drew.trans (hbb.mono (Below.refl w6.heap.size w6).drew.size);dsimp only;refine hK _ _ hb ?_;clear hK K
   try simp only[O.pp,O.pb,O.pc]
   refine O.Z 11 (.tuple #[.agg #[.slice Au nu Cu,.slice Aw nw Cw,.int .i64 x.g,.bool x.cl],.int .i64 E1]) 64 rfl rfl hb (fun wx hSw=>?_) ?_
   ·try dsimp only at hSw
    go_simp
   simp only[O.pp,O.pb,O.pc];refine O.Z 12 (.agg #[.slice Au nu Cu,.slice Aw nw Cw,.int .i64 x.g,.bool x.cl]) 76 rfl rfl hb (fun wx hSw=>?_) ?_
   ·try dsimp only at hSw
    go_simp
   simp only[O.pp,O.pb,O.pc];refine O.Z 13 (.int .i64 E1) 77 rfl rfl hb (fun wx hSw=>?_) ?_
   ·try dsimp only at hSw
    go_simp
   simp only[O.pp,O.pb,O.pc];refine O.z1e (i:=14) (by kernel_rfl) rfl rfl (fun K hK=>?_)
   go_simp;refine hK _ _ (hb.alloc hb.size _) ?_;clear hK K
   try simp only[O.pp,O.pb,O.pc]
   obtain⟨wS,sA,hST⟩:=j5a (P:=P) HS6.out (Nat.le_refl _) U1 U2 hb;unfold Z4 at sA;refine O.z1e (i:=15) (by kernel_rfl) rfl rfl (fun K hK=>?_)
   go_simp;refine hK _ _ hST.bel ?_;clear hK K;refine O.Z 16 (.int .i64 E1) 6 rfl rfl hST.bel (fun wx hSw=>?_) ?_
   ·try dsimp only at hSw
    go_simp
   simp only[O.pp,O.pb,O.pc];refine wpAnyH_done (by kernel_rfl) ?_ _
   obtain⟨gn,hg'⟩:∃ gn,gn=wb.heap.size:=⟨_,rfl⟩;rw[← hg']at hST ⊢;exact NoPanic.normal ⟨Au,nu,Cu,Aw,nw,Cw,gn,rfl,rfl,hST⟩
  ·go_simp;refine hK _ _ (hS.alloc hS.size _) ?_;clear hK K
   try simp only[O.pp,O.pb,O.pc]
   refine O.z1e (i:=10) (by kernel_rfl) rfl rfl (fun K hK=>?_)
   go_simp
   go_at_call 123
   refine (HSY.out _ (by with_reducible exact HALd.out)).mono ?_
   rintro e wb⟨u1,u2,rfl,U1,U2,hbb⟩;obtain⟨Au,nu,Cu,rfl⟩:=U1.one';obtain⟨Aw,nw,Cw,rfl⟩:=U2.one';have hb:=zbt HALd.out hbb;dsimp only;refine hK _ _ hb ?_;clear hK K
   try simp only[O.pp,O.pb,O.pc]
   refine O.Z 11 (.tuple #[.agg #[.slice Au nu Cu,.slice Aw nw Cw,.int .i64 x.g,.bool x.cl],.int .i64 E1]) 64 rfl rfl hb (fun wx hSw=>?_) ?_
   ·try dsimp only at hSw
    go_simp
   simp only[O.pp,O.pb,O.pc];refine O.Z 12 (.agg #[.slice Au nu Cu,.slice Aw nw Cw,.int .i64 x.g,.bool x.cl]) 76 rfl rfl hb (fun wx hSw=>?_) ?_
   ·try dsimp only at hSw
    go_simp
   simp only[O.pp,O.pb,O.pc];refine O.Z 13 (.int .i64 E1) 77 rfl rfl hb (fun wx hSw=>?_) ?_
   ·try dsimp only at hSw
    go_simp
   simp only[O.pp,O.pb,O.pc];obtain⟨wS,sC,hST⟩:=j4M (P:=P) HS6.out HSZ.out U1 U2 hb (HACd.out.over hbb);refine O.z1e (i:=15) (by kernel_rfl) rfl rfl (fun K hK=>?_)
   go_simp;refine hK _ _ hST.bel ?_;clear hK K;refine O.Z 16 (.int .i64 E1) 6 rfl rfl hST.bel (fun wx hSw=>?_) ?_
   ·try dsimp only at hSw
    go_simp
   simp only[O.pp,O.pb,O.pc];refine wpAnyH_done (by kernel_rfl) ?_ _
   obtain⟨gn,hg'⟩:∃ gn,gn=w6.heap.size:=⟨_,rfl⟩;rw[← hg']at hST ⊢;exact NoPanic.normal ⟨Au,nu,Cu,Aw,nw,Cw,gn,rfl,rfl,hST⟩
 rintro Au nu Cu Aw nw Cw g7 w7 S7;simp only[Exit.then];apply_assumption;refine j2j g p D v P w w7 c o g7 x _ _ E1 hc HC.out HP.out hg HO (HB6.out.trans (S7.bel.mono HS6.out)) (Nat.le_trans HS6.out S7.le) S7.cat S7.r1 S7.r2 HD _ _ _ _ _ _ _ _ _ _ _ _ _ _ _ _ _ _ _ _ _ _ _ _ _ _ _ _ _ _ _ _ _ _ _ _ _ _ _ _ _ _ _ _ _ _ _ _ _ _ _ _ _ _ _ _ _ _ _ _ _ _ _ _ _ _ _ _ _ _ _ _ _ _ _ _ _ _ _ _ _ _ _ _ _ _ _ _ _ _ _ _ _ _
end Pv
end Go.Proofs.YtmopekkhmhhcaaaGreat
