import Derived.Test.YtmomfkikogbdeaaGreatDoorG23
set_option maxHeartbeats 1600000
set_option maxRecDepth 10000
namespace Go.Proofs.YtmomfkikogbdeaaGreatDoor.Tr
open Go.RowKit
theorem Tryz.infoIntC:(Tryz.prog.info? 3).map (fun i=>(i.zero,i.size,i.bytes))=some (some (.int .i64 0),1,8):=by kernel_rfl
theorem Ms(w:World):Calls Tryz.prog 47 #[.slice none 0 0] w fun e w'=>e = .returned (.slice none 0 0)∧w=w':=by
 have he:=fun w=>Lib.run_eql_slice_nil (P:=Tryz.prog) w 25 3 none 0 0 0 0 Tryz.underlying25
 go_enter Tryz.func47,Tryz.ntmps47
 go_wp2
 go_ret
 exact⟨rfl,rfl⟩
theorem Kr(ad:Addr)(n c:Nat)(F:List Value)(w:World)(hn:n≤4096)(hz:F.length=n*1)(h1:∀ u∈F,u.oneCell'=true)(hc:∀ j u,F[j]? = some u→w.cell? (ad.add j)=some u) :
  Calls Tryz.prog 47 #[.slice (some ad) n c] w fun e w'=>∃ v,e = .returned v∧w'.ownsRow w.heap.size 3 1 v n F∧Below w.heap.size w w':=by
 obtain⟨i0,hi,hz0,hz1,hz2⟩:=info_parts Tryz.infoIntC
 have hb:=Zi w (.cells #[] 3)
 have HC:Hid (∀ j u,F[j]? = some u→(w.alloc (.cells #[] 3)).cell? (ad.add j)=some u):=fun j u hj=>Ze hb (hc j u hj)
 have HB:=Zb hb
 have HZ:=Zb hz
 have H1:=Zb h1
 have HO:=Zb (Vl w 3 1)
 have he:=fun w=>Lib.run_eql_slice_nil (P:=Tryz.prog) w 25 3 (some ad) n c 0 0 Tryz.underlying25
 clear hc hb hz h1
 go_enter Tryz.func47,Tryz.ntmps47
 go_wp2_with (at_builtin;refine wpList_append_own _ rfl _ _ 25 rfl w.heap.size 3 i0 (.int .i64 0) 1 8 Tryz.underlying25 hi hz0 hz1 hz2 rfl (by decide) _ _ _ rfl (Za HO) ad n c F rfl (Za HZ) (Za HC) (Za H1) (by unfold maxLen;omega) (by omega) (Za HB).size ?_;intro v2 w3 hown3 hgrow3 _)
 have HW:Hid (w3.ownsRow w.heap.size 3 1 v2 n F):=by show World.ownsRow _ _ _ _ _ _ _;simpa using hown3
 have HB3:=Zb ((Za HB).grown hgrow3 (Za HB).size (Wk (Za HO)))
 clear hown3 hgrow3
 go_wp2
 go_ret
 exact⟨v2,rfl,Za HW,Za HB3⟩
theorem Mt(a:Option Addr)(n c:Nat)(L:List Int)(w:World)(hn:n≤4096)(h:IntsAt w a n L)(hs:SlOk a n c) :
  Calls Tryz.prog 47 #[.slice a n c] w fun e w'=>∃ v,e = .returned v∧w'.ownsRow w.heap.size 3 1 v n (L.map (Value.int .i64))∧Below w.heap.size w w':=by
 obtain⟨hl,hc⟩:=h
 cases a with
 | none=>
  obtain⟨rfl,rfl⟩:=hs.2.2 rfl
  have e:L=[]:=List.length_eq_zero_iff.1 hl
  subst e
  exact (Ms w).mono fun e w' ⟨x,y⟩=>⟨_,x,y ▸ World.ownsRow_nil _ _ _ _,y ▸ Below.refl _ _⟩
 | some ad=>
  refine (Kr ad n c (L.map (Value.int .i64)) w hn (by simp[hl]) (ints_oneCell _ _) (fun j u hj=>?_))
  have hjl:j<L.length:=by have:=(List.getElem?_eq_some_iff.1 hj).1;simpa using this
  obtain⟨b,off,e,_,hcell⟩:=hc (by omega)
  cases e
  rw[Addr.add_lit,hcell j hjl]
  simpa[hjl] using hj
theorem Qt(ad:Addr)(n c:Nat)(F:List Value)(w:World)(hn:n≤8796093022208)(hz:F.length=n*2)(h1:∀ u∈F,u.oneCell'=true)(hc:∀ j u,F[j]? = some u→w.cell? (ad.add j)=some u) :
  Calls Tryz.prog 150 #[.slice (some ad) n c] w fun e w'=>∃ v,e = .returned v∧w'.ownsRow w.heap.size 164 2 v n F∧Below w.heap.size w w':=by
 obtain⟨i0,hi,hz0,hz1,hz2⟩:=info_parts Tryz.infoOpC
 have hb:=Zi w (.cells #[] 164)
 have HC:Hid (∀ j u,F[j]? = some u→(w.alloc (.cells #[] 164)).cell? (ad.add j)=some u):=fun j u hj=>Ze hb (hc j u hj)
 have HB:=Zb hb
 have HZ:=Zb hz
 have H1:=Zb h1
 have HO:=Zb (Vl w 164 2)
 have he:=fun w=>Lib.run_eql_slice_nil (P:=Tryz.prog) w 48 164 (some ad) n c 0 0 Tryz.underlying48
 clear hc hb hz h1
 go_enter Tryz.func150,Tryz.ntmps150
 go_wp2_with (at_builtin;refine wpList_append_own _ rfl _ _ 48 rfl w.heap.size 164 i0 (.agg #[.int .i64 0,.int .i64 0]) 2 16 Tryz.underlying48 hi hz0 hz1 hz2 rfl (by decide) _ _ _ rfl (Za HO) ad n c F rfl (Za HZ) (Za HC) (Za H1) (by unfold maxLen;omega) (by omega) (Za HB).size ?_;intro v2 w3 hown3 hgrow3 _)
 have HW:Hid (w3.ownsRow w.heap.size 164 2 v2 n F):=by show World.ownsRow _ _ _ _ _ _ _;simpa using hown3
 have HB3:=Zb ((Za HB).grown hgrow3 (Za HB).size (Wk (Za HO)))
 clear hown3 hgrow3
 go_wp2
 go_ret
 exact⟨v2,rfl,Za HW,Za HB3⟩
theorem Jr{w:World}{base:Nat}{v:Value}{n:Nat}{l:List (Int×Int)}(h:w.ownsRow base 164 2 v n (Xa l)):∃ a c,v = .slice a n c∧OpsAt w a n l∧SlOk a n c:=by
 have hl:l.length=n:=by have:=h.1;rw[Xd] at this;omega
 rcases h.2 with ⟨rfl,rfl⟩|⟨g,cap,cur,rfl,hg,hh,h1,h2,h3,h4⟩
 ·exact⟨none,0,rfl,⟨hl,fun h=>absurd h (by omega)⟩,⟨Nat.le_refl _,Nat.zero_le _,fun _=>⟨rfl,rfl⟩⟩⟩
 ·refine⟨_,cap,rfl,⟨hl,fun _=>⟨g,0,rfl,fun i hi=>?_⟩⟩,⟨h1,h2,fun e=>by cases e⟩⟩
  obtain⟨f0,f1⟩:=Ti l i (by omega)
  rw[Nat.zero_add,World.ownsRow.cellAt h _ (by omega),World.ownsRow.cellAt h _ (by omega)]
  exact⟨f0,f1⟩
theorem Ul(a:Option Addr)(n c:Nat)(l:List (Int×Int))(w:World)(hn:n≤8796093022208)(h:OpsAt w a n l)(hs:SlOk a n c) :
  Calls Tryz.prog 150 #[.slice a n c] w fun e w'=>∃ a' c',e = .returned (.slice a' n c')∧Fresh w.heap.size w' (fun w2=>OpsAt w2 a' n l∧SlOk a' n c')∧Below w.heap.size w w':=by
 obtain⟨hl,hc⟩:=h
 cases a with
 | none=>
  obtain⟨rfl,rfl⟩:=hs.2.2 rfl
  exact (Ji w).mono fun e w' ⟨x,y⟩=>⟨none,0,x,fun _ _=>⟨⟨hl,fun h=>absurd h (by omega)⟩,hs⟩,y ▸ Below.refl _ _⟩
 | some ad=>
  have hc2:∀ j u,(Xa l)[j]? = some u→w.cell? (ad.add j)=some u:=fun j u hj=>by
   have hjl:j<l.length*2:=by rw[←Xd];exact (List.getElem?_eq_some_iff.1 hj).1
   obtain⟨b,off,e,hcell⟩:=hc (by omega)
   cases e
   rw[Addr.add_lit]
   exact Jg hl hcell j u hj
  refine (Qt ad n c (Xa l) w hn (by rw[Xd,hl]) (Jw l) hc2).mono ?_
  rintro e w' ⟨v,rfl,x,y⟩
  obtain⟨a',c',rfl,h1,h2⟩:=Jr x
  refine⟨a',c',rfl,fun w2 g2=>?_,y⟩
  have x2:=g2.own x (fun k hk=>by have:=(x.lt k hk).1;omega)
  obtain⟨a2,c2,e,h3,h4⟩:=Jr x2
  cases e
  exact⟨h3,h4⟩
theorem Tryz.infoInC:(Tryz.prog.info? 119).map (fun i=>(i.zero,i.size,i.bytes))=some (some (.agg #[.int .i64 0,.int .i64 0,.slice none 0 0]),3,40):=by kernel_rfl
theorem Fl(w:World):Calls Tryz.prog 159 #[.slice none 0 0] w fun e w'=>e = .returned (.slice none 0 0)∧w=w':=by
 have he:=fun w=>Lib.run_eql_slice_nil (P:=Tryz.prog) w 56 119 none 0 0 0 0 Tryz.underlying56
 go_enter Tryz.func159,Tryz.ntmps159
 go_wp2
 go_ret
 exact⟨rfl,rfl⟩
theorem Tq(ad:Addr)(n c:Nat)(F:List Value)(w:World)(hn:n≤3518437208883)(hz:F.length=n*3)(h1:∀ u∈F,u.oneCell'=true)(hc:∀ j u,F[j]? = some u→w.cell? (ad.add j)=some u) :
  Calls Tryz.prog 159 #[.slice (some ad) n c] w fun e w'=>∃ v,e = .returned v∧w'.ownsRow w.heap.size 119 3 v n F∧Below w.heap.size w w':=by
 obtain⟨i0,hi,hz0,hz1,hz2⟩:=info_parts Tryz.infoInC
 have hb:=Zi w (.cells #[] 119)
 have HC:Hid (∀ j u,F[j]? = some u→(w.alloc (.cells #[] 119)).cell? (ad.add j)=some u):=fun j u hj=>Ze hb (hc j u hj)
 have HB:=Zb hb
 have HZ:=Zb hz
 have H1:=Zb h1
 have HO:=Zb (Vl w 119 3)
 have he:=fun w=>Lib.run_eql_slice_nil (P:=Tryz.prog) w 56 119 (some ad) n c 0 0 Tryz.underlying56
 clear hc hb hz h1
 go_enter Tryz.func159,Tryz.ntmps159
 go_wp2_with (at_builtin;refine wpList_append_own _ rfl _ _ 56 rfl w.heap.size 119 i0 (.agg #[.int .i64 0,.int .i64 0,.slice none 0 0]) 3 40 Tryz.underlying56 hi hz0 hz1 hz2 rfl (by decide) _ _ _ rfl (Za HO) ad n c F rfl (Za HZ) (Za HC) (Za H1) (by unfold maxLen;omega) (by omega) (Za HB).size ?_;intro v2 w3 hown3 hgrow3 _)
 have HW:Hid (w3.ownsRow w.heap.size 119 3 v2 n F):=by show World.ownsRow _ _ _ _ _ _ _;simpa using hown3
 have HB3:=Zb ((Za HB).grown hgrow3 (Za HB).size (Wk (Za HO)))
 clear hown3 hgrow3
 go_wp2
 go_ret
 exact⟨v2,rfl,Za HW,Za HB3⟩
theorem Fm(a:Option Addr)(n c:Nat)(L:List InD)(w0 w:World)(hn:n≤3518437208883)(h:RowsAt inR.R 3 w0 a n L)(hb:Below w0.heap.size w0 w)(hs:SlOk a n c) :
  Calls Tryz.prog 159 #[.slice a n c] w fun e w'=>∃ v,∃ K:List (List Value),e = .returned v∧AllC inR w0 K L∧w'.ownsRow w.heap.size 119 3 v n K.flatten∧Below w.heap.size w w':=by
 obtain⟨hl,hc⟩:=h
 cases a with
 | none=>
  obtain⟨rfl,rfl⟩:=hs.2.2 rfl
  have e:L=[]:=List.length_eq_zero_iff.1 hl
  subst e
  exact (Fl w).mono fun e w' ⟨x,y⟩=>⟨_,[],x,⟨rfl,fun i h=>absurd h (by simp)⟩,y ▸ World.ownsRow_nil _ _ _ _,y ▸ Below.refl _ _⟩
 | some ad=>
  by_cases h0:n=0
  ·subst h0
   have e:L=[]:=List.length_eq_zero_iff.1 hl
   subst e
   exact (Tq ad 0 c [] w hn rfl (fun u hu=>by cases hu) (fun j u hj=>by simp at hj)).mono fun e w' ⟨v,x,y,z⟩=>⟨v,[],x,⟨rfl,fun i h=>absurd h (by simp)⟩,y,z⟩
  ·obtain⟨b,off,e,_,hcell⟩:=hc (by omega)
   obtain⟨rfl⟩:=e
   obtain⟨K,h1,h3⟩:=Qa inR hcell
   have hk:K.flatten.length=n*3:=by rw[Wm h1,hl];rfl
   exact (Tq ⟨b,off,none⟩ n c K.flatten w hn hk (flat_one h1) (fun j u hj=>by rw[Addr.add_lit];exact Ze hb (h3 j u hj))).mono fun e w' ⟨v,x,y,z⟩=>⟨v,K,x,h1,y,z⟩
theorem Tryz.infoOutC:(Tryz.prog.info? 122).map (fun i=>(i.zero,i.size,i.bytes))=some (some (.agg #[.int .i64 0,.slice none 0 0]),2,32):=by kernel_rfl
theorem Mp(w:World):Calls Tryz.prog 160 #[.slice none 0 0] w fun e w'=>e = .returned (.slice none 0 0)∧w=w':=by
 have he:=fun w=>Lib.run_eql_slice_nil (P:=Tryz.prog) w 57 122 none 0 0 0 0 Tryz.underlying57
 go_enter Tryz.func160,Tryz.ntmps160
 go_wp2
 go_ret
 exact⟨rfl,rfl⟩
theorem J9(ad:Addr)(n c:Nat)(F:List Value)(w:World)(hn:n≤4398046511104)(hz:F.length=n*2)(h1:∀ u∈F,u.oneCell'=true)(hc:∀ j u,F[j]? = some u→w.cell? (ad.add j)=some u) :
  Calls Tryz.prog 160 #[.slice (some ad) n c] w fun e w'=>∃ v,e = .returned v∧w'.ownsRow w.heap.size 122 2 v n F∧Below w.heap.size w w':=by
 obtain⟨i0,hi,hz0,hz1,hz2⟩:=info_parts Tryz.infoOutC
 have hb:=Zi w (.cells #[] 122)
 have HC:Hid (∀ j u,F[j]? = some u→(w.alloc (.cells #[] 122)).cell? (ad.add j)=some u):=fun j u hj=>Ze hb (hc j u hj)
 have HB:=Zb hb
 have HZ:=Zb hz
 have H1:=Zb h1
 have HO:=Zb (Vl w 122 2)
 have he:=fun w=>Lib.run_eql_slice_nil (P:=Tryz.prog) w 57 122 (some ad) n c 0 0 Tryz.underlying57
 clear hc hb hz h1
 go_enter Tryz.func160,Tryz.ntmps160
 go_wp2_with (at_builtin;refine wpList_append_own _ rfl _ _ 57 rfl w.heap.size 122 i0 (.agg #[.int .i64 0,.slice none 0 0]) 2 32 Tryz.underlying57 hi hz0 hz1 hz2 rfl (by decide) _ _ _ rfl (Za HO) ad n c F rfl (Za HZ) (Za HC) (Za H1) (by unfold maxLen;omega) (by omega) (Za HB).size ?_;intro v2 w3 hown3 hgrow3 _)
 have HW:Hid (w3.ownsRow w.heap.size 122 2 v2 n F):=by show World.ownsRow _ _ _ _ _ _ _;simpa using hown3
 have HB3:=Zb ((Za HB).grown hgrow3 (Za HB).size (Wk (Za HO)))
 clear hown3 hgrow3
 go_wp2
 go_ret
 exact⟨v2,rfl,Za HW,Za HB3⟩
theorem Mq(a:Option Addr)(n c:Nat)(L:List Z0)(w0 w:World)(hn:n≤4398046511104)(h:RowsAt outR.R 2 w0 a n L)(hb:Below w0.heap.size w0 w)(hs:SlOk a n c) :
  Calls Tryz.prog 160 #[.slice a n c] w fun e w'=>∃ v,∃ K:List (List Value),e = .returned v∧AllC outR w0 K L∧w'.ownsRow w.heap.size 122 2 v n K.flatten∧Below w.heap.size w w':=by
 obtain⟨hl,hc⟩:=h
 cases a with
 | none=>
  obtain⟨rfl,rfl⟩:=hs.2.2 rfl
  have e:L=[]:=List.length_eq_zero_iff.1 hl
  subst e
  exact (Mp w).mono fun e w' ⟨x,y⟩=>⟨_,[],x,⟨rfl,fun i h=>absurd h (by simp)⟩,y ▸ World.ownsRow_nil _ _ _ _,y ▸ Below.refl _ _⟩
 | some ad=>
  by_cases h0:n=0
  ·subst h0
   have e:L=[]:=List.length_eq_zero_iff.1 hl
   subst e
   exact (J9 ad 0 c [] w hn rfl (fun u hu=>by cases hu) (fun j u hj=>by simp at hj)).mono fun e w' ⟨v,x,y,z⟩=>⟨v,[],x,⟨rfl,fun i h=>absurd h (by simp)⟩,y,z⟩
  ·obtain⟨b,off,e,_,hcell⟩:=hc (by omega)
   obtain⟨rfl⟩:=e
   obtain⟨K,h1,h3⟩:=Qa outR hcell
   have hk:K.flatten.length=n*2:=by rw[Wm h1,hl];rfl
   exact (J9 ⟨b,off,none⟩ n c K.flatten w hn hk (flat_one h1) (fun j u hj=>by rw[Addr.add_lit];exact Ze hb (h3 j u hj))).mono fun e w' ⟨v,x,y,z⟩=>⟨v,K,x,h1,y,z⟩
theorem Tryz.infoTxC:(Tryz.prog.info? 59).map (fun i=>(i.zero,i.size,i.bytes))=some (some (.agg #[.int .i64 0,.slice none 0 0,.slice none 0 0]),3,56):=by kernel_rfl
theorem Fj(w:World):Calls Tryz.prog 199 #[.slice none 0 0] w fun e w'=>e = .returned (.slice none 0 0)∧w=w':=by
 have he:=fun w=>Lib.run_eql_slice_nil (P:=Tryz.prog) w 37 59 none 0 0 0 0 Tryz.underlying37
 go_enter Tryz.func199,Tryz.ntmps199
 go_wp2
 go_ret
 exact⟨rfl,rfl⟩
theorem Tp(ad:Addr)(n c:Nat)(F:List Value)(w:World)(hn:n≤2513169434916)(hz:F.length=n*3)(h1:∀ u∈F,u.oneCell'=true)(hc:∀ j u,F[j]? = some u→w.cell? (ad.add j)=some u) :
  Calls Tryz.prog 199 #[.slice (some ad) n c] w fun e w'=>∃ v,e = .returned v∧w'.ownsRow w.heap.size 59 3 v n F∧Below w.heap.size w w':=by
 obtain⟨i0,hi,hz0,hz1,hz2⟩:=info_parts Tryz.infoTxC
 have hb:=Zi w (.cells #[] 59)
 have HC:Hid (∀ j u,F[j]? = some u→(w.alloc (.cells #[] 59)).cell? (ad.add j)=some u):=fun j u hj=>Ze hb (hc j u hj)
 have HB:=Zb hb
 have HZ:=Zb hz
 have H1:=Zb h1
 have HO:=Zb (Vl w 59 3)
 have he:=fun w=>Lib.run_eql_slice_nil (P:=Tryz.prog) w 37 59 (some ad) n c 0 0 Tryz.underlying37
 clear hc hb hz h1
 go_enter Tryz.func199,Tryz.ntmps199
 go_wp2_with (at_builtin;refine wpList_append_own _ rfl _ _ 37 rfl w.heap.size 59 i0 (.agg #[.int .i64 0,.slice none 0 0,.slice none 0 0]) 3 56 Tryz.underlying37 hi hz0 hz1 hz2 rfl (by decide) _ _ _ rfl (Za HO) ad n c F rfl (Za HZ) (Za HC) (Za H1) (by unfold maxLen;omega) (by omega) (Za HB).size ?_;intro v2 w3 hown3 hgrow3 _)
 have HW:Hid (w3.ownsRow w.heap.size 59 3 v2 n F):=by show World.ownsRow _ _ _ _ _ _ _;simpa using hown3
 have HB3:=Zb ((Za HB).grown hgrow3 (Za HB).size (Wk (Za HO)))
 clear hown3 hgrow3
 go_wp2
 go_ret
 exact⟨v2,rfl,Za HW,Za HB3⟩
theorem Fk(a:Option Addr)(n c:Nat)(L:List TxD)(w0 w:World)(hn:n≤2513169434916)(h:RowsAt txR.R 3 w0 a n L)(hb:Below w0.heap.size w0 w)(hs:SlOk a n c) :
  Calls Tryz.prog 199 #[.slice a n c] w fun e w'=>∃ v,∃ K:List (List Value),e = .returned v∧AllC txR w0 K L∧w'.ownsRow w.heap.size 59 3 v n K.flatten∧Below w.heap.size w w':=by
 obtain⟨hl,hc⟩:=h
 cases a with
 | none=>
  obtain⟨rfl,rfl⟩:=hs.2.2 rfl
  have e:L=[]:=List.length_eq_zero_iff.1 hl
  subst e
  exact (Fj w).mono fun e w' ⟨x,y⟩=>⟨_,[],x,⟨rfl,fun i h=>absurd h (by simp)⟩,y ▸ World.ownsRow_nil _ _ _ _,y ▸ Below.refl _ _⟩
 | some ad=>
  by_cases h0:n=0
  ·subst h0
   have e:L=[]:=List.length_eq_zero_iff.1 hl
   subst e
   exact (Tp ad 0 c [] w hn rfl (fun u hu=>by cases hu) (fun j u hj=>by simp at hj)).mono fun e w' ⟨v,x,y,z⟩=>⟨v,[],x,⟨rfl,fun i h=>absurd h (by simp)⟩,y,z⟩
  ·obtain⟨b,off,e,_,hcell⟩:=hc (by omega)
   obtain⟨rfl⟩:=e
   obtain⟨K,h1,h3⟩:=Qa txR hcell
   have hk:K.flatten.length=n*3:=by rw[Wm h1,hl];rfl
   exact (Tp ⟨b,off,none⟩ n c K.flatten w hn hk (flat_one h1) (fun j u hj=>by rw[Addr.add_lit];exact Ze hb (h3 j u hj))).mono fun e w' ⟨v,x,y,z⟩=>⟨v,K,x,h1,y,z⟩
theorem Tryz.infoBlkC:(Tryz.prog.info? 39).map (fun i=>(i.zero,i.size,i.bytes))=some (some (.agg #[.int .i64 0,.int .i64 0,.int .i64 0,.int .i64 0,.slice none 0 0]),5,56):=by kernel_rfl
theorem Mu(w:World):Calls Tryz.prog 196 #[.slice none 0 0] w fun e w'=>e = .returned (.slice none 0 0)∧w=w':=by
 have he:=fun w=>Lib.run_eql_slice_nil (P:=Tryz.prog) w 26 39 none 0 0 0 0 Tryz.underlying26
 go_enter Tryz.func196,Tryz.ntmps196
 go_wp2
 go_ret
 exact⟨rfl,rfl⟩
theorem Rb(ad:Addr)(n c:Nat)(F:List Value)(w:World)(hn:n≤2513169434916)(hz:F.length=n*5)(h1:∀ u∈F,u.oneCell'=true)(hc:∀ j u,F[j]? = some u→w.cell? (ad.add j)=some u) :
  Calls Tryz.prog 196 #[.slice (some ad) n c] w fun e w'=>∃ v,e = .returned v∧w'.ownsRow w.heap.size 39 5 v n F∧Below w.heap.size w w':=by
 obtain⟨i0,hi,hz0,hz1,hz2⟩:=info_parts Tryz.infoBlkC
 have hb:=Zi w (.cells #[] 39)
 have HC:Hid (∀ j u,F[j]? = some u→(w.alloc (.cells #[] 39)).cell? (ad.add j)=some u):=fun j u hj=>Ze hb (hc j u hj)
 have HB:=Zb hb
 have HZ:=Zb hz
 have H1:=Zb h1
 have HO:=Zb (Vl w 39 5)
 have he:=fun w=>Lib.run_eql_slice_nil (P:=Tryz.prog) w 26 39 (some ad) n c 0 0 Tryz.underlying26
 clear hc hb hz h1
 go_enter Tryz.func196,Tryz.ntmps196
 go_wp2_with (at_builtin;refine wpList_append_own _ rfl _ _ 26 rfl w.heap.size 39 i0 (.agg #[.int .i64 0,.int .i64 0,.int .i64 0,.int .i64 0,.slice none 0 0]) 5 56 Tryz.underlying26 hi hz0 hz1 hz2 rfl (by decide) _ _ _ rfl (Za HO) ad n c F rfl (Za HZ) (Za HC) (Za H1) (by unfold maxLen;omega) (by omega) (Za HB).size ?_;intro v2 w3 hown3 hgrow3 _)
 have HW:Hid (w3.ownsRow w.heap.size 39 5 v2 n F):=by show World.ownsRow _ _ _ _ _ _ _;simpa using hown3
 have HB3:=Zb ((Za HB).grown hgrow3 (Za HB).size (Wk (Za HO)))
 clear hown3 hgrow3
 go_wp2
 go_ret
 exact⟨v2,rfl,Za HW,Za HB3⟩
theorem Mv(a:Option Addr)(n c:Nat)(L:List Zk)(w0 w:World)(hn:n≤2513169434916)(h:RowsAt blkR.R 5 w0 a n L)(hb:Below w0.heap.size w0 w)(hs:SlOk a n c) :
  Calls Tryz.prog 196 #[.slice a n c] w fun e w'=>∃ v,∃ K:List (List Value),e = .returned v∧AllC blkR w0 K L∧w'.ownsRow w.heap.size 39 5 v n K.flatten∧Below w.heap.size w w':=by
 obtain⟨hl,hc⟩:=h
 cases a with
 | none=>
  obtain⟨rfl,rfl⟩:=hs.2.2 rfl
  have e:L=[]:=List.length_eq_zero_iff.1 hl
  subst e
  exact (Mu w).mono fun e w' ⟨x,y⟩=>⟨_,[],x,⟨rfl,fun i h=>absurd h (by simp)⟩,y ▸ World.ownsRow_nil _ _ _ _,y ▸ Below.refl _ _⟩
 | some ad=>
  by_cases h0:n=0
  ·subst h0
   have e:L=[]:=List.length_eq_zero_iff.1 hl
   subst e
   exact (Rb ad 0 c [] w hn rfl (fun u hu=>by cases hu) (fun j u hj=>by simp at hj)).mono fun e w' ⟨v,x,y,z⟩=>⟨v,[],x,⟨rfl,fun i h=>absurd h (by simp)⟩,y,z⟩
  ·obtain⟨b,off,e,_,hcell⟩:=hc (by omega)
   obtain⟨rfl⟩:=e
   obtain⟨K,h1,h3⟩:=Qa blkR hcell
   have hk:K.flatten.length=n*5:=by rw[Wm h1,hl];rfl
   exact (Rb ⟨b,off,none⟩ n c K.flatten w hn hk (flat_one h1) (fun j u hj=>by rw[Addr.add_lit];exact Ze hb (h3 j u hj))).mono fun e w' ⟨v,x,y,z⟩=>⟨v,K,x,h1,y,z⟩
theorem Sy(a:Option Addr)(n c:Nat)(L:List Int)(s x:Int)(w:World)(hn:n≤maxLen)(h:IntsAt w a n L)(hx:Qo s L 0=x) :
  Calls Tryz.prog 77 #[.slice a n c,.int .i64 s] w fun e w'=>e = .returned (.int .i64 x)∧w=w':=by
 have HL:=Zb h
 have HZ:=Zb h.1
 have HX:Hid (Qo s (L.drop 0) 0=x):=hx
 unfold maxLen at hn
 clear h hx
 go_enter Tryz.func77,Tryz.ntmps77
 go_wp2
 go_loopw [8] (fun i wr=>∃ j:Nat,j≤n∧i = .int .i64 j∧w=wr∧Hid (Qo s (L.drop j) j=x)) (fun i _=>n - (intOf i).toNat)
 case atStart=>exact⟨0,Nat.zero_le _,rfl,rfl,HX⟩
 case round=>
  obtain⟨j,hk,rfl,rfl,A⟩:=hrel
  clear HX
  by_cases hlt:j<n
  ·have h1:j<L.length:=by rw[Za HZ];exact hlt
   obtain⟨b,off,rfl,hbl,hc⟩:=(Za HL).2 (by omega)
   have f1:=hc j h1
   have ST:=Zb (Zgk s L j h1)
   obtain⟨t,ht⟩:∃ t,L[j]=t:=⟨_,rfl⟩
   rw[ht] at f1 ST
   clear ht hc
   by_cases e:s=t
   ·subst e
    have R:Hid ((j:Int)=x):=by show _=_;rw[←Za A,Za ST,if_pos rfl]
    clear A ST
    go_wp2
    go_ret
    exact⟨by rw[Za R];rfl,rfl⟩
   ·have R:Hid (Qo s (L.drop (j+1)) (j+1)=x):=by show _=_;rw[←Za A,Za ST,if_neg e]
    have g:(s == t)=false:=by simp[e]
    clear A ST e
    go_wp2
    go_roundw
    case rel=>exact⟨j+1,by omega,by go_num,(by trivial),R⟩
    case measure=>simp[intOf];omega
  ·have R:Hid (x = -1):=by show _=_;rw[←Za A,Zdq s L j (by rw[Za HZ];omega)]
   clear A
   go_wp2
   go_ret
   exact⟨by rw[Za R];rfl,rfl⟩
theorem Hl(a:Option Addr)(n c:Nat)(L:List Int)(s:Int)(o:Bool)(w:World)(hn:n≤maxLen)(h:IntsAt w a n L)(ho:decide (s∈L)=o) :
  Calls Tryz.prog 141 #[.slice a n c,.int .i64 s] w fun e w'=>e = .returned (.bool o)∧w=w':=by
 obtain⟨x,hx⟩:∃ x,Qo s L 0=x:=⟨_,rfl⟩
 have C:=Zb (Sy a n c L s x w hn h hx)
 have HO:Hid (decide (0≤x)=o):=by show _=_;rw[←hx,Ds,ho]
 clear hn h ho hx
 go_enter Tryz.func141,Tryz.ntmps141
 go_wp2_with fail
 refine (Za C).mono ?_
 rintro e w1 ⟨rfl,rfl⟩
 go_wp2
 go_ret
 exact⟨by rw[←Za HO];rfl,rfl⟩
theorem Ml(a b:Option Addr)(n c m d:Nat)(L:List Int)(s:Int)(o:Bool)(w:World)(hn:n≤maxLen)(h:IntsAt w a n L)(ho:decide (s∈L)=o) :
  Calls Tryz.prog 70 #[.agg #[.slice a n c,.slice b m d],.int .i64 s] w fun e w'=>e = .returned (.bool o)∧Below w.heap.size w w':=by
 have hb:=Zi w (.cells #[.slice a n c,.slice b m d] 28)
 have C:=Zb (Hl a n c L s o _ hn (h.later hb) ho)
 have HB:=Zb hb
 clear h ho hb
 go_enter Tryz.func70,Tryz.ntmps70
 go_wp2_with fail
 refine (Za C).mono ?_
 rintro e w1 ⟨rfl,rfl⟩
 go_wp2
 go_ret
 exact⟨rfl,Za HB⟩
def Qy(x:Zk)(a:Option Addr)(n c:Nat):Value:=.agg #[.int .i64 x.1,.int .i64 x.2.1,.int .i64 x.2.2.1,.int .i64 x.2.2.2.1,.slice a n c]
theorem Pv(a b:Option Addr)(n c d:Nat)(N:List Int)(T:List Zk)(s:Int)(x:Zk)(w:World)(hn:n≤maxLen)(h:IntsAt w a n N)(hT:BlksAt w b n T)(hx:fnd s N T=x) :
  Calls Tryz.prog 72 #[.agg #[.slice a n c,.slice b n d],.int .i64 s] w fun e w'=>∃ ta tn tc,e = .returned (Qy x ta tn tc)∧TxsAt w ta tn x.2.2.2.2∧SlOk ta tn tc∧Below w.heap.size w w':=by
 unfold Qy
 obtain⟨X,hX⟩:∃ X,X=(w.alloc (.cells #[.slice a n c,.slice b n d] 28)).alloc (.cells #[.int .i64 0,.int .i64 0,.int .i64 0,.int .i64 0,.slice none 0 0] 39):=⟨_,rfl⟩
 have hbX:Below w.heap.size w X:=by rw[hX];exact Zf (Zi _ _) (Zi _ _)
 have x0:X.cell? ⟨w.heap.size,0,none⟩=some (.slice a n c):=by rw[hX];exact Ze (Zi _ _) (Z7 w _ _ _).1
 have x1:X.cell? ⟨w.heap.size,1,none⟩=some (.slice b n d):=by rw[hX];exact Ze (Zi _ _) (Z7 w _ _ _).2
 have hX1:X.heap[w.heap.size+1]? = some (.cells [.int .i64 0,.int .i64 0,.int .i64 0,.int .i64 0,.slice none 0 0].toArray 39 (0,0)):=by
  rw[hX]
  have:=Zv (w.alloc (.cells #[.slice a n c,.slice b n d] 28)) (.int .i64 0) (.int .i64 0) (.int .i64 0) (.int .i64 0) (.slice none 0 0) 39
  rw[show (w.alloc (.cells #[.slice a n c,.slice b n d] 28)).heap.size=w.heap.size+1 by simp] at this
  exact this
 have z0:=Zd hX1 0 _ rfl
 have z1:=Zd hX1 1 _ rfl
 have z2:=Zd hX1 2 _ rfl
 have z3:=Zd hX1 3 _ rfl
 have z4:=Zd hX1 4 _ rfl
 have y0:=Zg hX1 0
 have y1:=Zg hX1 1
 have y2:=Zg hX1 2
 have y3:=Zg hX1 3
 have y4:=Zg hX1 4
 have xl:=lt_of_block hX1
 obtain⟨k,hk⟩:∃ k,Qo s N 0=k:=⟨_,rfl⟩
 have C:=Zb (Sy a n c N s k X hn (h.later hbX) hk)
 have HBX:=Zb hbX
 have HT:=Zb hT
 rcases Jd s N T 0 (by rw[h.1,hT.1]) with ⟨h1,_,h3⟩|⟨i,hi,h1,_,h3⟩
 ·rw[hx] at h3
  obtain rfl:k = -1:=by rw[←hk,h1]
  subst h3
  clear h hT hx hX1 hbX hk h1
  unfold Yz
  simp only
  go_enter Tryz.func72,Tryz.ntmps72
  go_wp2_with fail
  rw[←hX]
  clear hX
  refine (Za C).mono ?_
  rintro e w1 ⟨rfl,rfl⟩
  go_wp2
  (try simp only[Exit.inBlock,Exit.then])
  refine bodyPost_ret (v:=.agg #[.int .i64 0,.int .i64 0,.int .i64 0,.int .i64 0,.slice none 0 0]) ?_ rfl ⟨none,0,0,rfl,RowsAt.nil _ _,⟨Nat.le_refl _,Nat.zero_le _,fun _=>⟨rfl,rfl⟩⟩,?_⟩
  ·rw[Ye rfl]
   go_simp
  ·exact (((((Gr.refl X (fun q=>q=w.heap.size+1)).one (w.heap.size+1) 0 (.inl rfl) _).one (w.heap.size+1) 1 (.inl rfl) _).one (w.heap.size+1) 2 (.inl rfl) _).one (w.heap.size+1) 3 (.inl rfl) _).one (w.heap.size+1) 4 (.inl rfl) _ |>.below (Za HBX) (by omega) (fun k hk=>by omega)
 ·rw[hx] at h3
  obtain rfl:k=(i:Int):=by rw[←hk,h1];simp
  have hin:i<n:=by rw[←hT.1];exact hi
  obtain⟨bb,off,rfl,hbl,hcell⟩:=hT.2 (by omega)
  have hat:=hcell i hi
  rw[←h3] at hat
  obtain⟨g0,g1,g2,g3,ta,tn,tc,g4,ht,hs⟩:=hat
  have HTX:=Zb ht
  have HSX:=Zb hs
  have k0:=Ze hbX g0
  have k1:=Ze hbX g1
  have k2:=Ze hbX g2
  have k3:=Ze hbX g3
  have k4:=Ze hbX g4
  have bl:=Nat.lt_of_lt_of_le hbl hbX.size
  clear h hT hx hX1 hbX hk h1 hcell ht hs g0 g1 g2 g3 g4 h3
  go_enter Tryz.func72,Tryz.ntmps72
  go_wp2_with fail
  rw[←hX]
  clear hX
  refine (Za C).mono ?_
  rintro e w1 ⟨rfl,rfl⟩
  go_wp2
  (try simp only[Exit.inBlock,Exit.then])
  refine bodyPost_ret (v:=.agg #[.int .i64 x.1,.int .i64 x.2.1,.int .i64 x.2.2.1,.int .i64 x.2.2.2.1,.slice ta tn tc]) ?_ rfl ⟨ta,tn,tc,rfl,Za HTX,Za HSX,?_⟩
  ·rw[Ye rfl]
   go_simp
  ·exact (((((Gr.refl X (fun q=>q=w.heap.size+1)).one (w.heap.size+1) 0 (.inl rfl) _).one (w.heap.size+1) 1 (.inl rfl) _).one (w.heap.size+1) 2 (.inl rfl) _).one (w.heap.size+1) 3 (.inl rfl) _).one (w.heap.size+1) 4 (.inl rfl) _ |>.below (Za HBX) (by omega) (fun k hk=>by omega)
theorem So(p h k n v:Value)(w:World) :
  (Instr.field 39 (.agg #[p,h,k,n,v]) 0).run Tryz.prog w = .ok p w∧(Instr.field 39 (.agg #[p,h,k,n,v]) 1).run Tryz.prog w = .ok h w∧(Instr.field 39 (.agg #[p,h,k,n,v]) 2).run Tryz.prog w = .ok k w:=by
 refine⟨?_,?_,?_⟩ <;> kernel_rfl
theorem S8(a b:Option Addr)(n c d:Nat)(N:List Int)(T:List Zk)(s z:Int)(w:World)(hn:n≤maxLen)(h:IntsAt w a n N)(hT:BlksAt w b n T)(hz:(fnd s N T).2.1=z) :
  Calls Tryz.prog 194 #[.agg #[.slice a n c,.slice b n d],.int .i64 s] w fun e w'=>e = .returned (.int .i64 z)∧Below w.heap.size w w':=by
 have hb:=Zi w (.cells #[.slice a n c,.slice b n d] 28)
 have C:=Pv a b n c d N T s _ _ hn (h.later hb) (hT.later hb) rfl
 unfold Qy at C
 rw[hz] at C
 have C:=Zb C
 have HB:=Zb hb
 clear h hT hz hb
 go_enter Tryz.func194,Tryz.ntmps194
 go_wp2_with fail
 refine (Za C).mono ?_
 rintro e w1 ⟨ta,tn,tc,rfl,_,_,hb1⟩
 have HB1:=Zb (Zf (Za HB) hb1)
 have hf:=(So (.int .i64 (fnd s N T).1) (.int .i64 z) (.int .i64 (fnd s N T).2.2.1) (.int .i64 (fnd s N T).2.2.2.1) (.slice ta tn tc) w1).2.1
 clear hb1
 go_wp2
 go_ret
 exact⟨rfl,Za HB1⟩
def Wid(sz:Nat)(K:List (List Value)):Prop:=∀ c∈K,c.length=sz
theorem AllC.wid{α : Type}{Z:Rec α}{w:World}{K:List (List Value)}{L:List α}(h:AllC Z w K L):Wid Z.sz K:=by
 intro c hc
 obtain⟨i,hi,rfl⟩:=List.getElem_of_mem hc
 exact Z.wide _ _ _ (h.2 i (by rw[←h.1];exact hi) hi)
theorem Zbp{sz:Nat}:∀ {K:List (List Value)} (_:Wid sz K) (k:Nat) (h:k<K.length) (j:Nat) (_:j<sz),K.flatten[k*sz+j]? = (K[k])[j]?
 | [],_,_,h,_,_=>absurd h (by simp)
 | c :: K,hw,0,_,j,hj=>by
  have h2:=hw c (by simp)
  rw[List.flatten_cons,List.getElem?_append_left (by omega)]
  simp
 | c :: K,hw,k+1,h,j,hj=>by
  have h2:=hw c (by simp)
  rw[List.flatten_cons,List.getElem?_append_right (by rw[h2,Nat.succ_mul];omega),h2]
  rw[show (k+1)*sz+j - sz=k*sz+j by rw[Nat.succ_mul];omega]
  rw[Zbp (fun c hc=>hw c (by simp[hc])) k (by simpa using h) j hj]
  simp
theorem Y9{sz:Nat}:∀ {K:List (List Value)} (_:Wid sz K) (k:Nat) (h:k<K.length) (j:Nat) (_:j<sz) (u:Value),K.flatten.set (k*sz+j) u=(K.set k ((K[k]).set j u)).flatten
 | [],_,_,h,_,_,_=>absurd h (by simp)
 | c :: K,hw,0,_,j,hj,u=>by
  have h2:=hw c (by simp)
  rw[List.flatten_cons,Nat.zero_mul,Nat.zero_add,List.set_append_left _ _ (by omega)]
  simp
 | c :: K,hw,k+1,h,j,hj,u=>by
  have h2:=hw c (by simp)
  rw[List.flatten_cons,List.set_append_right _ _ (by rw[h2,Nat.succ_mul];omega),h2]
  rw[show (k+1)*sz+j - sz=k*sz+j by rw[Nat.succ_mul];omega]
  rw[Y9 (fun c hc=>hw c (by simp[hc])) k (by simpa using h) j hj u]
  simp
theorem Ua{sz:Nat}{K:List (List Value)}(hw:Wid sz K)(k:Nat){c:List Value}(hc:c.length=sz):Wid sz (K.set k c):=by
 intro x hx
 rcases List.mem_or_eq_of_mem_set hx with q|rfl
 ·exact hw x q
 ·exact hc
structure Cl{α : Type}(Z:Rec α)(e:TypeId)(B G:Nat)(w0 wr:World)(v:Value)(n:Nat)(K:List (List Value))(L:List α)(k:Nat):Prop where
 own:wr.ownsRow B e Z.sz v n K.flatten
 wid:Wid Z.sz K
 len:K.length=L.length
 ln:L.length=n
 gt:∀ q,v.ownBlock=some q→q<G
 new:∀ i (h:i<L.length) (h':i<K.length),i<k→Fresh G wr (fun w2=>Z.C w2 K[i] L[i])
 old:∀ i (h:i<L.length) (h':i<K.length),k≤i→Z.C w0 K[i] L[i]
section
variable {α : Type} {Z : Rec α} {e : TypeId} {B G : Nat} {w0 wr w' : World} {v : Value} {n : Nat} {K : List (List Value)} {L : List α} {k : Nat}
theorem Cl.start(h:wr.ownsRow B e Z.sz v n K.flatten)(hc:AllC Z w0 K L)(hn:L.length=n)(hG:wr.heap.size≤G):Cl Z e B G w0 wr v n K L 0:=
 ⟨h,hc.wid,hc.1,hn,fun q hq=>Nat.lt_of_lt_of_le (h.lt q hq).2 hG,fun _ _ _ h=>absurd h (by omega),fun i h h' _=>hc.2 i h h'⟩
theorem Cl.gr{S:Nat→Prop}(h:Cl Z e B G w0 wr v n K L k)(g:Gr wr w' S)(hs:∀ q,S q→q<G)(hv:∀ q,v.ownBlock=some q→¬S q):Cl Z e B G w0 w' v n K L k:=
 ⟨g.own h.own hv,h.wid,h.len,h.ln,h.gt,fun i a b c=>(h.new i a b c).on (g.mono fun q _ hq=>hs q hq),h.old⟩
theorem Cl.keep(h:Cl Z e B G w0 wr v n K L k)(hb:Below wr.heap.size wr w'):Cl Z e B G w0 w' v n K L k:=
 h.gr (S:=fun _=>False) (Gr.of hb) (fun _ q=>q.elim) (fun _ _ q=>q)
theorem Cl.form(h:Cl Z e B G w0 wr v n K L k)(hn:0<n):∃ g cap,v = .slice (some ⟨g,0,none⟩) n cap∧B≤g∧g<G∧g<wr.heap.size:=by
 rcases h.own.2 with ⟨_,h0⟩|⟨g,cap,cur,rfl,hg,hh,_⟩
 ·omega
 ·exact⟨g,cap,rfl,hg,h.gt g rfl,lt_of_block hh⟩
theorem Cl.cell{g cap:Nat}(h:Cl Z e B G w0 wr (.slice (some ⟨g,0,none⟩) n cap) n K L k)(i:Nat)(hi:i<K.length)(j:Nat)(hj:j<Z.sz):wr.cell? ⟨g,i*Z.sz+j,none⟩=(K[i])[j]?:=by
 have hin:i<n:=by rw[←h.ln,←h.len];exact hi
 have:(i+1)*Z.sz≤n*Z.sz:=Nat.mul_le_mul_right _ (by omega)
 rw[Nat.succ_mul] at this
 rw[World.ownsRow.cellAt h.own _ (by omega),Zbp h.wid i hi j hj]
theorem Cl.free{g cap:Nat}(h:Cl Z e B G w0 wr (.slice (some ⟨g,0,none⟩) n cap) n K L k)(j:Nat):wr.frozen? ⟨g,j,none⟩=false:=h.own.frozenAt j
theorem Cl.step{g cap:Nat}(h:Cl Z e B G w0 wr (.slice (some ⟨g,0,none⟩) n cap) n K L k)(hk:k<L.length){cs:List Value}(hc:Fresh G wr (fun w2=>Z.C w2 cs L[k]))(hg:Gr wr w' (fun q=>q=g))(ho:w'.ownsRow B e Z.sz (.slice (some ⟨g,0,none⟩) n cap) n (K.set k cs).flatten):Cl Z e B G w0 w' (.slice (some ⟨g,0,none⟩) n cap) n (K.set k cs) L (k+1):=by
 have hgG:=h.gt g rfl
 have hw:=Z.wide _ _ _ hc.now
 have hm:Gr wr w' (fun q=>q<G):=hg.mono fun q _ e=>by omega
 refine⟨ho,Ua h.wid k hw,by rw[List.length_set];exact h.len,h.ln,h.gt,fun i a b c=>?_,fun i a b c=>?_⟩
 ·by_cases e:i=k
  ·subst e
   rw[List.getElem_set_self]
   exact hc.on hm
  ·rw[List.getElem_set_ne (by omega)]
   exact (h.new i a (by simpa using b) (by omega)).on hm
 ·rw[List.getElem_set_ne (by omega)]
  exact h.old i a (by simpa using b) (by omega)
theorem Cl.done(h:Cl Z e B G w0 wr v n K L n):Fresh G wr (fun w2=>AllC Z w2 K L):=fun w2 g2=>
 ⟨h.len,fun i a b=>h.new i a b (by rw[←h.ln];exact a) w2 g2⟩
theorem Cl.rows(h:Cl Z e B G w0 wr v n K L n)(hB:B≤G):∃ a c,v = .slice a n c∧Fresh B wr (fun w2=>RowsAt Z.R Z.sz w2 a n L∧SlOk a n c):=by
 obtain⟨a,c,rfl,_,_⟩:=rows_of_own Z h.own h.done.now h.ln
 refine⟨a,c,rfl,fun w2 g2=>?_⟩
 have ho:=g2.own h.own (fun q hq=>by have:=(h.own.lt q hq).1;omega)
 obtain⟨a',c',e,h1,h2⟩:=rows_of_own Z ho (h.done w2 (g2.mono fun q _ hq=>by omega)) h.ln
 cases e
 exact⟨h1,h2⟩
end
theorem set_cells{w:World}{b:Nat}{X:List Value}{t:TypeId}(h:w.heap[b]? = some (.cells X.toArray t (0,0)))(j:Nat)(u:Value):(w.setCell ⟨b,j,none⟩ u).heap[b]? = some (.cells (X.set j u).toArray t (0,0)):=by
 rw[setCell_eq_setRow w b j X.toArray t (0,0) u h]
 have:=setRow_heap w b _ (X.toArray.setIfInBounds j u) t _ h
 simpa using this
theorem len1{c:List Value}(h:c.length=2):∃ x y,c=[x,y]:=by
 match c,h with
 | [x,y],_=>exact⟨x,y,rfl⟩
theorem len3{c:List Value}(h:c.length=3):∃ x y z,c=[x,y,z]:=by
 match c,h with
 | [x,y,z],_=>exact⟨x,y,z,rfl⟩
theorem len5{c:List Value}(h:c.length=5):∃ x y z r s,c=[x,y,z,r,s]:=by
 match c,h with
 | [x,y,z,r,s],_=>exact⟨x,y,z,r,s,rfl⟩
theorem put2{K:List (List Value)}(hw:Wid 2 K)(k:Nat)(h:k<K.length)(a b:Value):((K.flatten.set (k*2) a).set (k*2+1) b)=(K.set k [a,b]).flatten:=by
 obtain⟨x,y,e⟩:=len1 (hw _ (List.getElem_mem h))
 have h1:=Y9 hw k h 0 (by decide) a
 rw[Nat.add_zero] at h1
 rw[h1,Y9 (Ua hw k (by rw[List.length_set,e];rfl)) k (by rw[List.length_set];exact h) 1 (by decide) b,List.getElem_set_self,List.set_set,e]
 rfl
theorem put3{K:List (List Value)}(hw:Wid 3 K)(k:Nat)(h:k<K.length)(a b c:Value):(((K.flatten.set (k*3) a).set (k*3+1) b).set (k*3+2) c)=(K.set k [a,b,c]).flatten:=by
 obtain⟨x,y,z,e⟩:=len3 (hw _ (List.getElem_mem h))
 have h1:=Y9 hw k h 0 (by decide) a
 rw[Nat.add_zero] at h1
 rw[h1,Y9 (Ua hw k (by rw[List.length_set,e];rfl)) k (by rw[List.length_set];exact h) 1 (by decide) b,List.getElem_set_self,List.set_set,e]
 rw[Y9 (Ua hw k rfl) k (by rw[List.length_set];exact h) 2 (by decide) c,List.getElem_set_self,List.set_set]
 rfl
theorem put5{K:List (List Value)}(hw:Wid 5 K)(k:Nat)(h:k<K.length)(a b c d f:Value):(((((K.flatten.set (k*5) a).set (k*5+1) b).set (k*5+2) c).set (k*5+3) d).set (k*5+4) f)=(K.set k [a,b,c,d,f]).flatten:=by
 obtain⟨x,y,z,r,s,e⟩:=len5 (hw _ (List.getElem_mem h))
 have h1:=Y9 hw k h 0 (by decide) a
 rw[Nat.add_zero] at h1
 rw[h1,Y9 (Ua hw k (by rw[List.length_set,e];rfl)) k (by rw[List.length_set];exact h) 1 (by decide) b,List.getElem_set_self,List.set_set,e]
 rw[Y9 (Ua hw k rfl) k (by rw[List.length_set];exact h) 2 (by decide) c,List.getElem_set_self,List.set_set]
 rw[Y9 (Ua hw k rfl) k (by rw[List.length_set];exact h) 3 (by decide) d,List.getElem_set_self,List.set_set]
 rw[Y9 (Ua hw k rfl) k (by rw[List.length_set];exact h) 4 (by decide) f,List.getElem_set_self,List.set_set]
 rfl
theorem Ri(x:Int)(a:Option Addr)(n c:Nat)(l:List (Int×Int))(w:World)(hn:n≤8796093022208)(h:OpsAt w a n l)(hs:SlOk a n c) :
  Calls Tryz.prog 161 #[.agg #[.int .i64 x,.slice a n c]] w fun e w'=>∃ a' c',e = .returned (.agg #[.int .i64 x,.slice a' n c'])∧Fresh w.heap.size w' (fun w2=>OpsAt w2 a' n l∧SlOk a' n c')∧Below w.heap.size w w':=by
 obtain⟨X,hX⟩:∃ X,X=(w.alloc (.cells #[.int .i64 x,.slice a n c] 122)).alloc (.cells #[.int .i64 0,.slice none 0 0] 122):=⟨_,rfl⟩
 have hbX:Below w.heap.size w X:=by rw[hX];exact Zf (Zi _ _) (Zi _ _)
 have x0:X.cell? ⟨w.heap.size,0,none⟩=some (.int .i64 x):=by rw[hX];exact Ze (Zi _ _) (Z7 w _ _ _).1
 have x1:X.cell? ⟨w.heap.size,1,none⟩=some (.slice a n c):=by rw[hX];exact Ze (Zi _ _) (Z7 w _ _ _).2
 have hX1:X.heap[w.heap.size+1]? = some (.cells [.int .i64 0,.slice none 0 0].toArray 122 (0,0)):=by
  rw[hX]
  have:=Yv (w.alloc (.cells #[.int .i64 x,.slice a n c] 122)) (.int .i64 0) (.slice none 0 0) 122
  rw[show (w.alloc (.cells #[.int .i64 x,.slice a n c] 122)).heap.size=w.heap.size+1 by simp] at this
  exact this
 have C:=Zb (Ul a n c l X.drew hn (h.later (Zf hbX (Zj X))) hs)
 have HX1:=Zb hX1
 have HBX:=Zb hbX
 clear h hs hbX hX1
 go_enter Tryz.func161,Tryz.ntmps161
 go_wp2_with fail
 rw[←hX]
 clear hX
 go_region_with (go_at_call 150;refine (Za C).mono ?_;rintro e w3 ⟨a',c',rfl,ho3,hb3⟩;have o2:w3.cell? ⟨w.heap.size,0,none⟩=some (.int .i64 x):=Ze hb3 (Ze (Zj _) x0);have hz3:=(hb3.block _ (lt_of_block (Za HX1))).trans (Za HX1);have c0:=Zd hz3 0 _ rfl;have c1:=Zd hz3 1 _ rfl;have f0:=Zg hz3 0;have f1:=Zg hz3 1;have H3:Hid (Fresh X.drew.heap.size w3 (fun w2=>OpsAt w2 a' n l∧SlOk a' n c')∧Below X.drew.heap.size X.drew w3):=⟨ho3,hb3⟩;clear ho3 hb3 hz3)
 all_goals
  go_wp2
  (try simp only[Exit.inBlock,Exit.then])
  obtain⟨ho3,hb3⟩:=Za H3
  have hG:=((Gr.refl w3 (fun q=>q=w.heap.size+1)).one (w.heap.size+1) 0 (.inl rfl) (.int .i64 x)).one (w.heap.size+1) 1 (.inl rfl) (.slice a' n c')
  have hlt:w.heap.size+1<X.drew.heap.size:=lt_of_block (Za HX1)
  refine bodyPost_ret (v:=.agg #[.int .i64 x,.slice a' n c']) ?_ rfl ⟨a',c',rfl,(ho3.on (hG.mono fun q _ e=>by omega)).less (by omega),?_⟩
  ·rw[Ye rfl]
   go_simp
  ·have hsz:=hb3.size
   exact hG.below (Zf (Zf (Za HBX) (Zj _)) hb3) (by omega) (fun k hk=>by omega)
end Go.Proofs.YtmomfkikogbdeaaGreatDoor.Tr
