import Derived.Test.YtpikejjiignchaaGreatDoorG42
namespace Go.Proofs.YtpikejjiignchaaGreatDoor
open Go.RowKit
structure PSt(b p:Nat)(w:World)(v:Value)(K:List (List Value))(L:List TxD):Prop where
 box:w.heap[b]? = some (.cells #[v] 48 (0,0))
 own:w.ownsRow (p+1) 52 3 v L.length K.flatten
 kept:∀ w2,Gr w w2 (fun q=>q≤p∨v.ownBlock=some q)→Tr.AllC Tr.txR w2 K L
 bp:b<p
 pl:p<w.heap.size
theorem PSt.start{b p:Nat}{w:World}(h:w.heap[b]? = some (.cells #[.slice none 0 0] 48 (0,0)))(bp:b<p)(pl:p<w.heap.size):PSt b p w (.slice none 0 0) [] []:=
 ⟨h,⟨rfl,.inl ⟨rfl,rfl⟩⟩,fun _ _=>⟨rfl,fun i h1 _=>absurd h1 (by simp)⟩,bp,pl⟩
theorem PSt.on{b p:Nat}{w w':World}{v:Value}{K:List (List Value)}{L:List TxD}{S:Nat→Prop}(h:PSt b p w v K L)(g:Gr w w' S)(hS:∀ q,S q→q≤p∧q≠b):PSt b p w' v K L:=
 ⟨g.heap h.box (fun e=>(hS b e).2 rfl),g.own h.own (fun k hk e=>by have:=(h.own.lt k hk).1;have:=(hS k e).1;omega),
  fun w2 g2=>h.kept w2 ((g.mono (fun q _ e=>.inl (hS q e).1)).trans g2),h.bp,Nat.lt_of_lt_of_le h.pl g.size⟩
theorem PSt.push{b p:Nat}{wA w Y w':World}{v v':Value}{K:List (List Value)}{L:List TxD}{u0 u1 u2:Value}{t:TxD}(h:PSt b p wA v K L)(hb:Below wA.heap.size wA w)(hF:Fresh wA.heap.size w (fun w2=>Tr.txR.C w2 [u0,u1,u2] t))(hbw:Below w.heap.size w Y)
  (hgr:Y.grownBy w' v.ownBlock) (hown:w'.ownsRow (p+1) 52 3 v' (L.length+1) (K.flatten++[u0,u1,u2])) (hv:v.ownBlock=v'.ownBlock∨∃ g,v'.ownBlock=some g∧Y.heap.size≤g) :
  PSt b p (w'.setCell ⟨b,0,none⟩ v') v' (K++[[u0,u1,u2]]) (L++[t])∧Gr w (w'.setCell ⟨b,0,none⟩ v') (fun q=>q=b∨v.ownBlock=some q):=by
 have hAY:Below wA.heap.size wA Y:=Ze hb hbw
 have hbp:=h.bp
 have hpl:=h.pl
 have hs1:=hb.size
 have hs2:=hbw.size
 have hs3:=hgr.size
 have hnb:v.ownBlock≠some b:=fun e=>by have:=(h.own.lt b e).1;omega
 have bx:w'.heap[b]? = some (.cells #[v] 48 (0,0)):=((hgr.block b (by omega) (fun e=>hnb e.symm)).trans (hAY.block b (by omega))).trans h.box
 have g1:Gr wA w' (fun q=>q≤p∨v.ownBlock=some q):=(Gr.of hAY).grown hgr (fun k e=>.inl (.inr e))
 have g2:Gr w w' (fun q=>q=b∨v.ownBlock=some q):=(Gr.of hbw).grown hgr (fun k e=>.inl (.inr e))
 have g3:Gr w (w'.setCell ⟨b,0,none⟩ v') (fun q=>q=b∨v.ownBlock=some q):=g2.one b 0 (.inl (.inl rfl)) v'
 have g4:Gr wA (w'.setCell ⟨b,0,none⟩ v') (fun q=>q≤p∨v.ownBlock=some q):=g1.one b 0 (.inl (.inl (by omega))) v'
 refine⟨⟨Ur bx,?_,fun w2 gw=>?_,hbp,by have:=g4.size;omega⟩,g3⟩
 ·rw[List.length_append,List.flatten_append]
  exact (((Gr.refl w' (fun q=>q=b)).one b 0 (.inl rfl) v').own hown (fun k hk e=>by have:=(hown.lt k hk).1;omega))
 ·refine Tr.AllC.snoc (h.kept w2 (g4.far gw (fun q e=>?_))) (hF w2 ?_)
  ·rcases e with e|e
   ·exact .inr (.inl e)
   ·rcases hv with q1|⟨g,q1,q2⟩
    ·exact .inr (.inr (q1.trans e))
    ·rw[q1] at e;injection e with e;exact .inl (by omega)
  ·refine (g3.mono (T:=fun q=>q<wA.heap.size) (fun q _ e=>?_)).far gw (fun q e=>?_)
   ·rcases e with e|e
    ·omega
    ·exact (h.own.lt q e).2
   ·rcases e with e|e
    ·exact .inr (by omega)
    ·rcases hv with q1|⟨g,q1,q2⟩
     ·exact .inr (h.own.lt q (q1.trans e)).2
     ·rw[q1] at e;injection e with e;exact .inl (by omega)
theorem PSt.txs{b p:Nat}{w:World}{v:Value}{K:List (List Value)}{L:List TxD}(h:PSt b p w v K L):∃ a c,v = .slice a L.length c∧TxsAt w a L.length L∧SlOk a L.length c:=
 Tr.rows_of_own Tr.txR h.own (h.kept w (Gr.refl _ _)) rfl
theorem Tryz.infoTx9:(Tryz.prog.info? 52).map (fun i=>(i.zero,i.size,i.bytes))=some (some (.agg #[.int .i64 0,.slice none 0 0,.slice none 0 0]),3,56):=by kernel_rfl
def Shp(sh:Nat→Value→Prop)(size:Nat)(e:TypeId)(w:World)(v:Value):Prop:=
 ∀ g,v.ownBlock=some g→∃ cur:Array Value,w.heap[g]? = some (.cells cur e (0,0))∧∀ (j:Nat) (u:Value),cur[j]? = some u→sh (j % size) u
theorem Zby{sh:Nat→Value→Prop}{z:Array Value}{n:Nat}(hz:∀ (j:Nat) (u:Value),z[j]? = some u→sh j u)(j:Nat)(u:Value)(h:(Builtin.zeroCells z n)[j]? = some u):sh (j % z.size) u:=by
 unfold Builtin.zeroCells at h
 rw[Array.getElem?_map,Array.getElem?_range] at h
 split at h
 ·rename_i q
  have hs:0<z.size:=by
   rcases Nat.eq_zero_or_pos z.size with e|e
   ·rw[e,Nat.mul_zero] at q;omega
   ·exact e
  have hj:=Nat.mod_lt j hs
  simp only[Option.map_some,Option.some.injEq] at h
  refine hz _ _ ?_
  rw[←h,Array.getElem?_eq_getElem hj,getElem!_pos z _ hj]
 ·simp at h
theorem P8{sh:Nat→Value→Prop}{size n:Nat}{A B:Array Value}(hA:∀ (j:Nat) (u:Value),A[j]? = some u→sh (j % size) u)(hB:∀ (j:Nat) (u:Value),B[j]? = some u→sh (j % size) u)(hn:A.size=n*size)(j:Nat)(u:Value)(h:(A++B)[j]? = some u):sh (j % size) u:=by
 rw[Array.getElem?_append] at h
 split at h
 ·exact hA j u h
 ·rename_i q
  have:=hB _ u h
  have e:j % size=(j - A.size) % size:=by
   obtain⟨k,hk⟩:∃ k,j=k+n*size:=⟨j - n*size,by omega⟩
   rw[hn,hk,Nat.add_sub_cancel,Nat.add_mul_mod_self_right]
  rw[e]
  exact this
theorem M6{P:Program}{w:World}{sh:Nat→Value→Prop}(t ty:TypeId)(base:Nat)(e:TypeId)(i:TypeInfo)(z:Value)(size bytes:Nat)(ht:P.underlying t=some (.slice e))(hi:P.info? e=some i)(hz:i.zero=some z)
  (hsize:i.size=size) (hby:i.bytes=bytes) (hzs:z.cells.size=size) (v:Value) (n:Nat) (xs:List Value) (hown:w.ownsRow base e size v n xs)
  (ad:Addr) (m c:Nat) (news:List Value) (hl:news.length=m*size) (hnews:∀ j u,news[j]? = some u→w.cell? (ad.add j)=some u) (h1:∀ u∈news,u.oneCell'=true)
  (hm:0<m) (h63:n+m≤maxLen) (hbytes:(n+m)*bytes≤140737488355328)
  (hS:Shp sh size e w v) (hN:∀ (j:Nat) (u:Value),news[j]? = some u→sh (j % size) u) (hZ:∀ (j:Nat) (u:Value),z.cells[j]? = some u→sh j u)
  {v':Value} {w':World} (hr:(Builtin.append_ #[t,t] ty #[v,.slice (some ad) m c]).run P w = .ok v' w'):Shp sh size e w' v':=by
 subst hsize
 subst hby
 have hsmall:n+m≤9223372036854775807:=by simp only[maxLen] at h63;omega
 have hNA:∀ (j:Nat) (u:Value),news.toArray[j]? = some u→sh (j % i.size) u:=fun j u h=>hN j u (by simpa using h)
 have hZA:∀ (k j:Nat) (u:Value),(Builtin.zeroCells z.cells k)[j]? = some u→sh (j % i.size) u:=fun k j u h=>by
  have:=Zby hZ j u h
  rw[hzs] at this
  exact this
 rcases hown.2 with ⟨rfl,rfl⟩|⟨g,cap,cur,rfl,hbg,hg,hnc,hcm,hcs,htake⟩
 ·have hx:xs=[]:=List.eq_nil_of_length_eq_zero (by simpa using hown.1)
  subst hx
  rw[run_append_nil (P:=P) w t ty e i z ht hi hz ad m c news hl hnews hm (by omega) (by have hb:=hbytes;simp only[Nat.zero_add] at hb;omega)] at hr
  injection hr with e1 e2
  subst e1 e2
  intro g hgo
  simp only[Value.ownBlock,Option.some.injEq] at hgo
  subst hgo
  exact⟨_,heap_alloc_new w.drew _,P8 (n:=m) hNA (hZA _) (by simpa using hl)⟩
 ·obtain⟨cur',hg',hc'⟩:=hS g rfl
  rw[hg] at hg'
  injection hg' with hg'
  injection hg' with hg'
  subst hg'
  have hxA:∀ (j:Nat) (u:Value),xs.toArray[j]? = some u→sh (j % i.size) u:=fun j u h=>by
   refine hc' j u ?_
   have h:xs[j]? = some u:=by simpa using h
   rw[←htake,List.getElem?_take] at h
   split at h
   ·simpa using h
   ·cases h
  by_cases hroom:n+m≤cap
  ·have hfit:n*i.size+news.length≤cur.size:=by rw[hl,hcs,←Nat.add_mul];exact Nat.mul_le_mul_right _ hroom
   rw[run_append_room (P:=P) w t ty e i ht hi g n cap cur hg ad m c news hl hnews h1 hroom hfit] at hr
   injection hr with e1 e2
   subst e1 e2
   intro q hq
   simp only[Value.ownBlock,Option.some.injEq] at hq
   subst hq
   refine⟨_,setRow_heap w g cur _ e _ hg,fun j u h=>?_⟩
   rw[htake] at h
   have h:(xs++news++cur.toList.drop (n*i.size+news.length))[j]? = some u:=by simpa using h
   rcases Nat.lt_or_ge j (xs++news).length with q|q
   ·rw[List.getElem?_append_left q] at h
    exact P8 (n:=n) hxA hNA (by simpa using hown.1) j u (by simpa using h)
   ·rw[List.getElem?_append_right q,List.getElem?_drop] at h
    refine hc' j u ?_
    rw[List.length_append,hown.1] at h q
    rw[show n*i.size+news.length+(j - (n*i.size+news.length))=j by omega] at h
    simpa using h
  ·have holds:∀ j u,xs[j]? = some u→w.cell? ((⟨g,0,none⟩:Addr).add j)=some u:=hown.cells (g:=g) rfl
   rw[run_append_grow (P:=P) w t ty e i z ht hi hz ⟨g,0,none⟩ n cap xs hown.1 holds ad m c news hl hnews (by omega) (by omega) (growslice_fits (by omega) hbytes)] at hr
   injection hr with e1 e2
   subst e1 e2
   intro q hq
   simp only[Value.ownBlock,Option.some.injEq] at hq
   subst hq
   exact⟨_,heap_alloc_new w.drew _,P8 (n:=n+m) (P8 (n:=n) hxA hNA (by simpa using hown.1)) (hZA _) (by rw[Array.size_append,List.size_toArray,List.size_toArray,hown.1,hl,Nat.add_mul])⟩
theorem Ry{P:Program}{w:World}{sh:Nat→Value→Prop}{ops:Array Oper}{o:Oper}{a:Act}{K:Act→World→Prop}{Q:Exit→Act→World→Prop}{E:Prop}(hgd:o.guard=none)(s x:Operand)(t:TypeId)
  (ho:o.op = .call { callee:=.builtin .append,args:=#[s,x],argTypes:=#[t,t] })
  (base:Nat) (e:TypeId) (i:TypeInfo) (z:Value) (size bytes:Nat) (ht:P.underlying t=some (.slice e)) (hi:P.info? e=some i) (hz:i.zero=some z)
  (hsize:i.size=size) (hby:i.bytes=bytes) (hzs:z.cells.size=size) (hsz:0<size)
  (v:Value) (n:Nat) (xs:List Value) (hs:a.eval s=v) (hown:w.ownsRow base e size v n xs)
  (ad:Addr) (m c:Nat) (news:List Value) (hx:a.eval x = .slice (some ad) m c) (hl:news.length=m*size) (hnews:∀ j u,news[j]? = some u→w.cell? (ad.add j)=some u) (h1:∀ u∈news,u.oneCell'=true)
  (hm:0<m) (h63:n+m≤maxLen) (hbytes:(n+m)*bytes≤140737488355328) (hbase:base≤w.heap.size)
  (hS:Shp sh size e w v) (hN:∀ (j:Nat) (u:Value),news[j]? = some u→sh (j % size) u) (hZ:∀ (j:Nat) (u:Value),z.cells[j]? = some u→sh j u)
  (h:∀ g cap w',w'.ownsRow base e size (.slice (some ⟨g,0,none⟩) (n+m) cap) (n+m) (xs++news)→w.grownBy w' v.ownBlock→(v.ownBlock=some g∨g=w.heap.size)→Shp sh size e w' (.slice (some ⟨g,0,none⟩) (n+m) cap)→K (a.put o.dst (.slice (some ⟨g,0,none⟩) (n+m) cap)) w') :
  if Region.wanted o (yielded ops a.tmps)=true then Oper.wp P o a w K Q else E:=by
 have hw:Region.wanted o (yielded ops a.tmps)=true:=by simp[Region.wanted,hgd]
 rw[if_pos hw]
 obtain⟨g,cap,w',hr,h2,h3,h4,h5⟩:=run_append_lies (P:=P) w t o.type base e i z size bytes ht hi hz hsize hby hzs hsz v n xs hown ad m c news hl hnews h1 hm h63 hbytes hbase w.heap.size rfl
 have hsh:=M6 t o.type base e i z size bytes ht hi hz hsize hby hzs v n xs hown ad m c news hl hnews h1 hm h63 hbytes hS hN hZ hr
 unfold Oper.wp execOp
 simp only[ho,resolve,invoke,builtin,Sem.run_bind,Sem.run_pure,Result.andThen_ok,List.map_toArray,List.map_cons,List.map_nil,hs,hx,hr]
 exact h g cap w' h2 h3 h4 hsh
end Go.Proofs.YtpikejjiignchaaGreatDoor
