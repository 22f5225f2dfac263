import Derived.Test.YtghnjdpgbldlkaaGreatDoorW42
import Derived.Test.YtghnjdpgbldlkaaGreatDoorTie
import Derived.Test.YtghnjdpgbldlkaaGreatDoorCards
import Derived.Carry
import Derived.Lay
set_option maxRecDepth 100000
set_option maxHeartbeats 8000000
set_option linter.unusedSimpArgs false
open Go.Proofs Go.RowKit Go.W Go.P
namespace Go.Proofs.YtghnjdpgbldlkaaGreatDoor
open Go.ChangeShapes Go.WideShapes Go.ChangeAt Go.RowKit Go.W
theorem own:ownKnob Tryz.prog.godebug=none:=zt
theorem Yb8:laidOutB Tryz.prog=true:=zt
theorem Z7f (os:Os)(args:Array Value):laidMetH Tryz.prog Rows.textsRow.laid ((((World.holding Tryz.prog os ⟨#[],#[],[]⟩).setCell ⟨10,0,none⟩<|.iface 201<|.agg #[.pointer<|Qb 23 56]).layVars Tryz.prog (Rows.textsRow.laid.filter fun x=>x.2.handleName?.isNone)).forCall (fun _ _=>0) ⟨#[],args,[]⟩).memory:=by
 refine laidMetH_of_parts3 (fuel:=8) ?_ zt zt;exact laidMet_layVars (w0:=((World.holding Tryz.prog os ⟨#[],#[],[]⟩).setCell ⟨10,0,none⟩<|.iface 201<|.agg #[.pointer<|Qb 23 56])) ((Rows.textsRow.laid.filter fun x=>x.2.handleName?.isNone).map (·.1)) [] zt zt zt LaidIn.none
theorem Zw9 (os:Os)(started:os.Started)(H:Type)(enc:TypeId×Value->H):
  ReturnsInHanded {} Tryz.checked os 3 .any (fun w args=>(Rows.textsSpec.pre enc Tryz.prog Tryz.f3 [] false w args/\laidMetH Tryz.prog Rows.textsRow.laid w)/\sizedMet enc Tryz.prog Tryz.f3 (OpenSpec.ofChange Rows.textsSpec) false w args)
   (Rows.textsSpec.post enc Tryz.prog Tryz.f3 false true false false):=by
 refine returnsInHanded_of_change_and (C:=Tryz.checked) (X:=fun w _=>laidMetH Tryz.prog Rows.textsRow.laid w) (fun _ _ _ hh h=>h.of_heap hh) own started zt Tryz.func3
  (ChangeSpec.witness_shaped (enc:=enc) (C:=Tryz.checked) (os:=os) (X:=fun w _=>laidMetH Tryz.prog Rows.textsRow.laid w) false (((World.holding Tryz.prog os ⟨#[],#[],[]⟩).setCell ⟨10,0,none⟩<|.iface 201<|.agg #[.pointer<|Qb 23 56]).layVars Tryz.prog (Rows.textsRow.laid.filter fun x=>x.2.handleName?.isNone)) #[.slice none 0 0] 8 (World.layVars_os _ _ _) (World.shaped_of_ZipB zt zt) zt zt zt<|Z7f os _) ?_
 intro W base args ds gs before WW hW _ hz hL _;have hval: ∀ (j:Nat) t v,Tryz.f3.params[j]?=some t->args[j]?=some v->Value.okWide Tryz.prog W .any base t v:=WW;have hW':=hW;obtain⟨p,q,hA0,hV,rfl,hfz,zZ⟩:=hW;have hA:DataW.TrodAll enc Tryz.prog W 0 (fun _=>true) true Tryz.f3.params.toList args.toList ds p:=hA0;rw[Tryz.params3]at hA hval hz;obtain⟨v0,d0,rfl,rfl,h0⟩:=trodAll_one hA;obtain⟨rfl,rfl⟩:=trodVars_none hV;obtain⟨sa,sl,sc,rfl⟩:=okWide_slice Tryz.underlying22<|hval 0 22 v0 rfl rfl;have h0k:=h0;obtain⟨fuel,hf⟩:=h0;have hzw:((d0,p).1.weights Tryz.prog 22).all (·<=reachBytes)=true:=UI.2 fun n hn=>UI.1 hz n (DataW.weights_mem_each (j:=0) rfl rfl n hn);obtain⟨p0,c0,xs,e0,hl,qT⟩:=Zyw hf hzw;cases e0;obtain⟨a,hB,hE,hg,hP⟩:=Zu5 hL;have Z:Aa a W:=⟨W,hB,fun g o hl=>⟨Ba hl hg,rfl⟩⟩;clear hA0 WW hval;refine(Z7q Yag uZ qT hl Z hE hP).mono fun e W' ⟨he,hb⟩=>?_;subst he;have hlt: ∀ x∈p,x.block<W.heap.size:=fun x hx=>by simpa using hW'.lt x (by simpa using hx)
 exact⟨_,rfl,_,_,_,[],p,[],hW',trodAll_mk1<|shut_bool Tryz.underlying4 true,trodAll_mk1<|Below.trod Yb8 zt (of_decide_eq_true zt) h0k hb hlt,rfl,hb.frame _,fun h=>by cases h⟩
theorem Zzo:Rows.TextsSaid:=
 OpenClaim.holds_of_wide 3 Tryz.f3 rfl rfl rfl rfl rfl rfl rfl ⟨rfl,rfl,rfl,rfl,rfl⟩ rfl rfl rfl rfl rfl zt Tryz.func3 Zw8
  (of_decide_eq_true zt) (by unfold Func.isWrapper;first | (rw[if_pos (by decide+kernel)];kernel_rfl) | (rw[if_neg (by decide+kernel)];exact⟨rfl,rfl⟩))
  (fun os started H enc _=>Zw9 os started H enc)
theorem texts_card:Rows.TextsCardSaid:=
 Claim7.holds_tied_plain_at .later [] [.data,.data,.data,.data,.handle,.sentinel,.sentinel,.data,.data,.data,.data,.data,.sentinel,.sentinel,.sentinel,.sentinel,.sentinel,.sentinel,.sentinel,.sentinel,.sentinel,.sentinel,.pinned] true (true,"789294d711f528c02730a5d645b9525d6b1748bf8f2a59898d347ec69e47e1ab") true
  Zzo (fun _ h=>by cases h) zt (fun _ h=>by cases h) texts_row_tie rfl ⟨rfl,rfl⟩ zt rfl
  (fun f fn hf hfn=>by
   obtain rfl:f=3:=Ny ((show Tryz.prog.funcNamed "warrant/warrantkeep.Texts" =some 3 by kernel_rfl).symm.trans hf) |>.symm;obtain rfl:fn=Tryz.f3:=(Ny<|Tryz.func3.symm.trans hfn).symm;exact⟨zt,fun j t ht=>by
    rw[Tryz.params3]at ht;have hm:t∈[22]:=by simpa using Array.mem_of_getElem? ht
    have hall:([22].all fun u=> !Tryz.prog.wantsStandIn u)=true:=zt
    exact(show Tryz.prog.wantsStandIn t=false by simpa using UI.1 hall t hm)⟩)
  zt
end Go.Proofs.YtghnjdpgbldlkaaGreatDoor
