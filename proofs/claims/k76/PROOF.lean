import PyProof.Rows.All
import Wide.All
import OpenK.AllK
import Wide.FinOn
import PySem.Challenge.RW_deedworlds_k76_whole_leads_are_quotients
import HandS.Base
import HandS.Call
import HandS.List
import HandS.Comp
import HandS.Iter
import HandS.Evl
import HandS.Words
import KE.GoesMore
import KE.GoesEnum
import PyProof.ReprRoads
import PyProof.AutoIntOps
import HandS.Ends
import HandS.ForMost
import HandS.IsInst
import HandS.Zip
import HandS.TupAny
import HandS.Conv
import HandS.NoneIn
import HandS.More
import HandS.Wide
import HandS.Walk
import HandS.ReCall
import KE.KIndexOf
import PyProof.Rows.RegFStrParts
import KE.KDictPairs
import KE.KDictZip
import HandS.Dict
import HandS.Set
import HandS.SetFor
import HandS.TupSets
import PyProof.Rows.SortStr
import HandS.Strs
import HandS.Deep
import KE.DatumOrd
import PyProof.Rows.SetFrom
import KE.SortData
import HandS.Style
import KE.GoesZip
import PyProof.ListStr
import HandS.FStr
import HandS.DictComp
import HandS.ListItems
import HandS.Text
import KE.KEqDict
import KE.KDictItemsList
import HandS.TupMul
import HandS.Exc
import HandS.ExcOwn
import HandS.WordsExc
import KE.KExcIs
import HandS.ExcIs
import PyProof.RowDictHeap
import PyProof.ReprLen
import HandS.RaiseMore
import KE.KTupSum
import HandS.SortKw
import HandS.Sort
import HandS.Small
import HandS.Codes
set_option Elab.async false
set_option linter.all false
set_option maxRecDepth 100000
set_option maxHeartbeats  4000000
section
/-! a rule of our own over the hand layer: for .. in enumerate(a tuple) -/
namespace Dw
open PySem PySem.Spec PyProof.Rows L2
/-- the walker of a tuple, and what counts beside it, as enumerate lays them -/
abbrev tupWalker (tp : Addr) : Obj := { cls := .type "tuple_iterator", data := .fields #[.ref tp, .int 0 0] }
abbrev counter (wk : Addr) : Obj := { cls := .type "enumerate", data := .fields #[.none, .bool false, .ref wk, rawInt 0, .none, .none] }
theorem new_enumT (tp : Addr) (cells : Array Value) (cap : Nat) (dc : Option Addr) (osl : Array (Option Value)) :
    Meets (Builtin.«enumerate.__new__» ⟨[.type "enumerate", .ref tp], []⟩) (fun _ R s => s.heap.get? tp = some { cls := .type "tuple", dict := dc, data := .seq cells cap, slots := osl } ∧
      R (.ok (.ret (.ref (s.heap.push (tupWalker tp)).objs.size))) { s with heap := (s.heap.push (tupWalker tp)).push (counter s.heap.objs.size) }) := by
  refine .of_wp fun prog w A R s pre => ?_
  obtain ⟨hp, glo, dep, tk, os⟩ := s
  obtain ⟨at_, goal⟩ := pre
  have isSub := sub_enumerate
  have isTup : Heap.IsTuple (Shared.heap ⟨hp, glo, dep, tk, os⟩) tp cells := ⟨_, at_, rfl, cap, rfl⟩
  wp_walk using AutoSeq1.wpAny_loadPart' at_
  refine wpAny_stack_any (fun _ => wpAny_pure ?_)
  split
  case h_1 cl _ _ _ _ _ =>
    generalize (cl == Value.type "enumerate") = same
    cases same <;> (wp_walk using AutoSeq1.wpAny_loadPart' at_, wpAny_pyIter_tuple isTup; exact ⟨_, rfl, goal⟩)
  case h_2 =>
    wp_walk using AutoSeq1.wpAny_loadPart' at_, wpAny_pyIter_tuple isTup
    exact ⟨_, rfl, goal⟩
/-- what stands behind enumerate(tuple): two new objects, all else as it was -/
structure Laid (old new : Heap) (tp : Addr) : Prop where
  cnt : IsEnum new (old.objs.size + 1) old.objs.size 0 .none
  wlk : new.IsTupleIter old.objs.size tp 0
  kept : ∀ b o, old.get? b = some o → new.get? b = some o
theorem laid_mk (old : Heap) (tp : Addr) : Laid old ((old.push (tupWalker tp)).push (counter old.objs.size)) tp := by
  have size1 : (old.push (tupWalker tp)).objs.size = old.objs.size + 1 := Heap.size_push ..
  have last := Heap.get?_push_size (old.push (tupWalker tp)) (o := counter old.objs.size) rfl
  rw [size1] at last
  exact ⟨last, ⟨tupWalker tp, Heap.get?_push_of_some _ (Heap.get?_push_size _ rfl), rfl, rfl⟩, fun b o q => Heap.get?_push_of_some _ (Heap.get?_push_of_some _ q)⟩
theorem call_enumT {prog : Program} {w : World} {A : Around} {E Q : Value → Shared → Prop} {s : Shared} {tp : Addr} {cells : Array Value} (isTup : s.heap.IsTuple tp cells)
    (next : ∀ new, Laid s.heap new tp → Q (.ref (s.heap.objs.size + 1)) { s with heap := new }) : wpAny (model prog w) A (call (.type "enumerate") [.ref tp]) Q E s := by
  obtain ⟨⟨cl, dc, dat, osl⟩, at_, isT, cap, isSeq⟩ := isTup
  have e1 : cl = .type "tuple" := isT
  have e2 : dat = .seq cells cap := isSeq
  subst e1
  subst e2
  have made := laid_mk s.heap tp
  have size1 : (s.heap.push (tupWalker tp)).objs.size = s.heap.objs.size + 1 := Heap.size_push ..
  refine callType_new F.called_enumerate (by decide) (F.typeCall_enumerate_1 _) (F.newCall_enumerate_1 _) (fun ob => F.args_object_init_2 ob _) F.entry_enumerate_new (new_enumT tp cells cap dc osl) (And.intro at_ ?_)
  have e3 : Value.ref (s.heap.push (tupWalker tp)).objs.size = .ref (s.heap.objs.size + 1) := by rw [size1]
  show _ ∧ _
  rw [e3]
  exact And.intro ⟨_, made.cnt, rfl⟩ (next _ made)
/-- the tuple at tp: its items, each in a new pair behind its place -/
def IteT (K : PySem.W.Frag) (tp : Addr) : It :=
  ⟨fun i H => ∃ (xs : List V) (x : V), SqT K H tp xs ∧ xs[i]? = some x, fun i H v H' => ∃ pr x, v = .ref pr ∧ H pr = none ∧ H' = upd H pr (.tup [.int (i : Nat), x]) ∧ ∀ xs, SqT K H tp xs → xs[i]? = some x, fun i H => ∃ xs : List V, SqT K H tp xs ∧ xs.length ≤ i⟩
/-- how the two objects stand ahead of turn i -/
def StandsT (tp cn wk : Addr) (i : Nat) (hp : Heap) : Prop := (∃ old, IsEnum hp cn wk ((i : Nat) : Int) old) ∧ hp.IsTupleIter wk tp i ∧ cn ≠ wk ∧ tp ≠ cn ∧ tp ≠ wk
theorem two {b x y : Addr} {P : Addr → Prop} (hb : b ∈ [x, y]) (px : P x) (py : P y) : P b := by
  rcases List.mem_cons.mp hb with same | same
  · exact same ▸ px
  · exact (List.mem_singleton.mp same) ▸ py
theorem turn_enumT {P : Program} {w : World} {K : PySem.W.Frag} {elts : List Expr} {kk : Nat} {tpos : Pos} (tp cn wk : Addr) : Turn P w K (.Tuple elts kk tpos) (IteT K tp) [cn, wk] cn (StandsT tp cn wk) where
  mem := List.mem_cons_self ..
  obj := by
    intro i hp st b hb
    obtain ⟨⟨_, isE⟩, ⟨o, at_, _, dat⟩, _⟩ := st
    exact two (P := fun b => ∃ o, hp.get? b = some o ∧ ∀ v, o.data ≠ .cell v) hb ⟨_, isE, fun _ q => nomatch q⟩ ⟨o, at_, fun v q => by rw [dat] at q; cases q⟩
  keep := by
    intro i hp hp' st same
    obtain ⟨⟨old, isE⟩, isI, far⟩ := st
    exact ⟨⟨old, same cn (List.mem_cons_self ..) _ isE⟩, isI.at fun o q => same wk (List.mem_cons_of_mem _ (List.mem_singleton.mpr rfl)) o q, far⟩
  item := by
    intro X eP ew eK calm i pins s σ H E I free st here
    subst eP ew eK
    obtain ⟨⟨old, isE⟩, isI, ne1, ne2, ne3⟩ := st
    obtain ⟨xs, x, isT, atx⟩ := here
    obtain ⟨cells, rel, isTup, _⟩ := I.tuple isT
    obtain ⟨u, atu, ru⟩ := rel.get atx
    have low : i < cells.toArray.size := by
      rw [List.size_toArray]
      exact (List.getElem?_eq_some_iff.mp atu).1
    have inCn : cn < s.heap.objs.size := Heap.lt_size isE
    have inWk : wk < s.heap.objs.size := let ⟨_, q, _⟩ := isI; Heap.lt_size q
    have far : cn ∉ [wk, tp] := fun z => by
      rcases List.mem_cons.mp z with one | one
      · exact ne1 one
      · exact ne2 (List.mem_singleton.mp one).symm
    have quiet : X.A.in1.handled = none := I.ok.hd calm
    refine wpAny_pyNext_enum_itemD (Draws.tuple (prog := X.prog) (w := X.w) quiet wk tp ne3 cells.toArray) isE ⟨isI, isTup⟩ low ne1 far fun v hp1 tk isv out st1 pair _ same => ?_
    have ev : v = u := by
      have q : cells.toArray[i]? = some v := isv
      rw [List.getElem?_toArray, atu] at q
      cases q
      rfl
    subst ev
    refine ⟨_, rfl, wpAny_letOwnedTupleGo_enum (s := { s with heap := hp1, toks := tk + 1 }) out fun hp2 isE2 but => ?_⟩
    have pair2 : hp2.get? s.heap.objs.size = some { cls := .type "tuple", data := .seq #[.int i tk, v] } := (but.2 _ (Nat.ne_of_gt inCn)).trans pair
    have fine : ObjOk X.prog X.w (upd H s.heap.objs.size (.tup [.int (i : Nat), x])) hp2 s.heap.objs.size (.tup [.int (i : Nat), x]) :=
      And.intro (show 2 ≤ sizeLine by decide) ⟨[.int i tk, v], .cons ⟨_, rfl⟩ (.cons ru .nil), _, pair2, rfl, _, rfl⟩
    have still : ∀ b ob, b ∉ [cn, wk] → s.heap.get? b = some ob → hp2.get? b = some ob := fun b ob nb q => by
      have n1 : b ≠ cn := fun z => nb (z ▸ List.mem_cons_self ..)
      have n2 : b ≠ wk := fun z => nb (z ▸ List.mem_cons_of_mem _ (List.mem_singleton.mpr rfl))
      rw [but.2 b n1]
      exact same b ob n1 n2 q
    have J := I.turnedNew (ch := [cn, wk]) (t' := tk + 1) still free (Nat.le_refl s.heap.objs.size) fine
    have up : (i : Int) + 1 = ((i + 1 : Nat) : Int) := (Int.natCast_succ i).symm
    rw [up] at isE2
    refine ⟨.ref s.heap.objs.size, _, J, rfl, ⟨_, x, rfl, I.hok.fresh (Nat.le_refl _), rfl, fun ys isY => ?_⟩, ⟨⟨v, isE2⟩, st1.1.at fun o q => (but.2 wk ne1.symm).trans q, ne1, ne2, ne3⟩, fun b hb => ?_⟩
    · rw [I.tuple_inj isY isT]
      exact atx
    · have inB : b < s.heap.objs.size := two (P := fun b => b < s.heap.objs.size) hb inCn inWk
      rw [upd_ne (Nat.ne_of_lt inB)]
      exact (free b hb).1
  done := by
    intro X eP ew eK calm i pins s σ H E I free st over
    subst eP ew eK
    obtain ⟨⟨old, isE⟩, isI, ne1, ne2, ne3⟩ := st
    obtain ⟨xs, isT, short⟩ := over
    obtain ⟨cells, rel, isTup, _⟩ := I.tuple isT
    obtain ⟨g0, g1, g2, g3, g4, g5⟩ := free wk (List.mem_cons_of_mem _ (List.mem_singleton.mpr rfl))
    have many : cells.toArray.size ≤ i := by
      rw [List.size_toArray, ← rel.length]
      exact short
    have quiet : X.A.in1.handled = none := I.ok.hd calm
    have D : Draws X.prog X.w X.A.in1 wk [wk, tp] i (fun _ _ => False) (fun j hp => j = i ∧ hp.IsTupleIter wk tp i ∧ hp.IsTuple tp cells.toArray) :=
      { live := fun _ _ q => let ⟨o, z, _⟩ := q.2.1; ⟨o, z⟩
        frame := fun _ _ _ q same => ⟨q.1, q.2.1.at fun o z => same wk (List.mem_cons_self ..) o z, q.2.2.at fun o z => same tp (List.mem_cons_of_mem _ (List.mem_singleton.mpr rfl)) o z⟩
        item := fun _ _ _ _ less q _ => absurd q.1 (Nat.ne_of_lt less)
        done := fun _ _ _ q ends => wpAny_nextOf_tuple_end quiet q.2.1 q.2.2 (Array.getElem?_eq_none many) ends }
    exact wpAny_pyNext_enum_endD D isE ⟨rfl, isI, isTup⟩ fun hp1 ext => ⟨rfl, I.turned (t' := s.toks) (fun b o nb q => ext b o nb q) g0 g1 g3 g4 g5⟩
  self := by
    intro A i s Q E st q
    obtain ⟨⟨_, isE⟩, _⟩ := st
    exact wpAny_pyIter_enum isE q
def iEnumT (K : PySem.W.Frag) (ta : TA) : TI := fun σ H R => ta σ H fun vs H1 => ∃ tp xs, vs = [.ref tp] ∧ SqT K H1 tp xs ∧ R (IteT K tp) H1
theorem pi_enumT {X : Cx} {e : Expr} {ta : TA} {p pos tpos : Pos} {elts : List Expr} {kk : Nat} (glob : Gl X "enumerate") (none_ : X.mg "enumerate" = none) (arg : PA X [e] ta) (star : starEach [e] X.env = [(false, eval e X.env)] := by rfl) :
    PI X (.Tuple elts kk tpos) (.Call (.Name "enumerate" p) [e] [] pos) (iEnumT X.K ta) := by
  constructor
  intro pins s σ H R I q0
  have given := arg.run pos pins s σ H _ I q0
  refine Call_ (ld_blt I glob none_ boot_enumerate (callWith_type1 (thn given fun us s1 got => ?_) star rfl))
  obtain ⟨vs, H1, J, rel, tp, xs, isOne, isT, q1⟩ := got
  subst isOne
  obtain ⟨u, isU, ru⟩ := vals1 rel
  subst isU
  cases (show u = Value.ref tp from ru)
  obtain ⟨cells, _, isTup, _⟩ := J.tuple isT
  have inTp : tp < s1.heap.objs.size := let ⟨_, at_, _⟩ := (show s1.heap.IsTuple tp cells.toArray from isTup); Heap.lt_size at_
  refine call_enumT isTup fun new made => wpAny_pyIter_enum made.cnt ?_
  have J2 : Inv X pins σ H1 { s1 with heap := new } := J.kept (t' := s1.toks) made.kept
  have stands : StandsT tp (s1.heap.objs.size + 1) s1.heap.objs.size 0 new := ⟨⟨.none, made.cnt⟩, made.wlk, Nat.succ_ne_self _, Nat.ne_of_lt (Nat.lt_succ_of_lt inTp), Nat.ne_of_lt inTp⟩
  refine ⟨s1.heap.objs.size + 1, [s1.heap.objs.size + 1, s1.heap.objs.size], _, _, H1, rfl, J2, turn_enumT tp _ _, stands, fun b hb => ?_, q1⟩
  have late : s1.heap.objs.size ≤ b := two (P := fun b => s1.heap.objs.size ≤ b) hb (Nat.le_succ _) (Nat.le_refl _)
  exact J.fpOk late (J.hok.fresh late)
end Dw
end
section
namespace Dw
open PySem PySem.Spec PyProof.Rows L2
/-! ### repr of data, where nothing is being shown around -/
/-! ### ** of a base that op_pow does not take -/
theorem op_powG {b e : Int} (h0 : 0 < e) (h1 : 1 < b) (hz : Builtin.Int.intTooBig (((Builtin.Int.intBits b : Nat) : Int) * e) = false) {X : Cx} :
    OpR X (binaryOp .Pow) (fun x y H Q => x = .int b ∧ y = .int e ∧ Q (.int (b ^ e.toNat)) H) := by
  intro pins s σ H x y v u Q I rx ry h
  obtain ⟨rfl, rfl, q⟩ := h
  obtain ⟨t1, rfl⟩ := (show ∃ t, v = Value.int b t from rx)
  obtain ⟨t2, rfl⟩ := (show ∃ t, u = Value.int e t from ry)
  refine AutoIntOps.pow_4 (by omega) (by simp; omega) (by simp; omega) (by simp; omega) (by rw [hz]; decide) ?_
  exact ⟨.int (b ^ e.toNat), H, I.tok _, ⟨_, rfl⟩, q⟩
end Dw
end
section
/-! the law's own def, entered from the caller's place itself (so that it is known there that nothing is being shown) -/
namespace Dw
open PySem PySem.Spec PyProof.Rows L2
/-- a def of one parameter, entered at a told place A -/
theorem enter1 {P : Program} {w : World} {K : PySem.W.Frag} {mg : Str → Option Value} {base : Heap} {k : Nat} {x qual : Str} {st : Stmt} {f : Addr} {fd : FuncData} {N : List Str} {A : Around} {outer : List Env} {s : Shared} {H : Hp} {v : V} {u : Value} {Q : VK}
    (F : Fun K qual qual st f fd) (S : FnScope N [x] (defScope st)) (bd : BindsTo s fd ⟨[u], []⟩ [(x, u)]) (room : Room (k + 1) A) (e0 : Env0 P w K mg base A outer s H) (rv : RelV v u)
    (body : ∀ cdv : Value, ∃ t, PSs (cxOf CX0 P w K mg base N qual (defScope st) f cdv A outer s H E0).nox (defBody st) t ∧ t { nx := fun _ H' => Q .non H', rt := Q } (start N [v]) H) :
    codeAny (model P w) A (.call (.ref f) ⟨[u], []⟩) (CR CX0 outer P w H s Q E0) s := by
  obtain ⟨oc, od, kV, doc, pm, an, cdv, ct, osl, efd, look, code⟩ := F.ex
  subst efd
  obtain ⟨t, der, rd⟩ := body cdv
  have kept : ∀ b o, base.get? b = some o → s.heap.get? b = some o := fun b o e => (e0.bs b o e).1
  have inK : K.In s.heap := e0.mod.kin.keeps kept
  refine codeAny_call_function room.depth (inK f _ look) rfl S.co S.gen rfl (PySem.W.codeRec_of inK code) (bd _ _ _ _ ?_)
  have kinds : ∀ y ∈ [(x, u)], (defScope st).names.lookup y.1 = some .local ∨ ((defScope st).names.lookup y.1 = some .cell ∧ ((cellsFrom (s.heap.objs.size + 1) (defScope st).names []).lookup y.1).isSome = true) := by
    intro y hy
    rw [List.mem_singleton.mp hy]
    cases S.par x (List.mem_singleton.mpr rfl) with
    | inl one => exact Or.inl one
    | inr one => exact Or.inr ⟨one, PySem.W.cellsFrom_some _ _ _ (Or.inl one)⟩
  refine wpAny_newFunctionEnv_cells S.kind kinds (fun env isEnv s1 ic => ?_)
  subst isEnv
  have noLim : s.heap.NoLimit := e0.mod.nolimit.keeps kept
  refine ⟨noLim.keeps ic.toInCall.keep, codeAny_func ?_⟩
  have start0 : Inv (cxOf CX0 P w K mg base N qual (defScope st) f cdv A outer s H E0) [] (start N [v]) H s1 := inv_start S room.hd e0 rfl (.cons rv .nil) ic
  refine wpAny_mono (der.nox.run [] s1 (start N [v]) H _ start0 rd) (fun flow s2 done => ?_) (fun _ _ bad => bad)
  match flow, done with
  | .next, ⟨_, H2, inv, q⟩ => exact ⟨.non, H2, inv.os, inv.bare, inv.base, inv.hok, rfl, q⟩
  | .ret _, ⟨v2, _, H2, inv, rel, q⟩ => exact ⟨v2, H2, inv.os, inv.bare, inv.base, inv.hok, rel, q⟩
  | .brk, ⟨_, _, _, q⟩ => exact q.elim
  | .cont, ⟨_, _, _, q⟩ => exact q.elim
/-- how the script stands ahead of the law: tracked as locked, or one of the written part's own -/
def scriptHp (K : PySem.W.Frag) (a : Addr) (ob : Obj) (ns : List Int) : Hp := fun b => if b = a ∧ K.lookup a = none then some (.frz ob (.lst (ns.map V.int))) else none
section
variable {K : PySem.W.Frag} {a : Addr} {ob : Obj} {ns : List Int}
theorem scriptHp_some {b : Addr} {u : HO} (h : scriptHp K a ob ns b = some u) : b = a ∧ K.lookup a = none ∧ u = .frz ob (.lst (ns.map V.int)) := by
  unfold scriptHp at h
  split at h
  · rename_i c
    exact ⟨c.1, c.2, (Option.some.inj h).symm⟩
  · cases h
theorem scriptHp_at (h : K.lookup a = none) : scriptHp K a ob ns a = some (.frz ob (.lst (ns.map V.int))) := if_pos ⟨rfl, h⟩
theorem scriptHp_no {b : Addr} (h : b ≠ a) : scriptHp K a ob ns b = none := if_neg fun c => h c.1
end
/-- the end of a law row whose def is walked from the caller's place -/
theorem walkG {l : PySem.W.OpenLaw} {n k : Nat} {q : Program} {loose : List Str} {XP : (Str → Option Value) → Heap → Prop} {YP : World → Heap → Prop} {d : DefRec} {K : Params → PySem.W.Frag} {x : Str}
    (hn : l.most = some n) (hn2 : n ≤ sizeLine) (hdf : d.params.defaults = []) (room : Room (k + 1) callerA) (hY : ∀ (w : World) (h : Heap), YP w h → (K w.params).In h)
    (F : ∀ (w : World) (mg : Str → Option Value) (fa : Addr) (h : Heap),
      (K w.params).In h → h.Ns mainGlobals mg → mg d.name = some (.ref fa) →
      ∃ (fd : FuncData) (st : Stmt) (N : List Str), Fun (K w.params) d.name d.name st fa fd ∧ FnScope N [x] (defScope st) ∧ (∀ (s : Shared) (u : Value), BindsTo s fd ⟨[u], []⟩ [(x, u)]) ∧
        ∀ (base : Heap) (s : Shared) (H : Hp) (cdv : Value) (a : Addr) (ns : List Int), (K w.params).In base → base.Ns mainGlobals mg → ns.length ≤ n → SqL (K w.params) H a (ns.map V.int) →
          ∃ t, PSs (cxOf CX0 l.prog w (K w.params) mg base N d.name (defScope st) fa cdv callerA [] s H E0).nox (defBody st) t ∧ t { nx := fun _ _ => False, rt := fun v _ => v = .bl true } (start N [.ref a]) H) :
    PySem.W.WalkO q loose XP YP l.row.toRowW d [] (fun g us => PySem.call g us) := by
  refine Att.attach_call hn hdf (fun w _ s mg mb fa _ _ _ _ a vs ns G Y _ _ _ gl isL nums len gens => ?_)
  have inK := hY w s.heap Y
  obtain ⟨fd, st, N, Fn, S, bd, body⟩ := F w mg fa s.heap inK G.T.g gl
  let H : Hp := scriptHp (K w.params) a { cls := .type "list", data := .seq vs.toArray } ns
  have rel : Vals (ns.map V.int) vs := vals_ints nums
  have small : vs.length ≤ sizeLine := by rw [nums.length]; exact Nat.le_trans len hn2
  have okH : HOk l.prog w H s.heap := by
    intro b u e
    obtain ⟨rfl, _, rfl⟩ := scriptHp_some e
    exact ⟨isL, by rw [List.length_map]; exact Nat.le_trans len hn2, vs, _, rel, isL⟩
  have seq : SqL (K w.params) H a (ns.map V.int) := by
    cases lk : (K w.params).lookup a with
    | none => exact Or.inl (Or.inr ⟨_, scriptHp_at lk⟩)
    | some o =>
      have same : o = { cls := .type "list", data := .seq vs.toArray } := Option.some.inj ((inK a o lk).symm.trans isL)
      exact Or.inr ⟨o, vs.toArray, _, lk, by rw [same], by rw [same], by rw [same], by rw [List.size_toArray]; exact small, by simpa using rel⟩
  have freeK : ∀ b o, (K w.params).lookup b = some o → H b = none := by
    intro b o e
    by_cases hb : b = a
    · subst hb
      exact if_neg fun c => by rw [c.2] at e; cases e
    · exact scriptHp_no hb
  have freeD : ∀ b o es ep, s.heap.get? b = some o → o.data = .dict es ep → H b = none := by
    intro b o es ep e dat
    by_cases hb : b = a
    · subst hb
      rw [isL] at e
      cases e
      cases dat
    · exact scriptHp_no hb
  have names : ∀ b m, s.heap.Ns b m → (hidT s.heap H).Ns b m := fun b m ⟨o, es, ep, e, dat, r⟩ => ⟨o, es, ep, hidT_get e (freeD b o es ep e dat), dat, r⟩
  have inB : (K w.params).In (hidT s.heap H) := fun b o e => hidT_get (inK b o e) (freeK b o e)
  have noL : (hidT s.heap H).NoLimit := by
    obtain ⟨mc, c1, c2⟩ := G.T.nolimit
    exact ⟨mc, names _ _ c1, c2⟩
  have e0 : Env0 l.prog w (K w.params) mg (hidT s.heap H) callerA [] s H :=
    { frames := rfl, mod := ⟨inB, names _ _ G.T.g, ⟨mb, names _ _ G.T.b, G.T.builtins⟩, noL⟩, bs := fun b o e => of_hidT e, bsz := Nat.le_of_eq (hidT_size _ _), funs := trivial, frf := fun b hb => absurd (show b ∈ ([] : List Addr) from hb) (by simp), hok := okH, bare := .of_eq gens }
  have run := enter1 (P := l.prog) (v := .ref a) (Q := fun v _ => v = .bl true) Fn S (bd s (.ref a)) room e0 rfl (fun cdv => by
    obtain ⟨t, t1, t2⟩ := body (hidT s.heap H) s H cdv a ns inB (names _ _ G.T.g) len seq
    refine ⟨t, t1, ?_⟩
    have no : (fun (_ : L2.St) (_ : Hp) => (V.non = V.bl true)) = fun _ _ => False := by
      funext _ _
      exact propext ⟨fun z => V.noConfusion z, False.elim⟩
    show t { nx := fun (_ : L2.St) (_ : Hp) => V.non = V.bl true, rt := fun v _ => v = .bl true } (start N [.ref a]) H
    rw [no]
    exact t2)
  refine codeAny_mono run (fun r s2 done => ?_)
  match r, done with
  | .error _, bad => exact bad.elim
  | .ok .next, bad => exact bad.elim
  | .ok .brk, bad => exact bad.elim
  | .ok .cont, bad => exact bad.elim
  | .ok (.ret _), ⟨_, H2, os, bare, un, ok2, rr, isT⟩ =>
    subst isT
    cases (show _ = Value.bool true from rr)
    refine ⟨rfl, OldK.of_keep (fun b o e => ?_), os, bare⟩
    cases tr : H b with
    | none => exact un.keep b o e tr (fun z => absurd (show b ∈ ([] : List Addr) from z) (by simp)) (by simp)
    | some u =>
      obtain ⟨hb, _, hu⟩ := scriptHp_some tr
      subst hb hu
      have still := un.frzs _ _ _ tr
      rw [isL] at e
      cases e
      exact (ok2 _ _ still).1
end Dw
end
section
/-! what a reading evaluates to: more words over Evl; tuples of natural numbers; defs by their names -/
namespace Dw
open PySem PySem.Spec PyProof.Rows L2 Evl
/-! ### defs by their names -/
/-- a def of the text behind the top, all of its parameters without defaults -/
structure Df (K : PySem.W.Frag) (mg : Str → Option Value) (x : Str) (st : Stmt) (ps : List Str) : Prop where
  ex : ∃ (f : Addr) (fd : FuncData), Fun K x x st f fd ∧ mg x = some (.ref f) ∧ Binds K fd ps []
/-- a def that keeps a promise -/
structure Cl (P : Program) (w : World) (K : PySem.W.Frag) (mg : Str → Option Value) (base : Heap) (k : Nat) (x : Str) (sp : Sp) : Prop where
  ex : ∃ (f : Addr) (fd : FuncData) (ps : List Str), FnOk P w K mg base CX0 k f fd ps sp ∧ mg x = some (.ref f) ∧ PySem.W.keepIn K (.ref f) = true ∧ Binds K fd ps []
theorem cl_of {P : Program} {w : World} {K : PySem.W.Frag} {mg : Str → Option Value} {base : Heap} {x : Str} {st : Stmt} {N ps : List Str} {k : Nat} {sp : Sp} (D : Df K mg x st ps) (S : FnScope N ps (defScope st)) (len : ∀ vs H Q E, sp vs H Q E → vs.length = ps.length)
    (body : ∀ (f : Addr) (cdv : Value) (A : Around) (outer : List Env) (s : Shared) (H : Hp) (vs : List V) (Q : VK) (E : XK), Room k (A.deeper (envOfC x (defScope st) s.heap.objs.size f cdv)) → sp vs H Q E →
      ∃ t, PSs (cxOf CX0 P w K mg base N x (defScope st) f cdv A outer s H E).nox (defBody st) t ∧ t { nx := fun _ H' => Q .non H', rt := Q } (start N vs) H) : Cl P w K mg base (k + 1) x sp := by
  obtain ⟨f, fd, F, m, b⟩ := D.ex
  exact ⟨f, fd, ps, F.ok S len (fun cdv A outer s H vs Q E hr h => body f cdv A outer s H vs Q E hr h), m, F.kp, b⟩
theorem pe_cl {X : Cx} {k j : Nat} {x : Str} {sp : Sp} {p pos : Pos} {e : Expr} {es : List Expr} {t : TA} (c : Cl X.prog X.w X.K X.mg X.base k x sp) (hr : Room j X.A) (hk : k ≤ j) (hg : Gl X x) (ha : PA X (e :: es) t)
    (dbg : (x == ("__debug__" : Str)) = false := by decide) (str : starEach (e :: es) X.env = (false, eval e X.env) :: starEach es X.env := by rfl) (bck : (backTo pos (starEach es X.env)).any (·.1) = false := by rfl) :
    PE X (.Call (.Name x p) (e :: es) [] pos) (tCall sp [] E0 t) := by
  obtain ⟨f, fd, ps, F, m, kp, b⟩ := c.ex
  exact pe_call F (hr.mono hk) hg m kp b .nil pass0 ha dbg str bck
/-- a pure promise: of some a what must hold, and what comes back, all that stood left as it was -/
def spX {α : Type} (pre : α → List V → Hp → Prop) (post : α → V → Hp → Prop) : Sp := fun vs H Q _ => ∃ a, pre a vs H ∧ ∀ v H', Ex H H' → post a v H' → Q v H'
/-! ### values of any kind, by what holds of them -/
def EvP (te : TE) (σ : L2.St) (H : Hp) (P : V → Hp → Prop) : Prop := ∀ H1, Ex H H1 → ∀ Q : VK, (∀ v H2, Ex H1 H2 → P v H2 → Q v H2) → te σ H1 Q
section
variable {K : PySem.W.Frag} {σ : L2.St} {H H' : Hp} {ta tb te : TE} {x y z v : V} {P : V → Hp → Prop}
theorem EvP.mono (e : Ex H H') (h : EvP te σ H P) : EvP te σ H' P := fun H1 a Q q => h H1 (e.trans a) Q q
theorem EvP.imp {P' : V → Hp → Prop} (h : EvP te σ H P) (i : ∀ v H', Ex H H' → P v H' → P' v H') : EvP te σ H P' := fun H1 e Q q => h H1 e Q fun v H2 e2 p => q v H2 e2 (i v H2 (e.trans e2) p)
theorem ep_ev (h : Ev te σ H v) (p : ∀ H', Ex H H' → P v H') : EvP te σ H P := fun H1 e Q q => h H1 e Q fun H2 e2 => q v H2 e2 (p H2 (e.trans e2))
theorem ev_ep (h : EvP te σ H fun u _ => u = v) : Ev te σ H v := fun H1 e Q q => h H1 e Q fun u H2 e2 p => by subst p; exact q H2 e2
/-- a call by a pure promise -/
theorem ep_call {α : Type} {pre : α → List V → Hp → Prop} {post : α → V → Hp → Prop} (a : α) {vs : List V} {E : XK} {ta : TA} (h : EvA ta σ H vs) (hp : ∀ H1, Ex H H1 → pre a vs H1) : EvP (tCall (spX pre post) [] E ta) σ H (post a) := fun H1 e Q q =>
  h H1 e _ fun H2 e2 => by
    rw [List.append_nil]
    exact ⟨a, hp H2 (e.trans e2), fun v H3 e3 p => q v H3 (e2.trans e3) p⟩
theorem ev_callV {α : Type} {pre : α → List V → Hp → Prop} {post : α → V → Hp → Prop} (a : α) {vs : List V} {E : XK} {ta : TA} (h : EvA ta σ H vs) (hp : ∀ H1, Ex H H1 → pre a vs H1) (hv : ∀ u H', post a u H' → u = v) : Ev (tCall (spX pre post) [] E ta) σ H v :=
  ev_ep ((ep_call a h hp).imp fun u H' _ p => hv u H' p)
/-! isinstance -/
theorem ev_isi {c : V} {t u : Value} {b : Bool} (ha : Ev ta σ H x) (hc : Ev tb σ H c) (k : ClsV c u) (ty : ∀ H1, Ex H H1 → TyX K H1 x t) (e : PySem.W.kitOne K t u = some b) : Ev (tCB (rIsi K) (tCons ta (tCons tb tNil))) σ H (.bl b) := fun H1 e1 Q q =>
  ha H1 e1 _ fun H2 e2 => hc H2 (e1.trans e2) _ fun H3 e3 => ⟨x, c, t, u, b, rfl, k, ty H3 ((e1.trans e2).trans e3), e, q H3 (e2.trans e3)⟩
theorem tyx_int (i : Int) : TyX K H (.int i) (.type "int") := .base (.int i)
theorem tyx_str (s : Str) : TyX K H (.str s) (.type "str") := .base (.str s)
theorem tyx_bl (b : Bool) : TyX K H (.bl b) (.type "bool") := .base (.bl b)
theorem tyx_non : TyX K H .non (.type "NoneType") := .base .non
theorem tyx_tup {a : Addr} {xs : List V} (h : SqT K H a xs) : TyX K H (.ref a) (.type "tuple") := by
  rcases h with (h | ⟨o, h⟩) | ⟨o, its, n, lk, c, _⟩
  · exact .base (.tup h)
  · exact .fTuple h
  · exact .kTuple lk c
theorem kit_tt : PySem.W.kitOne K (.type "tuple") (.type "tuple") = some true := kit_ty (by decide +kernel)
theorem kit_ii : PySem.W.kitOne K (.type "int") (.type "int") = some true := kit_ty (by decide +kernel)
theorem kit_ib : PySem.W.kitOne K (.type "int") (.type "bool") = some false := kit_ty (by decide +kernel)
theorem kit_ss : PySem.W.kitOne K (.type "str") (.type "str") = some true := kit_ty (by decide +kernel)
/-! len -/
theorem ev_lenT {p : Addr} {xs : List V} (ha : Ev ta σ H (.ref p)) (h : SqT K H p xs) : Ev (tCB (rLenS K) (tCons ta tNil)) σ H (.int (xs.length : Int)) := fun H1 e Q q =>
  ha H1 e _ fun H2 e2 => ⟨p, xs, rfl, Or.inr (ex_t (e.trans e2) h), q H2 e2⟩
def rLenTx : List V → Hp → VK → Prop := fun xs H Q => ∃ z, xs = [.str z] ∧ z.length ≤ sizeLine ∧ Q (.int z.length) H
theorem ev_lenS {z : Str} (ha : Ev ta σ H (.str z)) (h : z.length ≤ 100000) : Ev (tCB rLenTx (tCons ta tNil)) σ H (.int (z.length : Int)) := fun H1 e Q q =>
  ha H1 e _ fun H2 e2 => ⟨z, rfl, sz_of h, q H2 e2⟩
/-- a < b < c and the like -/
theorem ev_chain {r r' : R2} {tc : TE} {x y z : V} {a b : Bool} (ha : Ev ta σ H x) (hb : Ev tb σ H y) (hc : a = true → Ev tc σ H z) (h1 : RV r x y H (.bl a)) (h2 : a = true → RV r' y z H (.bl b)) : Ev (tChain r r' ta tb tc) σ H (.bl (a && b)) := fun H1 e Q q =>
  ha H1 e _ fun H2 e2 => hb H2 (e.trans e2) _ fun H3 e3 => h1 H3 ((e.trans e2).trans e3) _ fun H4 e4 => ⟨a, rfl, by
    have e14 := (e2.trans e3).trans e4
    cases a with
    | true =>
      show tc σ H4 _
      refine hc rfl H4 (e.trans e14) _ fun H5 e5 => ?_
      exact h2 rfl H5 ((e.trans e14).trans e5) Q fun H6 e6 => q H6 ((e14.trans e5).trans e6)
    | false =>
      show Q (.bl false) H4
      exact q H4 e14⟩
theorem et_val {b : Bool} (h : Ev te σ H (.bl b)) : EvT (tB te) σ H b := et_B h
theorem et_isN {x : V} (h : Ev ta σ H x) : EvT (tTest (tOp (fun x y H Q => y = .non ∧ Q (.bl (!decide (x = .non))) H) ta (tC .non))) σ H (!decide (x = .non)) := fun H1 e Q q =>
  h H1 e _ fun H2 e2 => ⟨rfl, _, rfl, q H2 e2⟩
end
/-! ### tuples of natural numbers -/
abbrev vi (k : Nat) : V := .int (k : Int)
theorem atI_vi {xs : List V} {k : Nat} {v : V} (h : xs[k]? = some v) : atI xs (k : Int) = some v := atI_nat h
/-- all tuples that stood stand (lists may have changed) -/
def ET (K : PySem.W.Frag) (H H' : Hp) : Prop := ∀ a xs, SqT K H a xs → SqT K H' a xs
theorem ET.refl {K : PySem.W.Frag} {H : Hp} : ET K H H := fun _ _ h => h
theorem ET.trans {K : PySem.W.Frag} {H H1 H2 : Hp} (a : ET K H H1) (b : ET K H1 H2) : ET K H H2 := fun p xs h => b p xs (a p xs h)
theorem Ex.et {K : PySem.W.Frag} {H H' : Hp} (e : Evl.Ex H H') : ET K H H' := fun _ _ h => ex_t e h
theorem ET.upd {K : PySem.W.Frag} {H H' : Hp} {l : Addr} {xs ys : List V} (e : ET K H H') (h : H' l = some (.lst xs)) : ET K H (upd H' l (.lst ys)) := fun a zs q => by
  rcases e a zs q with (q | ⟨o, q⟩) | q
  · have ne : a ≠ l := fun z => by rw [z, h] at q; cases q
    exact .inl (.inl (by rw [upd_ne ne]; exact q))
  · have ne : a ≠ l := fun z => by rw [z, h] at q; cases q
    exact .inl (.inr ⟨o, by rw [upd_ne ne]; exact q⟩)
  · exact .inr q
def Nats (K : PySem.W.Frag) (H : Hp) (v : V) (ns : List Nat) : Prop := ∃ a, v = .ref a ∧ SqT K H a (ns.map vi)
theorem Nats.et {K : PySem.W.Frag} {H H' : Hp} {v : V} {ns : List Nat} (e : ET K H H') (h : Nats K H v ns) : Nats K H' v ns := let ⟨a, q, s⟩ := h; ⟨a, q, e _ _ s⟩
theorem Nats.ex {K : PySem.W.Frag} {H H' : Hp} {v : V} {ns : List Nat} (e : Evl.Ex H H') (h : Nats K H v ns) : Nats K H' v ns := h.et (Dw.Ex.et e)
theorem paired_imp {α β : Type} {R S : α → β → Prop} (h : ∀ a b, R a b → S a b) : ∀ {xs : List α} {ys : List β}, Paired R xs ys → Paired S xs ys
  | _, _, .nil => .nil
  | _, _, .cons a b => .cons (h _ _ a) (paired_imp h b)
theorem paired_get {α β : Type} {R : α → β → Prop} : ∀ {xs : List α} {ys : List β} {i : Nat} {y : β}, Paired R xs ys → ys[i]? = some y → ∃ x, xs[i]? = some x ∧ R x y
  | _, _, _, _, .nil, h => by simp at h
  | _, _, 0, _, .cons a _, h => by
    have e := Option.some.inj h
    subst e
    exact ⟨_, rfl, a⟩
  | _, _, i + 1, y, .cons _ b, h => by
    obtain ⟨x, e, r⟩ := paired_get (i := i) b h
    exact ⟨x, e, r⟩
theorem paired_len {α β : Type} {R : α → β → Prop} : ∀ {xs : List α} {ys : List β}, Paired R xs ys → xs.length = ys.length
  | _, _, .nil => rfl
  | _, _, .cons _ b => congrArg (· + 1) (paired_len b)
theorem paired_snoc {α β : Type} {R : α → β → Prop} {x : α} {y : β} (r : R x y) : ∀ {xs : List α} {ys : List β}, Paired R xs ys → Paired R (xs ++ [x]) (ys ++ [y])
  | _, _, .nil => .cons r .nil
  | _, _, .cons a b => .cons a (paired_snoc r b)
/-- a tuple of tuples of natural numbers -/
def Tabs (K : PySem.W.Frag) (H : Hp) (v : V) (ts : List (List Nat)) : Prop := ∃ a vs, v = .ref a ∧ SqT K H a vs ∧ Paired (Nats K H) vs ts
theorem Tabs.et {K : PySem.W.Frag} {H H' : Hp} {v : V} {ts : List (List Nat)} (e : ET K H H') (h : Tabs K H v ts) : Tabs K H' v ts := let ⟨a, vs, q, s, p⟩ := h; ⟨a, vs, q, e _ _ s, paired_imp (fun _ _ n => n.et e) p⟩
theorem Tabs.ex {K : PySem.W.Frag} {H H' : Hp} {v : V} {ts : List (List Nat)} (e : Evl.Ex H H') (h : Tabs K H v ts) : Tabs K H' v ts := h.et (Dw.Ex.et e)
/-- a deed; a signature -/
def Deed (K : PySem.W.Frag) (H : Hp) (v : V) (p : Str × Nat) : Prop := ∃ b, v = .ref b ∧ SqT K H b [.str p.1, vi p.2]
theorem Deed.et {K : PySem.W.Frag} {H H' : Hp} {v : V} {p : Str × Nat} (e : ET K H H') (h : Deed K H v p) : Deed K H' v p := let ⟨b, q, s⟩ := h; ⟨b, q, e _ _ s⟩
def Sig (K : PySem.W.Frag) (H : Hp) (v : V) (sg : List (Str × Nat)) : Prop := ∃ a vs, v = .ref a ∧ SqT K H a vs ∧ Paired (Deed K H) vs sg
theorem Sig.et {K : PySem.W.Frag} {H H' : Hp} {v : V} {sg : List (Str × Nat)} (e : ET K H H') (h : Sig K H v sg) : Sig K H' v sg := let ⟨a, vs, q, s, p⟩ := h; ⟨a, vs, q, e _ _ s, paired_imp (fun _ _ n => n.et e) p⟩
theorem Sig.ex {K : PySem.W.Frag} {H H' : Hp} {v : V} {sg : List (Str × Nat)} (e : Evl.Ex H H') (h : Sig K H v sg) : Sig K H' v sg := h.et (Dw.Ex.et e)
/-- a model: its size and its tables -/
def Mdl (K : PySem.W.Frag) (H : Hp) (v : V) (n : Nat) (ts : List (List Nat)) : Prop := ∃ a u, v = .ref a ∧ SqT K H a [vi n, u] ∧ Tabs K H u ts
theorem Mdl.et {K : PySem.W.Frag} {H H' : Hp} {v : V} {n : Nat} {ts : List (List Nat)} (e : ET K H H') (h : Mdl K H v n ts) : Mdl K H' v n ts := let ⟨a, u, q, s, p⟩ := h; ⟨a, u, q, e _ _ s, p.et e⟩
theorem Mdl.ex {K : PySem.W.Frag} {H H' : Hp} {v : V} {n : Nat} {ts : List (List Nat)} (e : Evl.Ex H H') (h : Mdl K H v n ts) : Mdl K H' v n ts := h.et (Dw.Ex.et e)
end Dw
end
section
/-! a def that the module holds under another name too -/
namespace Dw
open PySem PySem.Spec PyProof.Rows L2 Evl
structure DfQ (K : PySem.W.Frag) (mg : Str → Option Value) (x y : Str) (st : Stmt) (ps : List Str) : Prop where
  ex : ∃ (f : Addr) (fd : FuncData), Fun K y y st f fd ∧ mg x = some (.ref f) ∧ Binds K fd ps []
theorem cl_ofQ {P : Program} {w : World} {K : PySem.W.Frag} {mg : Str → Option Value} {base : Heap} {x y : Str} {st : Stmt} {N ps : List Str} {k : Nat} {sp : Sp} (D : DfQ K mg x y st ps) (S : FnScope N ps (defScope st)) (len : ∀ vs H Q E, sp vs H Q E → vs.length = ps.length)
    (body : ∀ (f : Addr) (cdv : Value) (A : Around) (outer : List Env) (s : Shared) (H : Hp) (vs : List V) (Q : VK) (E : XK), Room k (A.deeper (envOfC y (defScope st) s.heap.objs.size f cdv)) → sp vs H Q E →
      ∃ t, PSs (cxOf CX0 P w K mg base N y (defScope st) f cdv A outer s H E).nox (defBody st) t ∧ t { nx := fun _ H' => Q .non H', rt := Q } (start N vs) H) : Cl P w K mg base (k + 1) x sp := by
  obtain ⟨f, fd, F, m, b⟩ := D.ex
  exact ⟨f, fd, ps, F.ok S len (fun cdv A outer s H vs Q E hr h => body f cdv A outer s H vs Q E hr h), m, F.kp, b⟩
end Dw
end
section
/-! the mathematics of renaming, over plain lists of natural numbers -/
namespace M20
/-- the k-th, 0 where there is none -/
abbrev g (l : List Nat) (k : Nat) : Nat := l.getD k 0
theorem g_eq {l : List Nat} {k : Nat} (h : k < l.length) : l[k]? = some (g l k) := by
  show l[k]? = some (l.getD k 0)
  rw [List.getD_eq_getElem?_getD, List.getElem?_eq_getElem h]
  rfl
theorem ext {l m : List Nat} (h : l.length = m.length) (e : ∀ k, k < l.length → g l k = g m k) : l = m := by
  apply List.ext_getElem? 
  intro k
  by_cases hk : k < l.length
  · rw [g_eq hk, g_eq (h ▸ hk), e k hk]
  · rw [List.getElem?_eq_none_iff.mpr (by omega), List.getElem?_eq_none_iff.mpr (by omega)]
theorem g_map {f : Nat → Nat} {n k : Nat} (h : k < n) : g ((List.range n).map f) k = f k := by
  show ((List.range n).map f).getD k 0 = f k
  rw [List.getD_eq_getElem?_getD, List.getElem?_map, List.getElem?_range h]
  rfl
/-- an order of the size n -/
structure Ord (n : Nat) (o : List Nat) : Prop where
  len : o.length = n
  low : ∀ k, k < n → g o k < n
  inj : ∀ j k, j < n → k < n → g o j = g o k → j = k
/-- what is called k -/
def bk (o : List Nat) : List Nat := (List.range o.length).map fun k => o.idxOf k
theorem bk_len (o : List Nat) : (bk o).length = o.length := by simp [bk]
theorem idx_of {n : Nat} {o : List Nat} (h : Ord n o) {k : Nat} (hk : k < n) : o.idxOf (g o k) = k := by
  have h1 : k < o.length := by rw [h.len]; exact hk
  have hm : g o k ∈ o := List.mem_iff_getElem?.mpr ⟨k, g_eq h1⟩
  have h2 : o.idxOf (g o k) < o.length := List.idxOf_lt_length_of_mem hm
  have h3 : o[o.idxOf (g o k)]? = some (g o k) := by
    rw [List.getElem?_eq_getElem h2, List.getElem_idxOf h2]
  rw [g_eq h2] at h3
  exact h.inj _ _ (by rw [← h.len]; exact h2) hk (Option.some.inj h3)
theorem len_le : ∀ (l m : List Nat), l.Nodup → (∀ x ∈ l, x ∈ m) → l.length ≤ m.length
  | [], _, _, _ => Nat.zero_le _
  | x :: l, m, nd, sub => by
    have hx : x ∈ m := sub x List.mem_cons_self
    have h1 := List.nodup_cons.mp nd
    have h2 := len_le l (m.erase x) h1.2 (fun y hy => (List.mem_erase_of_ne (show y ≠ x from fun e => h1.1 (by rw [← e]; exact hy))).mpr (sub y (List.mem_cons_of_mem _ hy)))
    rw [List.length_erase_of_mem hx] at h2
    have : 0 < m.length := List.length_pos_of_mem hx
    rw [List.length_cons]
    omega
/-- an injective map of the numbers below n hits them all -/
theorem hits : ∀ (n : Nat) (o : List Nat), Ord n o → ∀ k, k < n → k ∈ o := by
  intro n o h k hk
  have nd : o.Nodup := by
    rw [List.nodup_iff_pairwise_ne, List.pairwise_iff_getElem]
    intro i j hi hj hij e
    have hi' : i < n := by rw [← h.len]; exact hi
    have hj' : j < n := by rw [← h.len]; exact hj
    have e1 : g o i = g o j := by
      have a := g_eq hi
      have b := g_eq hj
      rw [List.getElem?_eq_getElem hi] at a
      rw [List.getElem?_eq_getElem hj] at b
      exact (Option.some.inj a).symm.trans (e.trans (Option.some.inj b))
    have := h.inj i j hi' hj' e1
    omega
  have low : ∀ x ∈ o, x < n := by
    intro x hx
    obtain ⟨i, hi, e⟩ := List.mem_iff_getElem.mp hx
    have hi' : i < n := by rw [← h.len]; exact hi
    have a := g_eq hi
    rw [List.getElem?_eq_getElem hi] at a
    have : x = g o i := e.symm.trans (Option.some.inj a)
    rw [this]
    exact h.low i hi'
  by_cases hm : k ∈ o
  · exact hm
  · have h1 := len_le (k :: o) (List.range n) (List.nodup_cons.mpr ⟨hm, nd⟩) (fun x hx => List.mem_range.mpr (by
      rcases List.mem_cons.mp hx with e | e
      · rw [e]; exact hk
      · exact low x e))
    rw [List.length_cons, List.length_range, h.len] at h1
    omega
theorem bk_low {n : Nat} {o : List Nat} (h : Ord n o) {k : Nat} (hk : k < n) : g (bk o) k < n := by
  rw [bk, g_map (by rw [h.len]; exact hk), ← h.len]
  exact List.idxOf_lt_length_of_mem (hits n o h k hk)
theorem g_bk {n : Nat} {o : List Nat} (h : Ord n o) {k : Nat} (hk : k < n) : g o (g (bk o) k) = k := by
  rw [bk, g_map (by rw [h.len]; exact hk)]
  have h2 : o.idxOf k < o.length := List.idxOf_lt_length_of_mem (hits n o h k hk)
  have h3 : o[o.idxOf k]? = some k := by rw [List.getElem?_eq_getElem h2, List.getElem_idxOf h2]
  rw [g_eq h2] at h3
  exact Option.some.inj h3
/-- by the one and then by the other -/
def cmp (a b : List Nat) : List Nat := a.map fun k => g b k
/-! a table of a deed of p places over n numbers -/
structure Tab (n p : Nat) (t : List Nat) : Prop where
  len : t.length = n ^ p
  low : ∀ k, k < n ^ p → g t k < n
/-- the place from which the renamed table has its s-th number -/
def src (n p : Nat) (b : List Nat) (s : Nat) : Nat := if p = 0 then 0 else if p = 1 then g b s else g b (s / n) * n + g b (s % n)
def ren (n p : Nat) (o t : List Nat) : List Nat := (List.range (n ^ p)).map fun s => g o (g t (src n p (bk o) s))
theorem mul_lt {n a b : Nat} (ha : a < n) (hb : b < n) : a * n + b < n * n := by
  have : (a + 1) * n ≤ n * n := Nat.mul_le_mul_right n ha
  rw [Nat.add_mul, Nat.one_mul] at this
  omega
/-! the law's own way: each number of the table put at its place -/
def spot (n p : Nat) (o : List Nat) (k : Nat) : Nat := g o (k % n) * (if 0 < p then 1 else 0) + g o (k / n % n) * n * (if p = 2 then 1 else 0)
/-- the first k numbers put -/
def led (n p : Nat) (o t : List Nat) : Nat → List Nat
  | 0 => t
  | k + 1 => (led n p o t k).set (spot n p o k) (g o (g t k))
end M20
end
section
/-! loops and comprehensions over anything that is walked; statements by what holds of a value -/
namespace Dw
open PySem PySem.Spec PyProof.Rows L2 Evl
section
variable {K : PySem.W.Frag} {σ : L2.St} {H H' : Hp} {ta tb te : TE} {t : TT} {x y z v : V} {P : V → Hp → Prop} {D : Ends} {tu tz : TS} {g : TG}
/-! ### statements -/
theorem s_asgP {i : Nat} (h : EvP te σ H P) (k : ∀ v H1, Ex H H1 → P v H1 → D.nx (σ.set i (some v)) H1) : tAsg te (gName i) D σ H := h H (Ex.refl H) _ fun v H1 e p => k v H1 e p
theorem q_asgP {i : Nat} (h : EvP te σ H P) (k : ∀ v H1, Ex H H1 → P v H1 → tz D (σ.set i (some v)) H1) : tSeq (tAsg te (gName i)) tz D σ H := s_asgP (D := { D with nx := tz D }) h k
theorem s_retP (h : EvP te σ H P) (k : ∀ v H1, Ex H H1 → P v H1 → D.rt v H1) : tRet te D σ H := h H (Ex.refl H) _ fun v H1 e p => k v H1 e p
/-- xs.append(e), e by what holds of it -/
theorem s_appP {l : Addr} {xs : List V} (hl : H l = some (.lst xs)) (ha : Ev ta σ H (.ref l)) (h : EvP te σ H P) (hz : xs.length < 100000) (k : ∀ v H1, Ex H H1 → P v H1 → D.nx σ (upd H1 l (.lst (xs ++ [v])))) :
    tDrop (tBM K "list" rAppend ta (tCons te tNil)) D σ H := by
  refine ha H (Ex.refl H) _ fun H1 e1 => ?_
  exact
  ⟨Or.inl ⟨rfl, xs, sq_of (e1 l _ hl)⟩, h H1 e1 _ fun v H2 e2 p => ⟨l, xs, v, rfl, rfl, e2 l _ (e1 l _ hl), sz_lt hz, k v H2 (e1.trans e2) p⟩⟩
/-- arguments, the last of them by what holds of it -/
def EvAP (ta : TA) (σ : L2.St) (H : Hp) (P : List V → Hp → Prop) : Prop := ∀ H1, Ex H H1 → ∀ Q : List V → Hp → Prop, (∀ vs H2, Ex H1 H2 → P vs H2 → Q vs H2) → ta σ H1 Q
theorem eap_ev {ta : TA} {vs : List V} (h : EvA ta σ H vs) {P : List V → Hp → Prop} (p : ∀ H', Ex H H' → P vs H') : EvAP ta σ H P := fun H1 e Q q => h H1 e Q fun H2 e2 => q vs H2 e2 (p H2 (e.trans e2))
theorem eap_cons {tr : TA} {P : V → Hp → Prop} {R : List V → Hp → Prop} (h : EvP te σ H P) (hr : EvAP tr σ H R) (keep : ∀ v H1 H2, Ex H1 H2 → P v H1 → P v H2) : EvAP (tCons te tr) σ H (fun vs H' => ∃ v r, vs = v :: r ∧ P v H' ∧ R r H') := fun H1 e Q q =>
  h H1 e _ fun v H2 e2 p => hr H2 (e.trans e2) _ fun r H3 e3 pr => q (v :: r) H3 (e2.trans e3) ⟨v, r, rfl, keep v H2 H3 e3 p, pr⟩
/-- a call by a pure promise, its arguments by what holds of them -/
theorem ep_callP {α : Type} {pre : α → List V → Hp → Prop} {post : α → V → Hp → Prop} {R : List V → Hp → Prop} (a : α) {E : XK} {ta : TA} (h : EvAP ta σ H R) (hp : ∀ vs H1, Ex H H1 → R vs H1 → pre a vs H1) : EvP (tCall (spX pre post) [] E ta) σ H (post a) := fun H1 e Q q =>
  h H1 e _ fun vs H2 e2 r => by
    rw [List.append_nil]
    exact ⟨a, hp vs H2 (e.trans e2) r, fun v H3 e3 p => q v H3 (e2.trans e3) p⟩
/-! ### all -/
theorem ev_all {bs : List Bool} (h : EvL te σ H (bs.map V.bl)) : Ev (tCB (rAll K) (tCons te tNil)) σ H (.bl (bs.all id)) := fun H1 e Q q =>
  h H1 e _ fun p H2 _ e2 hp => ⟨p, bs, rfl, sq_of hp, q H2 e2⟩
/-! ### comprehensions -/
theorem et_yes : EvT tYes σ H true := fun H1 _ _ q => q H1 (Ex.refl H1)
/-- one for over anything whose turns leave the heap as it was -/
theorem el_lcIt {J : It} {n : Nat} {G : Hp → Prop} {Y : Nat → Hp → V → Hp → Prop} {wi : TI} {Px : Nat → V → Prop} {j : Nat} {vs : List Nat} (w : Walk J n G Y)
    (hw0 : ∀ H0, Ex H H0 → ∀ R : It → Hp → Prop, (∀ H1, Ex H0 H1 → R J H1) → wi σ H0 R) (hG : ∀ H1, Ex H H1 → G H1) (hY : ∀ i H x H', Y i H x H' → H' = H ∧ Px i x)
    (f : Nat → Bool) (u : Nat → V) (hn : n ≤ 40000) (hwp : ∀ x, wipe ((wipe σ vs).set j (some x)) vs = wipe σ vs)
    (ht : ∀ i x H1, Ex H H1 → i < n → Px i x → EvT t ((wipe σ vs).set j (some x)) H1 (f i)) (he : ∀ i x H1, Ex H H1 → i < n → Px i x → f i = true → Ev te ((wipe σ vs).set j (some x)) H1 (u i)) :
    EvL (tLc wi (gName j) t te vs) σ H (given n f u) := fun H0 e Q q => hw0 H0 e _ fun H1 e1 Dl hD =>
  lc_it w (Cw H1 f u Dl) ⟨hD, Ex.new hD, upd_same⟩ (fun i H2 _ p => hG H2 ((e.trans e1).trans p.2.1)) (fun i x H2 H3 hi p y => by
    obtain ⟨rfl, px⟩ := hY i H2 x H3 y
    exact ⟨hwp x, cw_turn p (by omega) (ht i x H1 (e.trans e1) hi px) (fun hf => he i x H1 (e.trans e1) hi px hf)⟩)
    (fun H2 p => q Dl H2 (fresh_back e1 p.1) (e1.trans p.2.1) p.2.2)
theorem given_all (n : Nat) (u : Nat → V) : given n (fun _ => true) u = (List.range n).map u := by
  unfold given
  rw [List.filter_eq_self.mpr (fun _ _ => rfl)]
/-- .. without a test -/
theorem el_lcAll {J : It} {n : Nat} {G : Hp → Prop} {Y : Nat → Hp → V → Hp → Prop} {wi : TI} {Px : Nat → V → Prop} {j : Nat} {vs : List Nat} (w : Walk J n G Y)
    (hw0 : ∀ H0, Ex H H0 → ∀ R : It → Hp → Prop, (∀ H1, Ex H0 H1 → R J H1) → wi σ H0 R) (hG : ∀ H1, Ex H H1 → G H1) (hY : ∀ i H x H', Y i H x H' → H' = H ∧ Px i x)
    (u : Nat → V) (hn : n ≤ 40000) (hwp : ∀ x, wipe ((wipe σ vs).set j (some x)) vs = wipe σ vs) (he : ∀ i x H1, Ex H H1 → i < n → Px i x → Ev te ((wipe σ vs).set j (some x)) H1 (u i)) :
    EvL (tLc wi (gName j) tYes te vs) σ H ((List.range n).map u) := by
  have h := el_lcIt w hw0 hG hY (fun _ => true) u hn hwp (fun _ _ _ _ _ _ => et_yes) (fun i x H1 e hi px _ => he i x H1 e hi px)
  rw [given_all] at h
  exact h
theorem w_str {z : Str} (h : Ev te σ H (.str z)) : ∀ H0, Ex H H0 → ∀ R : It → Hp → Prop, (∀ H1, Ex H0 H1 → R (Its z) H1) → iStr te σ H0 R := fun H0 e R r => h H0 e _ fun H1 e1 => ⟨z, rfl, r H1 e1⟩
theorem w_tup {a : Addr} {xs : List V} (h : Ev te σ H (.ref a)) (hx : SqT K H a xs) : ∀ H0, Ex H H0 → ∀ R : It → Hp → Prop, (∀ H1, Ex H0 H1 → R (Itt K a) H1) → iTup K te σ H0 R := fun H0 e R r => h H0 e _ fun H1 e1 => ⟨a, rfl, ⟨xs, ex_t (e.trans e1) hx⟩, r H1 e1⟩
theorem w_rng {ta : TA} {n : Nat} (h : EvA ta σ H [vi n]) (hn : n ≤ 40000) : ∀ H0, Ex H H0 → ∀ R : It → Hp → Prop, (∀ H1, Ex H0 H1 → R (Itr 0 n) H1) → iRng1 ta σ H0 R := fun H0 e R r => h H0 e _ fun H1 e1 => ⟨n, rfl, by omega, by omega, r H1 e1⟩
/-- over a tuple, a value for each item -/
theorem el_lcT {a : Addr} {xs : List V} {tl : TE} {j : Nat} {vs : List Nat} (h : Ev tl σ H (.ref a)) (hx : SqT K H a xs) (u : Nat → V) (hn : xs.length ≤ 40000) (hwp : ∀ x, wipe ((wipe σ vs).set j (some x)) vs = wipe σ vs)
    (he : ∀ i x H1, Ex H H1 → xs[i]? = some x → Ev te ((wipe σ vs).set j (some x)) H1 (u i)) : EvL (tLc (iTup K tl) (gName j) tYes te vs) σ H ((List.range xs.length).map u) :=
  el_lcAll walk_tup (w_tup h hx) (fun H1 e => ex_t e hx) (Px := fun i x => xs[i]? = some x) (fun i H x H' y => y) u hn hwp (fun i x H1 e _ px => he i x H1 e px)
theorem el_lcS {z : Str} {tl : TE} {j : Nat} {vs : List Nat} (h : Ev tl σ H (.str z)) (u : Nat → V) (hn : z.cps.size ≤ 40000) (hwp : ∀ x, wipe ((wipe σ vs).set j (some x)) vs = wipe σ vs)
    (he : ∀ i c H1, Ex H H1 → z.cps[i]? = some c → Ev te ((wipe σ vs).set j (some (.str ⟨#[c]⟩))) H1 (u i)) : EvL (tLc (iStr tl) (gName j) tYes te vs) σ H ((List.range z.cps.size).map u) :=
  el_lcAll walk_str (w_str h) (fun _ _ => trivial) (Px := fun i x => ∃ c, z.cps[i]? = some c ∧ x = .str ⟨#[c]⟩) (fun i H x H' y => y) u hn hwp (fun i x H1 e _ ⟨c, hc, hx⟩ => by subst hx; exact he i c H1 e hc)
/-! ### loops that give pairs -/
theorem walk_enumT {a : Addr} {xs : List V} : Walk (IteT K a) xs.length (fun H => SqT K H a xs) (YPair (fun i => some (vi i)) (fun i => xs[i]?)) := by
  refine ⟨fun i H hi q => ⟨xs, xs[i], q, List.getElem?_eq_getElem hi⟩, fun H q => ⟨xs, q, Nat.le_refl _⟩, fun i H v H' _ q y => ?_⟩
  obtain ⟨T, x, h1, h2, h3, h4⟩ := y
  exact ⟨T, vi i, x, h1, h2, h3, rfl, h4 xs q⟩
theorem q_enumT {a : Addr} {xs : List V} {ta : TA} {j1 j2 : Nat} (h : EvA ta σ H [.ref a]) (hx : SqT K H a xs) (Pv : Nat → L2.St → Hp → Prop) (h0 : ∀ H1, Ex H H1 → Pv 0 σ H1) (hl : ∀ i σ' H', i ≤ xs.length → Pv i σ' H' → SqT K H' a xs)
    (hs : ∀ i x σ' H' H'', xs[i]? = some x → Pv i σ' H' → Ex H' H'' → tu { D with nx := Pv (i + 1), ct := Pv (i + 1), bk := tz D } ((σ'.set j1 (some (vi i))).set j2 (some x)) H'') (hd : ∀ σ' H', Pv xs.length σ' H' → tz D σ' H') :
    tSeq (tFor (iEnumT K ta) (gTup K 2 (gCons (gName j1) (gCons (gName j2) gNil))) tu) tz D σ H :=
  h H (Ex.refl H) _ fun H1 e => ⟨a, xs, rfl, ex_t e hx, for_it (D := { D with nx := tz D }) walk_enumT Pv (h0 H1 e) hl (fun i v σ' H2 H3 hi p y => by
    obtain ⟨T, x1, x2, rfl, nT, rfl, e1, e2⟩ := y
    cases e1
    exact ⟨T, _, rfl, st_of upd_same, rfl, _, _, rfl, _, _, rfl, rfl, hs i x2 σ' H2 _ e2 p (Ex.new nT)⟩) hd⟩
theorem s_enumT {a : Addr} {xs : List V} {ta : TA} {j1 j2 : Nat} (h : EvA ta σ H [.ref a]) (hx : SqT K H a xs) (Pv : Nat → L2.St → Hp → Prop) (h0 : ∀ H1, Ex H H1 → Pv 0 σ H1) (hl : ∀ i σ' H', i ≤ xs.length → Pv i σ' H' → SqT K H' a xs)
    (hs : ∀ i x σ' H' H'', xs[i]? = some x → Pv i σ' H' → Ex H' H'' → tu { D with nx := Pv (i + 1), ct := Pv (i + 1), bk := D.nx } ((σ'.set j1 (some (vi i))).set j2 (some x)) H'') (hd : ∀ σ' H', Pv xs.length σ' H' → D.nx σ' H') :
    tFor (iEnumT K ta) (gTup K 2 (gCons (gName j1) (gCons (gName j2) gNil))) tu D σ H :=
  h H (Ex.refl H) _ fun H1 e => ⟨a, xs, rfl, ex_t e hx, for_it walk_enumT Pv (h0 H1 e) hl (fun i v σ' H2 H3 hi p y => by
    obtain ⟨T, x1, x2, rfl, nT, rfl, e1, e2⟩ := y
    cases e1
    exact ⟨T, _, rfl, st_of upd_same, rfl, _, _, rfl, _, _, rfl, rfl, hs i x2 σ' H2 _ e2 p (Ex.new nT)⟩) hd⟩
/-- enumerate of a list -/
theorem q_enumL {a : Addr} {xs : List V} {ta : TA} {j1 j2 : Nat} (h : EvA ta σ H [.ref a]) (hx : SqL K H a xs) (Pv : Nat → L2.St → Hp → Prop) (h0 : ∀ H1, Ex H H1 → Pv 0 σ H1) (hl : ∀ i σ' H', i ≤ xs.length → Pv i σ' H' → SqL K H' a xs)
    (hs : ∀ i x σ' H' H'', xs[i]? = some x → Pv i σ' H' → Ex H' H'' → tu { D with nx := Pv (i + 1), ct := Pv (i + 1), bk := tz D } ((σ'.set j1 (some (vi i))).set j2 (some x)) H'') (hd : ∀ σ' H', Pv xs.length σ' H' → tz D σ' H') :
    tSeq (tFor (iEnum K ta) (gTup K 2 (gCons (gName j1) (gCons (gName j2) gNil))) tu) tz D σ H :=
  h H (Ex.refl H) _ fun H1 e => ⟨a, xs, rfl, ex_l e hx, for_it (D := { D with nx := tz D }) walk_enum Pv (h0 H1 e) hl (fun i v σ' H2 H3 hi p y => by
    obtain ⟨T, x1, x2, rfl, nT, rfl, e1, e2⟩ := y
    cases e1
    exact ⟨T, _, rfl, st_of upd_same, rfl, _, _, rfl, _, _, rfl, rfl, hs i x2 σ' H2 _ e2 p (Ex.new nT)⟩) hd⟩
end
end Dw
end
section
/-! comprehensions of two fors; new tuples of lists; lists made and changed -/
namespace Dw
open PySem PySem.Spec PyProof.Rows L2 Evl
section
variable {K : PySem.W.Frag} {σ : L2.St} {H H' : Hp} {ta tb te : TE} {t : TT} {x y z v : V} {P : V → Hp → Prop} {D : Ends} {tu tz : TS} {g : TG}
theorem el_lc2T {a b : Addr} {xs ys : List V} {tl tl1 : TE} {j j1 : Nat} {vs vs1 : List Nat} (h : Ev tl σ H (.ref a)) (hx : SqT K H a xs) (h1 : ∀ x H1, Ex H H1 → Ev tl1 ((wipe σ vs).set j (some x)) H1 (.ref b)) (hy : SqT K H b ys) (u : Nat → Nat → V)
    (hn : xs.length ≤ 100) (hm : ys.length ≤ 100) (hw : ∀ x, wipe ((wipe σ vs).set j (some x)) vs = wipe σ vs) (hw1 : ∀ x y, wipe ((wipe ((wipe σ vs).set j (some x)) vs1).set j1 (some y)) vs1 = wipe ((wipe σ vs).set j (some x)) vs1)
    (he : ∀ i x k y H1, Ex H H1 → xs[i]? = some x → ys[k]? = some y → Ev te ((wipe ((wipe σ vs).set j (some x)) vs1).set j1 (some y)) H1 (u i k)) :
    EvL (tLc2 (iTup K tl) (gName j) tYes (iTup K tl1) (gName j1) tYes te vs vs1) σ H ((List.range xs.length).flatMap fun i => (List.range ys.length).map (u i)) := by
  intro H0 e Q q
  refine w_tup h hx H0 e _ fun H1 e1 Dl nD => ?_
  have e01 : Ex H H1 := e.trans e1
  let outer : Nat → List V := fun i => (List.range i).flatMap fun i => (List.range ys.length).map (u i)
  have lenO : ∀ i, (outer i).length = i * ys.length := by
    intro i
    induction i with
    | zero => show (0 : Nat) = 0 * ys.length; rw [Nat.zero_mul]
    | succ i ih =>
      show ((List.range (i + 1)).flatMap _).length = _
      rw [List.range_succ, List.flatMap_append, List.length_append]
      have e3 : ((List.range i).flatMap fun i => (List.range ys.length).map (u i)).length = i * ys.length := ih
      rw [e3, List.flatMap_singleton, List.length_map, List.length_range, Nat.add_mul, Nat.one_mul]
  refine ⟨fun i m H' => m = xs.length - i ∧ i ≤ xs.length ∧ Ex H1 H' ∧ H' Dl = some (.lst (outer i)), ⟨_, rfl, Nat.zero_le _, Ex.new nD, upd_same⟩, ?_⟩
  rintro i m H2 ⟨rfl, hi, e2, hD⟩
  by_cases hlt : i < xs.length
  · refine .inr ⟨⟨xs, xs[i], ex_t (e01.trans e2) hx, List.getElem?_eq_getElem hlt⟩, fun H' => Ex H1 H' ∧ H' Dl = some (.lst (outer (i + 1))), fun H' ⟨p1, p2⟩ => ⟨_, by omega, rfl, hlt, p1, p2⟩, fun x H3 yl => ?_⟩
    obtain ⟨rfl, hxi⟩ := yl
    have hxi' := hxi xs (ex_t (e01.trans e2) hx)
    refine ⟨hw x, et_yes H3 (Ex.refl _) _ fun H4 e4 => ?_⟩
    refine iteT ?_
    have e14 : Ex H1 H4 := e2.trans e4
    refine w_tup (h1 x H4 (e01.trans e14)) (ex_t (e01.trans e14) hy) H4 (Ex.refl _) _ fun H5 e5 => ?_
    have e15 : Ex H1 H5 := e14.trans e5
    have hD5 : H5 Dl = some (.lst (outer i)) := e5 _ _ (e4 _ _ hD)
    refine ⟨fun k m H' => m = ys.length - k ∧ k ≤ ys.length ∧ Ex H1 H' ∧ H' Dl = some (.lst (outer i ++ (List.range k).map (u i))), ⟨_, rfl, Nat.zero_le _, e15, by rw [hD5]; show _ = some (HO.lst (outer i ++ [])); rw [List.append_nil]⟩, ?_⟩
    rintro k m H6 ⟨rfl, hk, e6, hD6⟩
    by_cases klt : k < ys.length
    · refine .inr ⟨⟨ys, ys[k], ex_t (e01.trans e6) hy, List.getElem?_eq_getElem klt⟩, fun H' => Ex H1 H' ∧ H' Dl = some (.lst (outer i ++ (List.range (k + 1)).map (u i))), fun H' ⟨p1, p2⟩ => ⟨_, by omega, rfl, klt, p1, p2⟩, fun y H7 yl => ?_⟩
      obtain ⟨rfl, hyk⟩ := yl
      have hyk' := hyk ys (ex_t (e01.trans e6) hy)
      refine ⟨hw1 x y, et_yes H7 (Ex.refl _) _ fun H8 e8 => ?_⟩
      refine iteT ?_
      have e18 : Ex H1 H8 := e6.trans e8
      refine he i x k y H8 (e01.trans e18) hxi' hyk' H8 (Ex.refl _) _ fun H9 e9 => ⟨_, e9 _ _ (e8 _ _ hD6), ?_, (e18.trans e9).mut nD, ?_⟩
      · rw [List.length_append, lenO, List.length_map, List.length_range]
        have b1 : i * ys.length ≤ 100 * 100 := Nat.mul_le_mul (by omega) hm
        exact sz_lt (by omega)
      · rw [upd_same, List.range_succ, List.map_append, List.append_assoc]
        rfl
    · have ek : k = ys.length := by omega
      subst ek
      refine .inl ⟨⟨ys, ex_t (e01.trans e6) hy, Nat.le_refl _⟩, e6, ?_⟩
      rw [hD6]
      show _ = some (HO.lst ((List.range (i + 1)).flatMap fun i => (List.range ys.length).map (u i)))
      rw [List.range_succ, List.flatMap_append, List.flatMap_singleton]
  · have ei : i = xs.length := by omega
    subst ei
    exact .inl ⟨⟨xs, ex_t (e01.trans e2) hx, Nat.le_refl _⟩, q Dl H2 (fresh_back e1 nD) (e1.trans e2) hD⟩
/-- tuple(a new list) -/
def rTupOf (K : PySem.W.Frag) : List V → Hp → VK → Prop := fun xs H Q => ∃ p ys, xs = [.ref p] ∧ ((SqL K H p ys ∧ ∀ l, H l = none → Q (.ref l) (upd H l (.tup ys))) ∨ (SqT K H p ys ∧ Q (.ref p) H))
theorem eu_tupN {xs : List V} (h : EvL te σ H xs) : EvU (tCB (rTupOf K) (tCons te tNil)) σ H xs := fun H1 e Q q =>
  h H1 e _ fun p H2 _ e2 hp => ⟨p, xs, rfl, .inl ⟨sq_of hp, fun l nl => q l _ (fresh_back e2 nl) (e2.trans (Ex.new nl)) upd_same⟩⟩
/-- tuple(a list that stands) -/
theorem eu_tupL {xs : List V} {p : Addr} (h : Ev te σ H (.ref p)) (hp : SqL K H p xs) : EvU (tCB (rTupOf K) (tCons te tNil)) σ H xs := fun H1 e Q q =>
  h H1 e _ fun H2 e2 => ⟨p, xs, rfl, .inl ⟨ex_l (e.trans e2) hp, fun l nl => q l _ (fresh_back e2 nl) (e2.trans (Ex.new nl)) upd_same⟩⟩
theorem ep_nats {xs : List V} {ns : List Nat} (h : EvU te σ H xs) (e : xs = ns.map vi) : EvP te σ H (fun v H' => Nats K H' v ns) := fun H1 e1 Q q =>
  h H1 e1 Q fun p H2 _ e2 hp => q (.ref p) H2 e2 ⟨p, rfl, by rw [← e]; exact st_of hp⟩
/-- [x] * n -/
theorem el_rep {xs : List V} {n : Nat} (ha : EvL ta σ H xs) (hb : Ev tb σ H (vi n)) (hz : xs.length * n ≤ 100000) (hn : n ≤ 100000) : EvL (tOp rRep ta tb) σ H (List.replicate n xs).flatten := fun H1 e Q q =>
  ha H1 e _ fun p H2 np e2 hp => hb H2 (e.trans e2) _ fun H3 e3 => ⟨p, (n : Int), xs, rfl, rfl, e3 _ _ hp, by omega, by omega, by rw [Int.toNat_natCast]; exact sz_of hz, fun l nl => by
    rw [Int.toNat_natCast]
    exact q l _ (fresh_back (e2.trans e3) nl) ((e2.trans e3).trans (Ex.new nl)) upd_same⟩
theorem rep1 (n : Nat) (v : V) : (List.replicate n [v]).flatten = List.replicate n v := by
  induction n with
  | zero => rfl
  | succ n ih => rw [List.replicate_succ, List.flatten_cons, ih, List.replicate_succ]; rfl
end
end Dw
end
section
/-! zip of two tuples; tuples of values by what holds of them -/
namespace Dw
open PySem PySem.Spec PyProof.Rows L2 Evl RZ
section
variable {K : PySem.W.Frag} {σ : L2.St} {H H' : Hp} {ta tb te : TE} {t : TT} {x y z v : V} {P : V → Hp → Prop} {D : Ends} {tu tz : TS} {g : TG}
theorem walk_zipT {a b : Addr} {xs ys : List V} (hl : xs.length = ys.length) : Walk (ItzT K a b) xs.length (fun H => SqT K H a xs ∧ SqT K H b ys) (YPair (fun i => xs[i]?) (fun i => ys[i]?)) := by
  refine ⟨fun i H hi q => ⟨xs, ys, xs[i], ys[i]'(by rw [← hl]; exact hi), q.1, q.2, List.getElem?_eq_getElem hi, List.getElem?_eq_getElem (by rw [← hl]; exact hi)⟩, fun H q => ⟨xs, ys, q.1, q.2, .inl (Nat.le_refl _)⟩, fun i H v H' _ q y => ?_⟩
  obtain ⟨T, x1, x2, h1, h2, h3, h4, h5⟩ := y
  exact ⟨T, x1, x2, h1, h2, h3, h4 xs q.1, h5 ys q.2⟩
theorem q_zipT {a b : Addr} {xs ys : List V} {ta : TA} (h : EvA ta σ H [.ref a, .ref b]) (hx : SqT K H a xs) (hy : SqT K H b ys) (hl : xs.length = ys.length) (Pv : Nat → L2.St → Hp → Prop) (h0 : ∀ H1, Ex H H1 → Pv 0 σ H1) (hk : ∀ i σ' H', i ≤ xs.length → Pv i σ' H' → SqT K H' a xs ∧ SqT K H' b ys)
    (hs : ∀ i x y T σ' H', xs[i]? = some x → ys[i]? = some y → Pv i σ' H' → H' T = none → g (.ref T) σ' (upd H' T (.tup [x, y])) fun σ2 H2 => tu { D with nx := Pv (i + 1), ct := Pv (i + 1), bk := tz D } σ2 H2) (hd : ∀ σ' H', Pv xs.length σ' H' → tz D σ' H') :
    tSeq (tFor (iZipA K ta) g tu) tz D σ H :=
  h H (Ex.refl H) _ fun H1 e => ⟨a, b, xs, ys, rfl, .inr ⟨ex_t e hx, ex_t e hy, for_it (D := { D with nx := tz D }) (walk_zipT hl) Pv (h0 H1 e) hk (fun i v σ' H2 H3 hi p y => by
    obtain ⟨T, x1, x2, rfl, nT, rfl, e1, e2⟩ := y
    exact hs i x1 x2 T σ' H2 e1 e2 p nT) hd⟩⟩
/-- (a, b, ..), its items by what holds of them -/
theorem ep_tup {ta : TA} {R : List V → Hp → Prop} {n : Nat} (h : EvAP ta σ H R) (len : ∀ vs H1, R vs H1 → vs.length = n) (hn : n ≤ 100000) (keep : ∀ vs H1 H2, Ex H1 H2 → R vs H1 → R vs H2) :
    EvP (tTup ta) σ H (fun v H' => ∃ p vs, v = .ref p ∧ H' p = some (.tup vs) ∧ R vs H') := fun H1 e Q q =>
  h H1 e _ fun vs H2 e2 r => ⟨by rw [len vs H2 r]; exact sz_of hn, fun p np => q (.ref p) _ (e2.trans (Ex.new np)) ⟨p, vs, rfl, upd_same, keep vs H2 _ (Ex.new np) r⟩⟩
theorem eap_nil : EvAP tNil σ H (fun vs _ => vs = []) := fun H1 _ _ q => q [] H1 (Ex.refl H1) rfl
end
end Dw
end
section
/-! a new tuple told with its own object (so that its methods may be called); tuple.index of ints -/
namespace Dw
open PySem PySem.Spec PyProof.Rows L2 Evl
/-! readings opened by one step -/
section
variable {σ : L2.St} {H : Hp} {ta tb te : TE} {D : Ends} {g : TG}
theorem do_cons {tr : TA} {Q : List V → Hp → Prop} (h : ta σ H fun x H1 => tr σ H1 fun xs H2 => Q (x :: xs) H2) : tCons ta tr σ H Q := h
theorem do_nil {Q : List V → Hp → Prop} (h : Q [] H) : tNil σ H Q := h
theorem do_op {r : R2} {Q : VK} (h : ta σ H fun x H1 => tb σ H1 fun y H2 => r x y H2 Q) : tOp r ta tb σ H Q := h
theorem do_tup {t : TA} {Q : VK} (h : t σ H fun xs H1 => xs.length ≤ sizeLine ∧ ∀ p, H1 p = none → Q (.ref p) (upd H1 p (.tup xs))) : tTup t σ H Q := h
theorem do_lst {t : TA} {Q : VK} (h : t σ H fun xs H1 => xs.length ≤ sizeLine ∧ ∀ p, H1 p = none → Q (.ref p) (upd H1 p (.lst xs))) : tLst t σ H Q := h
theorem do_cb {r : List V → Hp → VK → Prop} {t : TA} {Q : VK} (h : t σ H fun vs H1 => r vs H1 Q) : tCB r t σ H Q := h
theorem do_ret (h : te σ H D.rt) : tRet te D σ H := h
theorem do_asg (h : te σ H fun x H1 => g x σ H1 D.nx) : tAsg te g D σ H := h
theorem do_if {c : TT} {t u : TS} (h : c σ H fun b H1 => if b = true then t D σ H1 else u D σ H1) : tIfS c t u D σ H := h
theorem do_ev {v : V} {Q : VK} (h : Ev te σ H v) (k : ∀ H1, Ex H H1 → Q v H1) : te σ H Q := h H (Ex.refl H) Q k
theorem do_evL {xs : List V} {Q : VK} (h : EvL te σ H xs) (k : ∀ p H1, H p = none → Ex H H1 → H1 p = some (.lst xs) → Q (.ref p) H1) : te σ H Q := h H (Ex.refl H) Q k
theorem do_evU {xs : List V} {Q : VK} (h : EvU te σ H xs) (k : ∀ p H1, H p = none → Ex H H1 → H1 p = some (.tup xs) → Q (.ref p) H1) : te σ H Q := h H (Ex.refl H) Q k
theorem do_evP {P : V → Hp → Prop} {Q : VK} (h : EvP te σ H P) (k : ∀ v H1, Ex H H1 → P v H1 → Q v H1) : te σ H Q := h H (Ex.refl H) Q k
end
section
variable {X : Cx}
theorem ints_of : ∀ {ns : List Int} {us : List Value}, Vals (ns.map V.int) us → IntsAre us ns
  | [], _, .nil => .nil
  | n :: ns, _, .cons (b := u) r t => by
    obtain ⟨tk, e⟩ := (show ∃ t, u = Value.int n t from r)
    subst e
    exact .cons n tk (ints_of t)
end
end Dw
end
section
/-! the mathematics of own orders, over plain lists of natural numbers -/
namespace M25
open M20
/-! begins of orders: the numbers called so far, in the order of their new names -/
/-- a begin of length L -/
structure Bg (n L : Nat) (b : List Nat) : Prop where
  len : b.length = L
  low : ∀ x ∈ b, x < n
  nd : b.Nodup
def free (n : Nat) (b : List Nat) : List Nat := (List.range n).filter fun k => !decide (k ∈ b)
theorem mem_free {n k : Nat} {b : List Nat} : k ∈ free n b ↔ k < n ∧ k ∉ b := by
  unfold free
  rw [List.mem_filter, List.mem_range]
  constructor
  · rintro ⟨a, c⟩
    exact ⟨a, fun z => by rw [decide_eq_true z] at c; cases c⟩
  · rintro ⟨a, c⟩
    exact ⟨a, by rw [decide_eq_false c]; rfl⟩
def ext1 (n : Nat) (bs : List (List Nat)) : List (List Nat) := bs.flatMap fun b => (free n b).map fun k => b ++ [k]
def allc (n : Nat) : Nat → List (List Nat) → List (List Nat)
  | 0, bs => bs
  | k + 1, bs => allc n k (ext1 n bs)
/-- rows of begins, all of one length -/
structure Bgs (n L : Nat) (bs : List (List Nat)) : Prop where
  each : ∀ b ∈ bs, Bg n L b
  nd : bs.Nodup
theorem Bg.le {n L : Nat} {b : List Nat} (h : Bg n L b) : L ≤ n := by
  have := len_le b (List.range n) h.nd fun x hx => List.mem_range.mpr (h.low x hx)
  rw [h.len, List.length_range] at this
  exact this
theorem Bg.snoc {n L k : Nat} {b : List Nat} (h : Bg n L b) (hk : k < n) (m : k ∉ b) : Bg n (L + 1) (b ++ [k]) := ⟨by rw [List.length_append, h.len]; rfl, fun x hx => by
  rcases List.mem_append.mp hx with z | z
  · exact h.low x z
  · rw [List.mem_singleton.mp z]; exact hk, by
  rw [List.nodup_append]
  refine ⟨h.nd, List.nodup_cons.mpr ⟨(by intro z; cases z), List.nodup_nil⟩, fun a ha c hc e => ?_⟩
  rw [List.mem_singleton.mp hc] at e
  exact m (e ▸ ha)⟩
theorem snoc_inj {b c : List Nat} {x y : Nat} (h : b ++ [x] = c ++ [y]) : b = c ∧ x = y := by
  have := List.append_inj' h rfl
  exact ⟨this.1, by simpa using this.2⟩
theorem free_nd (n : Nat) (b : List Nat) : (free n b).Nodup := List.Pairwise.filter _ List.nodup_range
theorem ext1_mem {n : Nat} {bs : List (List Nat)} {c : List Nat} : c ∈ ext1 n bs ↔ ∃ b ∈ bs, ∃ k, k < n ∧ k ∉ b ∧ c = b ++ [k] := by
  unfold ext1
  rw [List.mem_flatMap]
  constructor
  · rintro ⟨b, hb, hc⟩
    obtain ⟨k, hk, rfl⟩ := List.mem_map.mp hc
    obtain ⟨a, d⟩ := mem_free.mp hk
    exact ⟨b, hb, k, a, d, rfl⟩
  · rintro ⟨b, hb, k, a, d, rfl⟩
    exact ⟨b, hb, List.mem_map.mpr ⟨k, mem_free.mpr ⟨a, d⟩, rfl⟩⟩
theorem ext1_nd {n : Nat} : ∀ {bs : List (List Nat)}, bs.Nodup → (ext1 n bs).Nodup
  | [], _ => List.nodup_nil
  | b :: bs, h => by
    rw [List.nodup_cons] at h
    show ((free n b).map (fun k => b ++ [k]) ++ ext1 n bs).Nodup
    rw [List.nodup_append]
    refine ⟨?_, ext1_nd h.2, fun x hx y hy e => ?_⟩
    · rw [List.nodup_iff_pairwise_ne, List.pairwise_map]
      exact (List.nodup_iff_pairwise_ne.mp (free_nd n b)).imp fun z e => z (snoc_inj e).2
    · obtain ⟨k, _, rfl⟩ := List.mem_map.mp hx
      obtain ⟨c, hc, j, _, _, rfl⟩ := ext1_mem.mp hy
      exact h.1 ((snoc_inj e).1 ▸ hc)
theorem Bgs.ext1 {n L : Nat} {bs : List (List Nat)} (h : Bgs n L bs) : Bgs n (L + 1) (ext1 n bs) := ⟨fun c hc => by
  obtain ⟨b, hb, k, a, d, rfl⟩ := ext1_mem.mp hc
  exact (h.each b hb).snoc a d, ext1_nd h.nd⟩
theorem Bgs.allc {n : Nat} : ∀ {k L : Nat} {bs : List (List Nat)}, Bgs n L bs → Bgs n (L + k) (allc n k bs)
  | 0, _, _, h => h
  | k + 1, L, bs, h => by
    have := Bgs.allc (k := k) h.ext1
    rw [Nat.add_assoc, Nat.add_comm 1 k] at this
    exact this
/-! orders told by what is called 0, 1, .. -/
theorem bg_ord {n : Nat} {q : List Nat} : Bg n n q ↔ Ord n q := by
  constructor
  · intro h
    refine ⟨h.len, fun k hk => h.low _ (List.mem_iff_getElem?.mpr ⟨k, g_eq (by rw [h.len]; exact hk)⟩), fun j k hj hk e => ?_⟩
    have a := g_eq (l := q) (k := j) (by rw [h.len]; exact hj)
    have b := g_eq (l := q) (k := k) (by rw [h.len]; exact hk)
    rw [e, ← b] at a
    have hj' : j < q.length := by rw [h.len]; exact hj
    have hk' : k < q.length := by rw [h.len]; exact hk
    rw [List.getElem?_eq_getElem hj', List.getElem?_eq_getElem hk'] at a
    have p := List.pairwise_iff_getElem.mp (List.nodup_iff_pairwise_ne.mp h.nd)
    rcases Nat.lt_trichotomy j k with z | z | z
    · exact absurd (Option.some.inj a) (p j k hj' hk' z)
    · exact z
    · exact absurd (Option.some.inj a).symm (p k j hk' hj' z)
  · intro h
    refine ⟨h.len, fun x hx => ?_, ?_⟩
    · obtain ⟨i, hi, e⟩ := List.mem_iff_getElem.mp hx
      have a := g_eq hi
      rw [List.getElem?_eq_getElem hi, e] at a
      rw [Option.some.inj a]
      exact h.low i (by rw [← h.len]; exact hi)
    · rw [List.nodup_iff_pairwise_ne, List.pairwise_iff_getElem]
      intro i j hi hj hij e
      have a := g_eq hi
      have b := g_eq hj
      rw [List.getElem?_eq_getElem hi, e] at a
      rw [List.getElem?_eq_getElem hj] at b
      have := h.inj i j (by rw [← h.len]; exact hi) (by rw [← h.len]; exact hj) ((Option.some.inj a).symm.trans (Option.some.inj b))
      omega
/-- an order goes on from one of the begins -/
def On (bs : List (List Nat)) (q : List Nat) : Prop := ∃ b ∈ bs, b <+: q
theorem on_ext1 {n L : Nat} {bs : List (List Nat)} {q : List Nat} (h : Bgs n L bs) (lt : L < n) (hq : Bg n n q) : On (ext1 n bs) q ↔ On bs q := by
  constructor
  · rintro ⟨c, hc, p⟩
    obtain ⟨b, hb, k, _, _, rfl⟩ := ext1_mem.mp hc
    exact ⟨b, hb, (List.prefix_append b [k]).trans p⟩
  · rintro ⟨b, hb, r, e⟩
    cases r with
    | nil =>
      rw [List.append_nil] at e
      have a := (h.each b hb).len
      have c := hq.len
      rw [← e] at c
      omega
    | cons k r =>
      have nd := hq.nd
      rw [← e] at nd
      have m : k ∉ b := fun z => (List.nodup_append.mp nd).2.2 k z k (List.mem_cons_self ..) rfl
      have lo : k < n := hq.low k (by rw [← e]; exact List.mem_append_right _ (List.mem_cons_self ..))
      exact ⟨b ++ [k], ext1_mem.mpr ⟨b, hb, k, lo, m, rfl⟩, r, by rw [List.append_assoc]; exact e⟩
theorem on_allc {n : Nat} {q : List Nat} (hq : Bg n n q) : ∀ {k L : Nat} {bs : List (List Nat)}, Bgs n L bs → L + k ≤ n → (On (allc n k bs) q ↔ On bs q)
  | 0, _, _, _, _ => Iff.rfl
  | k + 1, L, bs, h, le => (on_allc hq h.ext1 (by omega)).trans (on_ext1 h (by omega) hq)
theorem prefix_full {n : Nat} {b q : List Nat} (h : Bg n n b) (hq : Bg n n q) (p : b <+: q) : b = q := by
  obtain ⟨r, e⟩ := p
  have a := h.len
  have c := hq.len
  rw [← e, List.length_append] at c
  cases r with
  | nil =>
    rw [List.append_nil] at e
    exact e
  | cons k r =>
    rw [List.length_cons] at c
    omega
theorem on_full {n : Nat} {bs : List (List Nat)} {q : List Nat} (h : Bgs n n bs) (hq : Bg n n q) : On bs q ↔ q ∈ bs := ⟨fun ⟨b, hb, p⟩ => prefix_full (h.each b hb) hq p ▸ hb, fun m => ⟨q, m, List.prefix_rfl⟩⟩
/-! the worth of a cell -/
/-- the place of old numbers -/
def at_ (n : Nat) (b args : List Nat) : Nat := args.foldl (fun a k => a * n + g b k) 0
def old (n : Nat) (t args b : List Nat) : Nat := g t (at_ n b args)
def told (n : Nat) (t args b : List Nat) : Nat := if old n t args b ∈ b then b.idxOf (old n t args b) else b.length
def kept (n : Nat) (t args b : List Nat) : List Nat := if old n t args b ∈ b then b else b ++ [old n t args b]
/-- the least that is told, the first ahead -/
def best (n : Nat) (t args : List Nat) : List (List Nat) → Nat → Nat
  | [], m => m
  | b :: bs, m => best n t args bs (min m (told n t args b))
def lst (n : Nat) (t args : List Nat) (bs : List (List Nat)) : List (List Nat) := (bs.filter fun b => decide (told n t args b = best n t args bs n)).map (kept n t args)
end M25
end
section
/-! the mathematics of own orders: what is the same for all, tables of cells, the orders that lead to the least -/
namespace M25
open M20
/-! ### what two orders leave, all leave -/
def sw (n i : Nat) : List Nat := (List.range n).map fun k => if k = i then i + 1 else if k = i + 1 then i else k
def rot (n : Nat) : List Nat := (List.range n).map fun k => if k + 1 = n then 0 else k + 1
def same (n p : Nat) (t : List Nat) : Bool := decide (n = 1) || (decide (ren n p (sw n 0) t = t) && decide (ren n p (rot n) t = t))
/-! ### rows of numbers -/
def rows (n : Nat) : Nat → List (List Nat)
  | 0 => [[]]
  | p + 1 => (rows n p).flatMap fun r => (List.range n).map fun k => r ++ [k]
theorem rows_of {n : Nat} : ∀ {p : Nat} {r : List Nat}, r ∈ rows n p → r.length = p ∧ ∀ k ∈ r, k < n
  | 0, r, h => by
    rw [List.mem_singleton.mp h]
    exact ⟨rfl, fun k z => by cases z⟩
  | p + 1, r, h => by
    obtain ⟨s, hs, h2⟩ := List.mem_flatMap.mp h
    obtain ⟨k, hk, rfl⟩ := List.mem_map.mp h2
    obtain ⟨a, b⟩ := rows_of hs
    refine ⟨by rw [List.length_append, a]; rfl, fun j hj => ?_⟩
    rcases List.mem_append.mp hj with z | z
    · exact b j z
    · rw [List.mem_singleton.mp z]
      exact List.mem_range.mp hk
theorem flatr {α : Type} (m : Nat) (hm : 0 < m) (f : Nat → Nat → α) : ∀ n, ((List.range n).flatMap fun i => (List.range m).map (f i)) = (List.range (n * m)).map fun s => f (s / m) (s % m)
  | 0 => by rw [Nat.zero_mul]; rfl
  | n + 1 => by
    rw [List.range_succ, List.flatMap_append, flatr m hm f n, List.flatMap_singleton, Nat.add_mul, Nat.one_mul, List.range_add, List.map_append, List.map_map]
    congr 1
    apply List.map_congr_left
    intro k hk
    have hk' := List.mem_range.mp hk
    show f n k = f ((n * m + k) / m) ((n * m + k) % m)
    rw [Nat.add_comm (n * m) k, Nat.add_mul_div_right _ _ hm, Nat.div_eq_of_lt hk', Nat.zero_add, Nat.add_mul_mod_self_right, Nat.mod_eq_of_lt hk']
theorem rows_1 (n : Nat) : rows n 1 = (List.range n).map fun k => [k] := by
  show ([[]] : List (List Nat)).flatMap _ = _
  rw [List.flatMap_singleton]
  rfl
theorem rows_2 {n : Nat} (h : 0 < n) : rows n 2 = (List.range (n * n)).map fun s => [s / n, s % n] := by
  show (rows n 1).flatMap _ = _
  rw [rows_1, List.flatMap_map]
  exact flatr n h (fun i j => [i, j]) n
/-! ### the steps -/
def need (args : List Nat) : Nat := args.foldr (fun k m => max (k + 1) m) 0
theorem need_lt : ∀ {args : List Nat}, ∀ k ∈ args, k < need args
  | [], _, h => nomatch h
  | j :: r, k, h => by
    show k < max (j + 1) (need r)
    rcases List.mem_cons.mp h with rfl | h
    · omega
    · have := need_lt k h
      omega
theorem need_le {m : Nat} : ∀ {args : List Nat}, (∀ k ∈ args, k < m) → need args ≤ m
  | [], _ => Nat.zero_le _
  | j :: r, h => by
    show max (j + 1) (need r) ≤ m
    have := need_le (args := r) fun k hk => h k (List.mem_cons_of_mem _ hk)
    have := h j (List.mem_cons_self ..)
    omega
def ln (bs : List (List Nat)) : Nat := (bs.headD []).length
def grow (n many : Nat) (bs : List (List Nat)) : List (List Nat) := allc n (many - ln bs) bs
def stepV (n : Nat) (t : List Nat) (bs : List (List Nat)) (args : List Nat) : Nat := best n t args (grow n (need args) bs) n
def stepB (n : Nat) (t : List Nat) (bs : List (List Nat)) (args : List Nat) : List (List Nat) := lst n t args (grow n (need args) bs)
/-- begins as they go on -/
def Good (n : Nat) (bs : List (List Nat)) : Prop := ∃ L, L ≤ n ∧ Bgs n L bs ∧ bs ≠ []
theorem ln_is {n L : Nat} {bs : List (List Nat)} (h : Bgs n L bs) (ne : bs ≠ []) : ln bs = L := by
  cases bs with
  | nil => exact absurd rfl ne
  | cons b r => exact (h.each b (List.mem_cons_self ..)).len
theorem Good.bgs {n : Nat} {bs : List (List Nat)} (h : Good n bs) : Bgs n (ln bs) bs := by
  obtain ⟨L, a, b, c⟩ := h
  rw [ln_is b c]
  exact b
theorem Good.ln_le {n : Nat} {bs : List (List Nat)} (h : Good n bs) : ln bs ≤ n := by
  obtain ⟨L, a, b, c⟩ := h
  rw [ln_is b c]
  exact a
theorem Good.ne {n : Nat} {bs : List (List Nat)} (h : Good n bs) : bs ≠ [] := let ⟨_, _, _, c⟩ := h; c
def rowV (n : Nat) (t : List Nat) : List (List Nat) → List (List Nat) → List Nat
  | _, [] => []
  | bs, a :: as => stepV n t bs a :: rowV n t (stepB n t bs a) as
def rowB (n : Nat) (t : List Nat) : List (List Nat) → List (List Nat) → List (List Nat)
  | bs, [] => bs
  | bs, a :: as => rowB n t (stepB n t bs a) as
/-! ### tables, one behind the other -/
abbrev PT := Nat × List Nat
def tabB (n : Nat) : List PT → List (List Nat) → List (List Nat)
  | [], bs => bs
  | x :: r, bs => if same n x.1 x.2 = true then tabB n r bs else tabB n r (rowB n x.2 bs (rows n x.1))
def tabV (n : Nat) : List PT → List (List Nat) → List (List Nat)
  | [], _ => []
  | x :: r, bs => if same n x.1 x.2 = true then x.2 :: tabV n r bs else rowV n x.2 bs (rows n x.1) :: tabV n r (rowB n x.2 bs (rows n x.1))
theorem start_good (n : Nat) : Good n [[]] := ⟨0, Nat.zero_le _, ⟨fun b hb => by
  rw [List.mem_singleton.mp hb]
  exact ⟨rfl, fun x z => (by cases z), List.nodup_nil⟩, List.nodup_cons.mpr ⟨(by intro z; cases z), List.nodup_nil⟩⟩, fun z => by cases z⟩
theorem start_on (q : List Nat) : On [[]] q := ⟨[], List.mem_singleton.mpr rfl, q, rfl⟩
/-- the orders that lead to the least, told by what is called 0, 1, .. -/
def fin (n : Nat) (l : List PT) : List (List Nat) := grow n n (tabB n l [[]])
def least (n : Nat) (l : List PT) : List (List Nat) := tabV n l [[]]
end M25
end
section
/-! own orders: a group, its number, its lots -/
namespace M25
open M20
def orders (n : Nat) (l : List PT) : List (List Nat) := (fin n l).map bk
def first (os : List (List Nat)) : List Nat := os.headD []
def own (n : Nat) (l : List PT) : List (List Nat) := (orders n l).map fun a => cmp a (bk (first (orders n l)))
/-! ### their number -/
def fact : Nat → Nat
  | 0 => 1
  | k + 1 => fact k * (k + 1)
theorem free_len {n L : Nat} {b : List Nat} (h : Bg n L b) : (free n b).length = n - L := by
  have nd : (free n b ++ b).Nodup := List.nodup_append.mpr ⟨free_nd n b, h.nd, fun x hx y hy e => (mem_free.mp hx).2 (e ▸ hy)⟩
  have a := len_le (free n b ++ b) (List.range n) nd fun x hx => List.mem_range.mpr (by
    rcases List.mem_append.mp hx with z | z
    · exact (mem_free.mp z).1
    · exact h.low x z)
  have c := len_le (List.range n) (free n b ++ b) List.nodup_range fun x hx => by
    by_cases z : x ∈ b
    · exact List.mem_append_right _ z
    · exact List.mem_append_left _ (mem_free.mpr ⟨List.mem_range.mp hx, z⟩)
  rw [List.length_append, List.length_range, h.len] at a c
  omega
theorem ext1_len {n L : Nat} : ∀ {bs : List (List Nat)}, (∀ b ∈ bs, Bg n L b) → (ext1 n bs).length = bs.length * (n - L)
  | [], _ => by simp [ext1]
  | b :: bs, h => by
    show ((free n b).map (fun k => b ++ [k]) ++ ext1 n bs).length = _
    rw [List.length_append, List.length_map, free_len (h b (List.mem_cons_self ..)), ext1_len fun c hc => h c (List.mem_cons_of_mem _ hc), List.length_cons, Nat.add_mul, Nat.one_mul, Nat.add_comm]
theorem allc_len {n : Nat} : ∀ {k L : Nat} {bs : List (List Nat)}, Bgs n L bs → L + k = n → (allc n k bs).length = bs.length * fact k
  | 0, _, bs, _, _ => (Nat.mul_one _).symm
  | k + 1, L, bs, h, e => by
    show (allc n k (ext1 n bs)).length = _
    rw [allc_len h.ext1 (by omega), ext1_len h.each, show n - L = k + 1 by omega, fact, Nat.mul_assoc, Nat.mul_comm (k + 1)]
def all_ (n : Nat) : List (List Nat) := allc n n [[]]
theorem all_bgs (n : Nat) : Bgs n n (all_ n) := by
  have := (start_good n).bgs.allc (k := n)
  rw [show ln [[]] = 0 from rfl, Nat.zero_add] at this
  exact this
theorem all_len (n : Nat) : (all_ n).length = fact n := by
  have := allc_len (k := n) (start_good n).bgs (by rw [show ln [[]] = 0 from rfl, Nat.zero_add])
  rw [show ([[]] : List (List Nat)).length = 1 from rfl, Nat.one_mul] at this
  exact this
theorem all_mem {n : Nat} {a : List Nat} : a ∈ all_ n ↔ Ord n a := by
  constructor
  · exact fun h => bg_ord.mp ((all_bgs n).each a h)
  · intro h
    have hq := bg_ord.mpr h
    exact (on_full (all_bgs n) hq).mp ((on_allc hq (k := n) (start_good n).bgs (by rw [show ln [[]] = 0 from rfl]; omega)).mpr (start_on a))
/-! ### led over by an order -/
/-! ### lots -/
def orb (n : Nat) (os : List (List Nat)) (k : Nat) : List Nat := (List.range n).filter fun j => os.any fun a => decide (g a k = j)
def lots (n : Nat) (os : List (List Nat)) : List (List Nat) := ((List.range n).filter fun k => decide ((orb n os k).headD 0 = k)).map (orb n os)
end M25
end
section
/-! how many begins there are; names told by a begin -/
namespace M25
open M20
theorem fact_pos : ∀ n, 1 ≤ fact n
  | 0 => Nat.le_refl _
  | n + 1 => by
    show 1 ≤ fact n * (n + 1)
    have := fact_pos n
    exact Nat.le_trans this (Nat.le_mul_of_pos_right _ (Nat.succ_pos n))
theorem fact6 {n : Nat} (h : n ≤ 6) : fact n ≤ 720 := by
  match n, h with
  | 0, _ => decide
  | 1, _ => decide
  | 2, _ => decide
  | 3, _ => decide
  | 4, _ => decide
  | 5, _ => decide
  | 6, _ => decide
theorem sub_len {l m : List (List Nat)} (h1 : l.Nodup) (h : ∀ x ∈ l, x ∈ m) : l.length ≤ m.length := by
  induction l generalizing m with
  | nil => exact Nat.zero_le _
  | cons x l ih =>
    have hx := h x (List.mem_cons_self ..)
    rw [List.nodup_cons] at h1
    have := ih (m := m.erase x) h1.2 fun y hy => (List.mem_erase_of_ne (show y ≠ x from fun e => h1.1 (by rw [← e]; exact hy))).mpr (h y (List.mem_cons_of_mem _ hy))
    rw [List.length_erase_of_mem hx] at this
    have := List.length_pos_of_mem hx
    rw [List.length_cons]
    omega
theorem bgs_few {n L : Nat} {bs : List (List Nat)} (h : Bgs n L bs) (le : L ≤ n) : bs.length ≤ fact n := by
  have a := allc_len h (k := n - L) (by omega)
  have b : Bgs n (L + (n - L)) (allc n (n - L) bs) := h.allc
  rw [show L + (n - L) = n by omega] at b
  have c := sub_len b.nd fun x hx => all_mem.mpr (bg_ord.mp (b.each x hx))
  rw [all_len, a] at c
  exact Nat.le_trans (Nat.le_mul_of_pos_right _ (fact_pos _)) c
theorem Good.few {n : Nat} {bs : List (List Nat)} (h : Good n bs) (n6 : n ≤ 6) : bs.length ≤ 720 := Nat.le_trans (bgs_few h.bgs h.ln_le) (fact6 n6)
end M25
end
section
/-! data of tracked things: what repr and == want of it -/
namespace Dw
open PySem PySem.Spec PyProof.Rows L2 Evl
/-- small data: depth at most k, weight at most W -/
structure Gd (k W : Nat) (d : PyData) : Prop where
  lay : d.canLay0 = true
  dep : d.depth ≤ k
  wgt : d.weight ≤ W
  its : d.intsShort 13 = true
  sho : d.showable = true
theorem Gd.mono {k W k' W' : Nat} {d : PyData} (h : Gd k W d) (a : k ≤ k') (b : W ≤ W') : Gd k' W' d := ⟨h.lay, Nat.le_trans h.dep a, Nat.le_trans h.wgt b, h.its, h.sho⟩
theorem log_low {n : Nat} (h : n ≤ 1000) : n.log2 ≤ 9 := by
  by_cases z : n = 0
  · subst z
    decide
  · exact Nat.le_of_lt_succ ((Nat.log2_lt z).mpr (by have e : 2 ^ 10 = 1024 := by decide
                                                     omega))
theorem gd_int {n : Nat} (h : n ≤ 1000) : Gd 0 10 (.int (n : Int)) := by
  have l := log_low h
  refine ⟨by rw [PyData.canLay0], by rw [PyData.depth]; exact Nat.le_refl _, ?_, ?_, ?_⟩
  · rw [PyData.weight, Int.natAbs_natCast]
    split <;> omega
  · rw [PyData.intsShort]
    exact decide_eq_true (PyData.shown_int_le2 (by omega) (by omega))
  · rw [PyData.showable, Int.natAbs_natCast]
    exact decide_eq_true (by omega)
theorem gd_all {k W : Nat} : ∀ {ds : List PyData}, (∀ d ∈ ds, Gd k W d) → PyData.canLayAll0 ds = true ∧ PyData.depthAll ds ≤ k ∧ PyData.weightAll ds ≤ ds.length * (W + 1) ∧ PyData.intsShortAll 13 ds = true ∧ PyData.showableAll ds = true
  | [], _ => ⟨by rw [PyData.canLayAll0], by rw [PyData.depthAll]; exact Nat.zero_le _, by rw [PyData.weightAll]; exact Nat.zero_le _, by rw [PyData.intsShortAll], by rw [PyData.showableAll]⟩
  | d :: ds, h => by
    obtain ⟨a, b, c, e, f⟩ := gd_all (ds := ds) fun x hx => h x (List.mem_cons_of_mem _ hx)
    have g := h d (List.mem_cons_self ..)
    refine ⟨by rw [PyData.canLayAll0, g.lay, a]; rfl, by rw [PyData.depthAll]; exact Nat.max_le.mpr ⟨g.dep, b⟩, ?_, by rw [PyData.intsShortAll, g.its, e]; rfl, by rw [PyData.showableAll, g.sho, f]; rfl⟩
    have w := g.wgt
    rw [PyData.weightAll, List.length_cons, Nat.succ_mul]
    omega
theorem gd_tup {k W L : Nat} {ds : List PyData} (h : ∀ d ∈ ds, Gd k W d) (l : ds.length ≤ L) : Gd (k + 1) (L * (W + 1)) (.tuple ds) := by
  obtain ⟨a, b, c, e, f⟩ := gd_all h
  exact ⟨by rw [PyData.canLay0]; exact a, by rw [PyData.depth]; omega, by rw [PyData.weight]; exact Nat.le_trans c (Nat.mul_le_mul_right _ l), by rw [PyData.intsShort]; exact e, by rw [PyData.showable]; exact f⟩
theorem gd_lst {k W L : Nat} {ds : List PyData} (h : ∀ d ∈ ds, Gd k W d) (l : ds.length ≤ L) : Gd (k + 1) (L * (W + 1)) (.list ds) := by
  obtain ⟨a, b, c, e, f⟩ := gd_all h
  exact ⟨by rw [PyData.canLay0]; exact a, by rw [PyData.depth]; omega, by rw [PyData.weight]; exact Nat.le_trans c (Nat.mul_le_mul_right _ l), by rw [PyData.intsShort]; exact e, by rw [PyData.showable]; exact f⟩
theorem Gd.len {k W : Nat} {d : PyData} (h : Gd k W d) (a : k ≤ 60) (b : W ≤ 1000000) : d.shown.length ≤ sizeLine := by
  have w := h.wgt
  have dp := h.dep
  have l0 : d.layable0 = true := by
    show (d.canLay0 && decide (d.depth ≤ 64) && decide (d.weight ≤ 2 ^ 20)) = true
    have e : (2 : Nat) ^ 20 = 1048576 := by decide
    rw [h.lay, decide_eq_true (show d.depth ≤ 64 by omega), decide_eq_true (show d.weight ≤ 2 ^ 20 by omega)]
    rfl
  have z := shown_le13 l0 h.its
  rw [sizeLine_eq]
  omega
theorem Gd.shaped {k W : Nat} {d : PyData} (h : Gd k W d) (a : k ≤ 60) : SeqAt.shaped d = true := by
  have dp := h.dep
  show (d.canLay0 && decide (d.depth ≤ 64)) = true
  rw [h.lay, decide_eq_true (show d.depth ≤ 64 by omega)]
  rfl
/-! things of the hand layer as data -/
section
variable {K : PySem.W.Frag} {H : Hp}
def dN (ns : List Nat) : PyData := .tuple (ns.map fun n => .int ((n : Nat) : Int))
theorem dps_nats : ∀ ns : List Nat, DpAll K H (ns.map vi) (ns.map fun n => .int ((n : Nat) : Int))
  | [] => .nil
  | n :: ns => .cons (.int _) (dps_nats ns)
theorem Nats.dp {v : V} {ns : List Nat} (h : Nats K H v ns) : Dp K H v (dN ns) := by
  obtain ⟨a, e, s⟩ := h
  subst e
  exact .tup s (dps_nats ns)
theorem dps_paired {β : Type} {R : V → β → Prop} {f : β → PyData} (h : ∀ v b, R v b → Dp K H v (f b)) : ∀ {vs : List V} {bs : List β}, Paired R vs bs → DpAll K H vs (bs.map f)
  | [], [], .nil => .nil
  | _ :: _, _ :: _, .cons r p => .cons (h _ _ r) (dps_paired h p)
def dM (n : Nat) (ts : List (List Nat)) : PyData := .tuple [.int (n : Int), .tuple (ts.map dN)]
theorem Mdl.dp {v : V} {n : Nat} {ts : List (List Nat)} (h : Mdl K H v n ts) : Dp K H v (dM n ts) := by
  obtain ⟨a, u, e, s, b, vs, e2, s2, p⟩ := h
  subst e e2
  exact .tup s (.cons (.int _) (.cons (.tup s2 (dps_paired (fun _ _ z => Nats.dp z) p)) .nil))
def dS (sg : List (Str × Nat)) : PyData := .tuple (sg.map fun p => .tuple [.str p.1, .int ((p.2 : Nat) : Int)])
theorem Sig.dp {v : V} {sg : List (Str × Nat)} (h : Sig K H v sg) : Dp K H v (dS sg) := by
  obtain ⟨a, vs, e, s, p⟩ := h
  subst e
  refine .tup s (dps_paired (fun v q z => ?_) p)
  obtain ⟨b, e, s⟩ := z
  subst e
  exact .tup s (.cons (.str _) (.cons (.int _) .nil))
theorem gd_nats {ns : List Nat} (h : ∀ n ∈ ns, n ≤ 1000) (l : ns.length ≤ 36) : Gd 1 396 (dN ns) := by
  refine gd_tup (k := 0) (W := 10) (L := 36) (fun d hd => ?_) (by rw [List.length_map]; exact l)
  obtain ⟨n, hn, e⟩ := List.mem_map.mp hd
  subst e
  exact gd_int (h n hn)
theorem gd_mdl {n : Nat} {ts : List (List Nat)} (hn : n ≤ 1000) (h : ∀ t ∈ ts, (∀ k ∈ t, k ≤ 1000) ∧ t.length ≤ 36) (l : ts.length ≤ 4) : Gd 3 3178 (dM n ts) := by
  refine gd_tup (k := 2) (W := 1588) (L := 2) (fun d hd => ?_) (Nat.le_refl 2)
  rcases List.mem_cons.mp hd with e | hd
  · subst e
    exact (gd_int hn).mono (by decide) (by decide)
  · rw [List.mem_singleton.mp hd]
    refine gd_tup (k := 1) (W := 396) (L := 4) (fun d hd => ?_) (by rw [List.length_map]; exact l)
    obtain ⟨t, ht, e⟩ := List.mem_map.mp hd
    subst e
    exact gd_nats (h t ht).1 (h t ht).2
/-- x != y of the same data -/
theorem rv_neD {x y : V} {d : PyData} {k W : Nat} (hx : ∀ H1, Ex H H1 → Dp K H1 x d) (hy : ∀ H1, Ex H H1 → Dp K H1 y d) (h : Gd k W d) (a : k ≤ 60) : RV (rNeD K) x y H (.bl false) := fun H1 e Q q =>
  ⟨d, d, hx H1 e, hy H1 e, h.shaped a, h.shaped a, by rw [SeqAt.eqv_refl d h.lay]; exact q H1 (Ex.refl H1)⟩
end
end Dw
end
section
/-! dict(a tuple of pairs), the tuple told with its own object -/
namespace Dw
open PySem PySem.Spec PyProof.Rows L2 Evl
section
variable {X : Cx}
end
end Dw
end
section
/-! sets of texts, their table known well enough that they can be walked: add, set(a list), sorted -/
namespace Dw
open PySem PySem.Spec PyProof.Rows L2
/-- the text of an entry -/
def txtOf (e : Int × Value) : Str := match e.2 with | .str x _ => x | _ => Str.empty
def IsTxt (w : World) (e : Int × Value) : Prop := ∃ x tk, e.2 = Value.str x tk ∧ e.1 = hashStr w x
/-- a set at a whose members are the texts ks, each once, in the order in which they came -/
structure TxtSet (w : World) (h : Heap) (a : Addr) (ks : List Str) : Prop where
  ex : ∃ o es ep t, h.get? a = some o ∧ o.ExactSet ∧ o.data = .set es ep t ∧ (∀ e ∈ es.toList, IsTxt w e) ∧ (es.toList.map txtOf).Perm ks ∧ t.fits es.size = true ∧ Ris t.place.toList ∧ (w.params.followText "set-order" = true ∨ t.led = true)
  nd : ks.Nodup
  few : ks.length < scanBound
section
variable {P : Program} {w : World} {A : Around} {E : Value → Shared → Prop} {s : Shared} {a : Addr} {ks : List Str}
theorem TxtSet.at {h h' : Heap} (T : TxtSet w h a ks) (same : ∀ o, h.get? a = some o → h'.get? a = some o) : TxtSet w h' a ks := by
  obtain ⟨o, es, ep, t, at_, rest⟩ := T.ex
  exact ⟨⟨o, es, ep, t, same o at_, rest⟩, T.nd, T.few⟩
end
end Dw
end
section
namespace Dw
open PySem PySem.Spec PyProof.Rows L2
section
variable {P : Program} {w : World} {A : Around} {E : Value → Shared → Prop} {s : Shared}
/-- the new set as set() lays it -/
abbrev newSet (w : World) : Obj := { cls := .type "set", dict := none, data := .set #[] 0 (.fresh 0 0 (!w.params.followText "set-order")) }
end
end Dw
end
section
/-! rules over sets of texts: set(a list), sorted(the set) -/
namespace Dw
open PySem PySem.Spec PyProof.Rows L2
section
variable {P : Program} {w : World} {A : Around} {E : Value → Shared → Prop} {s : Shared} {a : Addr} {ks : List Str}
end
section
variable {X : Cx}
end
end Dw
end
section
/-! comprehensions whose items are told by what holds of them (new things at each turn) -/
namespace Dw
open PySem PySem.Spec PyProof.Rows L2 Evl
theorem ifT {a b : Prop} (h : a) : if true = true then a else b := h
theorem ifF {a b : Prop} (h : b) : if false = true then a else b := h
/-- a new list, by what holds of its items -/
def EvLP (te : TE) (σ : L2.St) (H : Hp) (R : List V → Hp → Prop) : Prop := ∀ H1, Ex H H1 → ∀ Q : VK, (∀ p ws H2, H1 p = none → Ex H1 H2 → H2 p = some (.lst ws) → R ws H2 → Q (.ref p) H2) → te σ H1 Q
/-- all that is no list stays -/
def EN (H H' : Hp) : Prop := ∀ a u, (∀ xs, u ≠ .lst xs) → H a = some u → H' a = some u
theorem EN.refl {H : Hp} : EN H H := fun _ _ _ h => h
theorem EN.trans {H H1 H2 : Hp} (a : EN H H1) (b : EN H1 H2) : EN H H2 := fun x u n h => b x u n (a x u n h)
theorem EN.of {H H' : Hp} (e : Evl.Ex H H') : EN H H' := fun a u _ h => e a u h
theorem EN.upd {H H' : Hp} {l : Addr} {xs ys : List V} (e : EN H H') (h : H' l = some (.lst xs)) : EN H (upd H' l (.lst ys)) := fun a u n q => by
  have q2 := e a u n q
  have ne : a ≠ l := fun z => by
    rw [z, h] at q2
    exact n xs (Option.some.inj q2).symm
  rw [upd_ne ne]
  exact q2
theorem EN.et {K : PySem.W.Frag} {H H' : Hp} (e : EN H H') : ET K H H' := fun a xs q => by
  rcases q with (q | ⟨o, q⟩) | q
  · exact .inl (.inl (e _ _ (fun _ z => by cases z) q))
  · exact .inl (.inr ⟨o, e _ _ (fun _ z => by cases z) q⟩)
  · exact .inr q
/-- what holds of a thing is told by what is no list -/
def StbB {β : Type} (B : V → β → Hp → Prop) : Prop := ∀ v b H H', EN H H' → B v b H → B v b H'
section
variable {K : PySem.W.Frag} {σ : L2.St} {H H' : Hp} {ta tb te : TE} {t : TT} {x y z v : V} {P : V → Hp → Prop} {D : Ends} {tu tz : TS} {g : TG} {R : List V → Hp → Prop}
theorem EvLP.mono (e : Ex H H') (h : EvLP te σ H R) : EvLP te σ H' R := fun H1 a Q q => h H1 (e.trans a) Q q
theorem EvLP.imp {R' : List V → Hp → Prop} (h : EvLP te σ H R) (i : ∀ ws H', Ex H H' → R ws H' → R' ws H') : EvLP te σ H R' := fun H1 e Q q => h H1 e Q fun p ws H2 np e2 hp r => q p ws H2 np e2 hp (i ws H2 (e.trans e2) r)
theorem s_asgLP {i : Nat} (h : EvLP te σ H R) (k : ∀ p ws H1, H p = none → Ex H H1 → H1 p = some (.lst ws) → R ws H1 → D.nx (σ.set i (some (.ref p))) H1) : tAsg te (gName i) D σ H := h H (Ex.refl H) _ k
theorem paired_snoc' {α β : Type} {R : α → β → Prop} {x : α} {y : β} (r : R x y) {xs : List α} {ys : List β} (h : Paired R xs ys) : Paired R (xs ++ [x]) (ys ++ [y]) := Dw.paired_snoc (R := R) r h
theorem paired_at {α β : Type} {R : α → β → Prop} : ∀ {xs : List α} {ys : List β} {i : Nat} {x : α}, Paired R xs ys → xs[i]? = some x → ∃ y, ys[i]? = some y ∧ R x y
  | _, _, _, _, .nil, h => by simp at h
  | _, _, 0, _, .cons a _, h => by
    have e := Option.some.inj h
    subst e
    exact ⟨_, rfl, a⟩
  | _, _, i + 1, _, .cons _ b, h => by
    obtain ⟨y, e, r⟩ := paired_at (i := i) b h
    exact ⟨y, e, r⟩
theorem paired_app {α β : Type} {R : α → β → Prop} {xs xs2 : List α} {ys ys2 : List β} (h : Paired R xs ys) (h2 : Paired R xs2 ys2) : Paired R (xs ++ xs2) (ys ++ ys2) := by
  induction h with
  | nil => exact h2
  | cons a r ih => exact .cons a ih
theorem paired_map {α β γ : Type} {R : α → β → Prop} {S : α → γ → Prop} {f : β → γ} (h : ∀ a b, R a b → S a (f b)) : ∀ {xs : List α} {ys : List β}, Paired R xs ys → Paired S xs (ys.map f)
  | _, _, .nil => .nil
  | _, _, .cons a b => .cons (h _ _ a) (paired_map h b)
theorem filt_step {n : Nat} {f : Nat → Bool} : (List.range (n + 1)).filter f = (List.range n).filter f ++ if f n = true then [n] else [] := by
  rw [List.range_succ, List.filter_append]
  congr 1
  cases h : f n
  · rw [List.filter_cons_of_neg (by rw [h]; decide), List.filter_nil]; rfl
  · rw [List.filter_cons_of_pos h, List.filter_nil]; rfl
theorem filt_len (n : Nat) (f : Nat → Bool) : ((List.range n).filter f).length ≤ n := by
  have := List.length_filter_le f (List.range n)
  rw [List.length_range] at this
  exact this
/-- a comprehension by what its items keep -/
theorem elp_lc {J : It} {n : Nat} {G : Hp → Prop} {Y : Nat → Hp → V → Hp → Prop} {wi : TI} {tt : TT} {vs : List Nat} (w : Walk J n G Y) (hw0 : ∀ H0, Ex H H0 → ∀ R : It → Hp → Prop, (∀ H1, Ex H0 H1 → R J H1) → wi σ H0 R) (hG : ∀ H1, Ex H H1 → G H1) (hn : n ≤ 40000)
    (f : Nat → Bool) (B : V → Nat → Hp → Prop) (hB : StbB B)
    (hs : ∀ i x H1 H2, i < n → Ex H H1 → Y i H1 x H2 → Ex H1 H2 ∧ ∀ Φ : L2.St → Hp → Prop, (∀ σ2, wipe σ2 vs = wipe σ vs → EvT tt σ2 H2 (f i) → (f i = true → EvP te σ2 H2 (fun v H' => B v i H')) → Φ σ2 H2) → g x (wipe σ vs) H2 Φ) :
    EvLP (tLc wi g tt te vs) σ H (fun ws H' => Paired (fun v i => B v i H') ws ((List.range n).filter f)) := by
  intro H0 e0 Q q
  refine hw0 H0 e0 _ fun H1 e1 Dl nD => lc_it w (fun i H' => Ex H1 H' ∧ ∃ ws, H' Dl = some (.lst ws) ∧ Paired (fun v i => B v i H') ws ((List.range i).filter f)) ⟨Ex.new nD, [], upd_same, .nil⟩ (fun i H' _ ⟨e, _⟩ => hG H' ((e0.trans e1).trans e)) (fun i x H2 H3 hi ⟨e2, ws, hD, pw⟩ y => ?_) (fun H2 ⟨e2, ws, hD, pw⟩ => q Dl ws H2 (fresh_back e1 nD) (e1.trans e2) hD pw)
  have e02 := (e0.trans e1).trans e2
  obtain ⟨e3, go⟩ := hs i x H2 H3 hi e02 y
  refine go _ fun σ2 hw ht he => ⟨hw, ht H3 (Ex.refl _) _ fun H4 e4 => ?_⟩
  have e24 := e3.trans e4
  cases hf : f i with
  | true =>
    refine ifT (he hf H4 e4 _ fun v H5 e5 bv => ?_)
    have hD5 := (e24.trans e5) _ _ hD
    have lw : ws.length ≤ i := by rw [paired_len pw]; exact filt_len i f
    refine ⟨ws, hD5, sz_lt (by omega), (e2.trans (e24.trans e5)).mut nD, ws ++ [v], upd_same, ?_⟩
    rw [filt_step, hf, if_pos rfl]
    have et : EN H5 (upd H5 Dl (.lst (ws ++ [v]))) := EN.refl.upd hD5
    have pw2 : Paired (fun z i => B z i (upd H5 Dl (.lst (ws ++ [v])))) ws ((List.range i).filter f) := paired_imp (fun a b r => hB a b _ _ (EN.trans (EN.of (e24.trans e5)) et) r) pw
    exact paired_snoc' (xs := ws) (x := v) (y := i) (hB _ _ _ _ et bv) pw2
  | false =>
    refine ifF ⟨e2.trans e24, ws, e24 _ _ hD, ?_⟩
    rw [filt_step, hf]
    show Paired _ ws ((List.range i).filter f ++ [])
    rw [List.append_nil]
    exact paired_imp (fun a b r => hB a b _ _ (EN.of e24) r) pw
theorem range_all (n : Nat) : (List.range n).filter (fun _ => true) = List.range n := List.filter_eq_self.mpr fun _ _ => rfl
theorem elp_lcR {ta : TA} {n : Nat} {tt : TT} {j : Nat} {vs : List Nat} (h : EvA ta σ H [vi n]) (hn : n ≤ 40000) (f : Nat → Bool) (B : V → Nat → Hp → Prop) (hB : StbB B) (hwp : ∀ x, wipe ((wipe σ vs).set j (some x)) vs = wipe σ vs)
    (hs : ∀ i H1, i < n → Ex H H1 → EvT tt ((wipe σ vs).set j (some (vi i))) H1 (f i) ∧ (f i = true → EvP te ((wipe σ vs).set j (some (vi i))) H1 (fun v H' => B v i H'))) :
    EvLP (tLc (iRng1 ta) (gName j) tt te vs) σ H (fun ws H' => Paired (fun v i => B v i H') ws ((List.range n).filter f)) :=
  elp_lc (walk_range (n := n)) (fun H0 e0 R r => w_rng h hn H0 e0 R r) (fun _ _ => trivial) hn f B hB fun i x H1 H2 hi e y => by
    obtain ⟨rfl, hxi⟩ := y
    have e0 : x = vi i := hxi.trans (by show V.int _ = V.int _; rw [Int.zero_add])
    subst e0
    exact ⟨Ex.refl _, fun Φ k => k _ (hwp _) (hs i _ hi e).1 (hs i _ hi e).2⟩
/-- of two fors: a list, then a range (or what is walked in the like way) -/
theorem elp_lc2 {a : Addr} {xs : List V} {tl : TE} {ta : TA} {m j j1 : Nat} {vs vs1 : List Nat} (h : Ev tl σ H (.ref a)) (hx : SqL K H a xs) (h1 : ∀ x H1, Ex H H1 → EvA ta ((wipe σ vs).set j (some x)) H1 [vi m]) (hn : xs.length ≤ 10000) (hm : m ≤ 9)
    (B : V → Nat × Nat → Hp → Prop) (hB : StbB B) (hw : ∀ x, wipe ((wipe σ vs).set j (some x)) vs = wipe σ vs) (hw1 : ∀ x y, wipe ((wipe ((wipe σ vs).set j (some x)) vs1).set j1 (some y)) vs1 = wipe ((wipe σ vs).set j (some x)) vs1)
    (he : ∀ i x k H1, Ex H H1 → xs[i]? = some x → k < m → EvP te ((wipe ((wipe σ vs).set j (some x)) vs1).set j1 (some (vi k))) H1 (fun v H' => B v (i, k) H')) :
    EvLP (tLc2 (iList K tl) (gName j) tYes (iRng1 ta) (gName j1) tYes te vs vs1) σ H (fun ws H' => Paired (fun v p => B v p H') ws ((List.range xs.length).flatMap fun i => (List.range m).map fun k => (i, k))) := by
  intro H0 e Q q
  refine h H0 e _ fun H1 e1 => ⟨a, rfl, ⟨xs, ex_l (e.trans e1) hx⟩, fun Dl nD => ?_⟩
  have e01 : Ex H H1 := e.trans e1
  let outer : Nat → List (Nat × Nat) := fun i => (List.range i).flatMap fun i => (List.range m).map fun k => (i, k)
  have lenO : ∀ i, (outer i).length = i * m := by
    intro i
    induction i with
    | zero => show (0 : Nat) = 0 * m; rw [Nat.zero_mul]
    | succ i ih =>
      show ((List.range (i + 1)).flatMap _).length = _
      rw [List.range_succ, List.flatMap_append, List.length_append]
      have e3 : ((List.range i).flatMap fun i => (List.range m).map fun k => (i, k)).length = i * m := ih
      rw [e3, List.flatMap_singleton, List.length_map, List.length_range, Nat.add_mul, Nat.one_mul]
  refine ⟨fun i r H' => r = xs.length - i ∧ i ≤ xs.length ∧ Ex H1 H' ∧ ∃ ws, H' Dl = some (.lst ws) ∧ Paired (fun v p => B v p H') ws (outer i), ⟨_, rfl, Nat.zero_le _, Ex.new nD, [], upd_same, .nil⟩, ?_⟩
  rintro i r H2 ⟨rfl, hi, e2, ws, hD, pw⟩
  by_cases hlt : i < xs.length
  · refine .inr ⟨⟨xs, xs[i], ex_l (e01.trans e2) hx, List.getElem?_eq_getElem hlt⟩, fun H' => Ex H1 H' ∧ ∃ ws, H' Dl = some (.lst ws) ∧ Paired (fun v p => B v p H') ws (outer (i + 1)), fun H' ⟨p1, p2⟩ => ⟨_, by omega, rfl, hlt, p1, p2⟩, fun x H3 yl => ?_⟩
    obtain ⟨rfl, hxi⟩ := yl
    have hxi' := hxi xs (ex_l (e01.trans e2) hx)
    refine ⟨hw x, et_yes H3 (Ex.refl _) _ fun H4 e4 => ?_⟩
    refine ifT ?_
    have e14 : Ex H1 H4 := e2.trans e4
    refine w_rng (h1 x H4 (e01.trans e14)) (by omega) H4 (Ex.refl _) _ fun H5 e5 => ?_
    have e15 : Ex H1 H5 := e14.trans e5
    have e35 := e4.trans e5
    refine ⟨fun k r H' => r = m - k ∧ k ≤ m ∧ Ex H1 H' ∧ ∃ ws, H' Dl = some (.lst ws) ∧ Paired (fun v p => B v p H') ws (outer i ++ (List.range k).map fun k => (i, k)), ⟨_, rfl, Nat.zero_le _, e15, ws, e35 _ _ hD, by
      show Paired _ ws (outer i ++ [])
      rw [List.append_nil]
      exact paired_imp (fun a b r => hB a b _ _ (EN.of e35) r) pw⟩, ?_⟩
    rintro k r H6 ⟨rfl, hk, e6, us, hD6, pu⟩
    by_cases klt : k < m
    · refine .inr ⟨(walk_range (n := m)).goes k H6 klt trivial, fun H' => Ex H1 H' ∧ ∃ ws, H' Dl = some (.lst ws) ∧ Paired (fun v p => B v p H') ws (outer i ++ (List.range (k + 1)).map fun k => (i, k)), fun H' ⟨p1, p2⟩ => ⟨_, by omega, rfl, klt, p1, p2⟩, fun y H7 yl => ?_⟩
      obtain ⟨rfl, hy⟩ := (walk_range (n := m)).yields k H6 y H7 klt trivial yl
      have ey : y = vi k := hy.trans (by show V.int _ = V.int _; rw [Int.zero_add])
      subst ey
      refine ⟨hw1 x _, et_yes H7 (Ex.refl _) _ fun H8 e8 => ?_⟩
      refine ifT ?_
      have e18 : Ex H1 H8 := e6.trans e8
      refine he i x k H8 (e01.trans e18) hxi' klt H8 (Ex.refl _) _ fun v H9 e9 bv => ?_
      have hD9 := (e8.trans e9) _ _ hD6
      refine ⟨us, hD9, ?_, (e18.trans e9).mut nD, us ++ [v], upd_same, ?_⟩
      · rw [paired_len pu, List.length_append, lenO, List.length_map, List.length_range]
        have b1 : i * m ≤ 10000 * 9 := Nat.mul_le_mul (by omega) hm
        exact sz_lt (by omega)
      · rw [List.range_succ, List.map_append, ← List.append_assoc]
        have et : EN H9 (upd H9 Dl (.lst (us ++ [v]))) := EN.refl.upd hD9
        have pu2 : Paired (fun z p => B z p (upd H9 Dl (.lst (us ++ [v])))) us (outer i ++ (List.range k).map fun k => (i, k)) := paired_imp (fun a b r => hB a b _ _ (EN.trans (EN.of (e8.trans e9)) et) r) pu
        exact paired_snoc' (xs := us) (x := v) (y := (i, k)) (hB _ _ _ _ et bv) pu2
    · have ek : k = m := by omega
      subst ek
      refine .inl ⟨(walk_range (n := k)).stops H6 trivial, e6, us, hD6, ?_⟩
      have : outer (i + 1) = outer i ++ (List.range k).map fun k => (i, k) := by
        show (List.range (i + 1)).flatMap _ = _
        rw [List.range_succ, List.flatMap_append, List.flatMap_singleton]
      rw [this]
      exact pu
  · have ei : i = xs.length := by omega
    subst ei
    exact .inl ⟨⟨xs, ex_l (e01.trans e2) hx, Nat.le_refl _⟩, q Dl ws H2 (fresh_back e1 nD) (e1.trans e2) hD pw⟩
end
end Dw
end
section
/-! tuples by what they hold: written, joined, cut; equal lists of numbers -/
namespace Dw
open PySem PySem.Spec PyProof.Rows L2 Evl
theorem op_catAK {X : Cx} (K : PySem.W.Frag) (h : X.K = K := by rfl) : OpR X (binaryOp .Add) (rCatA K) := by
  subst h
  exact op_catA
def TV (K : PySem.W.Frag) (H : Hp) (v : V) (xs : List V) : Prop := ∃ a, v = .ref a ∧ SqT K H a xs
section
variable {K : PySem.W.Frag} {σ : L2.St} {H H' : Hp} {ta tb te : TE} {t : TT} {x y z v : V} {P : V → Hp → Prop} {D : Ends} {tu tz : TS} {g : TG}
theorem TV.ex {xs : List V} (e : Ex H H') (h : TV K H v xs) : TV K H' v xs := let ⟨a, q, s⟩ := h; ⟨a, q, ex_t e s⟩
theorem TV.et {xs : List V} (e : ET K H H') (h : TV K H v xs) : TV K H' v xs := let ⟨a, q, s⟩ := h; ⟨a, q, e _ _ s⟩
theorem tv_ev {xs : List V} {a : Addr} (h : Ev te σ H (.ref a)) (s : SqT K H a xs) : EvP te σ H (fun v H' => TV K H' v xs) := ep_ev h fun _ e => ⟨a, rfl, ex_t e s⟩
theorem tv_evV {xs : List V} (h : Ev te σ H v) (s : TV K H v xs) : EvP te σ H (fun v H' => TV K H' v xs) := ep_ev h fun _ e => s.ex e
theorem tv_cat {xs ys : List V} (ha : EvP ta σ H (fun v H' => TV K H' v xs)) (hb : EvP tb σ H (fun v H' => TV K H' v ys)) (hl : xs.length + ys.length ≤ 100000) : EvP (tOp (rCatA K) ta tb) σ H (fun v H' => TV K H' v (xs ++ ys)) := fun H1 e1 Q q =>
  ha H1 e1 _ fun v H2 e2 hv => hb H2 (e1.trans e2) _ fun u H3 e3 hu => by
    obtain ⟨a, rfl, sa⟩ := hv.ex e3
    obtain ⟨b, rfl, sb⟩ := hu
    refine ⟨a, b, xs, ys, rfl, rfl, sa, sb, sz_of hl, fun z => ?_, fun _ z => ?_, fun _ _ p np => ?_⟩
    · subst z
      exact q _ H3 (e2.trans e3) ⟨b, rfl, sb⟩
    · subst z
      rw [List.append_nil] at q
      exact q _ H3 (e2.trans e3) ⟨a, rfl, sa⟩
    · exact q _ _ ((e2.trans e3).trans (Ex.new np)) ⟨p, rfl, st_of upd_same⟩
theorem tv_tup {ta : TA} {xs : List V} (h : EvA ta σ H xs) (l : xs.length ≤ 100000) : EvP (tTup ta) σ H (fun v H' => TV K H' v xs) := fun H1 e1 Q q => eu_tup h l H1 e1 _ fun p H2 np e2 hp => q _ H2 e2 ⟨p, rfl, st_of hp⟩
theorem tv_sl {tl th : TO} {xs : List V} {lo hi : Option Int} (h : EvP te σ H (fun v H' => TV K H' v xs)) (h1 : EvO tl σ H lo) (h2 : EvO th σ H hi) : EvP (tSl (rSlA K) te tl th) σ H (fun v H' => TV K H' v (cutV xs lo hi)) := fun H1 e Q q =>
  h H1 e _ fun v H2 e2 hv => h1 H2 (e.trans e2) _ fun H3 e3 => h2 H3 ((e.trans e2).trans e3) _ fun H4 e4 => by
    obtain ⟨a, rfl, sa⟩ := hv
    have s4 := ex_t (e3.trans e4) sa
    refine ⟨a, xs, rfl, s4, fun ⟨z1, z2⟩ => ?_, fun _ p np => ?_⟩
    · refine q _ H4 ((e2.trans e3).trans e4) ⟨a, rfl, ?_⟩
      unfold cutV
      rw [z1, z2, List.drop_zero, Nat.sub_zero, List.take_length]
      exact s4
    · exact q _ _ (((e2.trans e3).trans e4).trans (Ex.new np)) ⟨p, rfl, st_of upd_same⟩
theorem cut_from' {xs : List V} {k : Nat} : cutV xs (some (k : Int)) none = xs.drop k := by
  unfold cutV
  rw [HT.sIx_none, HT.sIx_nat]
  by_cases h : k ≤ xs.length
  · rw [Nat.min_eq_left h, List.take_of_length_le (by rw [List.length_drop]; exact Nat.le_refl _)]
  · rw [Nat.min_eq_right (by omega), List.drop_length, List.take_nil, List.drop_of_length_le (by omega)]
theorem cut_to' {xs : List V} {k : Nat} : cutV xs none (some (k : Int)) = xs.take k := by
  unfold cutV
  rw [HT.sIx_none, HT.sIx_nat, List.drop_zero, Nat.sub_zero]
  by_cases h : k ≤ xs.length
  · rw [Nat.min_eq_left h]
  · rw [Nat.min_eq_right (by omega), List.take_length, List.take_of_length_le (by omega)]
theorem tv_is {xs ys : List V} (h : EvP te σ H (fun v H' => TV K H' v xs)) (e : xs = ys) : EvP te σ H (fun v H' => TV K H' v ys) := e ▸ h
theorem tv_nats {ns : List Nat} (h : EvP te σ H (fun v H' => TV K H' v (ns.map vi))) : EvP te σ H (fun v H' => Nats K H' v ns) := h
/-! equality of lists of numbers as data -/
theorem eqv_nats : ∀ a b : List Nat, PyData.eqvAll (a.map fun n => .int ((n : Nat) : Int)) (b.map fun n => .int ((n : Nat) : Int)) = decide (a = b)
  | [], [] => by simp [PyData.eqvAll]
  | [], _ :: _ => by simp [PyData.eqvAll]
  | _ :: _, [] => by simp [PyData.eqvAll]
  | x :: a, y :: b => by
    rw [List.map_cons, List.map_cons, PyData.eqvAll, eqv_nats a b, PyData.eqv]
    by_cases h : x = y
    · subst h
      by_cases h2 : a = b
      · subst h2
        simp
      · simp [h2]
    · have : ((x : Nat) : Int) ≠ ((y : Nat) : Int) := fun z => h (Int.ofNat.inj z)
      simp [h, this]
end
end Dw
namespace Dw
open PySem PySem.Spec PyProof.Rows L2 Evl
section
variable {K : PySem.W.Frag} {σ : L2.St} {H H' : Hp} {ta tb te : TE} {t : TT} {x y z v : V} {P R2 : V → Hp → Prop} {D : Ends} {tu tz : TS} {g : TG} {R : List V → Hp → Prop}
end
section
variable {K : PySem.W.Frag} {σ : L2.St} {H : Hp} {te tl : TE} {D : Ends} {tu tz : TS} {g : TG}
end
end Dw
end
section
/-! max of a tuple of numbers -/
namespace Dw
open PySem PySem.Spec PyProof.Rows L2 Evl PySem.W
theorem maxOf_ge : ∀ (xs : List Int) (x : Int), (∀ y ∈ x :: xs, y ≤ maxOf x xs) ∧ maxOf x xs ∈ x :: xs
  | [], x => ⟨fun y hy => by rw [List.mem_singleton.mp hy]; exact Int.le_refl _, List.mem_cons_self ..⟩
  | z :: xs, x => by
    have e : maxOf x (z :: xs) = maxOf (if x < z then z else x) xs := by
      unfold maxOf
      rw [List.foldl_cons]
      congr 1
      show (if decide (x < z) = true then z else x) = _
      by_cases h : x < z
      · rw [decide_eq_true h, if_pos rfl, if_pos h]
      · rw [decide_eq_false h, if_neg Bool.false_ne_true, if_neg h]
    obtain ⟨a, b⟩ := maxOf_ge xs (if x < z then z else x)
    rw [e]
    have c := a _ (List.mem_cons_self ..)
    refine ⟨fun y hy => ?_, ?_⟩
    · rcases List.mem_cons.mp hy with rfl | hy
      · split at c
        · rename_i h; rw [if_pos h]; omega
        · rename_i h; rw [if_neg h]; exact c
      · rcases List.mem_cons.mp hy with rfl | hy
        · split at c
          · rename_i h; rw [if_pos h]; exact c
          · rename_i h; rw [if_neg h]; omega
        · exact a y (List.mem_cons_of_mem _ hy)
    · rcases List.mem_cons.mp b with b | b
      · rw [b]
        split
        · exact List.mem_cons_of_mem _ (List.mem_cons_self ..)
        · exact List.mem_cons_self ..
      · exact List.mem_cons_of_mem _ (List.mem_cons_of_mem _ b)
def rMaxT (K : PySem.W.Frag) : List V → Hp → VK → Prop := fun vs H Q => ∃ (a : Addr) (ns : List Int), vs = [V.ref a] ∧ SqT K H a (ns.map V.int) ∧ 0 < ns.length ∧ ∀ m, m ∈ ns → (∀ y, y ∈ ns → y ≤ m) → Q (.int m) H
theorem cr_maxT {X : Cx} {k : Nat} (hc : X.calm = true) (hr : Room k X.A) : CallR X (.builtin "max") (rMaxT X.K) := by
  intro pins s σ H vs us Q I r h
  obtain ⟨a, ns, rfl, hs, hne, q⟩ := h
  obtain ⟨its, rv, hl, _⟩ := I.tuple hs
  rw [Vals.ref1 r]
  cases ns with
  | nil => exact absurd hne (Nat.lt_irrefl 0)
  | cons x xs =>
    have hi : IntsAre its.toArray.toList (x :: xs) := by rw [List.toList_toArray]; exact ints_of rv
    have hu := hr.units
    have ho : HoldAll s.heap its.toArray.toList (x :: xs) := ⟨[], ints_readAll _ hi⟩
    refine max_tuple_datum (α := Int) (I.ok.hd hc) hl ho (by show X.A.units + 1 + 0 < _; omega) fun i v h' tk hv ho2 hk => ?_
    obtain ⟨a2, b2⟩ := maxOf_ge xs x
    obtain ⟨as, rd⟩ := ho2
    have rd' : Reads h' v (.int (maxOf x xs)) as := rd
    cases rd' with
    | int _ t => exact ⟨.int _, H, I.kept hk, ⟨t, rfl⟩, q _ b2 a2⟩
end Dw
end
section
/-! the least worth, begin by begin -/
namespace M25
open M20
theorem g_mem {l : List Nat} {k : Nat} (h : k < l.length) : g l k ∈ l := List.mem_iff_getElem?.mpr ⟨k, g_eq h⟩
end M25
end
section
/-! row by row, table by table, from behind -/
namespace M25
open M20
theorem need_max : ∀ {args : List Nat} {m : Nat}, m ∈ args → (∀ k ∈ args, k ≤ m) → need args = m + 1
  | [], _, h, _ => nomatch h
  | a :: r, m, h, le => by
    have u := need_le (args := a :: r) (m := m + 1) fun k hk => by have := le k hk; omega
    have l := need_lt m h
    omega
theorem rows_len' (n : Nat) : ∀ p, (rows n p).length = n ^ p
  | 0 => rfl
  | p + 1 => by
    show ((rows n p).flatMap _).length = _
    rw [List.length_flatMap, Nat.pow_succ]
    have : (rows n p).map (fun r => ((List.range n).map fun k => r ++ [k]).length) = List.replicate (rows n p).length n := by
      rw [List.eq_replicate_iff]
      refine ⟨by rw [List.length_map], fun b hb => ?_⟩
      obtain ⟨r, _, rfl⟩ := List.mem_map.mp hb
      simp
    rw [this, List.sum_replicate_nat, rows_len' n p]
end M25
end
section
/-! sorted lists: one for the same members -/
namespace M25
open M20
def ia (a : List Nat) : List Int := a.map fun k => ((k : Nat) : Int)
theorem ia_inj {a b : List Nat} (h : ia a = ia b) : a = b := by
  unfold ia at h
  induction a generalizing b with
  | nil =>
    cases b with
    | nil => rfl
    | cons y b => cases h
  | cons x a ih =>
    cases b with
    | nil => cases h
    | cons y b =>
      rw [List.map_cons, List.map_cons, List.cons.injEq] at h
      rw [ih h.2, Int.ofNat.inj h.1]
def leO (a b : List Nat) : Bool := decide (ia a ≤ ia b)
theorem leO_trans (a b c : List Nat) (h1 : leO a b = true) (h2 : leO b c = true) : leO a c = true := decide_eq_true (List.le_trans (of_decide_eq_true h1) (of_decide_eq_true h2))
theorem leO_total (a b : List Nat) : (leO a b || leO b a) = true := by
  rcases List.le_total (ia a) (ia b) with h | h
  · unfold leO
    rw [decide_eq_true h]
    rfl
  · unfold leO
    rw [decide_eq_true h, Bool.or_true]
theorem leO_anti {a b : List Nat} (h1 : leO a b = true) (h2 : leO b a = true) : a = b := ia_inj (List.le_antisymm (of_decide_eq_true h1) (of_decide_eq_true h2))
def srtO (os : List (List Nat)) : List (List Nat) := os.mergeSort leO
theorem srt_perm (os : List (List Nat)) : (srtO os).Perm os := List.mergeSort_perm _ _
theorem srt_mem {os : List (List Nat)} {a : List Nat} : a ∈ srtO os ↔ a ∈ os := (srt_perm os).mem_iff
theorem srt_len (os : List (List Nat)) : (srtO os).length = os.length := (srt_perm os).length_eq
theorem srt_sorted (os : List (List Nat)) : (srtO os).Pairwise fun a b => leO a b = true := List.pairwise_mergeSort leO_trans leO_total os
theorem sorted_one {l m : List (List Nat)} (h : l.Perm m) (sl : l.Pairwise fun a b => leO a b = true) (sm : m.Pairwise fun a b => leO a b = true) : l = m := by
  induction l generalizing m with
  | nil => exact (List.nil_perm.mp h).symm
  | cons x l ih =>
    cases m with
    | nil => exact absurd h.symm (by simp)
    | cons y m =>
      have e : x = y := by
        rw [List.pairwise_cons] at sl sm
        rcases List.mem_cons.mp (h.mem_iff.mp (List.mem_cons_self ..)) with z | z
        · exact z
        · rcases List.mem_cons.mp (h.mem_iff.mpr (List.mem_cons_self ..)) with z2 | z2
          · exact z2.symm
          · exact leO_anti (sl.1 y z2) (sm.1 x z)
      subst e
      rw [List.pairwise_cons] at sl sm
      rw [ih (List.perm_cons x |>.mp h) sl.2 sm.2]
/-- rising lists of one kind of members are one -/
theorem up_one {l m : List Int} (hl : l.Pairwise (· < ·)) (hm : m.Pairwise (· < ·)) (h : ∀ x, x ∈ l ↔ x ∈ m) : l = m := by
  induction l generalizing m with
  | nil =>
    cases m with
    | nil => rfl
    | cons y m => exact absurd ((h y).mpr (List.mem_cons_self ..)) (by simp)
  | cons x l ih =>
    cases m with
    | nil => exact absurd ((h x).mp (List.mem_cons_self ..)) (by simp)
    | cons y m =>
      rw [List.pairwise_cons] at hl hm
      have e : x = y := by
        rcases List.mem_cons.mp ((h x).mp (List.mem_cons_self ..)) with z | z
        · exact z
        · rcases List.mem_cons.mp ((h y).mpr (List.mem_cons_self ..)) with z2 | z2
          · exact z2.symm
          · have := hl.1 y z2
            have := hm.1 x z
            omega
      subst e
      rw [ih hl.2 hm.2 fun z => ⟨fun hz => by
        rcases List.mem_cons.mp ((h z).mp (List.mem_cons_of_mem _ hz)) with e | e
        · have := hl.1 z hz
          omega
        · exact e, fun hz => by
        rcases List.mem_cons.mp ((h z).mpr (List.mem_cons_of_mem _ hz)) with e | e
        · have := hm.1 z hz
          omega
        · exact e⟩]
theorem ia_up {l : List Nat} (h : l.Pairwise (· < ·)) : (ia l).Pairwise (· < ·) := by
  unfold ia
  rw [List.pairwise_map]
  exact h.imp fun z => Int.ofNat_lt.mpr z
theorem nd_few {l : List Int} {B : Nat} (nd : l.Nodup) (h : ∀ x ∈ l, 0 ≤ x ∧ x < B) : l.length ≤ B := by
  have nd2 : (l.map Int.toNat).Nodup := by
    rw [List.nodup_iff_pairwise_ne, List.pairwise_map]
    refine (List.nodup_iff_pairwise_ne.mp nd).imp_of_mem fun {a b} ha hb ne e => ne ?_
    have h1 := h a ha
    have h2 := h b hb
    omega
  have := len_le (l.map Int.toNat) (List.range B) nd2 fun x hx => by
    obtain ⟨y, hy, rfl⟩ := List.mem_map.mp hx
    have := h y hy
    exact List.mem_range.mpr (by omega)
  rw [List.length_map, List.length_range] at this
  exact this
end M25
namespace M25
open M20
theorem allc_bgs (n k : Nat) : Bgs n k (allc n k [[]]) := by
  have := (start_good n).bgs.allc (k := k)
  rw [show ln [[]] = 0 from rfl, Nat.zero_add] at this
  exact this
theorem allc_few {n k : Nat} (h : k ≤ n) (n6 : n ≤ 6) : (allc n k [[]]).length ≤ 720 := Nat.le_trans (bgs_few (allc_bgs n k) h) (fact6 n6)
end M25
end
section
/-! sets of numbers: set(a list), known well enough that they can be sorted -/
namespace Dw
open PySem PySem.Spec PyProof.Rows L2
/-- a set at a of just the numbers in xs -/
def ISet (w : World) (h : Heap) (a : Addr) (xs : List Int) : Prop := ∃ n, n ≤ xs.length ∧ SetR w h a (fun k => decide (k ∈ xs)) n
theorem ISet.at {w : World} {h h' : Heap} {a : Addr} {xs : List Int} (T : ISet w h a xs) (k : ∀ o, h.get? a = some o → h'.get? a = some o) : ISet w h' a xs := let ⟨n, l, r⟩ := T; ⟨n, l, r.at k⟩
section
variable {P : Program} {w : World} {A : Around} {E : Value → Shared → Prop} {s : Shared}
theorem iset_add {a : Addr} {xs : List Int} {x : Int} {tk : Tok} {Q : Bool → Shared → Prop} (T : ISet w s.heap a xs) (room : xs.length + 1 < scanBound)
    (next : ∀ h', Heap.SameBut a s.heap h' → ISet w h' a (xs ++ [x]) → ∀ b, Q b { s with heap := h' }) : wpAny (model P w) A (setAddHashed a (.int x tk) ((intKind P w).hash x)) Q E s := by
  obtain ⟨n, l, r⟩ := T
  refine setR_add_hashed r (by omega) fun h' but r2 => next h' but ⟨_, ?_, SetR.congr r2 fun k => ?_⟩ _
  · rw [List.length_append]
    split
    · omega
    · show n + 1 ≤ xs.length + 1
      omega
  · show decide (k ∈ xs ++ [x]) = (decide (k ∈ xs) || decide (k = x))
    by_cases h1 : k ∈ xs
    · rw [decide_eq_true h1, decide_eq_true (List.mem_append_left _ h1)]
      rfl
    · by_cases h2 : k = x
      · rw [decide_eq_true h2, decide_eq_true (List.mem_append_right _ (List.mem_singleton.mpr h2)), Bool.or_true]
      · rw [decide_eq_false h1, decide_eq_false h2, decide_eq_false (fun z => by
          rcases List.mem_append.mp z with z | z
          · exact h1 z
          · exact h2 (List.mem_singleton.mp z))]
        rfl
theorem iset_fresh {h : Heap} {a : Addr} (at_ : h.get? a = some (newSet w)) : ISet w h a [] := by
  refine ⟨0, Nat.le_refl _, _, #[], 0, _, at_, ⟨rfl, rfl, rfl⟩, rfl, (fun e he => by simp at he), (by simp), (fun k => by simp), (by decide), (by rfl), rfl, List.Pairwise.nil, ?_⟩
  show _ ∨ (!w.params.followText "set-order") = true
  cases w.params.followText "set-order"
  · exact .inr rfl
  · exact .inl rfl
/-- set.update's loop over numbers -/
theorem int_loop {I S : Addr} {fp wr : List Addr} {G : Array GenState → Array GenState → Prop} {n : Nat} {Pv : Nat → Value → Prop} {St : Nat → Shared → Prop} {R : Result → Shared → Prop} (W : WalksS P w A.in1 I fp wr G n Pv St) (off : S ∉ fp) (xs : List Int) (len : n = xs.length)
    (few : xs.length < 1000) (vals : ∀ i v, Pv i v → ∃ x tk, xs[i]? = some x ∧ v = Value.int x tk) :
    ∀ (left i : Nat) (s : Shared), n - i = left → i ≤ n → St i s → ISet w s.heap S (xs.take i) → (∀ s', Moved (S :: wr) G s s' → ISet w s'.heap S xs → R (.ok (.ret .none)) s') →
      codeAny (model P w) A (.builtin "set.update.loop" ⟨[.ref S, .ref I], []⟩) R s := by
  have offW : S ∉ wr := fun z => off (W.sub _ z)
  intro left
  induction left with
  | zero =>
    intro i s e le st T end_
    have all : i = n := by omega
    subst all
    refine codeAny_builtin F.entry_set_update_loop ?_
    rw [Around.under_plainId F.plain_set_update_loop _]
    refine wpAny_bind (m := pyNext (.ref I)) (W.done s _ _ st fun s1 mv => ?_)
    refine wpAny_pure (end_ s1 (mv.mono fun b hb => List.mem_cons_of_mem _ hb) ?_)
    rw [len, List.take_length] at T
    exact T.at fun o q => mv.heap S o offW q
  | succ left ih =>
    intro i s e le st T end_
    have lt : i < n := by omega
    refine codeAny_builtin F.entry_set_update_loop ?_
    rw [Around.under_plainId F.plain_set_update_loop _]
    refine wpAny_bind (m := pyNext (.ref I)) (W.item i s _ _ lt st fun v s1 pv st1 mv => ?_)
    obtain ⟨x, tk, hx, isx⟩ := vals i v pv
    subst isx
    have T1 : ISet w s1.heap S (xs.take i) := T.at fun o q => mv.heap S o offW q
    have l1 : (xs.take i).length ≤ i := List.length_take_le _ _
    have room : (xs.take i).length + 1 < scanBound := by
      show _ < 4096
      omega
    show wpAny _ A.in1 (holding [Value.int x tk] (setAdd S (Value.int x tk)) >>= _) _ _ s1
    refine wpAny_bind (wpAny_holding ?_)
    unfold setAdd
    refine wpAny_holding (wpAny_bind ((intKind P w).pyHash (intKind_is P w x tk) ?_))
    refine iset_add (s := { s1 with toks := s1.toks + 1 }) T1 room fun h' but T2 _ => ?_
    have T3 : ISet w h' S (xs.take (i + 1)) := by
      rw [List.take_add_one, hx]
      exact T2
    refine wpAny_pure ⟨plainId_quiet F.plain_set_update_loop _, ih (i + 1) _ (by omega) lt (W.frame _ s1 _ _ st1 (Nat.le_add_right _ _) fun b hb o q => ?_) T3 fun s2 mv2 T4 => ?_⟩
    · rw [but.2 b (fun z : b = S => off (z ▸ hb))]
      exact q
    · refine end_ s2 (Moved.trans W.gtrans ((mv.mono fun b hb => List.mem_cons_of_mem _ hb).then_heap (Nat.le_add_right _ _) fun b o nb q => ?_) mv2) T4
      rw [but.2 b (fun z : b = S => nb (z ▸ List.mem_cons_self ..))]
      exact q
set_option maxHeartbeats 8000000 in
/-- set(a list of numbers) -/
theorem call_setI {l : Addr} {cells : Array Value} {xs : List Int} {Q : Value → Shared → Prop} (calm : A.handled = none) (isL : s.heap.IsList l cells) (txts : IntsAre cells.toList xs) (few : xs.length < 1000)
    (next : ∀ (h' : Heap) (tk : Nat), ISet w h' s.heap.objs.size xs → (∀ b o, s.heap.get? b = some o → h'.get? b = some o) → Q (.ref s.heap.objs.size) { s with heap := h', toks := tk }) :
    wpAny (model P w) A (call (.type "set") [.ref l]) Q E s := by
  have size : cells.size = xs.length := by
    have z := txts.length
    rw [Array.length_toList] at z
    exact z
  obtain ⟨c, tl, isMro⟩ := F.called_set.mro
  have made := F.called_set.made
  have under := F.called_set.sub
  refine wpAny_call (codeAny_of_tree ?_)
  show wpAny _ _ (callAny (.type "set") _) _ _ _
  refine wpAny_pure ⟨Code.quiet_builtin _ (by decide +kernel), codeAny_builtin F.entry_type_call ?_⟩
  rw [Around.under_plain (weight_type_call_type "set" [.ref l] []) rfl]
  have k1 := F.called_set.notType
  have k2 := F.called_set.canCreate
  have k3 := F.typeCall_set_1 (.ref l)
  repeat (any_goals (first | assumption | wp_step))
  refine codeAny_mono (code_set_led1 (.ref l) (E := E) (Q₁ := fun ob s1 => ob = .ref s.heap.objs.size ∧ s1 = { s with heap := s.heap.push (newSet w) }) ⟨rfl, rfl⟩) fun r s1 done => ?_
  match r, done with
  | .error _, bad => exact bad
  | .ok .next, bad => exact bad.elim
  | .ok .brk, bad => exact bad.elim
  | .ok .cont, bad => exact bad.elim
  | .ok (.ret ob), both =>
    obtain ⟨e1, e2⟩ := both
    subst e1
    subst e2
    have atS : (s.heap.push (newSet w)).get? s.heap.objs.size = some (newSet w) := Heap.get?_push_size _ rfl
    have isS : Shared.TypeIs { s with heap := s.heap.push (newSet w) } (.ref s.heap.objs.size) "set" := ⟨_, atS, rfl⟩
    have i1 := F.called_set.init.lookup
    have i2 := F.called_set.init.bind (.ref s.heap.objs.size)
    repeat (any_goals (first | assumption | wp_step))
    refine codeAny_mono (codeAny_call_builtin (R := wants (fun r s2 => r = .none ∧ ∃ h' tk, s2 = { s with heap := h', toks := tk } ∧ ISet w h' s.heap.objs.size xs ∧ ∀ b o, s.heap.get? b = some o → h'.get? b = some o) E) F.called_set.init.plain F.entry_set_init (check_set_init_1 isS ?_)) fun r2 s2 done2 => ?_
    · obtain ⟨⟨cl, dc, dat, sl⟩, atL, isCls, cap, isSeq⟩ := isL
      have c1 : cl = .type "list" := isCls
      have c2 : dat = .seq cells cap := isSeq
      subst c1
      subst c2
      have atL1 : (s.heap.push (newSet w)).get? l = some { cls := .type "list", dict := dc, data := .seq cells cap, slots := sl } := Heap.get?_push_of_some _ atL
      have n1 := F.sub_list_set
      have n2 := F.sub_list_frozenset
      have n3 : (Value.type "list" == Value.type "dict") = false := by decide
      have isL1 : (s.heap.push (newSet w)).IsList l cells := ⟨_, atL1, rfl, cap, rfl⟩
      unfold Builtin.«set.__init__» noKeywords Builtin.Frozenset.updateFrom
      generalize isIter : pyIter = iter_
      wp_walk
      subst isIter
      refine wpAny_pyIter_list isL1 (wpAny_bind (wpAny_runValue ?_))
      have inL : l < s.heap.objs.size := Heap.lt_size atL
      have size1 : (s.heap.push (newSet w)).objs.size = s.heap.objs.size + 1 := Heap.size_push ..
      have far : l ≠ (s.heap.push (newSet w)).objs.size := by
        rw [size1]
        exact Nat.ne_of_lt (Nat.lt_succ_of_lt inL)
      have off : s.heap.objs.size ∉ [(s.heap.push (newSet w)).objs.size, l] := fun z => by
        rw [size1] at z
        rcases List.mem_cons.mp z with y | y
        · exact absurd y (Nat.ne_of_lt (Nat.lt_succ_self _))
        · exact absurd (List.mem_singleton.mp y) (Nat.ne_of_gt inL)
      have calm3 : A.in1.in1.in1.handled = none := calm
      have vals : ∀ (i : Nat) (v : Value), cells[i]? = some v → ∃ x tk, xs[i]? = some x ∧ v = Value.int x tk := fun i v hv => by
        have q : cells.toList[i]? = some v := by rw [Array.getElem?_toList]; exact hv
        have il : i < xs.length := by
          have z := (List.getElem?_eq_some_iff.mp q).1
          rw [Array.length_toList, size] at z
          exact z
        obtain ⟨tk, e⟩ := IntsAre.int_at txts i v q
        refine ⟨xs.getD i 0, tk, ?_, e⟩
        rw [List.getD_eq_getElem?_getD, List.getElem?_eq_getElem il]
        rfl
      refine int_loop ((Walks.list calm3 _ l far cells).toS) off xs size few vals (cells.size - 0) 0 _ (by omega) (Nat.zero_le _) ⟨⟨_, Heap.get?_push_size _ rfl, rfl, rfl⟩, isL1.push _⟩ (iset_fresh (Heap.get?_push_of_some _ atS)) fun s3 mv T => ?_
      obtain ⟨h3, g3, d3, tk3, os3⟩ := s3
      have q1 : g3 = s.gens := mv.gens
      have q2 : d3 = s.drawn := mv.drawn
      have q3 : os3 = s.os := mv.os
      subst q1
      subst q2
      subst q3
      refine wpAny_pure (wpAny_pure ⟨rfl, h3, tk3, rfl, T, fun b o e => ?_⟩)
      have lb := Heap.lt_size e
      refine mv.heap b o (fun z => ?_) (Heap.get?_push_of_some _ (Heap.get?_push_of_some _ e))
      rcases List.mem_cons.mp z with y | y
      · exact absurd y (Nat.ne_of_lt lb)
      · have y2 := List.mem_singleton.mp y
        rw [size1] at y2
        exact absurd y2 (Nat.ne_of_lt (Nat.lt_succ_of_lt lb))
    · match r2, done2 with
      | .error _, bad => exact bad
      | .ok .next, bad => exact bad.elim
      | .ok .brk, bad => exact bad.elim
      | .ok .cont, bad => exact bad.elim
      | .ok (.ret _), good =>
        obtain ⟨e1, h', tk, e2, T, kept⟩ := good
        subst e1
        subst e2
        repeat (any_goals (first | assumption | wp_step))
        exact next h' tk T kept
end
theorem iset_few {h : Heap} {a : Addr} {xs : List Int} {n : Nat} (r : SetR w h a (fun k => decide (k ∈ xs)) n) {B : Nat} (hB : ∀ x ∈ xs, 0 ≤ x ∧ x < (B : Int)) : n ≤ B := by
  obtain ⟨o, es, ep, t, _, _, _, _, nd, hm, _, _, hn, _⟩ := r
  have := M25.nd_few nd fun x hx => hB x (of_decide_eq_true ((hm x).mpr hx))
  rw [List.length_map, Array.length_toList, hn] at this
  exact this
section
variable {X : Cx}
def rSetI (K : PySem.W.Frag) (w : World) : List V → Hp → VK → Prop := fun vs H Q => ∃ (l : Addr) (xs : List Int), vs = [.ref l] ∧ SqL K H l (xs.map V.int) ∧ xs.length < 1000 ∧ ∀ p n, (∀ B : Nat, (∀ x ∈ xs, 0 ≤ x ∧ x < (B : Int)) → n ≤ B) → H p = none → Q (.ref p) (upd H p (SetO w p (fun k => decide (k ∈ xs)) n))
theorem cr_setI (calm : X.calm = true) : CallR X (.type "set") (rSetI X.K X.w) := by
  intro pins s σ H vs us Q I rel want
  obtain ⟨l, xs, one, isL, few, q⟩ := want
  subst one
  obtain ⟨u, isU, ru⟩ := vals1 rel
  subst isU
  cases (show u = Value.ref l from ru)
  obtain ⟨its, rv, at_, _⟩ := I.list isL
  have txts : IntsAre its.toArray.toList xs := rv.ints
  refine call_setI (I.ok.hd calm) at_.isList txts few fun h' tk T kept => ?_
  obtain ⟨n, ln, T⟩ := T
  exact ⟨.ref s.heap.objs.size, _, I.laid (t' := tk) kept (Nat.le_refl s.heap.objs.size) (setO_new T), rfl, q _ n (fun B hB => iset_few T hB) (I.hok.fresh (Nat.le_refl _))⟩
end
end Dw
end
section
/-! sorted(a list of tuples of numbers), of any length: as mergeSort lays it by the order of lists -/
namespace Dw
open PySem PySem.Spec PyProof.Rows L2 Evl PySem.W
end Dw
end
section
/-! readings of sorted(..) and set(..) over new lists -/
namespace Dw
open PySem PySem.Spec PyProof.Rows L2 Evl M25
section
variable {K : PySem.W.Frag} {σ : L2.St} {H H' : Hp} {te : TE} {w : World}
/-- a list and a new list -/
theorem elp_cat {ta tb : TE} {R : List V → Hp → Prop} {a : Addr} {xs : List V} (ha : Ev ta σ H (.ref a)) (hx : H a = some (.lst xs)) (hb : EvLP tb σ H R) (hz : ∀ ws H', R ws H' → xs.length + ws.length ≤ 100000) (st : ∀ ws H H', Ex H H' → R ws H → R ws H') : EvLP (tOp rCat ta tb) σ H (fun us H' => ∃ ws, us = xs ++ ws ∧ R ws H') := fun H1 e Q q =>
  do_op (ha H1 e _ fun H2 e2 => hb H2 (e.trans e2) _ fun p ws H3 np e3 hp r => ⟨a, p, xs, ws, rfl, rfl, e3 _ _ (e2 _ _ (e _ _ hx)), hp, sz_of (hz ws H3 r), fun l nl => q l _ _ (fresh_back (e2.trans e3) nl) ((e2.trans e3).trans (Ex.new nl)) upd_same ⟨ws, rfl, st _ _ _ (Ex.new nl) r⟩⟩)
theorem inV_vi (k : Nat) : ∀ l : List Nat, inV (vi k) (l.map vi) = decide (k ∈ l)
  | [] => rfl
  | x :: l => by
    have ih := inV_vi k l
    unfold inV at ih ⊢
    rw [List.map_cons, List.any_cons, ih]
    by_cases h : k = x
    · subst h
      have : eqV (vi k) (vi k) = true := by simp [eqV]
      rw [this, decide_eq_true (List.mem_cons_self ..)]
      rfl
    · have : eqV (vi x) (vi k) = false := by
        simp [eqV]
        omega
      rw [this, Bool.false_or]
      exact decide_eq_decide.mpr ⟨fun z => List.mem_cons_of_mem _ z, fun z => (List.mem_cons.mp z).resolve_left h⟩
theorem flat_vi (l : List Nat) : (l.map vi).all flatV = true := by
  rw [List.all_eq_true]
  intro x hx
  obtain ⟨k, _, rfl⟩ := List.mem_map.mp hx
  rfl
end
end Dw
theorem L2.Room.units65 {k : Nat} {A : PySem.Around} (r : L2.Room k A) : A.units + 65 < PySem.cLine := by
  have := r.un
  omega
namespace Dw
open PySem PySem.Spec PyProof.Rows L2 Evl M25
section
variable {K : PySem.W.Frag} {σ : L2.St} {H H' : Hp} {te ta tb : TE} {w : World}
/-- two lists of the same numbers -/
theorem ev_neI {ns : List Nat} (ha : EvL ta σ H (ns.map vi)) (hb : EvL tb σ H (ns.map vi)) (g1 : ∀ k ∈ ns, k ≤ 1000) (l : ns.length ≤ 36) : Ev (tOp (rNeD K) ta tb) σ H (.bl false) := fun H1 e Q q =>
  do_op (ha H1 e _ fun p H2 np e2 hp => hb H2 (e.trans e2) _ fun p2 H3 np2 e3 hp2 => rv_neD (K := K) (d := .list (ns.map fun n => .int ((n : Nat) : Int))) (fun H4 e4 => .lst (sq_of (e4 _ _ (e3 _ _ hp))) (dps_nats ns)) (fun H4 e4 => .lst (sq_of (e4 _ _ hp2)) (dps_nats ns)) (gd_lst (k := 0) (W := 10) (L := 36) (fun d hd => by
      obtain ⟨n, hn, rfl⟩ := List.mem_map.mp hd
      exact gd_int (g1 n hn)) (by rw [List.length_map]; exact l)) (by decide) H3 (Ex.refl _) Q fun H4 e4 => q H4 ((e2.trans e3).trans e4))
def dL (ns : List Nat) : PyData := .list (ns.map fun n => .int ((n : Nat) : Int))
theorem eqv_dL (a b : List Nat) : PyData.eqv (dL a) (dL b) = decide (a = b) := by
  unfold dL
  rw [PyData.eqv]
  exact eqv_nats a b
theorem gd_dL {ns : List Nat} (h : ∀ k ∈ ns, k ≤ 1000) (l : ns.length ≤ 36) : Gd 1 396 (dL ns) := gd_lst (k := 0) (W := 10) (L := 36) (fun d hd => by
  obtain ⟨n, hn, rfl⟩ := List.mem_map.mp hd
  exact gd_int (h n hn)) (by rw [List.length_map]; exact l)
end
end Dw
end
section
/-! sorted(a list of things that read as data), of any length -/
namespace Dw
open PySem PySem.Spec PyProof.Rows L2 Evl PySem.W M25
def leD (p q : V × PyData) : Bool := dataLe false (fun p : V × PyData => p.2) p q
def rSortD (K : PySem.W.Frag) : List V → Hp → VK → Prop := fun vs H Q => ∃ (a : Addr) (ps : List (V × PyData)), vs = [.ref a] ∧ SqL K H a (ps.map (·.1)) ∧ (∀ p ∈ ps, Dp K H p.1 p.2) ∧ AllAlike (ps.map (·.2)) ∧ Sortable (ps.map (·.2)) ∧ (∀ p ∈ ps, p.2.depth ≤ 40) ∧
  ∀ l, H l = none → Q (.ref l) (upd H l (.lst ((ps.mergeSort leD).map (·.1))))
theorem eachD_vals {X : Cx} {pins : List (Addr × Obj)} {σ : L2.St} {H : Hp} {s : Shared} (I : Inv X pins σ H s) : ∀ {ps : List (V × PyData)} {vs : List Value}, Vals (ps.map (·.1)) vs → (∀ p ∈ ps, Dp X.K H p.1 p.2) →
    EachIs (fun v (p : V × PyData) => RelV p.1 v) vs ps ∧ EachIs (fun v (p : V × PyData) => ∃ as, Reads s.heap v p.2 as) vs ps
  | [], _, .nil, _ => ⟨.nil, .nil⟩
  | p :: ps, _, .cons r rs, h => by
    obtain ⟨a, b⟩ := eachD_vals I (ps := ps) rs fun q hq => h q (List.mem_cons_of_mem _ hq)
    exact ⟨.cons r a, .cons (Dp.reads I _ _ _ (h p (List.mem_cons_self ..)) r) b⟩
theorem eachD_back : ∀ {ps : List (V × PyData)} {vs : List Value}, EachIs (fun v (p : V × PyData) => RelV p.1 v) vs ps → Vals (ps.map (·.1)) vs
  | [], _, .nil => .nil
  | p :: ps, _, .cons r rs => .cons r (eachD_back rs)
theorem cr_sortD {X : Cx} {k : Nat} (hr : Room k X.A) : CallR X (.builtin "sorted") (rSortD X.K) := by
  intro pins s σ H vs us Q I r h
  obtain ⟨a, ps, rfl, hs, hd, hal, hso, hdp, q⟩ := h
  obtain ⟨its, rv, hl, hz⟩ := I.list hs
  rw [Vals.ref1 r]
  obtain ⟨ea, eb⟩ := eachD_vals I rv hd
  have hu := hr.un
  refine sorted_data (enc := fun p : V × PyData => p.2) (bs := ps) hl.isList ea eb hal hso (by rw [List.length_map] at hz; exact hz) (fun b hb => ?_) fun out lo eo => ?_
  · have := hdp b hb
    show X.A.units + 2 + b.2.depth < cLine
    omega
  · obtain ⟨ep, he'⟩ := PyProof.Rows.sortedAll_at s.heap its (List.toArray out)
    have hlen : ((ps.mergeSort leD).map (·.1)).length ≤ sizeLine := by
      rw [List.length_map, List.length_mergeSort]
      rw [List.length_map] at hz
      exact hz
    exact ⟨.ref _, upd H (s.heap.objs.size + 1) (.lst ((ps.mergeSort leD).map (·.1))), I.laid (t' := s.toks) (fun _ _ => PyProof.Rows.sortedAll_old) (Nat.le_succ _) ⟨hlen, out, ep, eachD_back eo, he'⟩, rfl, q _ (I.hok.fresh (Nat.le_succ _))⟩
/-- lists of numbers: the order of lists -/
theorem leD_rows (ps : List (V × List Nat)) : (ps.map fun p => (p.1, dL p.2)).mergeSort leD = (ps.mergeSort fun a b => leO a.2 b.2).map fun p => (p.1, dL p.2) := by
  refine (List.map_mergeSort (r := fun a b : V × List Nat => leO a.2 b.2) (s := leD) (f := fun p : V × List Nat => (p.1, dL p.2)) fun a _ b _ => ?_).symm
  show decide (ia a.2 ≤ ia b.2) = leD (a.1, dL a.2) (b.1, dL b.2)
  have := congrFun (congrFun (dataLe_rows (β := V × List Nat) fun p => ia p.2) a) b
  have e : ∀ l : List Nat, (l.map fun n => PyData.int ((n : Nat) : Int)) = (ia l).map .int := fun l => by
    unfold ia
    rw [List.map_map]
    rfl
  rw [← this]
  show (!dataLt (.list ((ia b.2).map .int)) (.list ((ia a.2).map .int))) = (!dataLt (dL b.2) (dL a.2))
  unfold dL
  rw [e, e]
end Dw
end
section
/-! a tuple turned about, t[::-1]; a list made longer by a tuple -/
namespace Dw
open PySem PySem.Spec PyProof.Rows L2
section
variable {P : Program} {w : World} {A : Around} {E : Value → Shared → Prop} {s : Shared}
end
section
variable {X : Cx}
end
end Dw
end
section
/-! dict(zip(a, b)), a and b lists or tuples -/
namespace Dw
open PySem PySem.Spec PyProof.Rows L2 Evl
section
variable {prog : Program} {w : World} {A : Around} {E : Value → Shared → Prop} {s : Shared} {z TI TO T p q : Addr} {F G : List Addr} {n m i : Nat} {P R : Nat → Value → Prop} {U V : Nat → Heap → Prop} {f : Bool} {oT : Obj}
end
/-- a list or a tuple, and its walker -/
def SqO (t : Bool) (h : Heap) (l : Addr) (xs : Array Value) : Prop := if t = true then h.IsTuple l xs else h.IsList l xs
def SqI (t : Bool) (it l : Addr) (xs : Array Value) (i : Nat) (h : Heap) : Prop := if t = true then h.IsTupleIter it l i ∧ h.IsTuple l xs else h.IsListIter it l i ∧ h.IsList l xs
theorem SqI.keep {t : Bool} {it l : Addr} {xs : Array Value} {i : Nat} {h h' : Heap} (x : SqI t it l xs i h) (k : ∀ b, b = it ∨ b = l → ∀ o, h.get? b = some o → h'.get? b = some o) : SqI t it l xs i h' := by
  cases t
  · exact And.intro (x.1.at fun o e => k it (.inl rfl) o e) (x.2.at fun o e => k l (.inr rfl) o e)
  · exact And.intro (x.1.at fun o e => k it (.inl rfl) o e) (x.2.at fun o e => k l (.inr rfl) o e)
/-! the expression -/
theorem SqO.lt {t : Bool} {h : Heap} {l : Addr} {xs : Array Value} (x : SqO t h l xs) : l < h.objs.size := by
  cases t
  · obtain ⟨o, e, _⟩ := (show h.IsList l xs from x)
    exact Heap.lt_size e
  · obtain ⟨o, e, _⟩ := (show h.IsTuple l xs from x)
    exact Heap.lt_size e
abbrev itOf (t : Bool) (l : Addr) : Obj := { cls := .type (if t = true then "tuple_iterator" else "list_iterator"), data := .fields #[.ref l, .int 0 0] }
theorem SqI.start {t : Bool} {h h' : Heap} {it l : Addr} {xs : Array Value} (x : SqO t h l xs) (k : ∀ b o, h.get? b = some o → h'.get? b = some o) (e : h'.get? it = some (itOf t l)) : SqI t it l xs 0 h' := by
  cases t
  · exact And.intro ⟨_, e, rfl, rfl⟩ (Heap.IsList.at (show h.IsList l xs from x) fun o q => k l o q)
  · exact And.intro ⟨_, e, rfl, rfl⟩ (Heap.IsTuple.at (show h.IsTuple l xs from x) fun o q => k l o q)
end Dw
end
section
/-! promises of new lists; comprehensions over a zip; tuple.index of texts; wider sums -/
namespace Dw
open PySem PySem.Spec PyProof.Rows L2 Evl RZ
section
variable {K : PySem.W.Frag} {σ : L2.St} {H H' : Hp} {ta tb te : TE} {t : TT} {x y z v : V} {D : Ends} {tu tz : TS} {g : TG}
theorem ev_modM {a b : Nat} (ha : Ev ta σ H (vi a)) (hb : Ev tb σ H (vi b)) (b0 : 0 < b) : Ev (tOp (rI (fun _ j => 0 < j) fun i j => .int (i % j)) ta tb) σ H (vi (a % b)) := ev_is (ev_op ha hb (rv_I (by show (0 : Int) < (b : Int); omega))) (by show V.int ((a : Int) % (b : Int)) = V.int ((a % b : Nat) : Int); rw [Int.natCast_emod])
theorem ev_subM {a b : Nat} (ha : Ev ta σ H (vi a)) (hb : Ev tb σ H (vi b)) (l : b ≤ a) : Ev (tOp (rI0 fun i j => .int (i - j)) ta tb) σ H (vi (a - b)) := ev_is (ev_op ha hb rv_I0) (by show V.int ((a : Int) - (b : Int)) = V.int ((a - b : Nat) : Int); congr 1; omega)
theorem ev_mulM {a b : Nat} (ha : Ev ta σ H (vi a)) (hb : Ev tb σ H (vi b)) (la : a ≤ 100000) : Ev (tOp (rI CMul fun i j => .int (i * j)) ta tb) σ H (vi (a * b)) := ev_is (ev_op ha hb (rv_I (.inl ⟨by omega, by omega⟩))) (by show V.int ((a : Int) * (b : Int)) = V.int ((a * b : Nat) : Int); rw [Int.natCast_mul])
theorem ev_addM {a b : Nat} (ha : Ev ta σ H (vi a)) (hb : Ev tb σ H (vi b)) : Ev (tOp (rI0 fun i j => .int (i + j)) ta tb) σ H (vi (a + b)) := ev_is (ev_op ha hb rv_I0) (by show V.int ((a : Int) + (b : Int)) = V.int ((a + b : Nat) : Int); rw [Int.natCast_add])
end
section
variable {X : Cx}
theorem op_in_seqK (K : PySem.W.Frag) (h : X.K = K := by rfl) : OpR X (compareOp .In) (rIn K false) := by
  subst h
  exact op_in_seq
/-- two rules for one subscript, two for one call -/
theorem ix_or {r r' : R2} (h : IxR X r) (h' : IxR X r') : IxR X (fun x y H Q => r x y H Q ∨ r' x y H Q) := fun e1 e2 pins s σ H x y v u Q I rx ry h0 e => by
  rcases h0 with h0 | h0
  · exact h e1 e2 pins s σ H x y v u Q I rx ry h0 e
  · exact h' e1 e2 pins s σ H x y v u Q I rx ry h0 e
theorem call_or {f : Value} {r r' : List V → Hp → VK → Prop} (h : CallR X f r) (h' : CallR X f r') : CallR X f (fun xs H Q => r xs H Q ∨ r' xs H Q) := fun pins s σ H xs us Q I rx h0 => by
  rcases h0 with h0 | h0
  · exact h pins s σ H xs us Q I rx h0
  · exact h' pins s σ H xs us Q I rx h0
end
end Dw
end
section
/-! for k, (a, b) in enumerate(zip(two lists)) -/
namespace Dw
open PySem PySem.Spec PyProof.Rows L2 Evl RZ
section
variable {prog : Program} {w : World} {A : Around} {E : Value → Shared → Prop} {s : Shared}
end
/-! a turn of a zip that may use its own tuple again -/
abbrev ZipF (h : Heap) (z TI TO : Addr) (f0 f1 : Value) : Prop := h.get? z = some { cls := .type "zip", dict := none, data := .fields #[f0, f1, .bool false, .ref TI, .ref TO], slots := #[] }
section
variable {prog : Program} {w : World} {A : Around} {E : Value → Shared → Prop} {s : Shared} {z TI TO T p q : Addr} {F G : List Addr} {n m i : Nat} {P R : Nat → Value → Prop} {U V : Nat → Heap → Prop} {f0 f1 a1 a2 : Value}
/-! next of a zip, whatever its own tuple is -/
/-- what stands of a zip between two turns -/
def ZTn (z TI TO p q a b : Addr) (i : Nat) (h : Heap) : Prop := IsTupOf2 h TI (.ref p) (.ref q) ∧ (∃ x y, IsTupOf2 h TO x y) ∧ (ZipF h z TI TO .none (.bool false) ∨ ∃ T f, IsZipHeld h z TI TO T f) ∧ h.IsListIter p a i ∧ h.IsListIter q b i
end
end Dw
end
section
/-! for k, (a, b) in enumerate(zip(two lists)): the walker -/
namespace Dw
open PySem PySem.Spec PyProof.Rows L2 Evl RZ
theorem ZTn.keep {z TI TO p q a b : Addr} {i : Nat} {h h' : Heap} (st : ZTn z TI TO p q a b i h) (k : ∀ c ∈ [z, TI, TO, p, q], ∀ o, h.get? c = some o → h'.get? c = some o) : ZTn z TI TO p q a b i h' := by
  obtain ⟨c1, ⟨x, y, c2⟩, c3, c4, c5⟩ := st
  refine ⟨k _ (by simp) _ c1, ⟨x, y, k _ (by simp) _ c2⟩, ?_, c4.at fun o e => k p (by simp) o e, c5.at fun o e => k q (by simp) o e⟩
  rcases c3 with c3 | ⟨T, f, c3⟩
  · exact .inl (k _ (by simp) _ c3)
  · exact .inr ⟨T, f, k _ (by simp) _ c3⟩
theorem FpOk.new {X : Cx} {pins : List (Addr × Obj)} {H : Hp} {b T : Addr} {o : HO} (h : FpOk X pins H b) (ne : b ≠ T) : FpOk X pins (upd H T o) b := ⟨by rw [upd_ne ne]; exact h.1, h.2⟩
end Dw
end
section
/-! enumerate(zip(two lists)): the expression -/
namespace Dw
open PySem PySem.Spec PyProof.Rows L2 Evl RZ
end Dw
end
section
/-! l.extend(any tuple that is read) -/
namespace Dw
open PySem PySem.Spec PyProof.Rows L2 Evl RZ
section
variable {X : Cx}
end
end Dw
end
section
/-! [.. for k, (a, b) in enumerate(zip(two lists)) if ..] -/
namespace Dw
open PySem PySem.Spec PyProof.Rows L2 Evl RZ
section
variable {K : PySem.W.Frag} {σ : L2.St} {H H' : Hp} {te : TE} {tt : TT}
end
end Dw
end
section
/-! t.index(x), x any small data -/
namespace Dw
open PySem PySem.Spec PyProof.Rows L2 Evl RZ
end Dw
end
section
namespace Dw
open PySem PySem.Spec PyProof.Rows L2
/-! list(a text): its signs -/
end Dw
end
section
/-! zip(a list, a tuple): as many pairs as the shorter has -/
namespace Dw
open PySem PySem.Spec PyProof.Rows L2 Evl RZ
/-- the list at a, the tuple at b: their items in new pairs -/
def ItzM (K : PySem.W.Frag) (a b : Addr) : It :=
  ⟨fun i H => ∃ (xs ys : List V) (x y : V), SqL K H a xs ∧ SqT K H b ys ∧ xs[i]? = some x ∧ ys[i]? = some y,
   fun i H v H' => ∃ T x y, v = .ref T ∧ H T = none ∧ H' = upd H T (.tup [x, y]) ∧ (∀ xs, SqL K H a xs → xs[i]? = some x) ∧ (∀ ys, SqT K H b ys → ys[i]? = some y),
   fun i H => ∃ xs ys : List V, SqL K H a xs ∧ SqT K H b ys ∧ i ≤ xs.length ∧ i ≤ ys.length ∧ (i = xs.length ∨ i = ys.length)⟩
def StandsM (z TI TO i1 i2 a b : Addr) (i : Nat) (hp : Heap) : Prop := IsZip hp z TI TO .none ∧ IsTupOf2 hp TI (.ref i1) (.ref i2) ∧ (∃ x y, IsTupOf2 hp TO x y) ∧ hp.IsListIter i1 a i ∧ hp.IsTupleIter i2 b i
theorem five {c z TI TO i1 i2 : Addr} {P : Addr → Prop} (h : c ∈ [z, TI, TO, i1, i2]) (p1 : P z) (p2 : P TI) (p3 : P TO) (p4 : P i1) (p5 : P i2) : P c := by
  simp only [List.mem_cons, List.not_mem_nil, or_false] at h
  rcases h with e | e | e | e | e <;> (rw [e]; assumption)
theorem StandsM.low {z TI TO i1 i2 a b : Addr} {i : Nat} {hp : Heap} (st : StandsM z TI TO i1 i2 a b i hp) {c : Addr} (h : c ∈ [z, TI, TO, i1, i2]) : c < hp.objs.size := by
  obtain ⟨hz, hI, ⟨x, y, hO⟩, ⟨o1, e1, _⟩, ⟨o2, e2, _⟩⟩ := st
  exact five (P := fun c => c < hp.objs.size) h (Heap.lt_size hz) (Heap.lt_size hI) (Heap.lt_size hO) (Heap.lt_size e1) (Heap.lt_size e2)
theorem turn_zipM {P : Program} {w : World} {K : PySem.W.Frag} {elts : List Expr} {kk : Nat} {tpos : Pos} {a b z TI TO i1 i2 : Addr} (S : ZipSep2 z TI TO i1 i2 [i1, a] [i2, b]) : Turn P w K (.Tuple elts kk tpos) (ItzM K a b) [z, TI, TO, i1, i2] z (StandsM z TI TO i1 i2 a b) where
  mem := List.mem_cons_self ..
  obj := by
    intro i hp st c hc
    obtain ⟨hz, hI, ⟨x, y, hO⟩, ⟨o1, e1, _, d1⟩, ⟨o2, e2, _, d2⟩⟩ := st
    exact five (P := fun c => ∃ o, hp.get? c = some o ∧ ∀ v, o.data ≠ .cell v) hc ⟨_, hz, fun _ q => nomatch q⟩ ⟨_, hI, fun _ q => nomatch q⟩ ⟨_, hO, fun _ q => nomatch q⟩ ⟨o1, e1, fun v q => by rw [d1] at q; cases q⟩ ⟨o2, e2, fun v q => by rw [d2] at q; cases q⟩
  keep := by
    intro i hp hp' st same
    obtain ⟨hz, hI, ⟨x, y, hO⟩, h1, h2⟩ := st
    have at_ : ∀ c, c ∈ [z, TI, TO, i1, i2] → ∀ o, hp.get? c = some o → hp'.get? c = some o := same
    exact ⟨at_ z (by simp) _ hz, at_ TI (by simp) _ hI, ⟨x, y, at_ TO (by simp) _ hO⟩, h1.at (at_ i1 (by simp)), h2.at (at_ i2 (by simp))⟩
  item := by
    intro X eP ew eK calm i pins s σ H E I free st here
    subst eP ew eK
    have low := fun {c : Addr} => st.low (c := c)
    obtain ⟨hz, hI, ⟨x0, y0, hO⟩, h1, h2⟩ := st
    obtain ⟨xs, ys, x, y, hx, hy, atx, aty⟩ := here
    obtain ⟨cs, rel, pl, _⟩ := I.list hx
    obtain ⟨ds, rel2, pt, _⟩ := I.tuple hy
    obtain ⟨u, hu, ru⟩ := rel.get atx
    obtain ⟨u2, hu2, ru2⟩ := rel2.get aty
    have quiet : X.A.in1.handled = none := I.ok.hd calm
    have ne1 : a ≠ i1 := fun e => by
      obtain ⟨o1, g1, c1, _⟩ := h1
      obtain ⟨o2, g2, c2, _⟩ := pl.isList
      rw [e, g1] at g2
      cases g2
      rw [c1] at c2
      injection c2 with z
      exact absurd z (by decide)
    have ne2 : b ≠ i2 := fun e => by
      obtain ⟨o1, g1, c1, _⟩ := h2
      obtain ⟨o2, g2, c2, _⟩ := (show s.heap.IsTuple b ds.toArray from pt)
      rw [e, g1] at g2
      cases g2
      rw [c1] at c2
      injection c2 with z
      exact absurd z (by decide)
    have zl := low (c := z) (by simp)
    refine wpAny_pyNext_zipD2_item S (Draws.list (prog := X.prog) (w := X.w) quiet i1 a ne1 cs.toArray) (Draws.tuple (prog := X.prog) (w := X.w) quiet i2 b ne2 ds.toArray) hz hI hO ⟨h1, pl.isList⟩ ⟨h2, pt⟩ (by rw [List.size_toArray]; exact (List.getElem?_eq_some_iff.mp hu).1) (by rw [List.size_toArray]; exact (List.getElem?_eq_some_iff.mp hu2).1) fun v v2 hp1 tk p1 p2 z' O' s1 s2 pair _ same => ?_
    have ev : v = u := by
      have q : cs.toArray[i]? = some v := p1
      rw [List.getElem?_toArray, hu] at q
      exact (Option.some.inj q).symm
    have ev2 : v2 = u2 := by
      have q : ds.toArray[i]? = some v2 := p2
      rw [List.getElem?_toArray, hu2] at q
      exact (Option.some.inj q).symm
    subst ev ev2
    refine ⟨_, rfl, wpAny_letOwnedTupleGo_zip (s := { s with heap := hp1, toks := tk }) z' fun hp2 z'' but => ?_⟩
    have pair2 : hp2.get? s.heap.objs.size = some { cls := .type "tuple", data := .seq #[v, v2] } := (but.2 _ (Nat.ne_of_gt zl)).trans pair
    have fine : ObjOk X.prog X.w (upd H s.heap.objs.size (.tup [x, y])) hp2 s.heap.objs.size (.tup [x, y]) := And.intro (show 2 ≤ sizeLine by decide) ⟨[v, v2], .cons ru (.cons ru2 .nil), _, pair2, rfl, _, rfl⟩
    have still : ∀ c o, c ∉ [z, TI, TO, i1, i2] → s.heap.get? c = some o → hp2.get? c = some o := fun c o nc q => by
      simp only [List.mem_cons, List.not_mem_nil, or_false, not_or] at nc
      rw [but.2 c nc.1]
      exact same c o nc.1 nc.2.2.1 nc.2.2.2.1 nc.2.2.2.2 q
    have J := I.turnedNew (ch := [z, TI, TO, i1, i2]) (t' := tk) still free (Nat.le_refl s.heap.objs.size) fine
    refine ⟨.ref s.heap.objs.size, _, J, rfl, ⟨_, x, y, rfl, I.hok.fresh (Nat.le_refl _), rfl, fun l hl => by rw [I.list_inj hl hx]; exact atx, fun l hl => by rw [I.tuple_inj hl hy]; exact aty⟩, ⟨z'', ?_, ⟨v, v2, ?_⟩, ?_, ?_⟩, fun c hc => ?_⟩
    · exact (but.2 _ S.TIz).trans (same _ _ S.TIz S.TITO S.TIi1 S.TIi2 hI)
    · exact (but.2 _ S.TOz).trans O'
    · exact s1.1.at fun o q => (but.2 _ (Ne.symm S.zi1)).trans q
    · exact s2.1.at fun o q => (but.2 _ (Ne.symm S.zi2)).trans q
    · rw [upd_ne (Nat.ne_of_lt (low hc))]
      exact (free c hc).1
  done := by
    intro X eP ew eK calm i pins s σ H E I free st over
    subst eP ew eK
    obtain ⟨hz, hI, ⟨x0, y0, hO⟩, h1, h2⟩ := st
    obtain ⟨xs, ys, hx, hy, l1, l2, ends⟩ := over
    obtain ⟨cs, rel, pl, _⟩ := I.list hx
    obtain ⟨ds, rel2, pt, _⟩ := I.tuple hy
    have quiet : X.A.in1.handled = none := I.ok.hd calm
    have n1 := rel.length
    have n2 := rel2.length
    have ne1 : a ≠ i1 := fun e => by
      obtain ⟨o1, g1, c1, _⟩ := h1
      obtain ⟨o2, g2, c2, _⟩ := pl.isList
      rw [e, g1] at g2
      cases g2
      rw [c1] at c2
      injection c2 with z
      exact absurd z (by decide)
    have ne2 : b ≠ i2 := fun e => by
      obtain ⟨o1, g1, c1, _⟩ := h2
      obtain ⟨o2, g2, c2, _⟩ := (show s.heap.IsTuple b ds.toArray from pt)
      rw [e, g1] at g2
      cases g2
      rw [c1] at c2
      injection c2 with z
      exact absurd z (by decide)
    exact wpAny_pyNext_zipD2_end S (Draws.list (prog := X.prog) (w := X.w) quiet i1 a ne1 cs.toArray) (Draws.tuple (prog := X.prog) (w := X.w) quiet i2 b ne2 ds.toArray) hz hI hO ⟨h1, pl.isList⟩ ⟨h2, pt⟩ (by rw [List.size_toArray]; omega) (by rw [List.size_toArray]; omega) (by rw [List.size_toArray, List.size_toArray]; omega) fun hp1 tk same =>
      ⟨rfl, I.turnedL (t' := tk) (ch := [z, TI, TO, i1, i2]) (fun c o nc q => by
        simp only [List.mem_cons, List.not_mem_nil, or_false, not_or] at nc
        exact same c o nc.1 nc.2.2.1 nc.2.2.2.1 nc.2.2.2.2 q) free⟩
  self := fun A i s Q E st h => wpAny_pyIter_zip st.1 h
theorem nq {x y : Nat} (h : x ≠ y) : ¬ @Eq Addr x y := h
theorem sepM (I l1 l2 : Nat) (h1 : l1 < I) (h2 : l2 < I) : ZipSep2 (I + 4) (I + 2) (I + 3) I (I + 1) [I, l1] [I + 1, l2] := by
  constructor <;> (simp only [List.mem_cons, List.not_mem_nil, or_false, not_or, ne_eq, true_or]; try first | exact nq (by omega) | exact ⟨nq (by omega), nq (by omega)⟩)
def iZipM (K : PySem.W.Frag) (ta : TA) : TI := fun σ H R => ta σ H fun vs H1 => ∃ a b xs ys, vs = [.ref a, .ref b] ∧ SqL K H1 a xs ∧ SqT K H1 b ys ∧ R (ItzM K a b) H1
theorem pi_zipM {X : Cx} {e e2 : Expr} {ta : TA} {p pos tpos : Pos} {elts : List Expr} {kk : Nat} (glob : Gl X "zip") (none_ : X.mg "zip" = none) (args : PA X [e, e2] ta)
    (star : starEach [e, e2] X.env = (false, eval e X.env) :: starEach [e2] X.env := by rfl) (plain : (backTo pos (starEach [e2] X.env)).any (·.1) = false := by rfl) : PI X (.Tuple elts kk tpos) (.Call (.Name "zip" p) [e, e2] [] pos) (iZipM X.K ta) := by
  constructor
  intro pins s σ H R I q0
  refine Call_ (ld_blt I glob none_ PyProof.Rows.boot_zip (PyProof.Rows.callWith_type1 (thn (args.run pos pins s σ H _ I q0) fun us s1 got => ?_) star plain))
  obtain ⟨vs, H1, J, rel, a, b, xs, ys, ev, hx, hy, q1⟩ := got
  subst ev
  cases rel with
  | cons r1 rel =>
    cases rel with
    | cons r2 rel =>
      cases rel
      cases r1
      cases r2
      obtain ⟨cs, _, pl, _⟩ := J.list hx
      obtain ⟨ds, _, pt, _⟩ := J.tuple hy
      have la : a < s1.heap.objs.size := pl.lt
      have lb : b < s1.heap.objs.size := by
        obtain ⟨o, ho, _⟩ := (show s1.heap.IsTuple b ds.toArray from pt)
        exact Heap.lt_size ho
      refine zip_begins2 (begins_list a cs.toArray) (begins_tuple b ds.toArray) pl.isList pt fun hp hz hI hO g1 g2 _ kept => wpAny_pyIter_zip hz ?_
      have J2 : Inv X pins σ H1 { s1 with heap := hp } := J.kept (t' := s1.toks) kept
      have sep := sepM s1.heap.objs.size a b la lb
      refine ⟨s1.heap.objs.size + 4, [s1.heap.objs.size + 4, s1.heap.objs.size + 2, s1.heap.objs.size + 3, s1.heap.objs.size, s1.heap.objs.size + 1], _, _, H1, rfl, J2, turn_zipM sep, ⟨hz, hI, ⟨_, _, hO⟩, ⟨_, g1, rfl, rfl⟩, ⟨_, g2, rfl, rfl⟩⟩, fun c hc => ?_, q1⟩
      have late : s1.heap.objs.size ≤ c := five (P := fun c => s1.heap.objs.size ≤ c) hc (Nat.le_add_right _ _) (Nat.le_add_right _ _) (Nat.le_add_right _ _) (Nat.le_refl _) (Nat.le_add_right _ _)
      exact J.fpOk late (J.hok.fresh late)
theorem walk_zipM {K : PySem.W.Frag} {a b : Addr} {xs ys : List V} {n : Nat} (hn : n = min xs.length ys.length) : Walk (ItzM K a b) n (fun H => SqL K H a xs ∧ SqT K H b ys) (YPair (fun i => xs[i]?) (fun i => ys[i]?)) := by
  refine ⟨fun i H hi q => ⟨xs, ys, xs[i]'(by omega), ys[i]'(by omega), q.1, q.2, List.getElem?_eq_getElem (by omega), List.getElem?_eq_getElem (by omega)⟩, fun H q => ⟨xs, ys, q.1, q.2, by omega, by omega, by omega⟩, fun i H v H' _ q y => ?_⟩
  obtain ⟨T, x1, x2, h1, h2, h3, h4, h5⟩ := y
  exact ⟨T, x1, x2, h1, h2, h3, h4 xs q.1, h5 ys q.2⟩
end Dw
end
section
/-! dicts told with the same keys and the same data -/
namespace Dw
open PySem PySem.Spec PyProof.Rows L2 Evl RZ
section
variable {X : Cx}
end
end Dw
end
section
/-! zip(a tuple, a list): as many pairs as the shorter has -/
namespace Dw
open PySem PySem.Spec PyProof.Rows L2 Evl RZ
def StandsN (z TI TO i1 i2 a b : Addr) (i : Nat) (hp : Heap) : Prop := IsZip hp z TI TO .none ∧ IsTupOf2 hp TI (.ref i1) (.ref i2) ∧ (∃ x y, IsTupOf2 hp TO x y) ∧ hp.IsTupleIter i1 a i ∧ hp.IsListIter i2 b i
theorem StandsN.low {z TI TO i1 i2 a b : Addr} {i : Nat} {hp : Heap} (st : StandsN z TI TO i1 i2 a b i hp) {c : Addr} (h : c ∈ [z, TI, TO, i1, i2]) : c < hp.objs.size := by
  obtain ⟨hz, hI, ⟨x, y, hO⟩, ⟨o1, e1, _⟩, ⟨o2, e2, _⟩⟩ := st
  exact five (P := fun c => c < hp.objs.size) h (Heap.lt_size hz) (Heap.lt_size hI) (Heap.lt_size hO) (Heap.lt_size e1) (Heap.lt_size e2)
end Dw
end
section
/-! list(zip(a, b)) -/
namespace Dw
open PySem PySem.Spec PyProof.Rows L2 Evl
/-- what a zip under way is, with S apart -/
structure ZG (z TI TO p q a b S : Addr) (t1 t2 : Bool) (xs ys : Array Value) (i : Nat) (h : Heap) : Prop where
  ti : IsTupOf2 h TI (.ref p) (.ref q)
  s1 : SqI t1 p a xs i h
  s2 : SqI t2 q b ys i h
  st : (IsZip h z TI TO .none ∧ ∃ x y, IsTupOf2 h TO x y) ∨ ∃ T f oT, IsZipHeld h z TI TO T f ∧ h.get? T = some oT ∧ T ≠ z ∧ T ≠ p ∧ T ≠ q ∧ T ≠ S
theorem ZG.keep {z TI TO p q a b S : Addr} {t1 t2 : Bool} {xs ys : Array Value} {i : Nat} {h h' : Heap} (g : ZG z TI TO p q a b S t1 t2 xs ys i h) (far : ∀ c ∈ [z, TI, TO, p, q, a, b], c < S) (k : ∀ c o, c ≠ S → h.get? c = some o → h'.get? c = some o) : ZG z TI TO p q a b S t1 t2 xs ys i h' := by
  have nz : ∀ c ∈ [z, TI, TO, p, q, a, b], c ≠ S := fun c hc => Nat.ne_of_lt (far c hc)
  obtain ⟨e1, e2, e3, e4⟩ := g
  refine ⟨k _ _ (nz TI (by simp)) e1, e2.keep fun c hc o e => ?_, e3.keep fun c hc o e => ?_, ?_⟩
  · rcases hc with x | x <;> subst x <;> exact k _ o (nz _ (by simp)) e
  · rcases hc with x | x <;> subst x <;> exact k _ o (nz _ (by simp)) e
  · rcases e4 with ⟨isZ, x, y, isO⟩ | ⟨T, f, oT, isZ, atT, r1, r2, r3, r4⟩
    · exact .inl ⟨k _ _ (nz z (by simp)) isZ, x, y, k _ _ (nz TO (by simp)) isO⟩
    · exact .inr ⟨T, f, oT, k _ _ (nz z (by simp)) isZ, k _ _ r4 atT, r1, r2, r3, r4⟩
section
variable {prog : Program} {w : World} {A : Around} {E : Value → Shared → Prop} {s : Shared} {z TI TO p q a b S : Addr} {t1 t2 : Bool} {xs ys : Array Value} {i : Nat}
end
section
variable {prog : Program} {w : World} {A : Around} {s : Shared} {R : Result → Shared → Prop} {z TI TO p q a b S : Addr} {t1 t2 : Bool} {xs ys : Array Value}
end
section
variable {prog : Program} {w : World} {A : Around} {E : Value → Shared → Prop} {s : Shared} {z TI TO p q a b : Addr} {t1 t2 : Bool} {xs ys : Array Value}
end
/-! laid down -/
end Dw
end
section
/-! a tuple times 0 or 1 -/
namespace Dw
open PySem PySem.Spec PyProof.Rows L2
end Dw
end
section
/-! a caught exception that is kept: it is told from the catch on, so that isinstance can be asked of it behind the try -/
namespace Dw
open PySem PySem.Spec PyProof.Rows L2
/-- an exception of the class cls, that is no longer in the air -/
def ExcAt (a : Addr) (cls : Value) (d : Option Addr) : HO := .ext fun h => ∃ ob fv, h.get? a = some ob ∧ Zc cls d ob ∧ ob.data = .fields fv
section
variable {X : Cx} {pins : List (Addr × Obj)} {σ : L2.St} {H : Hp} {s : Shared}
end
section
variable {X : Cx} {x n : Str} {c : Value} {i : Nat} {body suite : List Stmt} {b0 : Stmt} {np p1 p2 : Pos} {tb : WX → TS} {ts : TS}
end
end Dw
end
section
/-! isinstance of a kept exception; defs that raise, called in a try -/
namespace Dw
open PySem PySem.Spec PyProof.Rows L2 Evl
/-- a pure promise of a new thing -/
def spF {α : Type} (pre : α → List V → Hp → Prop) (post : α → V → Hp → Prop) : Sp := fun vs H Q _ => ∃ a, pre a vs H ∧ ∀ v H', Ex H H' → post a v H' → (∀ d, v = .ref d → H d = none) → Q v H'
end Dw
end
section
/-! repr of a written list with dicts of data among its items -/
namespace Dw
open PySem PySem.Spec PyProof.Rows L2 Evl
/-! data of texts, numbers and tuples alone: no place is told of it -/
mutual
def noL : PyData → Bool
  | .none | .bool _ | .int _ | .str _ => true
  | .tuple xs => noLs xs
  | .list _ | .dict _ => false
def noLs : List PyData → Bool
  | [] => true
  | x :: xs => noL x && noLs xs
end
section
variable {X : Cx} {pins : List (Addr × Obj)} {σ : L2.St} {H : Hp} {s : Shared}
end
/-! sizes -/
structure Gs (k W : Nat) (d : PyData) : Prop where
  dep : d.depth ≤ k
  wgt : d.weight ≤ W
  its : d.leavesShort 13 = true
  sho : d.showable = true
theorem Gs.mono {k W k' W' : Nat} {d : PyData} (h : Gs k W d) (a : k ≤ k') (b : W ≤ W') : Gs k' W' d := ⟨Nat.le_trans h.dep a, Nat.le_trans h.wgt b, h.its, h.sho⟩
theorem Gs.len {k W : Nat} {d : PyData} (h : Gs k W d) (b : W ≤ 1000000) : d.shown.length ≤ sizeLine := by
  have z := PyData.shown_le 13 (by decide) d h.its
  have y := h.wgt
  rw [sizeLine_eq]
  omega
end Dw
end
section
/-! == and != of deep data; isinstance of what was caught or of None, one class or a written tuple of them -/
namespace Dw
open PySem PySem.Spec PyProof.Rows L2 Evl
/-- None, or a kept exception: its type -/
def TyC (K : PySem.W.Frag) (H : Hp) (x : V) (t : Value) : Prop := (x = .non ∧ t = .type "NoneType") ∨ ∃ (a C : Addr), x = .ref a ∧ H a = some (ExcAt a (.ref C) none) ∧ ExcC K C ∧ t = .ref C
theorem TyC.ex {K : PySem.W.Frag} {H H' : Hp} {x : V} {t : Value} (e : Ex H H') (h : TyC K H x t) : TyC K H' x t := h.imp id fun ⟨a, C, h1, h2, h3, h4⟩ => ⟨a, C, h1, e _ _ h2, h3, h4⟩
end Dw
end
section
/-! defs that are only called where nothing is being shown, and repr in them -/
namespace Dw
open PySem PySem.Spec PyProof.Rows L2 Evl
end Dw
end
section
/-! in of a tuple of data; repr of deep data -/
namespace Dw
open PySem PySem.Spec PyProof.Rows L2 Evl
end Dw
end
section
/-! tuple * int, the int small, below 1 too -/
namespace Dw
open PySem PySem.Spec PyProof.Rows L2 Evl
end Dw
end
section
/-! repr of any data without dicts -/
namespace Dw
open PySem PySem.Spec PyProof.Rows L2 Evl
end Dw
end
section
/-! min and sum of a tuple of numbers -/
namespace Dw
open PySem PySem.Spec PyProof.Rows PyProof.V L2 Evl PySem.W
theorem minOf_le : ∀ (xs : List Int) (x : Int), (∀ y ∈ x :: xs, minOf x xs ≤ y) ∧ minOf x xs ∈ x :: xs
  | [], x => ⟨fun y hy => by rw [List.mem_singleton.mp hy]; exact Int.le_refl _, List.mem_cons_self ..⟩
  | z :: xs, x => by
    have e : minOf x (z :: xs) = minOf (if z < x then z else x) xs := by
      unfold minOf
      rw [List.foldl_cons]
      congr 1
      show (if decide (z < x) = true then z else x) = _
      by_cases h : z < x
      · rw [decide_eq_true h, if_pos rfl, if_pos h]
      · rw [decide_eq_false h, if_neg Bool.false_ne_true, if_neg h]
    obtain ⟨a, b⟩ := minOf_le xs (if z < x then z else x)
    rw [e]
    have c := a _ (List.mem_cons_self ..)
    refine ⟨fun y hy => ?_, ?_⟩
    · rcases List.mem_cons.mp hy with rfl | hy
      · split at c
        · rename_i h; rw [if_pos h]; omega
        · rename_i h; rw [if_neg h]; exact c
      · rcases List.mem_cons.mp hy with rfl | hy
        · split at c
          · rename_i h; rw [if_pos h]; exact c
          · rename_i h; rw [if_neg h]; omega
        · exact a y (List.mem_cons_of_mem _ hy)
    · rcases List.mem_cons.mp b with b | b
      · rw [b]
        split
        · exact List.mem_cons_of_mem _ (List.mem_cons_self ..)
        · exact List.mem_cons_self ..
      · exact List.mem_cons_of_mem _ (List.mem_cons_of_mem _ b)
def rMinT (K : PySem.W.Frag) : List V → Hp → VK → Prop := fun vs H Q => ∃ (a : Addr) (ns : List Int), vs = [V.ref a] ∧ SqT K H a (ns.map V.int) ∧ 0 < ns.length ∧ ∀ m, m ∈ ns → (∀ y, y ∈ ns → m ≤ y) → Q (.int m) H
theorem cr_minT {X : Cx} {k : Nat} (hc : X.calm = true) (hr : Room k X.A) : CallR X (.builtin "min") (rMinT X.K) := by
  intro pins s σ H vs us Q I r h
  obtain ⟨a, ns, rfl, hs, hne, q⟩ := h
  obtain ⟨its, rv, hl, _⟩ := I.tuple hs
  rw [Vals.ref1 r]
  cases ns with
  | nil => exact absurd hne (Nat.lt_irrefl 0)
  | cons x xs =>
    have hi : IntsAre its.toArray.toList (x :: xs) := by rw [List.toList_toArray]; exact ints_of rv
    have hu := hr.units
    have ho : HoldAll s.heap its.toArray.toList (x :: xs) := ⟨[], ints_readAll _ hi⟩
    refine min_tuple_datum (α := Int) (I.ok.hd hc) hl ho (by show X.A.units + 1 + 0 < _; omega) fun i v h' tk hv ho2 hk => ?_
    obtain ⟨a2, b2⟩ := minOf_le xs x
    obtain ⟨as, rd⟩ := ho2
    have rd' : Reads h' v (.int (minOf x xs)) as := rd
    cases rd' with
    | int _ t => exact ⟨.int _, H, I.kept hk, ⟨t, rfl⟩, q _ b2 a2⟩
def rSumT (K : PySem.W.Frag) : List V → Hp → VK → Prop := fun vs H Q => ∃ (a : Addr) (ns : List Int), vs = [V.ref a] ∧ SqT K H a (ns.map V.int) ∧ Q (.int ns.sum) H
theorem cr_sumT {X : Cx} (hc : X.calm = true) : CallR X (.builtin "sum") (rSumT X.K) := by
  intro pins s σ H vs us Q I r h
  obtain ⟨a, ns, rfl, hs, q⟩ := h
  obtain ⟨its, rv, hl, _⟩ := I.tuple hs
  rw [Vals.ref1 r]
  have hi : IntsAre its ns := ints_of rv
  obtain ⟨xs, hx⟩ := hi.allInts.items
  have hn : numsOf its.toArray.toList = ns := by rw [show its.toArray.toList = its from rfl, hi.numsOf]
  rw [hx] at hl hn
  rw [nums_intItems] at hn
  refine ktm_sumG (I.ok.hd hc) hl fun h' tk t' hk => ⟨.int ns.sum, H, I.kept hk, ⟨t', ?_⟩, q⟩
  rw [preSum_eq, List.take_of_length_le (by simp), hn]
theorem sum_ints : ∀ ns : List Nat, (ns.map fun k => ((k : Nat) : Int)).sum = ((ns.sum : Nat) : Int)
  | [] => rfl
  | x :: r => by rw [List.map_cons, List.sum_cons, List.sum_cons, sum_ints r, Int.natCast_add]
section
variable {K : PySem.W.Frag} {σ : L2.St} {H : Hp} {te : TE}
/-- sum(t) of numbers is a number -/
theorem ep_sumT {ns : List Nat} {P : V → Hp → Prop} (h : EvP te σ H P) (hp : ∀ v H1, P v H1 → Nats K H1 v ns) : Ev (tCB (rSumT K) (tCons te tNil)) σ H (vi ns.sum) := fun H1 e Q q =>
  h H1 e _ fun v H2 e2 hv => by
    obtain ⟨a, rfl, s⟩ := hp v H2 hv
    refine ⟨a, ns.map fun k => ((k : Nat) : Int), rfl, by rw [List.map_map]; exact s, ?_⟩
    rw [sum_ints ns]
    exact q H2 e2
theorem ep_maxT {ns : List Nat} (h : EvP te σ H (fun v H' => Nats K H' v ns)) (ne : ns ≠ []) : EvP (tCB (rMaxT K) (tCons te tNil)) σ H (fun v _ => ∃ k ∈ ns, v = vi k) := fun H1 e Q q =>
  h H1 e _ fun v H2 e2 ⟨a, hv, s⟩ => by
    subst hv
    refine ⟨a, ns.map fun k => ((k : Nat) : Int), rfl, by rw [List.map_map]; exact s, by rw [List.length_map]; exact List.length_pos_iff.mpr ne, fun m hm _ => ?_⟩
    obtain ⟨k, hk, rfl⟩ := List.mem_map.mp hm
    exact q _ H2 e2 ⟨k, hk, rfl⟩
theorem ep_minT {ns : List Nat} (h : EvP te σ H (fun v H' => Nats K H' v ns)) (ne : ns ≠ []) : EvP (tCB (rMinT K) (tCons te tNil)) σ H (fun v _ => ∃ k ∈ ns, v = vi k) := fun H1 e Q q =>
  h H1 e _ fun v H2 e2 ⟨a, hv, s⟩ => by
    subst hv
    refine ⟨a, ns.map fun k => ((k : Nat) : Int), rfl, by rw [List.map_map]; exact s, by rw [List.length_map]; exact List.length_pos_iff.mpr ne, fun m hm _ => ?_⟩
    obtain ⟨k, hk, rfl⟩ := List.mem_map.mp hm
    exact q _ H2 e2 ⟨k, hk, rfl⟩
end
end Dw
end
section
/-! closed lists of numbers: the mathematics -/
namespace CL
open M20 M25
/-- the place of a row -/
def plc (n : Nat) (ns : List Nat) : Nat := ns.foldl (fun acc k => acc * n + k) 0
theorem plc_low {n : Nat} : ∀ {ns : List Nat}, (∀ k ∈ ns, k < n) → ns.length ≤ 2 → plc n ns < n ^ ns.length
  | [], _, _ => by
    show 0 < n ^ 0
    rw [Nat.pow_zero]
    decide
  | [a], h, _ => by
    have := h a (List.mem_singleton.mpr rfl)
    show 0 * n + a < n ^ 1
    rw [Nat.pow_one, Nat.zero_mul, Nat.zero_add]
    exact this
  | [a, b], h, _ => by
    have ha := h a (List.mem_cons_self ..)
    have hb := h b (List.mem_cons_of_mem _ (List.mem_singleton.mpr rfl))
    show (0 * n + a) * n + b < n ^ 2
    rw [Nat.zero_mul, Nat.zero_add, Nat.pow_two]
    have : (a + 1) * n ≤ n * n := Nat.mul_le_mul_right n ha
    rw [Nat.add_mul, Nat.one_mul] at this
    omega
  | _ :: _ :: _ :: _, _, h => absurd h (by simp)
theorem plc_take {n : Nat} {ns : List Nat} {i k : Nat} (h : ns[i]? = some k) : plc n (ns.take (i + 1)) = plc n (ns.take i) * n + k := by
  unfold plc
  rw [List.take_add_one, h, List.foldl_append]
  rfl
theorem rows_plc {n p : Nat} (p2 : p ≤ 2) (n1 : 0 < n) {i : Nat} (h : i < n ^ p) : ∃ r, (rows n p)[i]? = some r ∧ plc n r = i := by
  match p, p2, h with
  | 0, _, h =>
    rw [Nat.pow_zero] at h
    have : i = 0 := by omega
    subst this
    exact ⟨[], rfl, rfl⟩
  | 1, _, h =>
    rw [Nat.pow_one] at h
    refine ⟨[i], ?_, by show 0 * n + i = i; omega⟩
    rw [rows_1, List.getElem?_map, List.getElem?_range h]
    rfl
  | 2, _, h =>
    rw [Nat.pow_two] at h
    refine ⟨[i / n, i % n], ?_, ?_⟩
    · rw [rows_2 n1, List.getElem?_map, List.getElem?_range h]
      rfl
    · show (0 * n + i / n) * n + i % n = i
      rw [Nat.zero_mul, Nat.zero_add, Nat.mul_comm]
      exact Nat.div_add_mod i n
theorem rows_plc' {n p : Nat} (p2 : p ≤ 2) (n1 : 0 < n) {i : Nat} {r : List Nat} (h : (rows n p)[i]? = some r) : plc n r = i ∧ i < n ^ p := by
  have hi := (List.getElem?_eq_some_iff.mp h).1
  rw [rows_len'] at hi
  obtain ⟨r', e, q⟩ := rows_plc p2 n1 hi
  rw [h] at e
  rw [Option.some.inj e]
  exact ⟨q, hi⟩
theorem plc_inj {n p : Nat} (p2 : p ≤ 2) {r s : List Nat} (hr : r.length = p ∧ ∀ k ∈ r, k < n) (hs : s.length = p ∧ ∀ k ∈ s, k < n) (e : plc n r = plc n s) : r = s := by
  obtain ⟨lr, r0⟩ := hr
  obtain ⟨ls, s0⟩ := hs
  match r, s with
  | [], [] => rfl
  | [], _ :: _ => simp at lr ls; omega
  | _ :: _, [] => simp at lr ls; omega
  | [a], [c] =>
    have e' : 0 * n + a = 0 * n + c := e
    rw [Nat.zero_mul] at e'
    rw [show a = c by omega]
  | [a], _ :: _ :: _ => simp at lr ls; omega
  | _ :: _ :: _, [c] => simp at lr ls; omega
  | [a, b], [c, d] =>
    have e' : (0 * n + a) * n + b = (0 * n + c) * n + d := e
    rw [Nat.zero_mul, Nat.zero_add, Nat.zero_add] at e'
    have hb := r0 b (by simp)
    have hd := s0 d (by simp)
    have n0 : 0 < n := by omega
    have h1 : (n * a + b) / n = a := by rw [Nat.mul_add_div n0, Nat.div_eq_of_lt hb, Nat.add_zero]
    have h2 : (n * c + d) / n = c := by rw [Nat.mul_add_div n0, Nat.div_eq_of_lt hd, Nat.add_zero]
    rw [Nat.mul_comm n a, e', Nat.mul_comm c n, h2] at h1
    subst h1
    rw [show b = d by omega]
  | [a, b], _ :: _ :: _ :: _ => simp at lr ls; omega
  | _ :: _ :: _ :: _, _ :: _ :: _ => simp at lr; omega
section
variable {α : Type}
/-- the cells of a model with their worths -/
def cws (n : Nat) (sg : List (α × Nat)) (ts : List (List Nat)) : List (α × List Nat × Nat) := (sg.zip ts).flatMap fun x => ((rows n x.1.2).zip x.2).map fun y => (x.1.1, y.1, y.2)
theorem cws_mem {n : Nat} {sg : List (α × Nat)} {ts : List (List Nat)} {c : α × List Nat × Nat} : c ∈ cws n sg ts ↔ ∃ (i : Nat) (d : α × Nat) (t : List Nat) (j : Nat) (r : List Nat), sg[i]? = some d ∧ ts[i]? = some t ∧ (rows n d.2)[j]? = some r ∧ t[j]? = some c.2.2 ∧ c.1 = d.1 ∧ c.2.1 = r := by
  unfold cws
  rw [List.mem_flatMap]
  constructor
  · rintro ⟨⟨d, t⟩, hx, hc⟩
    obtain ⟨i, hi⟩ := List.mem_iff_getElem?.mp hx
    obtain ⟨⟨r, w⟩, hy, e⟩ := List.mem_map.mp hc
    obtain ⟨j, hj⟩ := List.mem_iff_getElem?.mp hy
    rw [List.getElem?_zip_eq_some] at hi hj
    subst e
    exact ⟨i, d, t, j, r, hi.1, hi.2, hj.1, hj.2, rfl, rfl⟩
  · rintro ⟨i, d, t, j, r, h1, h2, h3, h4, h5, h6⟩
    refine ⟨(d, t), List.mem_iff_getElem?.mpr ⟨i, List.getElem?_zip_eq_some.mpr ⟨h1, h2⟩⟩, ?_⟩
    refine List.mem_map.mpr ⟨(r, c.2.2), List.mem_iff_getElem?.mpr ⟨j, List.getElem?_zip_eq_some.mpr ⟨h3, h4⟩⟩, ?_⟩
    obtain ⟨a, b, d'⟩ := c
    show (d.1, r, d') = (a, b, d')
    rw [← h5, ← h6]
/-- all arguments are among these -/
def among (r S : List Nat) : Bool := r.all fun a => decide (a ∈ S)
theorem among_iff {r S : List Nat} : among r S = true ↔ ∀ a ∈ r, a ∈ S := by
  unfold among
  rw [List.all_eq_true]
  exact ⟨fun h a ha => of_decide_eq_true (h a ha), fun h a ha => decide_eq_true (h a ha)⟩
/-- a cell leads out of a list -/
def outs (S : List Nat) (c : α × List Nat × Nat) : Bool := !decide (c.2.2 ∈ S) && among c.2.1 S
def closed (cs : List (α × List Nat × Nat)) (S : List Nat) : Bool := cs.all fun c => !outs S c
theorem closed_iff {cs : List (α × List Nat × Nat)} {S : List Nat} : closed cs S = true ↔ ∀ c ∈ cs, (∀ a ∈ c.2.1, a ∈ S) → c.2.2 ∈ S := by
  unfold closed
  rw [List.all_eq_true]
  constructor
  · intro h c hc ha
    have := h c hc
    unfold outs at this
    rw [among_iff.mpr ha, Bool.and_true, Bool.not_not] at this
    exact of_decide_eq_true this
  · intro h c hc
    unfold outs
    cases ha : among c.2.1 S with
    | false => rw [Bool.and_false]; rfl
    | true =>
      rw [decide_eq_true (h c hc (among_iff.mp ha))]
      rfl
end
/-! ### rising lists -/
def sub : Nat → List (List Nat)
  | 0 => [[]]
  | k + 1 => sub k ++ (sub k).map (· ++ [k])
theorem subs_len : ∀ n, (sub n).length = 2 ^ n
  | 0 => rfl
  | k + 1 => by
    show (sub k ++ (sub k).map (· ++ [k])).length = _
    rw [List.length_append, List.length_map, subs_len k, Nat.pow_succ]
    omega
def Up (n : Nat) (x : List Nat) : Prop := x.Pairwise (· < ·) ∧ ∀ k ∈ x, k < n
theorem Up.nodup {n : Nat} {x : List Nat} (h : Up n x) : x.Nodup := h.1.imp fun h => Nat.ne_of_lt h
theorem sub_up {n : Nat} : ∀ {x : List Nat}, x ∈ sub n → Up n x := by
  induction n with
  | zero =>
    intro x h
    rw [List.mem_singleton.mp (show x ∈ [[]] from h)]
    exact ⟨.nil, fun _ z => nomatch z⟩
  | succ k ih =>
    intro x h
    rcases List.mem_append.mp (show x ∈ sub k ++ (sub k).map (· ++ [k]) from h) with h | h
    · exact ⟨(ih h).1, fun j hj => Nat.lt_succ_of_lt ((ih h).2 j hj)⟩
    · obtain ⟨y, hy, rfl⟩ := List.mem_map.mp h
      refine ⟨List.pairwise_append.mpr ⟨(ih hy).1, List.pairwise_singleton _ _, fun a ha b hb => ?_⟩, fun j hj => ?_⟩
      · rw [List.mem_singleton.mp hb]
        exact (ih hy).2 a ha
      · rcases List.mem_append.mp hj with z | z
        · exact Nat.lt_succ_of_lt ((ih hy).2 j z)
        · rw [List.mem_singleton.mp z]; exact Nat.lt_succ_self k
theorem up_snoc {k : Nat} {x : List Nat} (h : Up (k + 1) x) : Up k x ∨ ∃ y, Up k y ∧ x = y ++ [k] := by
  by_cases hk : k ∈ x
  · refine .inr ?_
    have ne : x ≠ [] := fun z => by rw [z] at hk; cases hk
    have e := (List.dropLast_concat_getLast ne).symm
    have hl : x.getLast ne = k := by
      have hp := h.1
      rw [e] at hp hk
      rw [List.pairwise_append] at hp
      rcases List.mem_append.mp hk with z | z
      · have := hp.2.2 k z _ (List.mem_singleton_self _)
        have := h.2 _ (List.getLast_mem ne)
        omega
      · exact (List.mem_singleton.mp z).symm
    rw [hl] at e
    refine ⟨x.dropLast, ⟨?_, fun j hj => ?_⟩, e⟩
    · have hp := h.1
      rw [e, List.pairwise_append] at hp
      exact hp.1
    · have hp := h.1
      rw [e, List.pairwise_append] at hp
      exact hp.2.2 j hj k (List.mem_singleton_self _)
  · exact .inl ⟨h.1, fun j hj => by
      have a := h.2 j hj
      have b : j ≠ k := fun z => hk (z ▸ hj)
      omega⟩
theorem up_sub {n : Nat} : ∀ {x : List Nat}, Up n x → x ∈ sub n := by
  induction n with
  | zero =>
    intro x h
    cases x with
    | nil => exact List.mem_singleton_self _
    | cons y r => exact absurd (h.2 y (List.mem_cons_self ..)) (Nat.not_lt_zero _)
  | succ k ih =>
    intro x h
    show x ∈ sub k ++ (sub k).map (· ++ [k])
    rcases up_snoc h with h1 | ⟨y, h1, rfl⟩
    · exact List.mem_append.mpr (.inl (ih h1))
    · exact List.mem_append.mpr (.inr (List.mem_map.mpr ⟨y, ih h1, rfl⟩))
/-- two rising lists with the same members are one -/
theorem up_eq {l m : List Nat} (hl : l.Pairwise (· < ·)) (hm : m.Pairwise (· < ·)) (h : ∀ x, x ∈ l ↔ x ∈ m) : l = m := by
  refine ia_inj (up_one ?_ ?_ fun x => ?_)
  · unfold ia
    exact List.Pairwise.map _ (fun a b h => Int.ofNat_lt.mpr h) hl
  · unfold ia
    exact List.Pairwise.map _ (fun a b h => Int.ofNat_lt.mpr h) hm
  · unfold ia
    rw [List.mem_map, List.mem_map]
    exact ⟨fun ⟨k, a, b⟩ => ⟨k, (h k).mp a, b⟩, fun ⟨k, a, b⟩ => ⟨k, (h k).mpr a, b⟩⟩
/-- a filter of a sorted list -/
theorem srt_filter (f : List Nat → Bool) (L : List (List Nat)) : srtO (L.filter f) = (srtO L).filter f :=
  sorted_one ((srt_perm _).trans ((srt_perm L).symm.filter f)) (srt_sorted _) ((srt_sorted L).filter f)
theorem sub_le {α : Type} [DecidableEq α] : ∀ {R F : List α}, R.Nodup → (∀ k ∈ R, k ∈ F) → R.length ≤ F.length
  | [], _, _, _ => Nat.zero_le _
  | x :: R, F, nd, h => by
    rw [List.nodup_cons] at nd
    have hx := h x (List.mem_cons_self ..)
    have := sub_le (R := R) (F := F.erase x) nd.2 fun k hk => (List.mem_erase_of_ne fun e => nd.1 (by rw [← e]; exact hk)).mpr (h k (List.mem_cons_of_mem _ hk))
    rw [List.length_erase_of_mem hx] at this
    have p : 0 < F.length := List.length_pos_of_mem hx
    show R.length + 1 ≤ F.length
    omega
/-! ### building -/
section
variable {α : Type}
/-- steps: numbers given, then worths of cells of what is there -/
inductive Built (cs : List (α × List Nat × Nat)) (ms : List Nat) : List (Nat × Option (α × List Nat)) → Prop where
  | base : Built cs ms (ms.map fun k => (k, none))
  | step {st : List (Nat × Option (α × List Nat))} {c : α × List Nat × Nat} : Built cs ms st → c ∈ cs → c.2.2 ∉ st.map (·.1) → (∀ a ∈ c.2.1, a ∈ st.map (·.1)) → Built cs ms (st ++ [(c.2.2, some (c.1, c.2.1))])
theorem Built.nodup {cs : List (α × List Nat × Nat)} {ms : List Nat} {st : List (Nat × Option (α × List Nat))} (nd : ms.Nodup) (h : Built cs ms st) : (st.map (·.1)).Nodup := by
  induction h with
  | base =>
    rw [List.map_map]
    show (ms.map fun k => k).Nodup
    rw [List.map_id']
    exact nd
  | step b hc hn ha ih =>
    rw [List.map_append, List.nodup_append]
    exact ⟨ih, List.pairwise_singleton _ _, fun x hx y hy e => hn (by
      rw [List.mem_singleton.mp hy] at e
      dsimp only at e
      rw [← e]
      exact hx)⟩
theorem Built.low {cs : List (α × List Nat × Nat)} {ms : List Nat} {st : List (Nat × Option (α × List Nat))} {n : Nat} (l1 : ∀ k ∈ ms, k < n) (l2 : ∀ c ∈ cs, c.2.2 < n) (h : Built cs ms st) : ∀ k ∈ st.map (·.1), k < n := by
  induction h with
  | base =>
    intro k hk
    obtain ⟨x, hx, rfl⟩ := List.mem_map.mp hk
    obtain ⟨y, hy, rfl⟩ := List.mem_map.mp hx
    exact l1 _ hy
  | step b hc hn ha ih =>
    intro k hk
    rw [List.map_append] at hk
    rcases List.mem_append.mp hk with z | z
    · exact ih k z
    · rw [List.mem_singleton.mp z]
      exact l2 _ hc
end
/-- the numbers among some, rising -/
def ups (n : Nat) (num : List Nat) : List Nat := (List.range n).filter fun k => decide (k ∈ num)
theorem ups_up (n : Nat) (num : List Nat) : Up n (ups n num) := ⟨List.Pairwise.filter _ List.pairwise_lt_range, fun k hk => List.mem_range.mp (List.mem_filter.mp hk).1⟩
theorem ups_mem {n : Nat} {num : List Nat} (h : ∀ k ∈ num, k < n) (k : Nat) : k ∈ ups n num ↔ k ∈ num := by
  unfold ups
  rw [List.mem_filter, List.mem_range]
  exact ⟨fun z => of_decide_eq_true z.2, fun z => ⟨h k z, decide_eq_true z⟩⟩
theorem up_self {n : Nat} {S : List Nat} (h : Up n S) : ups n S = S := up_eq (ups_up n S).1 h.1 fun x => ups_mem h.2 x
end CL
end
section
/-! lists of lists of numbers, each at its own new place -/
namespace Dw
open PySem PySem.Spec PyProof.Rows L2 Evl PySem.W M25
/-- a list of numbers at its place -/
def LN (H : Hp) (v : V) (ns : List Nat) : Prop := ∃ a, v = .ref a ∧ H a = some (.lst (ns.map vi))
theorem LN.ex {H H' : Hp} {v : V} {ns : List Nat} (e : Ex H H') (h : LN H v ns) : LN H' v ns := let ⟨a, q, s⟩ := h; ⟨a, q, e _ _ s⟩
theorem dp_ln {K : PySem.W.Frag} {H : Hp} {b : Addr} {ns : List Nat} (h : H b = some (.lst (ns.map vi))) : Dp K H (.ref b) (dL ns) := .lst (sq_of h) (dps_nats ns)
/-- a new list of new lists, all at places of their own, none there in H0 -/
structure LLs (H0 H : Hp) (a : Addr) (as : List Addr) (L : List (List Nat)) : Prop where
  at_ : H a = some (.lst (as.map V.ref))
  new : H0 a = none
  each : Paired (fun b ns => H b = some (.lst (ns.map vi)) ∧ H0 b = none) as L
  nd : as.Nodup
  ne : a ∉ as
theorem LLs.ex {H0 H H' : Hp} {a : Addr} {as : List Addr} {L : List (List Nat)} (e : Ex H H') (h : LLs H0 H a as L) : LLs H0 H' a as L := ⟨e _ _ h.at_, h.new, paired_imp (fun _ _ z => ⟨e _ _ z.1, z.2⟩) h.each, h.nd, h.ne⟩
theorem LLs.low {H0 H1 H : Hp} {a : Addr} {as : List Addr} {L : List (List Nat)} (e : Ex H0 H1) (h : LLs H1 H a as L) : LLs H0 H a as L := ⟨h.at_, fresh_back e h.new, paired_imp (fun _ _ z => ⟨z.1, fresh_back e z.2⟩) h.each, h.nd, h.ne⟩
theorem LLs.len {H0 H : Hp} {a : Addr} {as : List Addr} {L : List (List Nat)} (h : LLs H0 H a as L) : as.length = L.length := paired_len h.each
theorem LLs.some {H0 H : Hp} {a : Addr} {as : List Addr} {L : List (List Nat)} (h : LLs H0 H a as L) {b : Addr} (hb : b ∈ as) : ∃ ns, ns ∈ L ∧ H b = some (.lst (ns.map vi)) ∧ H0 b = none := by
  obtain ⟨i, hi⟩ := List.mem_iff_getElem?.mp hb
  obtain ⟨ns, e, q⟩ := paired_at h.each hi
  exact ⟨ns, List.mem_iff_getElem?.mpr ⟨i, e⟩, q⟩
theorem dps_lls {K : PySem.W.Frag} {H : Hp} : ∀ {as : List Addr} {L : List (List Nat)}, Paired (fun b ns => H b = some (.lst (ns.map vi))) as L → DpAll K H (as.map V.ref) (L.map dL)
  | _, _, .nil => .nil
  | _, _, .cons a b => .cons (dp_ln a) (dps_lls b)
theorem LLs.dp {K : PySem.W.Frag} {H0 H : Hp} {a : Addr} {as : List Addr} {L : List (List Nat)} (h : LLs H0 H a as L) : Dp K H (.ref a) (.list (L.map dL)) := .lst (sq_of h.at_) (dps_lls (paired_imp (fun _ _ z => z.1) h.each))
theorem gd_lls {L : List (List Nat)} (h : ∀ o ∈ L, (∀ k ∈ o, k ≤ 1000) ∧ o.length ≤ 36) (l : L.length ≤ 720) : Gd 2 (720 * 397) (.list (L.map dL)) := gd_lst (fun d hd => by
  obtain ⟨o, ho, rfl⟩ := List.mem_map.mp hd
  exact gd_dL (h o ho).1 (h o ho).2) (by rw [List.length_map]; exact l)
section
variable {K : PySem.W.Frag} {σ : L2.St} {H : Hp} {te tl : TE} {tt : TT} {g : TG} {vs : List Nat} {Q : VK}
/-- the source of a comprehension, read first -/
theorem lc_src (h : tl σ H fun x H1 => tLc (iList K (tC x)) g tt te vs σ H1 Q) : tLc (iList K tl) g tt te vs σ H Q := h
theorem cb1_src {r : List V → Hp → VK → Prop} (h : te σ H fun x H1 => r [x] H1 Q) : tCB r (tCons te tNil) σ H Q := h
/-- a comprehension over a list whose items are new lists of numbers -/
theorem do_lcNew {a : Addr} {xs : List V} {L : List (List Nat)} {j : Nat} (h : Ev tl σ H (.ref a)) (hx : SqL K H a xs) (hL : L.length = xs.length) (hn : xs.length ≤ 40000) (hwp : ∀ x, wipe ((wipe σ vs).set j (some x)) vs = wipe σ vs)
    (hs : ∀ (i : Nat) (x : V) (ns : List Nat) (H1 : Hp), Ex H H1 → xs[i]? = some x → L[i]? = some ns → EvL te ((wipe σ vs).set j (some x)) H1 (ns.map vi))
    (k : ∀ p as H1, Ex H H1 → LLs H H1 p as L → Q (.ref p) H1) : tLc (iList K tl) (gName j) tYes te vs σ H Q := by
  refine h H (Ex.refl _) _ fun H1 e1 => ⟨a, rfl, ⟨xs, ex_l e1 hx⟩, fun Dl nD => ?_⟩
  have nDH : H Dl = none := fresh_back e1 nD
  refine lc_it (walk_list (K := K) (a := a) (xs := xs)) (fun i H' => Ex H H' ∧ ∃ as, LLs H H' Dl as (L.take i)) ⟨e1.trans (Ex.new nD), [], upd_same, nDH, .nil, .nil, by simp⟩ (fun i H' _ ⟨e, _⟩ => ex_l e hx) (fun i x H2 H3 hi ⟨e2, as, ll⟩ y => ?_) (fun H2 ⟨e2, as, ll⟩ => ?_)
  · obtain ⟨rfl, hxi⟩ := y
    have hi2 : i < L.length := by omega
    refine ⟨hwp x, et_yes H3 (Ex.refl _) _ fun H4 e4 => ifT ?_⟩
    have e04 : Ex H H4 := e2.trans e4
    refine hs i x L[i] H4 e04 hxi (List.getElem?_eq_getElem hi2) H4 (Ex.refl _) _ fun b H5 nb e5 hb => ?_
    have ll5 := ll.ex (e4.trans e5)
    have la := ll.len
    rw [List.length_take] at la
    refine ⟨as.map V.ref, ll5.at_, by rw [List.length_map]; exact sz_lt (by omega), (e04.trans e5).mut nDH, as ++ [b], ?_⟩
    have nbH : H b = none := fresh_back e04 nb
    have bD : b ≠ Dl := fun z => by
      have := (ll.ex e4).at_
      rw [z, this] at nb
      cases nb
    have ba : b ∉ as := fun z => by
      obtain ⟨ns, _, q, _⟩ := (ll.ex e4).some z
      rw [q] at nb
      cases nb
    refine ⟨by rw [upd_same, List.map_append]; rfl, nDH, ?_, ?_, fun z => ?_⟩
    · rw [List.take_add_one, List.getElem?_eq_getElem hi2]
      refine paired_snoc' (R := fun c ns => (upd H5 Dl (.lst (as.map V.ref ++ [V.ref b]))) c = some (.lst (ns.map vi)) ∧ H c = none) (xs := as) (x := b) (y := L[i]) ⟨by rw [upd_ne bD]; exact hb, nbH⟩ ?_
      have : ∀ {as' : List Addr} {L' : List (List Nat)}, (∀ c ∈ as', c ≠ Dl) → Paired (fun b ns => H5 b = some (.lst (ns.map vi)) ∧ H b = none) as' L' → Paired (fun c ns => (upd H5 Dl (.lst (as.map V.ref ++ [V.ref b]))) c = some (.lst (ns.map vi)) ∧ H c = none) as' L' := fun {as'} {L'} hc p => by
        induction p with
        | nil => exact .nil
        | cons q r ih => exact .cons ⟨by rw [upd_ne (hc _ (List.mem_cons_self ..))]; exact q.1, q.2⟩ (ih fun c hcc => hc c (List.mem_cons_of_mem _ hcc))
      exact this (fun c hc z => ll.ne (z ▸ hc)) ll5.each
    · rw [List.nodup_append]
      exact ⟨ll.nd, List.pairwise_singleton _ _, fun x hx y hy e => ba (by rw [List.mem_singleton.mp hy] at e; rw [← e]; exact hx)⟩
    · rcases List.mem_append.mp z with z | z
      · exact ll.ne z
      · exact bD (List.mem_singleton.mp z).symm
  · refine k Dl as H2 e2 ?_
    rw [← hL, List.take_length] at ll
    exact ll
end
section
variable {K : PySem.W.Frag} {σ : L2.St} {H : Hp} {te tl : TE} {tt : TT} {g : TG} {vs : List Nat} {Q : VK}
/-- those of them that fit -/
theorem paired_filt {H0 H : Hp} {f : Nat → Bool} {f' : List Nat → Bool} : ∀ {as : List Addr} {L : List (List Nat)}, Paired (fun b ns => H b = some (.lst (ns.map vi)) ∧ H0 b = none) as L → (∀ i (h : i < L.length), f i = f' L[i]) →
    ∃ bs, given as.length f (fun i => .ref (as.getD i 0)) = bs.map V.ref ∧ bs.Sublist as ∧ Paired (fun b ns => H b = some (.lst (ns.map vi)) ∧ H0 b = none) bs (L.filter f') := by
  intro as
  have main : ∀ (m : Nat) (as : List Addr), as.length = m → ∀ {L : List (List Nat)}, Paired (fun b ns => H b = some (.lst (ns.map vi)) ∧ H0 b = none) as L → (∀ i (h : i < L.length), f i = f' L[i]) →
      ∃ bs, given as.length f (fun i => .ref (as.getD i 0)) = bs.map V.ref ∧ bs.Sublist as ∧ Paired (fun b ns => H b = some (.lst (ns.map vi)) ∧ H0 b = none) bs (L.filter f') := by
   intro m
   induction m with
   | zero =>
    intro as h0 L p _
    cases as with
    | nil => cases p; exact ⟨[], rfl, .slnil, .nil⟩
    | cons x r => cases h0
   | succ m ih0 =>
    intro as0 h0 L p hf
    have ne0 : as0 ≠ [] := fun z => by rw [z] at h0; cases h0
    obtain ⟨as, b, rfl⟩ : ∃ as b, as0 = as ++ [b] := ⟨_, _, (List.dropLast_concat_getLast ne0).symm⟩
    rw [List.length_append, List.length_singleton] at h0
    have ih := fun {L : List (List Nat)} => ih0 as (by omega) (L := L)
    clear ih0 ne0
    have ll := paired_len p
    rw [List.length_append, List.length_singleton] at ll
    obtain ⟨L', ns, rfl⟩ : ∃ L' ns, L = L' ++ [ns] := by
      have ne : L ≠ [] := fun z => by rw [z] at ll; cases ll
      exact ⟨_, _, (List.dropLast_concat_getLast ne).symm⟩
    rw [List.length_append, List.length_singleton] at ll
    have l2 : as.length = L'.length := by omega
    have p1 : Paired (fun b ns => H b = some (.lst (ns.map vi)) ∧ H0 b = none) as L' ∧ (H b = some (.lst (ns.map vi)) ∧ H0 b = none) := by
      clear ih hf ll h0
      induction as generalizing L' with
      | nil =>
        cases L' with
        | nil => cases p with | cons q r => exact ⟨.nil, q⟩
        | cons y r => cases l2
      | cons x as ih2 =>
        cases L' with
        | nil => cases l2
        | cons y r =>
          cases p with
          | cons q t =>
            obtain ⟨u, v⟩ := ih2 r t (by simpa using l2)
            exact ⟨.cons q u, v⟩
    obtain ⟨bs, e, sl, pb⟩ := ih p1.1 fun i h => by
      rw [hf i (by rw [List.length_append]; omega), List.getElem_append_left h]
    have e' : given as.length f (fun i => V.ref ((as ++ [b]).getD i 0)) = bs.map V.ref := by
      rw [← e]
      unfold Evl.given
      refine List.map_congr_left fun i hi => ?_
      have := List.mem_range.mp (List.mem_filter.mp hi).1
      rw [List.getD_eq_getElem?_getD, List.getD_eq_getElem?_getD, List.getElem?_append_left this]
    have fl : f as.length = f' ns := by
      rw [hf as.length (by rw [List.length_append, List.length_singleton]; omega)]
      congr 1
      simp [l2]
    rw [List.length_append, List.length_singleton, List.filter_append]
    cases hb : f' ns with
    | true =>
      rw [given_yes (by rw [fl, hb])]
      refine ⟨bs ++ [b], ?_, List.Sublist.append sl (List.Sublist.refl _), ?_⟩
      · rw [e', List.map_append]
        simp [List.getD_eq_getElem?_getD]
      · rw [List.filter_cons_of_pos hb, List.filter_nil]
        exact paired_snoc' (R := fun b ns => H b = some (.lst (ns.map vi)) ∧ H0 b = none) (x := b) (y := ns) p1.2 pb
    | false =>
      rw [given_no (by rw [fl, hb])]
      refine ⟨bs, e', sl.trans (List.sublist_append_left _ _), ?_⟩
      rw [List.filter_cons_of_neg (by rw [hb]; decide), List.filter_nil, List.append_nil]
      exact pb
  exact fun {L} => main as.length as rfl (L := L)
theorem do_lcFit {H0 : Hp} {a : Addr} {as : List Addr} {L : List (List Nat)} {f : List Nat → Bool} {j : Nat} (h : Ev tl σ H (.ref a)) (ll : LLs H0 H a as L) (h0 : Ex H0 H) (hn : L.length ≤ 40000) (hwp : ∀ x, wipe ((wipe σ vs).set j (some x)) vs = wipe σ vs)
    (hj : ∀ x, ((wipe σ vs).set j (some x))[j]? = some (some x))
    (hs : ∀ b ns H1, Ex H H1 → ns ∈ L → H1 b = some (.lst (ns.map vi)) → EvT tt ((wipe σ vs).set j (some (.ref b))) H1 (f ns))
    (k : ∀ p bs H1, Ex H H1 → bs.Sublist as → LLs H0 H1 p bs (L.filter f) → Q (.ref p) H1) : tLc (iList K tl) (gName j) tt (tVar j) vs σ H Q := by
  have la := ll.len
  refine el_lcL (K := K) (fun i => f (L.getD i [])) (fun i => .ref (as.getD i 0)) h (sq_of ll.at_) (by rw [List.length_map]; omega) hwp (fun i x H1 e1 hxi => ?_) (fun i x H1 e1 hxi _ => ?_) H (Ex.refl _) _ fun p H1 np e1 hp => ?_
  · rw [List.getElem?_map] at hxi
    cases hb : as[i]? with
    | none => rw [hb] at hxi; cases hxi
    | some b =>
      rw [hb] at hxi
      cases Option.some.inj hxi
      obtain ⟨ns, hns, q, _⟩ := paired_at ll.each hb
      have e1' : L.getD i [] = ns := by rw [List.getD_eq_getElem?_getD, hns]; rfl
      have e2' : as.getD i 0 = b := by rw [List.getD_eq_getElem?_getD, hb]; rfl
      show EvT tt _ H1 (f (L.getD i []))
      rw [e1']
      exact hs b ns H1 e1 (List.mem_iff_getElem?.mpr ⟨i, hns⟩) (e1 _ _ q)
  · rw [List.getElem?_map] at hxi
    cases hb : as[i]? with
    | none => rw [hb] at hxi; cases hxi
    | some b =>
      rw [hb] at hxi
      cases Option.some.inj hxi
      have e2' : as.getD i 0 = b := by rw [List.getD_eq_getElem?_getD, hb]; rfl
      show Ev _ _ H1 (.ref (as.getD i 0))
      rw [e2']
      exact ev_var (hj _)
  · obtain ⟨bs, e, sl, pb⟩ := paired_filt (f := fun i => f (L.getD i [])) (f' := f) ll.each fun i hi => by
      show f (L.getD i []) = f L[i]
      rw [List.getD_eq_getElem?_getD, List.getElem?_eq_getElem hi]
      rfl
    rw [List.length_map, e] at hp
    refine k p bs H1 e1 sl ⟨hp, fresh_back h0 np, paired_imp (fun _ _ z => ⟨e1 _ _ z.1, z.2⟩) pb, ll.nd.sublist sl, fun z => ?_⟩
    obtain ⟨ns, _, q, _⟩ := ll.some (sl.subset z)
    rw [q] at np
    cases np
/-- sorted(them) -/
theorem do_sortL {H0 : Hp} {a : Addr} {as : List Addr} {L : List (List Nat)} (ll : LLs H0 H a as L) (h0 : Ex H0 H)
    (k : ∀ p bs H1, Ex H H1 → bs.Perm as → LLs H0 H1 p bs (srtO L) → Q (.ref p) H1) : rSortD K [.ref a] H Q := by
  have la := ll.len
  let qs : List (Addr × List Nat) := as.zip L
  have eq1 : qs.map (·.1) = as := List.map_fst_zip (by omega)
  have eq2 : qs.map (·.2) = L := List.map_snd_zip (by omega)
  have hq : ∀ q ∈ qs, H q.1 = some (.lst (q.2.map vi)) ∧ H0 q.1 = none := fun q hqq => by
    obtain ⟨i, hi⟩ := List.mem_iff_getElem?.mp hqq
    rw [List.getElem?_zip_eq_some] at hi
    obtain ⟨ns, e, z⟩ := paired_at ll.each hi.1
    rw [e] at hi
    rw [← Option.some.inj hi.2]
    exact z
  let ps : List (V × List Nat) := qs.map fun q => (V.ref q.1, q.2)
  have e3 : ((ps.map fun p => (p.1, dL p.2)).map (·.1)) = as.map V.ref := by
    rw [← eq1]
    simp only [ps, List.map_map]
    rfl
  refine ⟨a, ps.map fun p => (p.1, dL p.2), rfl, by rw [e3]; exact sq_of ll.at_, fun p hp => ?_, ?_, .inr fun d hd => ?_, fun p hp => ?_, fun l nl => ?_⟩
  · obtain ⟨p', hp', rfl⟩ := List.mem_map.mp hp
    obtain ⟨q, hqq, rfl⟩ := List.mem_map.mp hp'
    exact dp_ln (hq q hqq).1
  · rw [List.map_map]
    exact AllAlike.of (enc := fun p : V × List Nat => dL p.2) fun b b' => by
      show alike (dL b.2) (dL b'.2) = true
      have e : ∀ l : List Nat, dL l = .list ((ia l).map .int) := fun l => by
        unfold dL ia
        rw [List.map_map]
        rfl
      rw [e, e, alike]
      exact alike_ints _ _
  · rw [List.map_map] at hd
    obtain ⟨p', hp', rfl⟩ := List.mem_map.mp hd
    exact ⟨(fun z => PyData.noConfusion z), (fun xs z => PyData.noConfusion z)⟩
  · obtain ⟨p', hp', rfl⟩ := List.mem_map.mp hp
    show PyData.depth (dL p'.2) ≤ 40
    have : ∀ l : List Nat, PyData.depthAll (l.map fun n => PyData.int ((n : Nat) : Int)) ≤ 0 := fun l => by
      induction l with
      | nil => simp [PyData.depthAll]
      | cons x l ih =>
        rw [List.map_cons, PyData.depthAll, PyData.depth]
        omega
    unfold dL
    rw [PyData.depth]
    have := this p'.2
    omega
  · rw [leD_rows]
    have e4 : (ps.mergeSort fun a b => leO a.2 b.2) = (qs.mergeSort fun a b => leO a.2 b.2).map fun q => (V.ref q.1, q.2) := (List.map_mergeSort (r := fun a b : Addr × List Nat => leO a.2 b.2) (s := fun a b : V × List Nat => leO a.2 b.2) (f := fun q : Addr × List Nat => (V.ref q.1, q.2)) fun a _ b _ => rfl).symm
    have e5 : (qs.mergeSort fun a b => leO a.2 b.2).map (·.2) = srtO L := by
      rw [← eq2]
      exact List.map_mergeSort (r := fun a b : Addr × List Nat => leO a.2 b.2) (s := leO) (f := fun q : Addr × List Nat => q.2) fun a _ b _ => rfl
    have pm : (qs.mergeSort fun a b => leO a.2 b.2).Perm qs := List.mergeSort_perm _ _
    generalize (qs.mergeSort fun a b => leO a.2 b.2) = rs at e4 e5 pm
    rw [e4]
    have pma : (rs.map (·.1)).Perm as := by
      rw [← eq1]
      exact pm.map _
    refine k l (rs.map (·.1)) _ (Ex.new nl) pma ⟨?_, fresh_back h0 nl, ?_, pma.nodup_iff.mpr ll.nd, fun z => ?_⟩
    · rw [upd_same]
      congr 2
      simp only [List.map_map]
      rfl
    · rw [← e5]
      have : ∀ {ts : List (Addr × List Nat)}, (∀ q ∈ ts, q ∈ qs) → Paired (fun b ns => (upd H l (.lst (((rs.map fun q => (V.ref q.1, q.2)).map fun p => (p.1, dL p.2)).map (·.1)))) b = some (.lst (ns.map vi)) ∧ H0 b = none) (ts.map (·.1)) (ts.map (·.2)) := fun {ts} h => by
        induction ts with
        | nil => exact .nil
        | cons q ts ih =>
          have z := hq q (h q (List.mem_cons_self ..))
          exact .cons ⟨Ex.new nl _ _ z.1, z.2⟩ (ih fun q' hq' => h q' (List.mem_cons_of_mem _ hq'))
      exact this fun q hqq => pm.mem_iff.mp hqq
    · obtain ⟨ns, _, q, _⟩ := ll.some (pma.mem_iff.mp z)
      rw [q] at nl
      cases nl
end
section
variable {K : PySem.W.Frag} {σ : L2.St} {H : Hp} {D : Ends} {tu tz : TS} {g : TG}
/-- a loop over what is walked, as tFor has it behind its source -/
def Loops (J : It) (g : TG) (tu : TS) (D : Ends) (σ : L2.St) (H1 : Hp) : Prop := ∃ W : Nat → Nat → L2.St → Hp → Prop, (∃ m, W 0 m σ H1) ∧ ∀ i m σ H, W i m σ H →
  (J.stop i H ∧ D.nx σ H) ∨ (J.go i H ∧ ∃ N : L2.St → Hp → Prop, (∀ σ' H', N σ' H' → ∃ m', m' < m ∧ W (i + 1) m' σ' H') ∧ ∀ x H', J.yld i H x H' → g x σ H' fun σ2 H2 => tu { D with nx := N, ct := N, bk := D.nx } σ2 H2)
/-- for .. in zip(a list, a tuple) -/
theorem s_zipM {ta : TA} (h : ta σ H fun vs H1 => ∃ a b xs ys, vs = [.ref a, .ref b] ∧ SqL K H1 a xs ∧ SqT K H1 b ys ∧ Loops (ItzM K a b) g tu D σ H1) : tFor (iZipM K ta) g tu D σ H := h
theorem s_forLs {tl : TE} (h : tl σ H fun x H1 => ∃ a, x = .ref a ∧ (∃ xs, SqL K H1 a xs) ∧ Loops (Itl K a) g tu D σ H1) : tFor (iList K tl) g tu D σ H := h
theorem q_forLs {tl : TE} (h : tl σ H fun x H1 => ∃ a, x = .ref a ∧ (∃ xs, SqL K H1 a xs) ∧ Loops (Itl K a) g tu { D with nx := tz D } σ H1) : tSeq (tFor (iList K tl) g tu) tz D σ H := h
theorem loops_list {a : Addr} {xs : List V} (Pv : Nat → L2.St → Hp → Prop) (h0 : Pv 0 σ H) (hk : ∀ i σ' H', i ≤ xs.length → Pv i σ' H' → SqL K H' a xs)
    (hs : ∀ i x σ' H', xs[i]? = some x → Pv i σ' H' → g x σ' H' fun σ2 H2 => tu { D with nx := Pv (i + 1), ct := Pv (i + 1), bk := D.nx } σ2 H2) (hd : ∀ σ' H', Pv xs.length σ' H' → D.nx σ' H') : Loops (Itl K a) g tu D σ H :=
  for_it (walk_list (K := K) (a := a) (xs := xs)) Pv h0 hk (fun i v σ' H2 H3 hi p y => by
    obtain ⟨rfl, e1⟩ := y
    exact hs i v σ' _ e1 p) hd
theorem loops_zipM {a b : Addr} {xs ys : List V} (hl : xs.length = ys.length) (Pv : Nat → L2.St → Hp → Prop) (h0 : Pv 0 σ H) (hk : ∀ i σ' H', i ≤ xs.length → Pv i σ' H' → SqL K H' a xs ∧ SqT K H' b ys)
    (hs : ∀ i x y T σ' H', xs[i]? = some x → ys[i]? = some y → Pv i σ' H' → H' T = none → g (.ref T) σ' (upd H' T (.tup [x, y])) fun σ2 H2 => tu { D with nx := Pv (i + 1), ct := Pv (i + 1), bk := D.nx } σ2 H2) (hd : ∀ σ' H', Pv xs.length σ' H' → D.nx σ' H') : Loops (ItzM K a b) g tu D σ H :=
  for_it (walk_zipM (n := xs.length) (by omega)) Pv h0 hk (fun i v σ' H2 H3 hi p y => by
    obtain ⟨T, x1, x2, rfl, nT, rfl, e1, e2⟩ := y
    exact hs i x1 x2 T σ' H2 e1 e2 p nT) hd
end
section
variable {K : PySem.W.Frag} {σ : L2.St} {H : Hp} {D : Ends} {tu tz : TS} {g : TG}
theorem qloops_list {a : Addr} {xs : List V} (Pv : Nat → L2.St → Hp → Prop) (h0 : Pv 0 σ H) (hk : ∀ i σ' H', i ≤ xs.length → Pv i σ' H' → SqL K H' a xs)
    (hs : ∀ i x σ' H', xs[i]? = some x → Pv i σ' H' → g x σ' H' fun σ2 H2 => tu { D with nx := Pv (i + 1), ct := Pv (i + 1), bk := tz D } σ2 H2) (hd : ∀ σ' H', Pv xs.length σ' H' → tz D σ' H') : Loops (Itl K a) g tu { D with nx := tz D } σ H :=
  loops_list (D := { D with nx := tz D }) Pv h0 hk hs hd
end
section
variable {K : PySem.W.Frag} {σ : L2.St} {H : Hp} {D : Ends} {ta te : TE} {tt : TT} {tz : TS} {P : V → Hp → Prop}
theorem q_appP' {l : Addr} {xs : List V} (hl : H l = some (.lst xs)) (ha : Ev ta σ H (.ref l)) (h : EvP te σ H P) (hz : xs.length < 100000) (k : ∀ v H1, Ex H H1 → P v H1 → tz D σ (upd H1 l (.lst (xs ++ [v])))) : tSeq (tDrop (tBM K "list" rAppend ta (tCons te tNil))) tz D σ H :=
  s_appP (D := { D with nx := tz D }) hl ha h hz k
end
section
variable {σ : L2.St} {H : Hp}
theorem ep_callF {α : Type} {pre : α → List V → Hp → Prop} {post : α → V → Hp → Prop} (a : α) {vs : List V} {E : XK} {ta : TA} (h : EvA ta σ H vs) (hp : ∀ H1, Ex H H1 → pre a vs H1) : EvP (tCall (spF pre post) [] E ta) σ H (fun v H' => post a v H' ∧ ∀ d, v = .ref d → H d = none) := fun H1 e Q q =>
  h H1 e _ fun H2 e2 => by
    rw [List.append_nil]
    exact ⟨a, hp H2 (e.trans e2), fun v H3 e3 p n => q v H3 (e2.trans e3) ⟨p, fun d z => fresh_back (e.trans e2) (n d z)⟩⟩
end
section
variable {K : PySem.W.Frag} {σ : L2.St} {H : Hp} {te : TE} {w : World}
/-- sorted(set(a list by its name)) -/
theorem el_sortSetV {a : Addr} {ns ms : List Nat} (h : Ev te σ H (.ref a)) (ha : SqL K H a (ns.map vi)) (few : ns.length < 1000) (B : Nat) (b60 : B < 64) (low : ∀ k ∈ ns, k < B) (up : ms.Pairwise (· < ·)) (mem : ∀ k, k ∈ ms ↔ k ∈ ns) : EvL (tCB (rSortedSet w) (tCons (tCB (rSetI K w) (tCons te tNil)) tNil)) σ H (ms.map vi) := fun H1 e Q q =>
  h H1 e _ fun H2 e2 => ⟨a, ia ns, rfl, by
    unfold ia
    rw [List.map_map]
    exact ex_l (e.trans e2) ha, by unfold ia; rw [List.length_map]; exact few, fun s m hm nS => ⟨s, _, m, rfl, upd_same, Nat.lt_of_le_of_lt (hm B fun x hx => by
      obtain ⟨k, hk, rfl⟩ := List.mem_map.mp hx
      have := low k hk
      omega) b60, fun rs l rup rmem _ nl => by
    have er : rs = ia ms := up_one rup (ia_up up) fun x => by
      rw [rmem x]
      constructor
      · intro z
        obtain ⟨k, hk, rfl⟩ := List.mem_map.mp (of_decide_eq_true z)
        exact List.mem_map.mpr ⟨k, (mem k).mpr hk, rfl⟩
      · intro z
        obtain ⟨k, hk, rfl⟩ := List.mem_map.mp z
        exact decide_eq_true (List.mem_map.mpr ⟨k, (mem k).mp hk, rfl⟩)
    have e3 : Ex H2 (upd H2 s (SetO w s (fun k => decide (k ∈ ia ns)) m)) := Ex.new nS
    refine q l _ (fresh_back (e2.trans e3) nl) ((e2.trans e3).trans (Ex.new nl)) ?_
    rw [upd_same, er]
    unfold ia
    rw [List.map_map]
    rfl⟩⟩
end
section
variable {K : PySem.W.Frag} {σ : L2.St} {H : Hp} {ta tb te : TE}
theorem eqV_vi (a b : Nat) : eqV (vi a) (vi b) = decide (a = b) := by
  by_cases h : a = b
  · subst h
    simp [eqV]
  · simp [eqV, h]
    omega
theorem ev_lindex {a : Addr} {S : List Nat} {k : Nat} (ha : Ev ta σ H (.ref a)) (hx : H a = some (.lst (S.map vi))) (hk : Ev te σ H (vi k)) (mem : k ∈ S) : Ev (tBM K "list" (rIndex K) ta (tCons te tNil)) σ H (vi (S.idxOf k)) := fun H1 e Q q =>
  ha H1 e _ fun H2 e2 => ⟨Or.inl ⟨rfl, _, sq_of ((e.trans e2) _ _ hx)⟩, hk H2 (e.trans e2) _ fun H3 e3 => by
    have hi : S.idxOf k < S.length := List.idxOf_lt_length_iff.mpr mem
    refine ⟨a, S.map vi, vi k, S.idxOf k, vi k, rfl, rfl, sq_of (((e.trans e2).trans e3) _ _ hx), rfl, flat_vi S, ?_, by rw [eqV_vi]; exact decide_eq_true rfl, fun m z hm hz => ?_, q H3 (e2.trans e3)⟩
    · rw [List.getElem?_map, List.getElem?_eq_getElem hi, List.getElem_idxOf hi]
      rfl
    · rw [List.getElem?_map, List.getElem?_eq_getElem (by omega)] at hz
      rw [← Option.some.inj hz, eqV_vi]
      refine decide_eq_false fun z2 => ?_
      have := List.not_of_lt_findIdx (p := (· == k)) (xs := S) (i := m) hm
      rw [z2] at this
      exact absurd (beq_self_eq_true k) (by rw [this]; decide)⟩
theorem ev_eqLN {a : Addr} {xs ys : List Nat} (ha : Ev ta σ H (.ref a)) (hx : SqL K H a (xs.map vi)) (hb : EvL tb σ H (ys.map vi)) (lx : ∀ k ∈ xs, k ≤ 1000) (ly : ∀ k ∈ ys, k ≤ 1000) (zx : xs.length ≤ 36) (zy : ys.length ≤ 36) : Ev (tOp (rEqD K) ta tb) σ H (.bl (decide (xs = ys))) := fun H1 e Q q =>
  ha H1 e _ fun H2 e2 => hb H2 (e.trans e2) _ fun b H3 nb e3 hb3 => ⟨dL xs, dL ys, .lst (ex_l ((e.trans e2).trans e3) hx) (dps_nats xs), dp_ln hb3, (gd_dL lx zx).shaped (by decide), (gd_dL ly zy).shaped (by decide), by
    rw [eqv_dL]
    exact q H3 (e2.trans e3)⟩
theorem ev_lenL {a : Addr} {S : List Nat} (ha : Ev ta σ H (.ref a)) (hx : H a = some (.lst (S.map vi))) : Ev (tCB (rLenS K) (tCons ta tNil)) σ H (vi S.length) := ev_is (ev_len ha (sq_of hx)) (by rw [List.length_map])
end
section
variable {K : PySem.W.Frag} {σ : L2.St} {H : Hp} {ta tb te : TE} {Q : VK}
end
section
variable {K : PySem.W.Frag} {σ : L2.St} {H : Hp} {D : Ends} {tu tz : TS} {g : TG}
end
theorem range_getD {β : Type} (d : β) (r : List β) : (List.range r.length).map (fun i => r.getD i d) = r := by
  apply List.ext_getElem?
  intro i
  by_cases hi : i < r.length
  · rw [List.getElem?_map, List.getElem?_range hi, List.getElem?_eq_getElem hi]
    show some (r.getD i d) = _
    rw [List.getD_eq_getElem?_getD, List.getElem?_eq_getElem hi]
    rfl
  · rw [List.getElem?_eq_none_iff.mpr (by simp; omega), List.getElem?_eq_none_iff.mpr (by omega)]
section
variable {K : PySem.W.Frag} {σ : L2.St} {H : Hp} {ta tb te : TE}
/-- [s[arg] for arg in args] -/
theorem el_getS {i j k : Nat} {row S : List Nat} {xa a : Addr} (hw : ∀ x, wipe ((wipe σ [j]).set j (some x)) [j] = wipe σ [j]) (hi : σ[i]? = some (some (.ref xa))) (hk : ∀ x, ((wipe σ [j]).set j (some x))[k]? = some (some (.ref a))) (hj : ∀ x, ((wipe σ [j]).set j (some x))[j]? = some (some x))
    (hxa : SqT K H xa (row.map vi)) (ha : SqL K H a (S.map vi)) (rl : ∀ x ∈ row, x < S.length) (l : row.length ≤ 1000) : EvL (tLc (iTup K (tVar i)) (gName j) tYes (tOp (rIxL K) (tVar k) (tVar j)) [j]) σ H ((row.map (M20.g S)).map vi) := by
  have zz := el_lcT (K := K) (tl := tVar i) (te := tOp (rIxL K) (tVar k) (tVar j)) (σ := σ) (j := j) (vs := [j]) (ev_var hi) hxa (fun q => vi (M20.g S (row.getD q 0))) (by rw [List.length_map]; omega) hw (fun q y H7 e7 hy => by
    rw [List.getElem?_map] at hy
    cases hq : row[q]? with
    | none => rw [hq] at hy; cases hy
    | some kk =>
      rw [hq] at hy
      cases Option.some.inj hy
      have lk := rl kk (List.mem_iff_getElem?.mpr ⟨q, hq⟩)
      rw [List.getD_eq_getElem?_getD, hq]
      exact ev_op (ev_var (hk _)) (ev_var (hj _)) (rv_ixL (K := K) (ex_l e7 ha) (atI_vi (k := kk) (by rw [List.getElem?_map, M20.g_eq lk]; rfl))))
  have e : (List.range (row.map vi).length).map (fun q => vi (M20.g S (row.getD q 0))) = (row.map (M20.g S)).map vi := by
    conv => rhs; rw [← range_getD 0 row]
    rw [List.length_map, List.map_map, List.map_map]
    rfl
  rw [e] at zz
  exact zz
end
theorem pi_listK {X : Cx} {tg l : Expr} {tl : TE} (K : PySem.W.Frag) (hl : PE X l tl) (h : X.K = K := by rfl) : PI X tg l (iList K tl) := by
  subst h
  exact pi_list hl
theorem mt_indexK {X : Cx} (K : PySem.W.Frag) (h : X.K = K := by rfl) : MtR X "list.index" (rIndex K) := by
  subst h
  exact mt_index
theorem pe_bmK {X : Cx} {o e : Expr} {es : List Expr} {to : TE} {t : TA} {name : Str} {apos cpos : Pos} {T id : String} {r : V → List V → Hp → VK → Prop} (K : PySem.W.Frag) (pa : PlainAttrs T) (slot : Slot T name id) (hty : typeOf (.builtin id) = pure (.type "method_descriptor")) (hm : MtR X id r) (ho : PE X o to) (ha : PA X (e :: es) t) (h : X.K = K := by rfl)
    (hbase : attributeBase o name X.env (eval o X.env) = eval o X.env := by rfl)
    (hfew : ((backTo cpos (starEach (e :: es) X.env)).all (fun x => !x.1) && (backToKw cpos (keywordEach [] X.env)).all (fun x => x.1.isSome)
      && decide ((e :: es).length + ([] : List Keyword).length + (if ([] : List Keyword).isEmpty then 0 else 1) < 30)) = true := by rfl)
    (hline : (apos.endLine == cpos.line) = true := by rfl) (hs : starEach (e :: es) X.env = (false, eval e X.env) :: starEach es X.env := by rfl) (hplain : (backTo cpos (starEach es X.env)).any (·.1) = false := by rfl) : PE X (.Call (.Attribute o name apos) (e :: es) [] cpos) (tBM K T r to t) := by
  subst h
  exact pe_bm pa slot hty hm ho ha hbase hfew hline hs hplain
def rLstO (K : PySem.W.Frag) : List V → Hp → VK → Prop := fun xs H Q => ∃ p ys, xs = [.ref p] ∧ (SqL K H p ys ∨ SqT K H p ys) ∧ ∀ l, H l = none → Q (.ref l) (upd H l (.lst ys))
section
variable {K : PySem.W.Frag} {σ : L2.St} {H : Hp}
/-- x != y, both the same data -/
theorem ev_neSame {ta tb : TE} {P R : V → Hp → Prop} {d : PyData} {k W : Nat} (ha : EvP ta σ H P) (hb : EvP tb σ H R) (st : ∀ v H1 H2, Ex H1 H2 → P v H1 → P v H2) (dp : ∀ v H1, P v H1 → Dp K H1 v d) (dr : ∀ v H1, R v H1 → Dp K H1 v d) (g : Gd k W d) (hk : k ≤ 60) : Ev (tOp (rNeD K) ta tb) σ H (.bl false) := fun H1 e Q q =>
  ha H1 e _ fun v H2 e2 hv => hb H2 (e.trans e2) _ fun u H3 e3 hu => ⟨d, d, dp _ _ (st _ _ _ e3 hv), dr _ _ hu, g.shaped hk, g.shaped hk, by
    rw [SeqAt.eqv_refl _ g.lay]
    exact q H3 (e2.trans e3)⟩
/-- a list of its own stays told by its place -/
theorem el_list' {te : TE} {a : Addr} {xs : List V} (h : Ev te σ H (.ref a)) (ha : H a = some (.lst xs)) : EvL (tCB (rLstO K) (tCons te tNil)) σ H xs := fun H1 e Q q =>
  h H1 e _ fun H2 e2 => ⟨a, xs, rfl, .inl (sq_of ((e.trans e2) _ _ ha)), fun l nl => q l _ (fresh_back e2 nl) (e2.trans (Ex.new nl)) upd_same⟩
end
theorem cut_last {xs : List V} (h : 1 ≤ xs.length) : cutV xs none (some (-1)) = xs.dropLast ∧ HT.sIx xs.length xs.length (some (-1)) = xs.length - 1 := by
  have e : HT.sIx xs.length xs.length (some (-1)) = xs.length - 1 := by
    have e1 : HT.sIx xs.length xs.length (some (-1)) = ((-1 : Int) + (xs.length : Int)).toNat := by
      unfold HT.sIx
      exact if_pos (by decide)
    rw [e1]
    omega
  refine ⟨?_, e⟩
  unfold cutV
  rw [e, HT.sIx_none, Nat.sub_zero, List.drop_zero, List.dropLast_eq_take]
theorem ev_neLN {K : PySem.W.Frag} {σ : L2.St} {H : Hp} {ta tb : TE} {a : Addr} {xs ys : List Nat} (ha : Ev ta σ H (.ref a)) (hx : SqL K H a (xs.map vi)) (hb : EvL tb σ H (ys.map vi)) (lx : ∀ k ∈ xs, k ≤ 1000) (ly : ∀ k ∈ ys, k ≤ 1000) (zx : xs.length ≤ 36) (zy : ys.length ≤ 36) : Ev (tOp (rNeD K) ta tb) σ H (.bl (!decide (xs = ys))) := fun H1 e Q q =>
  ha H1 e _ fun H2 e2 => hb H2 (e.trans e2) _ fun b H3 nb e3 hb3 => ⟨dL xs, dL ys, .lst (ex_l ((e.trans e2).trans e3) hx) (dps_nats xs), dp_ln hb3, (gd_dL lx zx).shaped (by decide), (gd_dL ly zy).shaped (by decide), by
    rw [eqv_dL]
    exact q H3 (e2.trans e3)⟩
theorem ix_listK {X : Cx} (K : PySem.W.Frag) (h : X.K = K := by rfl) : IxR X (rIxL K) := by
  subst h
  exact ix_list
end Dw
end
section
/-! max(t, default=k); new lists by comprehensions over a range, of two fors -/
namespace Dw
open PySem PySem.Spec PyProof.Rows L2 Evl PySem.W M25
def rMaxD (K : PySem.W.Frag) : List V → List V → Hp → VK → Prop := fun vs zs H Q => ∃ (a : Addr) (ns : List Int) (d : Int), vs = [V.ref a] ∧ zs = [.int d] ∧ SqT K H a (ns.map V.int) ∧ (ns = [] → Q (.int d) H) ∧ ∀ m, m ∈ ns → (∀ y, y ∈ ns → y ≤ m) → Q (.int m) H
theorem cr_maxD {X : Cx} {k : Nat} (hc : X.calm = true) (hr : Room k X.A) : CallRK X (.builtin "max") ["default"] (rMaxD X.K) := by
  intro pins s σ H vs zs us ws Q I r rz h
  obtain ⟨a, ns, d, rfl, rfl, hs, q0, q⟩ := h
  obtain ⟨its, rv, hl, _⟩ := I.tuple hs
  rw [Vals.ref1 r]
  cases rz with
  | cons rd rn =>
    cases rn
    obtain ⟨td, rfl⟩ := rd
    have hi : IntsAre its.toArray.toList ns := by rw [List.toList_toArray]; exact ints_of rv
    have hu := hr.units
    have ho : HoldAll s.heap its.toArray.toList ns := ⟨[], ints_readAll _ hi⟩
    refine max_tuple_datum_default (α := Int) (I.ok.hd hc) hl ho (by show X.A.units + 1 + 0 < _; omega) (fun e h' tk hk => ⟨.int d, H, I.kept hk, ⟨td, rfl⟩, q0 e⟩) fun y ys i v h' tk e hv ho2 hk => ?_
    subst e
    obtain ⟨a2, b2⟩ := maxOf_ge ys y
    obtain ⟨as, rd⟩ := ho2
    have rd' : Reads h' v (.int (maxOf y ys)) as := rd
    cases rd' with
    | int _ t => exact ⟨.int _, H, I.kept hk, ⟨t, rfl⟩, q _ b2 a2⟩
section
variable {K : PySem.W.Frag} {σ : L2.St} {H : Hp} {te tl : TE} {tt : TT} {g : TG} {vs vs1 : List Nat} {Q : VK}
/-- max(t, default=-1), one more: 0 of an empty one -/
theorem ev_maxD {td : TA} {ta : TA} {a : Addr} {row : List Nat} (h : EvA ta σ H [.ref a]) (hd : EvA td σ H [.int (-1)]) (s : SqT K H a (row.map vi)) : Ev (tCKw (rMaxD K) ta td) σ H (.int (((need row : Nat) : Int) - 1)) := fun H1 e Q q =>
  h H1 e _ fun H2 e2 => hd H2 (e.trans e2) _ fun H3 e3 => ⟨a, row.map fun k => ((k : Nat) : Int), -1, rfl, rfl, by rw [List.map_map]; exact ex_t ((e.trans e2).trans e3) s, fun z => by
    have : row = [] := List.map_eq_nil_iff.mp z
    subst this
    exact q H3 (e2.trans e3), fun m hm le => by
    obtain ⟨k, hk, rfl⟩ := List.mem_map.mp hm
    have : need row = k + 1 := need_max hk fun j hj => by
      have := le _ (List.mem_map.mpr ⟨j, hj, rfl⟩)
      omega
    rw [this] at q
    have e1 : (((k + 1 : Nat) : Int) - 1) = (k : Int) := by omega
    rw [e1] at q
    exact q H3 (e2.trans e3)⟩
theorem ev_maxP {row : List Nat} (h : EvP te σ H (fun v H' => Nats K H' v row)) (ne : row ≠ []) : Ev (tCB (rMaxT K) (tCons te tNil)) σ H (vi (need row - 1)) := fun H1 e Q q =>
  h H1 e _ fun v H2 e2 ⟨a, hv, s⟩ => by
    subst hv
    refine ⟨a, row.map fun k => ((k : Nat) : Int), rfl, by rw [List.map_map]; exact s, by rw [List.length_map]; exact List.length_pos_iff.mpr ne, fun m hm le => ?_⟩
    obtain ⟨k, hk, rfl⟩ := List.mem_map.mp hm
    have : need row = k + 1 := need_max hk fun j hj => by
      have := le _ (List.mem_map.mpr ⟨j, hj, rfl⟩)
      omega
    rw [this] at q
    exact q H2 e2
/-- one more list behind them -/
theorem lls_snoc {H0 H : Hp} {a b : Addr} {as : List Addr} {L : List (List Nat)} {ns : List Nat} (h : LLs H0 H a as L) (hb : H b = some (.lst (ns.map vi))) (nb : H0 b = none) (b1 : b ∉ as) (b2 : b ≠ a) : LLs H0 (upd H a (.lst (as.map V.ref ++ [.ref b]))) a (as ++ [b]) (L ++ [ns]) := by
  have h2 : Paired (fun c ns => (upd H a (.lst (as.map V.ref ++ [V.ref b]))) c = some (.lst (ns.map vi)) ∧ H0 c = none) as L := by
    have : ∀ {as' : List Addr} {L : List (List Nat)}, a ∉ as' → Paired (fun b ns => H b = some (.lst (ns.map vi)) ∧ H0 b = none) as' L → Paired (fun c ns => (upd H a (.lst (as.map V.ref ++ [V.ref b]))) c = some (.lst (ns.map vi)) ∧ H0 c = none) as' L := fun {as' L} hn p => by
      induction p with
      | nil => exact .nil
      | cons x r ih =>
        rw [List.mem_cons, not_or] at hn
        exact .cons ⟨by rw [upd_ne (Ne.symm hn.1)]; exact x.1, x.2⟩ (ih hn.2)
    exact this h.ne h.each
  refine ⟨by rw [upd_same, List.map_append]; rfl, h.new, paired_snoc' (R := fun c ns => (upd H a (.lst (as.map V.ref ++ [V.ref b]))) c = some (.lst (ns.map vi)) ∧ H0 c = none) (x := b) (y := ns) ⟨by rw [upd_ne b2]; exact hb, nb⟩ h2, ?_, fun z => ?_⟩
  · rw [List.nodup_append]
    exact ⟨h.nd, List.pairwise_singleton _ _, fun x hx y hy e => b1 (by rw [List.mem_singleton.mp hy] at e; rw [← e]; exact hx)⟩
  · rcases List.mem_append.mp z with z | z
    · exact h.ne z
    · exact b2 (List.mem_singleton.mp z).symm
theorem lls_apart {H0 H : Hp} {a b : Addr} {as : List Addr} {L : List (List Nat)} (h : LLs H0 H a as L) (nb : H b = none) : b ∉ as ∧ b ≠ a := by
  constructor
  · intro z
    obtain ⟨_, _, q, _⟩ := h.some z
    rw [q] at nb
    cases nb
  · intro z
    rw [z, h.at_] at nb
    cases nb
/-- a comprehension over a range whose items are new lists of numbers -/
theorem do_lcNewR {ta : TA} {n : Nat} {u : Nat → List Nat} {j : Nat} (h : EvA ta σ H [vi n]) (hn : n ≤ 40000) (hwp : ∀ x, wipe ((wipe σ vs).set j (some x)) vs = wipe σ vs)
    (hs : ∀ (i : Nat) (H1 : Hp), Ex H H1 → i < n → EvL te ((wipe σ vs).set j (some (vi i))) H1 ((u i).map vi))
    (k : ∀ p as H1, Ex H H1 → LLs H H1 p as ((List.range n).map u) → Q (.ref p) H1) : tLc (iRng1 ta) (gName j) tYes te vs σ H Q := by
  refine w_rng h hn H (Ex.refl _) _ fun H1 e1 Dl nD => ?_
  have nDH : H Dl = none := fresh_back e1 nD
  refine lc_it (walk_range (n := n)) (fun i H' => Ex H H' ∧ ∃ as, LLs H H' Dl as ((List.range i).map u)) ⟨e1.trans (Ex.new nD), [], upd_same, nDH, .nil, .nil, by simp⟩ (fun _ _ _ _ => trivial) (fun i x H2 H3 hi ⟨e2, as, ll⟩ y => ?_) (fun H2 ⟨e2, as, ll⟩ => k Dl as H2 e2 ll)
  obtain ⟨rfl, hxi⟩ := y
  have e0 : x = vi i := hxi.trans (by show V.int _ = V.int _; rw [Int.zero_add])
  subst e0
  refine ⟨hwp _, et_yes H3 (Ex.refl _) _ fun H4 e4 => ifT ?_⟩
  have e04 : Ex H H4 := e2.trans e4
  refine hs i H4 e04 hi H4 (Ex.refl _) _ fun b H5 nb e5 hb => ?_
  have ll5 := ll.ex (e4.trans e5)
  have la := ll.len
  rw [List.length_map, List.length_range] at la
  obtain ⟨b1, b2⟩ := lls_apart (ll.ex e4) nb
  refine ⟨as.map V.ref, ll5.at_, by rw [List.length_map]; exact sz_lt (by omega), (e04.trans e5).mut nDH, as ++ [b], ?_⟩
  rw [List.range_succ, List.map_append]
  exact lls_snoc ll5 hb (fresh_back e04 nb) b1 b2
/-- of two fors: a list, then a range; the items new lists of numbers -/
theorem do_lc2New {a : Addr} {xs : List V} {L : List (List Nat)} {u : List Nat → Nat → List Nat} {ta : TA} {m j j1 : Nat} (h : Ev tl σ H (.ref a)) (hx : SqL K H a xs) (hL : L.length = xs.length) (h1 : ∀ x H1, Ex H H1 → EvA ta ((wipe σ vs).set j (some x)) H1 [vi m]) (hn : xs.length ≤ 10000) (hm : m ≤ 9)
    (hw : ∀ x, wipe ((wipe σ vs).set j (some x)) vs = wipe σ vs) (hw1 : ∀ x y, wipe ((wipe ((wipe σ vs).set j (some x)) vs1).set j1 (some y)) vs1 = wipe ((wipe σ vs).set j (some x)) vs1)
    (he : ∀ (i : Nat) (x : V) (ns : List Nat) (k : Nat) (H1 : Hp), Ex H H1 → xs[i]? = some x → L[i]? = some ns → k < m → EvL te ((wipe ((wipe σ vs).set j (some x)) vs1).set j1 (some (vi k))) H1 ((u ns k).map vi))
    (q : ∀ p as H1, Ex H H1 → LLs H H1 p as (L.flatMap fun ns => (List.range m).map fun k => u ns k) → Q (.ref p) H1) : tLc2 (iList K tl) (gName j) tYes (iRng1 ta) (gName j1) tYes te vs vs1 σ H Q := by
  refine h H (Ex.refl _) _ fun H1 e1 => ⟨a, rfl, ⟨xs, ex_l e1 hx⟩, fun Dl nD => ?_⟩
  have nDH : H Dl = none := fresh_back e1 nD
  let outer : Nat → List (List Nat) := fun i => (L.take i).flatMap fun ns => (List.range m).map fun k => u ns k
  have lenO : ∀ i, (outer i).length ≤ i * m := by
    intro i
    induction i with
    | zero => simp [outer]
    | succ i ih =>
      show ((L.take (i + 1)).flatMap _).length ≤ _
      rw [List.take_add_one, List.flatMap_append, List.length_append, Nat.add_mul, Nat.one_mul]
      have : ((L[i]?.toList).flatMap fun ns => (List.range m).map fun k => u ns k).length ≤ m := by
        cases L[i]? with
        | none => simp
        | some y => simp [Option.toList]
      have e3 : ((L.take i).flatMap fun ns => (List.range m).map fun k => u ns k).length ≤ i * m := ih
      omega
  refine ⟨fun i r H' => r = xs.length - i ∧ i ≤ xs.length ∧ Ex H H' ∧ ∃ as, LLs H H' Dl as (outer i), ⟨_, rfl, Nat.zero_le _, e1.trans (Ex.new nD), [], by simpa [outer] using (⟨upd_same, nDH, .nil, .nil, by simp⟩ : LLs H (upd H1 Dl (.lst [])) Dl [] [])⟩, ?_⟩
  rintro i r H2 ⟨rfl, hi, e2, as, ll⟩
  by_cases hlt : i < xs.length
  · refine .inr ⟨⟨xs, xs[i], ex_l e2 hx, List.getElem?_eq_getElem hlt⟩, fun H' => Ex H H' ∧ ∃ as, LLs H H' Dl as (outer (i + 1)), fun H' ⟨p1, p2⟩ => ⟨_, by omega, rfl, hlt, p1, p2⟩, fun x H3 yl => ?_⟩
    obtain ⟨rfl, hxi⟩ := yl
    have hxi' := hxi xs (ex_l e2 hx)
    have hiL : i < L.length := by omega
    have hnsi := List.getElem?_eq_getElem hiL
    refine ⟨hw x, et_yes H3 (Ex.refl _) _ fun H4 e4 => ifT ?_⟩
    have e14 : Ex H H4 := e2.trans e4
    refine w_rng (h1 x H4 e14) (by omega) H4 (Ex.refl _) _ fun H5 e5 => ?_
    refine ⟨fun k r H' => r = m - k ∧ k ≤ m ∧ Ex H H' ∧ ∃ as, LLs H H' Dl as (outer i ++ (List.range k).map fun k => u L[i] k), ⟨_, rfl, Nat.zero_le _, e14.trans e5, as, by
      have := ll.ex (e4.trans e5)
      simpa using this⟩, ?_⟩
    rintro k r H6 ⟨rfl, hk, e6, as6, ll6⟩
    by_cases klt : k < m
    · refine .inr ⟨(walk_range (n := m)).goes k H6 klt trivial, fun H' => Ex H H' ∧ ∃ as, LLs H H' Dl as (outer i ++ (List.range (k + 1)).map fun k => u L[i] k), fun H' ⟨p1, p2⟩ => ⟨_, by omega, rfl, klt, p1, p2⟩, fun y H7 yl => ?_⟩
      obtain ⟨rfl, hy⟩ := (walk_range (n := m)).yields k H6 y H7 klt trivial yl
      have ey : y = vi k := hy.trans (by show V.int _ = V.int _; rw [Int.zero_add])
      subst ey
      refine ⟨hw1 x _, et_yes H7 (Ex.refl _) _ fun H8 e8 => ifT ?_⟩
      have e18 : Ex H H8 := e6.trans e8
      refine he i x L[i] k H8 e18 hxi' hnsi klt H8 (Ex.refl _) _ fun b H9 nb e9 hb => ?_
      have ll9 := ll6.ex (e8.trans e9)
      obtain ⟨b1, b2⟩ := lls_apart (ll6.ex e8) nb
      have la := ll6.len
      rw [List.length_append, List.length_map, List.length_range] at la
      have lo := lenO i
      have b1' : i * m ≤ 10000 * 9 := Nat.mul_le_mul (by omega) hm
      refine ⟨as6.map V.ref, ll9.at_, by rw [List.length_map]; exact sz_lt (by omega), (e18.trans e9).mut nDH, as6 ++ [b], ?_⟩
      rw [List.range_succ, List.map_append, ← List.append_assoc]
      exact lls_snoc ll9 hb (fresh_back e18 nb) b1 b2
    · have ek : k = m := by omega
      subst ek
      refine .inl ⟨(walk_range (n := k)).stops H6 trivial, e6, as6, ?_⟩
      have : outer (i + 1) = outer i ++ (List.range k).map fun k => u L[i] k := by
        show (L.take (i + 1)).flatMap _ = _
        rw [List.take_add_one, hnsi, List.flatMap_append]
        simp [outer, Option.toList]
      rw [this]
      exact ll6
  · have ei : i = xs.length := by omega
    subst ei
    refine .inl ⟨⟨xs, ex_l e2 hx, Nat.le_refl _⟩, q Dl as H2 e2 ?_⟩
    have : outer xs.length = L.flatMap fun ns => (List.range m).map fun k => u ns k := by
      show (L.take xs.length).flatMap _ = _
      rw [← hL, List.take_length]
    rw [← this]
    exact ll
end
section
variable {σ : L2.St} {H : Hp} {D : Ends} {tu tz : TS} {g : TG}
/-- for .. in range(i, j) -/
theorem q_forR2s {ta : TA} (h : ta σ H fun vs H1 => ∃ i j : Int, vs = [.int i, .int j] ∧ (-(2 ^ 62) ≤ i ∧ i < 2 ^ 62 ∧ -(2 ^ 62) ≤ j ∧ j < 2 ^ 62) ∧ Loops (Itr i (j - i).toNat) g tu { D with nx := tz D } σ H1) : tSeq (tFor (iRng2 ta) g tu) tz D σ H := h
theorem qloops_rng {lo : Int} {n : Nat} (Pv : Nat → L2.St → Hp → Prop) (h0 : Pv 0 σ H)
    (hs : ∀ i σ' H', i < n → Pv i σ' H' → g (.int (lo + (i : Int))) σ' H' fun σ2 H2 => tu { D with nx := Pv (i + 1), ct := Pv (i + 1), bk := tz D } σ2 H2) (hd : ∀ σ' H', Pv n σ' H' → tz D σ' H') : Loops (Itr lo n) g tu { D with nx := tz D } σ H :=
  for_range (D := { D with nx := tz D }) Pv h0 hs hd
end
end Dw
end
section
/-! leads: the mathematics -/
namespace LD
open M20 M25 CL
/-- a cell of the one with the table there: args, worth, table -/
abbrev LC := List Nat × Nat × List Nat
def okC (n2 : Nat) (f : List Nat) (c : LC) : Bool := decide (g f c.2.1 = g c.2.2 (plc n2 (c.1.map (g f))))
def grt (c : LC) : Nat := need (c.1 ++ [c.2.1]) - 1
def allOk (n2 : Nat) (cs : List LC) (f : List Nat) : Bool := cs.all (okC n2 f)
def lvl (n2 : Nat) (cs : List LC) : Nat → List (List Nat)
  | 0 => [[]]
  | k + 1 => ((lvl n2 cs k).flatMap fun f => (List.range n2).map fun x => f ++ [x]).filter (allOk n2 (cs.filter fun c => decide (grt c = k)))
theorem grt_lt {c : LC} {x : Nat} (h : x ∈ c.1 ∨ x = c.2.1) : x ≤ grt c := by
  have : x ∈ c.1 ++ [c.2.1] := List.mem_append.mpr (h.imp id fun z => by rw [z]; exact List.mem_singleton_self _)
  have := need_lt x this
  unfold grt
  omega
theorem grt_low {c : LC} {n : Nat} (h : ∀ x ∈ c.1, x < n) (w : c.2.1 < n) : grt c < n := by
  have : need (c.1 ++ [c.2.1]) ≤ n := need_le fun x hx => by
    rcases List.mem_append.mp hx with z | z
    · exact h x z
    · rw [List.mem_singleton.mp z]; exact w
  unfold grt
  omega
theorem g_app {f : List Nat} {x i : Nat} (h : i < f.length) : g (f ++ [x]) i = g f i := by
  show (f ++ [x]).getD i 0 = f.getD i 0
  rw [List.getD_eq_getElem?_getD, List.getD_eq_getElem?_getD, List.getElem?_append_left h]
theorem okC_app {n2 : Nat} {f : List Nat} {x : Nat} {c : LC} (h : grt c < f.length) : okC n2 (f ++ [x]) c = okC n2 f c := by
  unfold okC
  have a : g (f ++ [x]) c.2.1 = g f c.2.1 := g_app (Nat.lt_of_le_of_lt (grt_lt (.inr rfl)) h)
  have b : c.1.map (g (f ++ [x])) = c.1.map (g f) := List.map_congr_left fun y hy => g_app (Nat.lt_of_le_of_lt (grt_lt (.inl hy)) h)
  rw [a, b]
theorem all_split {α : Type} (p q r : α → Bool) (h : ∀ x, r x = (p x || q x)) (t : α → Bool) : ∀ l : List α, (l.filter r).all t = ((l.filter p).all t && (l.filter q).all t)
  | [] => rfl
  | x :: l => by
    have ih := all_split p q r h t l
    rw [List.filter_cons, List.filter_cons, List.filter_cons, h x]
    cases hp : p x <;> cases hq : q x <;> simp [ih] <;> cases t x <;> simp
theorem flatMap_filter {α β : Type} (p : α → Bool) (f : α → List β) : ∀ l : List α, (l.filter p).flatMap f = l.flatMap fun x => if p x = true then f x else []
  | [] => rfl
  | x :: l => by
    rw [List.filter_cons, List.flatMap_cons]
    cases h : p x
    · rw [if_neg (by decide), if_neg (by decide), List.nil_append]
      exact flatMap_filter p f l
    · rw [if_pos rfl, if_pos rfl, List.flatMap_cons, flatMap_filter p f l]
theorem filter_flatMap {α β : Type} (q : β → Bool) (f : α → List β) : ∀ l : List α, (l.flatMap f).filter q = l.flatMap fun x => (f x).filter q
  | [] => rfl
  | x :: l => by rw [List.flatMap_cons, List.filter_append, List.flatMap_cons, filter_flatMap q f l]
theorem fm_congr {α β : Type} {f g : α → List β} : ∀ {l : List α}, (∀ x ∈ l, f x = g x) → l.flatMap f = l.flatMap g
  | [], _ => rfl
  | x :: l, h => by rw [List.flatMap_cons, List.flatMap_cons, h x (List.mem_cons_self ..), fm_congr fun y hy => h y (List.mem_cons_of_mem _ hy)]
theorem lvl_eq (n2 : Nat) (cs : List LC) : ∀ k, lvl n2 cs k = (rows n2 k).filter (allOk n2 (cs.filter fun c => decide (grt c < k)))
  | 0 => by
    show [[]] = [[]].filter _
    rw [List.filter_cons, if_pos (by
      show (cs.filter fun c => decide (grt c < 0)).all _ = true
      rw [List.filter_eq_nil_iff.mpr (fun c _ => by simp)]
      rfl)]
    rfl
  | k + 1 => by
    show ((lvl n2 cs k).flatMap _).filter _ = ((rows n2 k).flatMap _).filter _
    rw [lvl_eq n2 cs k, flatMap_filter, filter_flatMap, filter_flatMap]
    have e : ∀ f ∈ rows n2 k, ((if allOk n2 (cs.filter fun c => decide (grt c < k)) f = true then (List.range n2).map fun x => f ++ [x] else []).filter (allOk n2 (cs.filter fun c => decide (grt c = k)))) = ((List.range n2).map fun x => f ++ [x]).filter (allOk n2 (cs.filter fun c => decide (grt c < k + 1))) := fun f hf => by
      have lf := (rows_of hf).1
      have key : ∀ x, allOk n2 (cs.filter fun c => decide (grt c < k + 1)) (f ++ [x]) = (allOk n2 (cs.filter fun c => decide (grt c < k)) f && allOk n2 (cs.filter fun c => decide (grt c = k)) (f ++ [x])) := fun x => by
        unfold allOk
        rw [all_split (fun c => decide (grt c < k)) (fun c => decide (grt c = k)) (fun c => decide (grt c < k + 1)) (fun c => by
          rw [Bool.eq_iff_iff]
          simp
          omega)]
        congr 1
        rw [Bool.eq_iff_iff, List.all_eq_true, List.all_eq_true]
        constructor
        · intro h c hc
          rw [← okC_app (x := x) (by rw [lf]; exact of_decide_eq_true (List.mem_filter.mp hc).2)]
          exact h c hc
        · intro h c hc
          rw [okC_app (by rw [lf]; exact of_decide_eq_true (List.mem_filter.mp hc).2)]
          exact h c hc
      cases hA : allOk n2 (cs.filter fun c => decide (grt c < k)) f with
      | true =>
        rw [if_pos rfl]
        refine List.filter_congr fun y hy => ?_
        obtain ⟨x, _, rfl⟩ := List.mem_map.mp hy
        rw [key, hA, Bool.true_and]
      | false =>
        rw [if_neg (by decide), List.filter_nil]
        symm
        rw [List.filter_eq_nil_iff]
        intro y hy
        obtain ⟨x, _, rfl⟩ := List.mem_map.mp hy
        rw [key, hA, Bool.false_and]
        decide
    exact fm_congr e
/-- all leads, in the order of rows -/
theorem leads_eq {n1 n2 : Nat} {cs : List LC} (h : ∀ c ∈ cs, grt c < n1) : lvl n2 cs n1 = (rows n2 n1).filter (allOk n2 cs) := by
  rw [lvl_eq, List.filter_eq_self.mpr fun c hc => decide_eq_true (h c hc)]
/-! ### by levels -/
section
variable {α : Type}
theorem split_perm (f : α → Nat) (t : Nat) : ∀ L : List α, (L.filter (fun x => decide (f x < t)) ++ L.filter (fun x => decide (f x = t))).Perm (L.filter fun x => decide (f x < t + 1))
  | [] => .nil
  | x :: L => by
    have ih := split_perm f t L
    rw [List.filter_cons, List.filter_cons, List.filter_cons]
    by_cases h1 : f x < t
    · rw [if_pos (decide_eq_true h1), if_neg (by simp; omega), if_pos (decide_eq_true (by omega))]
      exact ih.cons x
    · by_cases h2 : f x = t
      · rw [if_neg (by simp; omega), if_pos (decide_eq_true h2), if_pos (decide_eq_true (by omega))]
        exact List.perm_middle.trans (ih.cons x)
      · rw [if_neg (by simp; omega), if_neg (by simp; omega), if_neg (by simp; omega)]
        exact ih
theorem levels_perm (f : α → Nat) (L : List α) : ∀ t, ((List.range t).flatMap fun t => L.filter fun x => decide (f x = t)).Perm (L.filter fun x => decide (f x < t))
  | 0 => by
    rw [List.filter_eq_nil_iff.mpr (fun x _ => by simp)]
    exact .nil
  | t + 1 => by
    rw [List.range_succ, List.flatMap_append, List.flatMap_singleton]
    exact ((levels_perm f L t).append_right _).trans (split_perm f t L)
end
end LD
end
section
/-! rows in their order, and lists sorted in one way only -/
namespace LD
open M20 M25 CL
end LD
end
section
/-! sorted(..) told exactly; max((-1,) + row) -/
namespace Dw
open PySem PySem.Spec PyProof.Rows L2 Evl RZ M20 M25 CL PySem.W LD
section
variable {K : PySem.W.Frag} {σ : L2.St} {H : Hp} {te tl : TE} {tt : TT} {g : TG} {vs vs1 : List Nat} {Q : VK}
end
end Dw
end
section
/-! range(n) as a thing; not in range(n) -/
namespace Dw
open PySem PySem.Spec PyProof.Rows L2 Evl RZ M20 M25 CL PySem.W LD
section
variable {K : PySem.W.Frag} {σ : L2.St} {H : Hp} {ta tb : TE}
end
end Dw
end
section
/-! copies: data whose lists are new, told whatever becomes of the lists that stood -/
namespace Dw
open PySem PySem.Spec PyProof.Rows L2 Evl RZ M20 M25 CL PySem.W LD
def Keep (H0 H H' : Hp) : Prop := ∀ b o, (H0 b = none ∨ ∀ ys, o ≠ .lst ys) → H b = some o → H' b = some o
def Cz (K : PySem.W.Frag) (H H' : Hp) (v : V) (d : PyData) : Prop := ∀ H'', Keep H H' H'' → Dp K H'' v d
def CzA (K : PySem.W.Frag) (H H' : Hp) (vs : List V) (ds : List PyData) : Prop := ∀ H'', Keep H H' H'' → DpAll K H'' vs ds
theorem Cz.ex {K : PySem.W.Frag} {H H1 H' : Hp} {v : V} {d : PyData} (e : Ex H1 H') (h : Cz K H H1 v d) : Cz K H H' v d := fun H'' kp => h H'' fun b o c hb => kp b o c (e _ _ hb)
theorem Cz.low {K : PySem.W.Frag} {H H1 H' : Hp} {v : V} {d : PyData} (e : Ex H H1) (h : Cz K H1 H' v d) : Cz K H H' v d := fun H'' kp => h H'' fun b o c hb => kp b o (c.imp (fun z => fresh_back e z) id) hb
theorem Cz.lst {K : PySem.W.Frag} {H H' : Hp} {a : Addr} {vs : List V} {ds : List PyData} (na : H a = none) (ha : H' a = some (.lst vs)) (h : CzA K H H' vs ds) : Cz K H H' (.ref a) (.list ds) := fun H'' kp => .lst (sq_of (kp _ _ (.inl na) ha)) (h H'' kp)
section
variable {K : PySem.W.Frag} {σ : L2.St} {H : Hp} {te tl : TE} {tt : TT} {g : TG} {vs : List Nat} {Q : VK}
end
end Dw
end
section
/-! a text of one sign, so many times -/
namespace Dw
open PySem PySem.Spec PyProof.Rows L2 Evl RZ M20 M25 CL PySem.W LD
section
variable {σ : L2.St} {H : Hp} {ta tb : TE}
end
end Dw
end
section
/-! x or y of things; the last of a list; lists turned about; comprehensions over range(i, j) -/
namespace Dw
open PySem PySem.Spec PyProof.Rows L2 Evl RZ M20 M25 CL PySem.W LD
mutual
theorem dpEx {K : PySem.W.Frag} {H H' : Hp} (e : Ex H H') : ∀ {v : V} {d : PyData}, Dp K H v d → Dp K H' v d
  | _, _, .non => .non
  | _, _, .bl b => .bl b
  | _, _, .int i => .int i
  | _, _, .str x => .str x
  | _, _, .lst h r => .lst (ex_l e h) (dpsEx e r)
  | _, _, .tup h r => .tup (ex_t e h) (dpsEx e r)
theorem dpsEx {K : PySem.W.Frag} {H H' : Hp} (e : Ex H H') : ∀ {vs : List V} {ds : List PyData}, DpAll K H vs ds → DpAll K H' vs ds
  | _, _, .nil => .nil
  | _, _, .cons a b => .cons (dpEx e a) (dpsEx e b)
end
theorem atI_last {xs : List V} {v : V} : atI (xs ++ [v]) (-1) = some v := by
  show (ixN (xs ++ [v]).length (-1)).bind _ = _
  have : ixN (xs ++ [v]).length (-1) = some xs.length := by
    rw [List.length_append]
    show ixN (xs.length + 1) (-1) = _
    unfold ixN
    simp
    omega
  rw [this]
  show (xs ++ [v])[xs.length]? = some v
  rw [List.getElem?_append_right (Nat.le_refl _), Nat.sub_self]
  rfl
section
variable {K : PySem.W.Frag} {σ : L2.St} {H : Hp} {te tl ta tb : TE} {tt : TT} {g : TG} {vs vs1 : List Nat} {Q : VK}
end
end Dw
end
section
/-! zip of three tuples -/
namespace Dw
open PySem PySem.Spec PyProof.Rows L2 Evl RZ
def Stands3 (z TI TO i1 i2 i3 a b c : Addr) (i : Nat) (hp : Heap) : Prop := IsZip hp z TI TO .none ∧ IsTupOf3 hp TI (.ref i1) (.ref i2) (.ref i3) ∧ (∃ x y u, IsTupOf3 hp TO x y u) ∧ hp.IsTupleIter i1 a i ∧ hp.IsTupleIter i2 b i ∧ hp.IsTupleIter i3 c i
theorem six {c z TI TO i1 i2 i3 : Addr} {P : Addr → Prop} (h : c ∈ [z, TI, TO, i1, i2, i3]) (p1 : P z) (p2 : P TI) (p3 : P TO) (p4 : P i1) (p5 : P i2) (p6 : P i3) : P c := by
  simp only [List.mem_cons, List.not_mem_nil, or_false] at h
  rcases h with e | e | e | e | e | e <;> (rw [e]; assumption)
theorem Stands3.low {z TI TO i1 i2 i3 a b c : Addr} {i : Nat} {hp : Heap} (st : Stands3 z TI TO i1 i2 i3 a b c i hp) {d : Addr} (h : d ∈ [z, TI, TO, i1, i2, i3]) : d < hp.objs.size := by
  obtain ⟨hz, hI, ⟨x, y, u, hO⟩, ⟨o1, e1, _⟩, ⟨o2, e2, _⟩, ⟨o3, e3, _⟩⟩ := st
  exact six (P := fun c => c < hp.objs.size) h (Heap.lt_size hz) (Heap.lt_size hI) (Heap.lt_size hO) (Heap.lt_size e1) (Heap.lt_size e2) (Heap.lt_size e3)
end Dw
namespace Dw
open PySem PySem.Spec PyProof.Rows L2 Evl RZ
section
variable {K : PySem.W.Frag} {σ : L2.St} {H : Hp} {D : Ends} {tu tz : TS} {g : TG}
end
end Dw
end
section
/-! bool(x) of data; x in a list of data -/
namespace GBL
open PySem PyProof.Rows
end GBL
namespace Dw
open PySem PySem.Spec PyProof.Rows L2 Evl RZ M20 M25 CL PySem.W LD
end Dw
end
section
/-! products of tables -/
namespace LD
open M20 M25 CL
theorem mem_rows {n : Nat} : ∀ {p : Nat} {r : List Nat}, r.length = p → (∀ k ∈ r, k < n) → r ∈ rows n p
  | 0, r, l, _ => by
    rw [List.eq_nil_of_length_eq_zero l]
    exact List.mem_singleton_self _
  | p + 1, r, l, lo => by
    rcases List.eq_nil_or_concat r with e | ⟨i, x, e⟩
    · rw [e] at l; cases l
    · subst e
      rw [List.concat_eq_append] at l lo ⊢
      rw [List.length_append] at l
      refine List.mem_flatMap.mpr ⟨i, mem_rows (p := p) (by simpa using l) (fun k hk => lo k (List.mem_append.mpr (.inl hk))), List.mem_map.mpr ⟨x, List.mem_range.mpr (lo x (List.mem_append.mpr (.inr (List.mem_singleton_self _)))), rfl⟩⟩
theorem g_map {f : Nat → Nat} {F : List Nat} {i : Nat} (h : i < F.length) : g (F.map f) i = f (g F i) := by
  have e := g_eq (show i < (F.map f).length by rw [List.length_map]; exact h)
  rw [List.getElem?_map, g_eq h] at e
  exact (Option.some.inj e).symm
end LD
end
section
/-! joins, quotients and images: the mathematics -/
namespace JN
open M20 M25 CL LD
theorem g_last {r : List Nat} {x k : Nat} (h : r.length = k) : g (r ++ [x]) k = x := by
  subst h
  show (r ++ [x]).getD r.length 0 = x
  simp [List.getD_eq_getElem?_getD]
theorem g_pre {r : List Nat} {x i : Nat} (h : i < r.length) : g (r ++ [x]) i = g r i := g_app h
theorem mem_g {l : List Nat} {x : Nat} (h : x ∈ l) : ∃ i, i < l.length ∧ g l i = x := by
  obtain ⟨i, hi, e⟩ := List.mem_iff_getElem.mp h
  exact ⟨i, hi, by rw [← Option.some.injEq, ← g_eq hi, List.getElem?_eq_getElem hi, e]⟩
theorem g_ix {l : List Nat} {x : Nat} (h : x ∈ l) : g l (l.idxOf x) = x := by
  have lt := List.idxOf_lt_length_of_mem h
  rw [← Option.some.injEq, ← g_eq lt, List.getElem?_eq_getElem lt, List.getElem_idxOf]
theorem ix_le {l : List Nat} {i : Nat} (h : i < l.length) : l.idxOf (g l i) ≤ i := by
  have e := g_eq h
  rw [List.getElem?_eq_getElem h] at e
  have e' := Option.some.inj e
  rw [← e']
  by_cases z : l.idxOf l[i] ≤ i
  · exact z
  · exfalso
    have lt : i < l.findIdx (· == l[i]) := Nat.lt_of_not_le z
    have := List.not_of_lt_findIdx lt
    simp at this
theorem ix_g {l : List Nat} (nd : l.Nodup) {i : Nat} (h : i < l.length) : l.idxOf (g l i) = i := by
  have e := g_eq h
  rw [List.getElem?_eq_getElem h] at e
  rw [← Option.some.inj e]
  exact List.Nodup.idxOf_getElem nd i h
theorem set_same {l : List Nat} {j : Nat} (h : j < l.length) : l.set j (g l j) = l := by
  have e := g_eq h
  rw [List.getElem?_eq_getElem h] at e
  rw [← Option.some.inj e]
  exact List.set_getElem_self h
theorem g_inj {l : List Nat} (nd : l.Nodup) {i j : Nat} (hi : i < l.length) (hj : j < l.length) (e : g l i = g l j) : i = j := by
  rw [← ix_g nd hi, ← ix_g nd hj, e]
/-! ### all partings -/
def prts : Nat → List (List Nat)
  | 0 => [[]]
  | k + 1 => (prts k).flatMap fun r => (ups k r ++ [k]).map fun x => r ++ [x]
structure Can (n : Nat) (L : List Nat) : Prop where
  len : L.length = n
  le : ∀ i, i < n → g L i ≤ i
  fix : ∀ i, i < n → g L (g L i) = g L i
theorem Can.lt {n : Nat} {L : List Nat} (c : Can n L) {i : Nat} (h : i < n) : g L i < n := Nat.lt_of_le_of_lt (c.le i h) h
theorem Can.low {n : Nat} {L : List Nat} (c : Can n L) : ∀ k ∈ L, k < n := fun k hk => by
  obtain ⟨i, hi, rfl⟩ := mem_g hk
  rw [c.len] at hi
  exact c.lt hi
theorem prts_can : ∀ {n : Nat} {L : List Nat}, L ∈ prts n ↔ Can n L
  | 0, L => by
    constructor
    · intro h
      rw [List.mem_singleton.mp h]
      exact ⟨rfl, fun i h => absurd h (Nat.not_lt_zero i), fun i h => absurd h (Nat.not_lt_zero i)⟩
    · intro h
      rw [List.length_eq_zero_iff.mp h.len]
      exact List.mem_singleton.mpr rfl
  | k + 1, L => by
    constructor
    · intro h
      obtain ⟨r, hr, h2⟩ := List.mem_flatMap.mp h
      obtain ⟨x, hx, rfl⟩ := List.mem_map.mp h2
      have c := prts_can.mp hr
      have hlow := c.low
      have hx' : x = k ∨ (x < k ∧ x ∈ r) := by
        rcases List.mem_append.mp hx with z | z
        · have := (ups_mem hlow x).mp z
          exact .inr ⟨hlow x this, this⟩
        · exact .inl (List.mem_singleton.mp z)
      have gk : g (r ++ [x]) k = x := g_last c.len
      have gi : ∀ i, i < k → g (r ++ [x]) i = g r i := fun i hi => g_pre (by rw [c.len]; exact hi)
      refine ⟨by rw [List.length_append, c.len]; rfl, fun i hi => ?_, fun i hi => ?_⟩
      · by_cases e : i = k
        · subst e
          rw [gk]
          rcases hx' with rfl | ⟨a, _⟩ <;> omega
        · rw [gi i (by omega)]
          exact c.le i (by omega)
      · by_cases e : i = k
        · subst e
          rw [gk]
          rcases hx' with rfl | ⟨a, b⟩
          · exact gk
          · rw [gi x a]
            obtain ⟨j, hj, rfl⟩ := mem_g b
            exact c.fix j (by rw [c.len] at hj; exact hj)
        · have ik : i < k := by omega
          rw [gi i ik, gi _ (c.lt ik)]
          exact c.fix i ik
    · intro h
      have tl : (L.take k).length = k := by rw [List.length_take, h.len]; omega
      have e : L = L.take k ++ [g L k] := M20.ext (by rw [List.length_append, tl, h.len]; rfl) fun i hi => by
        rw [h.len] at hi
        by_cases z : i = k
        · subst z
          rw [g_last tl]
        · rw [g_pre (by rw [tl]; omega)]
          show L.getD i 0 = (L.take k).getD i 0
          rw [List.getD_eq_getElem?_getD, List.getD_eq_getElem?_getD, List.getElem?_take_of_lt (by omega)]
      have gi : ∀ i, i < k → g (L.take k) i = g L i := fun i hi => by
        rw [e, List.take_append_of_le_length (by rw [tl]; exact Nat.le_refl _), List.take_take, Nat.min_self, g_pre (by rw [tl]; exact hi)]
      have c : Can k (L.take k) := ⟨tl, fun i hi => by rw [gi i hi]; exact h.le i (by omega), fun i hi => by
        have := h.le i (by omega)
        rw [gi i hi, gi _ (by omega)]
        exact h.fix i (by omega)⟩
      refine List.mem_flatMap.mpr ⟨L.take k, prts_can.mpr c, List.mem_map.mpr ⟨g L k, ?_, e.symm⟩⟩
      have le := h.le k (by omega)
      by_cases z : g L k = k
      · exact List.mem_append.mpr (.inr (List.mem_singleton.mpr z))
      · refine List.mem_append.mpr (.inl ((ups_mem c.low _).mpr ?_))
        have lt : g L k < k := by omega
        have f := h.fix k (by omega)
        rw [← gi _ lt] at f
        have := g_mem (l := L.take k) (k := g L k) (by rw [tl]; exact lt)
        rw [f] at this
        exact this
theorem prts_few : ∀ n, n ≤ 6 → (prts n).length ≤ 203 := by decide +kernel
/-! ### what goes with the deeds -/
def goA (n : Nat) (L : List Nat) (c : LC) (j : Nat) : Bool := decide (g L c.2.1 = g L (g c.2.2 (plc n (c.1.set j (g L (g c.1 j))))))
def goC (n : Nat) (L : List Nat) (c : LC) : Bool := (List.range c.1.length).all (goA n L c)
def gwd (n : Nat) (cs : List LC) (L : List Nat) : Bool := cs.all (goC n L)
def jns (n : Nat) (cs : List LC) : List (List Nat) := (prts n).filter (gwd n cs)
theorem jns_iff {n : Nat} {cs : List LC} {L : List Nat} : L ∈ jns n cs ↔ Can n L ∧ gwd n cs L = true := by
  unfold jns
  rw [List.mem_filter, prts_can]
theorem go_at {n p : Nat} {cs : List LC} {L t : List Nat} (hg : gwd n cs L = true) (hf : ∀ r ∈ rows n p, (r, g t (plc n r), t) ∈ cs) {r : List Nat} (hr : r ∈ rows n p) {j : Nat} (hj : j < p) : g L (g t (plc n r)) = g L (g t (plc n (r.set j (g L (g r j))))) := by
  have a := List.all_eq_true.mp hg _ (hf r hr)
  have b := List.all_eq_true.mp a j (List.mem_range.mpr (by rw [(rows_of hr).1]; exact hj))
  exact of_decide_eq_true b
theorem go_all {n p : Nat} {cs : List LC} {L t : List Nat} (p2 : p ≤ 2) (can : Can n L) (hg : gwd n cs L = true) (hf : ∀ r ∈ rows n p, (r, g t (plc n r), t) ∈ cs) {r : List Nat} (hr : r ∈ rows n p) : g L (g t (plc n (r.map (g L)))) = g L (g t (plc n r)) := by
  obtain ⟨lr, low⟩ := rows_of hr
  match r, lr, low, hr with
  | [], _, _, _ => rfl
  | [a], lr, low, hr => exact (go_at hg hf hr (j := 0) (by rw [← lr]; show 0 < 1; decide)).symm
  | [a, b], lr, low, hr =>
    have h1 := go_at hg hf hr (j := 0) (by rw [← lr]; show 0 < 2; decide)
    have hr2 : [g L a, b] ∈ rows n p := mem_rows lr fun k hk => by
      rcases List.mem_cons.mp hk with rfl | hk
      · exact can.lt (low a (List.mem_cons_self ..))
      · exact low k (List.mem_cons_of_mem _ hk)
    have h2 := go_at hg hf hr2 (j := 1) (by rw [← lr]; show 1 < 2; decide)
    exact (h1.trans h2).symm
  | _ :: _ :: _ :: _, lr, _, _ =>
    simp only [List.length_cons] at lr
    omega
/-! ### the join of a lead -/
def ker (F : List Nat) : List Nat := F.map fun y => F.idxOf y
theorem ker_len (F : List Nat) : (ker F).length = F.length := List.length_map _
theorem ker_g {F : List Nat} {i : Nat} (h : i < F.length) : g (ker F) i = F.idxOf (g F i) := LD.g_map h
theorem ker_F {F : List Nat} {i : Nat} (h : i < F.length) : g F (g (ker F) i) = g F i := by
  rw [ker_g h]
  exact g_ix (g_mem h)
theorem ker_can (F : List Nat) : Can F.length (ker F) := ⟨ker_len F, fun i h => by rw [ker_g h]; exact ix_le h, fun i h => by
  have l : g (ker F) i < F.length := by rw [ker_g h]; exact List.idxOf_lt_length_of_mem (g_mem h)
  rw [ker_g l, ker_F h, ker_g h]⟩
theorem ker_same {F : List Nat} {i j : Nat} (hi : i < F.length) (hj : j < F.length) : g (ker F) i = g (ker F) j ↔ g F i = g F j := by
  constructor
  · intro e
    rw [← ker_F hi, ← ker_F hj, e]
  · intro e
    rw [ker_g hi, ker_g hj, e]
theorem ker_go {n n2 : Nat} {cs : List LC} {F : List Nat} (len : F.length = n) (hc : ∀ c ∈ cs, ∃ p t t2, p ≤ 2 ∧ Tab n p t ∧ c.1 ∈ rows n p ∧ c.2.1 = g t (plc n c.1) ∧ c.2.2 = t ∧ ∀ r ∈ rows n p, g F (g t (plc n r)) = g t2 (plc n2 (r.map (g F)))) : gwd n cs (ker F) = true := by
  refine List.all_eq_true.mpr fun c h => List.all_eq_true.mpr fun j hj => ?_
  obtain ⟨p, t, t2, p2, ht, hr, e1, e2, hom⟩ := hc c h
  obtain ⟨lr, low⟩ := rows_of hr
  have hj' : j < c.1.length := List.mem_range.mp hj
  have lo : ∀ r ∈ rows n p, g t (plc n r) < F.length := fun r hr => by
    rw [len]
    obtain ⟨a, b⟩ := rows_of hr
    have := plc_low b (by rw [a]; exact p2)
    rw [a] at this
    exact ht.low _ this
  have gj : g c.1 j < F.length := by rw [len]; exact low _ (g_mem hj')
  have hr2 : c.1.set j (g (ker F) (g c.1 j)) ∈ rows n p := mem_rows (by rw [List.length_set, lr]) fun k hk => by
    rcases List.mem_or_eq_of_mem_set hk with z | z
    · exact low k z
    · rw [z, ← len]
      exact (ker_can F).lt gj
  refine decide_eq_true ?_
  rw [e1, e2]
  refine (ker_same (lo _ hr) (lo _ hr2)).mpr ?_
  rw [hom _ hr, hom _ hr2]
  congr 2
  rw [List.map_set, ker_F gj, ← LD.g_map (f := g F) hj']
  exact (set_same (by rw [List.length_map]; exact hj')).symm
/-! ### numbers met, the order between -/
def onto (n2 : Nat) (F U : List Nat) : List Nat := U.map fun l => (ups n2 F).idxOf (g F l)
theorem U_low {n : Nat} {L : List Nat} (h : Can n L) {k : Nat} (hk : k < (ups n L).length) : g (ups n L) k < n := (ups_up n L).2 _ (g_mem hk)
theorem U_fix {n : Nat} {L : List Nat} (h : Can n L) {k : Nat} (hk : k < (ups n L).length) : g L (g (ups n L) k) = g (ups n L) k := by
  have m := (ups_mem h.low _).mp (g_mem hk)
  obtain ⟨i, hi, e⟩ := mem_g m
  rw [← e]
  exact h.fix i (by rw [← h.len]; exact hi)
theorem U_mem {n : Nat} {L : List Nat} (h : Can n L) {i : Nat} (hi : i < n) : g L i ∈ ups n L := (ups_mem h.low _).mpr (g_mem (by rw [h.len]; exact hi))
theorem U_ix {n : Nat} {L : List Nat} (h : Can n L) {i : Nat} (hi : i < n) : g (ups n L) ((ups n L).idxOf (g L i)) = g L i := g_ix (U_mem h hi)
theorem C_mem {n2 : Nat} {F : List Nat} (low : ∀ y ∈ F, y < n2) {i : Nat} (hi : i < F.length) : g F i ∈ ups n2 F := (ups_mem low _).mpr (g_mem hi)
theorem onto_g {n2 : Nat} {F U : List Nat} {k : Nat} (h : k < U.length) : g (onto n2 F U) k = (ups n2 F).idxOf (g F (g U k)) := LD.g_map h
theorem same_len {n2 : Nat} {F : List Nat} (low : ∀ y ∈ F, y < n2) : (ups F.length (ker F)).length = (ups n2 F).length := by
  have can := ker_can F
  have e : ((ups F.length (ker F)).map (g F)).length = (ups F.length (ker F)).length := List.length_map _
  have nd : ((ups F.length (ker F)).map (g F)).Nodup := by
    refine List.pairwise_map.mpr (List.Pairwise.imp_of_mem ?_ (ups_up F.length (ker F)).nodup)
    intro a b ha hb ne z
    obtain ⟨i, hi, rfl⟩ := mem_g ha
    obtain ⟨j, hj, rfl⟩ := mem_g hb
    refine ne ?_
    have := (ker_same (U_low can hi) (U_low can hj)).mpr z
    rw [U_fix can hi, U_fix can hj] at this
    exact this
  refine Nat.le_antisymm ?_ ?_
  · rw [← e]
    refine sub_le nd fun k hk => ?_
    obtain ⟨a, ha, rfl⟩ := List.mem_map.mp hk
    obtain ⟨i, hi, rfl⟩ := mem_g ha
    exact C_mem low (U_low can hi)
  · rw [← e]
    refine sub_le (ups_up n2 F).nodup fun k hk => ?_
    obtain ⟨i, hi, rfl⟩ := mem_g ((ups_mem low _).mp hk)
    exact List.mem_map.mpr ⟨g (ker F) i, U_mem can hi, ker_F hi⟩
theorem onto_ord {n2 : Nat} {F : List Nat} (low : ∀ y ∈ F, y < n2) : Ord (ups F.length (ker F)).length (onto n2 F (ups F.length (ker F))) := by
  have can := ker_can F
  refine ⟨List.length_map _, fun k hk => ?_, fun j k hj hk e => ?_⟩
  · rw [onto_g hk, same_len low]
    exact List.idxOf_lt_length_of_mem (C_mem low (U_low can hk))
  · rw [onto_g hj, onto_g hk] at e
    have e2 : g F (g (ups F.length (ker F)) j) = g F (g (ups F.length (ker F)) k) := by
      rw [← g_ix (C_mem low (U_low can hj)), ← g_ix (C_mem low (U_low can hk)), e]
    have := (ker_same (U_low can hj) (U_low can hk)).mpr e2
    rw [U_fix can hj, U_fix can hk] at this
    exact g_inj (ups_up _ _).nodup hj hk this
/-! ### tables -/
def quoT (n : Nat) (L : List Nat) (p : Nat) (t : List Nat) : List Nat := (rows (ups n L).length p).map fun r => (ups n L).idxOf (g L (g t (plc n (r.map (g (ups n L))))))
def ptT (n : Nat) (S : List Nat) (p : Nat) (t : List Nat) : List Nat := (rows S.length p).map fun r => S.idxOf (g t (plc n (r.map (g S))))
theorem tab_at {m p : Nat} (p2 : p ≤ 2) {f : List Nat → Nat} {r : List Nat} (hr : r ∈ rows m p) : g ((rows m p).map f) (plc m r) = f r := by
  obtain ⟨i, hi⟩ := List.mem_iff_getElem?.mp hr
  have m0 : p = 0 ∨ 0 < m := by
    obtain ⟨a, b⟩ := rows_of hr
    by_cases z : p = 0
    · exact .inl z
    · cases r with
      | nil => exact absurd a.symm z
      | cons x r => exact .inr (Nat.lt_of_le_of_lt (Nat.zero_le _) (b x (List.mem_cons_self ..)))
  have ep : plc m r = i := by
    rcases m0 with rfl | m0
    · have := (rows_of hr).1
      rw [List.length_eq_zero_iff.mp this]
      have il := (List.getElem?_eq_some_iff.mp hi).1
      have : i < 1 := il
      show 0 = i
      omega
    · exact (rows_plc' p2 m0 hi).1
  rw [ep]
  show ((rows m p).map f).getD i 0 = f r
  rw [List.getD_eq_getElem?_getD, List.getElem?_map, hi]
  rfl
theorem ok_low {n p : Nat} {t r : List Nat} (p2 : p ≤ 2) (ht : Tab n p t) (hr : r ∈ rows n p) : g t (plc n r) < n := by
  obtain ⟨a, b⟩ := rows_of hr
  have := plc_low b (by rw [a]; exact p2)
  rw [a] at this
  exact ht.low _ this
theorem map_rows {n m p : Nat} {f : Nat → Nat} {r : List Nat} (hr : r ∈ rows n p) (h : ∀ k, k < n → f k < m) : r.map f ∈ rows m p := by
  obtain ⟨a, b⟩ := rows_of hr
  refine mem_rows (by rw [List.length_map, a]) fun k hk => ?_
  obtain ⟨x, hx, rfl⟩ := List.mem_map.mp hk
  exact h x (b x hx)
theorem map_same {n p : Nat} {f h : Nat → Nat} {r : List Nat} (hr : r ∈ rows n p) (e : ∀ k, k < n → f k = h k) : r.map f = r.map h := List.map_congr_left fun k hk => e k ((rows_of hr).2 k hk)
theorem quo_tab {n p : Nat} {L t : List Nat} (p2 : p ≤ 2) (can : Can n L) (ht : Tab n p t) : Tab (ups n L).length p (quoT n L p t) := by
  refine ⟨by unfold quoT; rw [List.length_map, rows_len'], fun k hk => ?_⟩
  by_cases z : 0 < (ups n L).length
  · obtain ⟨r, hr, rfl⟩ := rows_plc p2 z hk
    have hr' := List.mem_iff_getElem?.mpr ⟨_, hr⟩
    unfold quoT
    rw [tab_at p2 hr']
    exact List.idxOf_lt_length_of_mem (U_mem can (ok_low p2 ht (map_rows hr' fun k hk => U_low can hk)))
  · have z0 : (ups n L).length = 0 := by omega
    have n0 : n = 0 := by
      by_cases n0 : n = 0
      · exact n0
      · have := U_mem can (i := 0) (by omega)
        rw [List.length_eq_zero_iff.mp z0] at this
        cases this
    have : p = 0 := by
      by_cases p0 : p = 0
      · exact p0
      · rw [z0, Nat.zero_pow (by omega)] at hk
        omega
    subst this
    subst n0
    have := ht.low 0 (by decide)
    omega
theorem src_plc {m p : Nat} (p2 : p ≤ 2) {b r : List Nat} (hr : r ∈ rows m p) (m0 : 0 < m) : src m p b (plc m r) = plc m (r.map (g b)) := by
  obtain ⟨lr, low⟩ := rows_of hr
  match r, lr, low with
  | [], lr, _ =>
    subst lr
    rfl
  | [a], lr, _ =>
    have : p = 1 := by rw [← lr]; rfl
    subst this
    show g b (0 * m + a) = 0 * m + g b a
    simp
  | [a, c], lr, low =>
    have : p = 2 := by rw [← lr]; rfl
    subst this
    have hc := low c (by simp)
    show g b (((0 * m + a) * m + c) / m) * m + g b (((0 * m + a) * m + c) % m) = (0 * m + g b a) * m + g b c
    simp only [Nat.zero_mul, Nat.zero_add]
    rw [Nat.add_comm (a * m) c, Nat.add_mul_div_right _ _ m0, Nat.div_eq_of_lt hc, Nat.zero_add, Nat.add_mul_mod_self_right, Nat.mod_eq_of_lt hc]
  | _ :: _ :: _ :: _, lr, _ =>
    simp only [List.length_cons] at lr
    omega
/-- the quotient by the join of a lead, renamed, is the part of those met -/
theorem quo_part {n n2 p : Nat} {F t t2 : List Nat} (p2 : p ≤ 2) (len : F.length = n) (n1 : 0 < n) (low : ∀ y ∈ F, y < n2) (ht : Tab n p t) (hom : ∀ r ∈ rows n p, g F (g t (plc n r)) = g t2 (plc n2 (r.map (g F)))) :
    ren (ups n (ker F)).length p (onto n2 F (ups n (ker F))) (quoT n (ker F) p t) = ptT n2 (ups n2 F) p t2 := by
  subst len
  have can := ker_can F
  have ord := onto_ord low
  have sl := same_len low
  have m0 : 0 < (ups F.length (ker F)).length := List.length_pos_of_mem (U_mem can n1)
  refine M20.ext (by unfold ren ptT; rw [List.length_map, List.length_map, List.length_range, rows_len', sl]) fun s hs => ?_
  have hs' : s < (ups F.length (ker F)).length ^ p := by
    unfold ren at hs
    rw [List.length_map, List.length_range] at hs
    exact hs
  obtain ⟨r, hr, rfl⟩ := rows_plc p2 m0 hs'
  have hr' := List.mem_iff_getElem?.mpr ⟨_, hr⟩
  unfold ren
  rw [M20.g_map hs', src_plc p2 hr' m0]
  have hb : r.map (g (bk (onto F.length F (ups F.length (ker F))))) = r.map (g (bk (onto F.length F (ups F.length (ker F))))) := rfl
  generalize eo : onto n2 F (ups F.length (ker F)) = o at *
  generalize eb : bk o = b at *
  have hrb : r.map (g b) ∈ rows (ups F.length (ker F)).length p := map_rows hr' fun k hk => by rw [← eb]; exact bk_low ord hk
  unfold quoT
  rw [tab_at p2 hrb]
  have hru : (r.map (g b)).map (g (ups F.length (ker F))) ∈ rows F.length p := map_rows hrb fun k hk => U_low can hk
  have wl := ok_low p2 ht hru
  have gl : g (ker F) (g t (plc F.length ((r.map (g b)).map (g (ups F.length (ker F)))))) ∈ ups F.length (ker F) := U_mem can wl
  rw [← eo, onto_g (List.idxOf_lt_length_of_mem gl), g_ix gl, ker_F wl, hom _ hru]
  have hr2 : r ∈ rows (ups n2 F).length p := by rw [← sl]; exact hr'
  unfold ptT
  rw [sl, tab_at p2 hr2]
  congr 3
  rw [List.map_map, List.map_map]
  refine map_same hr' fun k hk => ?_
  show g F (g (ups F.length (ker F)) (g b k)) = g (ups n2 F) k
  have gb : g b k < (ups F.length (ker F)).length := by rw [← eb]; exact bk_low ord hk
  have e := g_bk ord hk
  rw [eb, ← eo, onto_g gb] at e
  rw [← g_ix (C_mem low (U_low can gb)), e]
/-! ### the lead to a quotient, the lead from a part -/
def toQ (n : Nat) (L : List Nat) : List Nat := L.map fun l => (ups n L).idxOf l
theorem toQ_g {n : Nat} {L : List Nat} (can : Can n L) {i : Nat} (h : i < n) : g (toQ n L) i = (ups n L).idxOf (g L i) := LD.g_map (by rw [can.len]; exact h)
theorem toQ_len {n : Nat} {L : List Nat} (can : Can n L) : (toQ n L).length = n := by unfold toQ; rw [List.length_map, can.len]
theorem toQ_low {n : Nat} {L : List Nat} (can : Can n L) : ∀ y ∈ toQ n L, y < (ups n L).length := fun y hy => by
  obtain ⟨i, hi, rfl⟩ := mem_g hy
  rw [toQ_len can] at hi
  rw [toQ_g can hi]
  exact List.idxOf_lt_length_of_mem (U_mem can hi)
theorem toQ_hom {n p : Nat} {cs : List LC} {L t : List Nat} (p2 : p ≤ 2) (can : Can n L) (ht : Tab n p t) (hg : gwd n cs L = true) (hf : ∀ r ∈ rows n p, (r, g t (plc n r), t) ∈ cs) {r : List Nat} (hr : r ∈ rows n p) : g (toQ n L) (g t (plc n r)) = g (quoT n L p t) (plc (ups n L).length (r.map (g (toQ n L)))) := by
  have wl := ok_low p2 ht hr
  have hq : r.map (g (toQ n L)) ∈ rows (ups n L).length p := map_rows hr fun k hk => toQ_low can _ (g_mem (by rw [toQ_len can]; exact hk))
  unfold quoT
  rw [tab_at p2 hq, toQ_g can wl]
  have : (r.map (g (toQ n L))).map (g (ups n L)) = r.map (g L) := by
    rw [List.map_map]
    refine map_same hr fun k hk => ?_
    show g (ups n L) (g (toQ n L) k) = g L k
    rw [toQ_g can hk, U_ix can hk]
  rw [this, go_all p2 can hg hf hr]
theorem toQ_ker {n : Nat} {L : List Nat} (can : Can n L) : ker (toQ n L) = L := by
  have l := toQ_len can
  have kc := ker_can (toQ n L)
  rw [l] at kc
  refine M20.ext (by rw [ker_len, l, can.len]) fun i hi => ?_
  rw [ker_len, l] at hi
  have inj : ∀ a b, a < n → b < n → g (toQ n L) a = g (toQ n L) b → g L a = g L b := fun a b ha hb e => by
    rw [toQ_g can ha, toQ_g can hb] at e
    rw [← U_ix can ha, ← U_ix can hb, e]
  have h1 : g (toQ n L) (g (ker (toQ n L)) i) = g (toQ n L) i := ker_F (by rw [l]; exact hi)
  have kl := kc.lt hi
  have h2 := inj _ _ kl hi h1
  have le1 : g L i ≤ g (ker (toQ n L)) i := by rw [← h2]; exact can.le _ kl
  have h3 : g (toQ n L) (g L i) = g (toQ n L) i := by rw [toQ_g can (can.lt hi), toQ_g can hi, can.fix i hi]
  have le2 : g (ker (toQ n L)) i ≤ g L i := by
    rw [ker_g (by rw [l]; exact hi), ← h3]
    exact ix_le (by rw [l]; exact can.lt hi)
  omega
theorem toQ_ups {n : Nat} {L : List Nat} (can : Can n L) : ups (ups n L).length (toQ n L) = List.range (ups n L).length := by
  refine up_eq (ups_up _ _).1 List.pairwise_lt_range fun k => ?_
  rw [ups_mem (toQ_low can), List.mem_range]
  refine ⟨toQ_low can k, fun hk => ?_⟩
  have := U_low can hk
  have e : g (toQ n L) (g (ups n L) k) = k := by rw [toQ_g can this, U_fix can hk, ix_g (ups_up _ _).nodup hk]
  rw [← e]
  exact g_mem (by rw [toQ_len can]; exact this)
theorem S_hom {n p : Nat} {S t : List Nat} (p2 : p ≤ 2) {r : List Nat} (hr : r ∈ rows S.length p) (hm : g t (plc n (r.map (g S))) ∈ S) : g S (g (ptT n S p t) (plc S.length r)) = g t (plc n (r.map (g S))) := by
  unfold ptT
  rw [tab_at p2 hr, g_ix hm]
theorem S_ker {n : Nat} {S : List Nat} (up : Up n S) : ker S = List.range S.length := M20.ext (by rw [ker_len, List.length_range]) fun i hi => by
  rw [ker_len] at hi
  rw [ker_g hi, ix_g up.nodup hi]
  have := M20.g_map (f := id) hi
  rw [List.map_id] at this
  exact this.symm
end JN
end
section
/-! comprehensions of two fors over lists, new lists their items; dict comprehensions -/
namespace Dw
open PySem PySem.Spec PyProof.Rows L2 Evl RZ M20 M25 CL PySem.W LD
section
variable {K : PySem.W.Frag} {σ : L2.St} {H : Hp} {te tl : TE} {vs vs1 : List Nat} {Q : VK}
theorem do_lc2NewL {a : Addr} {xs : List V} {L : List (List Nat)} {u : List Nat → Nat → List Nat} {inn : List Nat → List Nat} {t1 : TE} {m j j1 : Nat} (h : Ev tl σ H (.ref a)) (hx : SqL K H a xs) (hL : L.length = xs.length)
    (h1 : ∀ (i : Nat) (x : V) (ns : List Nat) (H1 : Hp), Ex H H1 → xs[i]? = some x → L[i]? = some ns → EvL t1 ((wipe σ vs).set j (some x)) H1 ((inn ns).map vi)) (hn : xs.length ≤ 10000) (hm : ∀ ns ∈ L, (inn ns).length ≤ m) (m9 : m ≤ 9)
    (hw : ∀ x, wipe ((wipe σ vs).set j (some x)) vs = wipe σ vs) (hw1 : ∀ x y, wipe ((wipe ((wipe σ vs).set j (some x)) vs1).set j1 (some y)) vs1 = wipe ((wipe σ vs).set j (some x)) vs1)
    (he : ∀ (i : Nat) (x : V) (ns : List Nat) (k : Nat) (H1 : Hp), Ex H H1 → xs[i]? = some x → L[i]? = some ns → k ∈ inn ns → EvL te ((wipe ((wipe σ vs).set j (some x)) vs1).set j1 (some (vi k))) H1 ((u ns k).map vi))
    (q : ∀ p as H1, Ex H H1 → LLs H H1 p as (L.flatMap fun ns => (inn ns).map fun k => u ns k) → Q (.ref p) H1) : tLc2 (iList K tl) (gName j) tYes (iList K t1) (gName j1) tYes te vs vs1 σ H Q := by
  refine h H (Ex.refl _) _ fun H1 e1 => ⟨a, rfl, ⟨xs, ex_l e1 hx⟩, fun Dl nD => ?_⟩
  have nDH : H Dl = none := fresh_back e1 nD
  let outer : Nat → List (List Nat) := fun i => (L.take i).flatMap fun ns => (inn ns).map fun k => u ns k
  have lenO : ∀ i, (outer i).length ≤ i * m := by
    intro i
    induction i with
    | zero => simp [outer]
    | succ i ih =>
      show ((L.take (i + 1)).flatMap _).length ≤ _
      rw [List.take_add_one, List.flatMap_append, List.length_append, Nat.add_mul, Nat.one_mul]
      have : ((L[i]?.toList).flatMap fun ns => (inn ns).map fun k => u ns k).length ≤ m := by
        cases e : L[i]? with
        | none => simp
        | some y =>
          have := hm y (List.mem_iff_getElem?.mpr ⟨i, e⟩)
          simpa [Option.toList] using this
      have e3 : ((L.take i).flatMap fun ns => (inn ns).map fun k => u ns k).length ≤ i * m := ih
      omega
  refine ⟨fun i r H' => r = xs.length - i ∧ i ≤ xs.length ∧ Ex H H' ∧ ∃ as, LLs H H' Dl as (outer i), ⟨_, rfl, Nat.zero_le _, e1.trans (Ex.new nD), [], by simpa [outer] using (⟨upd_same, nDH, .nil, .nil, by simp⟩ : LLs H (upd H1 Dl (.lst [])) Dl [] [])⟩, ?_⟩
  rintro i r H2 ⟨rfl, hi, e2, as, ll⟩
  by_cases hlt : i < xs.length
  · refine .inr ⟨⟨xs, xs[i], ex_l e2 hx, List.getElem?_eq_getElem hlt⟩, fun H' => Ex H H' ∧ ∃ as, LLs H H' Dl as (outer (i + 1)), fun H' ⟨p1, p2⟩ => ⟨_, by omega, rfl, hlt, p1, p2⟩, fun x H3 yl => ?_⟩
    obtain ⟨rfl, hxi⟩ := yl
    have hxi' := hxi xs (ex_l e2 hx)
    have hiL : i < L.length := by omega
    have hnsi := List.getElem?_eq_getElem hiL
    have hmi := hm L[i] (List.getElem_mem hiL)
    refine ⟨hw x, et_yes H3 (Ex.refl _) _ fun H4 e4 => ifT ?_⟩
    have e14 : Ex H H4 := e2.trans e4
    refine h1 i x L[i] H4 e14 hxi' hnsi H4 (Ex.refl _) _ fun p1 H5 np1 e5 hp1 => ⟨p1, rfl, ⟨_, sq_of hp1⟩, ?_⟩
    refine ⟨fun k r H' => r = (inn L[i]).length - k ∧ k ≤ (inn L[i]).length ∧ Ex H H' ∧ H' p1 = some (.lst ((inn L[i]).map vi)) ∧ ∃ as, LLs H H' Dl as (outer i ++ ((inn L[i]).take k).map fun k => u L[i] k), ⟨_, rfl, Nat.zero_le _, e14.trans e5, hp1, as, by
      have := ll.ex (e4.trans e5)
      simpa using this⟩, ?_⟩
    rintro k r H6 ⟨rfl, hk, e6, hp6, as6, ll6⟩
    have pD : p1 ≠ Dl := fun z => by
      rw [z, (ll.ex e4).at_] at np1
      cases np1
    by_cases klt : k < (inn L[i]).length
    · refine .inr ⟨(walk_list (K := K) (a := p1) (xs := (inn L[i]).map vi)).goes k H6 (by rw [List.length_map]; exact klt) (sq_of hp6), fun H' => Ex H H' ∧ H' p1 = some (.lst ((inn L[i]).map vi)) ∧ ∃ as, LLs H H' Dl as (outer i ++ ((inn L[i]).take (k + 1)).map fun k => u L[i] k), fun H' ⟨p1, p2, p3⟩ => ⟨_, by omega, rfl, klt, p1, p2, p3⟩, fun y H7 yl => ?_⟩
      obtain ⟨rfl, hy⟩ := (walk_list (K := K) (a := p1) (xs := (inn L[i]).map vi)).yields k H6 y H7 (by rw [List.length_map]; exact klt) (sq_of hp6) yl
      rw [List.getElem?_map, List.getElem?_eq_getElem klt] at hy
      have ey : y = vi (inn L[i])[k] := (Option.some.inj hy).symm
      subst ey
      refine ⟨hw1 x _, et_yes H7 (Ex.refl _) _ fun H8 e8 => ifT ?_⟩
      have e18 : Ex H H8 := e6.trans e8
      refine he i x L[i] (inn L[i])[k] H8 e18 hxi' hnsi (List.getElem_mem klt) H8 (Ex.refl _) _ fun b H9 nb e9 hb => ?_
      have ll9 := ll6.ex (e8.trans e9)
      obtain ⟨b1, b2⟩ := lls_apart (ll6.ex e8) nb
      have la := ll6.len
      rw [List.length_append, List.length_map, List.length_take] at la
      have lo := lenO i
      have b1' : i * m ≤ 10000 * 9 := Nat.mul_le_mul (by omega) m9
      refine ⟨as6.map V.ref, ll9.at_, by rw [List.length_map]; exact sz_lt (by omega), (e18.trans e9).mut nDH, by rw [upd_ne pD]; exact (e8.trans e9) _ _ hp6, as6 ++ [b], ?_⟩
      rw [List.take_add_one, List.getElem?_eq_getElem klt, List.map_append, ← List.append_assoc]
      exact lls_snoc ll9 hb (fresh_back e18 nb) b1 b2
    · have ek : k = (inn L[i]).length := by omega
      subst ek
      refine .inl ⟨by have := (walk_list (K := K) (a := p1) (xs := (inn L[i]).map vi)).stops H6 (sq_of hp6); rw [List.length_map] at this; exact this, e6, as6, ?_⟩
      have : outer (i + 1) = outer i ++ (inn L[i]).map fun k => u L[i] k := by
        show (L.take (i + 1)).flatMap _ = _
        rw [List.take_add_one, hnsi, List.flatMap_append]
        simp [outer, Option.toList]
      rw [this]
      rw [List.take_length] at ll6
      exact ll6
  · have ei : i = xs.length := by omega
    subst ei
    refine .inl ⟨⟨xs, ex_l e2 hx, Nat.le_refl _⟩, q Dl as H2 e2 ?_⟩
    have : outer xs.length = L.flatMap fun ns => (inn ns).map fun k => u ns k := by
      show (L.take xs.length).flatMap _ = _
      rw [← hL, List.take_length]
    rw [← this]
    exact ll
end
theorem cr_sortedSetK {X : Cx} (w : World) (hc : X.calm = true) (h : X.w = w := by rfl) : CallR X (.builtin "sorted") (rSortedSet w) := by
  subst h
  exact cr_sortedSet hc
theorem cr_setIK {X : Cx} (K : PySem.W.Frag) (w : World) (hc : X.calm = true) (h : X.K = K := by rfl) (hw : X.w = w := by rfl) : CallR X (.type "set") (rSetI K w) := by
  subst h
  subst hw
  exact cr_setI hc
theorem el_cat {σ : L2.St} {H : Hp} {ta tb : TE} {xs ys : List V} (ha : EvL ta σ H xs) (hb : EvL tb σ H ys) (l : xs.length + ys.length ≤ 100000) : EvL (tOp rCat ta tb) σ H (xs ++ ys) := fun H1 e1 Q q =>
  ha H1 e1 _ fun a H2 na e2 h2 => hb H2 (e1.trans e2) _ fun b H3 nb e3 h3 => ⟨a, b, xs, ys, rfl, rfl, e3 _ _ h2, h3, sz_of l, fun p np => q p _ (fresh_back (e2.trans e3) np) ((e2.trans e3).trans (Ex.new np)) upd_same⟩
theorem dc_it {J : It} {n : Nat} {G : Hp → Prop} {Y : Nat → Hp → V → Hp → Prop} {g : TG} {tt : TT} {tk tv : TE} {σ : L2.St} {H1 : Hp} {D : Addr} {vs : List Nat} {Q : VK} (w : Walk J n G Y) (Pv : Nat → Hp → Prop) (h0 : Pv 0 (upd H1 D (.dK []))) (hG : ∀ i H', i ≤ n → Pv i H' → G H')
    (hs : ∀ i x H' H'', i < n → Pv i H' → Y i H' x H'' → g x (wipe σ vs) H'' fun σ2 H2 => wipe σ2 vs = wipe σ vs ∧ tt σ2 H2 fun b H3 => if b = true then tk σ2 H3 fun y H4 => tv σ2 H4 fun z H5 => ∃ kvs k, y = kV k ∧ H5 D = some (.dK kvs) ∧ kvs.length < sizeLine ∧ Pv (i + 1) (upd H5 D (.dK (putK kvs k z))) else Pv (i + 1) H3)
    (hd : ∀ H', Pv n H' → Q (.ref D) H') :
    ∃ W : Nat → Nat → Hp → Prop, (∃ m, W 0 m (upd H1 D (.dK []))) ∧ ∀ i m H, W i m H → (J.stop i H ∧ Q (.ref D) H) ∨ (J.go i H ∧ ∃ Nx : Hp → Prop, (∀ H', Nx H' → ∃ m', m' < m ∧ W (i + 1) m' H') ∧ ∀ x H', J.yld i H x H' → g x (wipe σ vs) H' fun σ2 H2 => wipe σ2 vs = wipe σ vs ∧ tt σ2 H2 fun b H3 => if b = true then tk σ2 H3 fun y H4 => tv σ2 H4 fun z H5 => ∃ kvs k, y = kV k ∧ H5 D = some (.dK kvs) ∧ kvs.length < sizeLine ∧ Nx (upd H5 D (.dK (putK kvs k z))) else Nx H3) := by
  refine ⟨fun i m H => m = n - i ∧ i ≤ n ∧ Pv i H, ⟨n, rfl, Nat.zero_le _, h0⟩, ?_⟩
  rintro i m H ⟨rfl, hi, p⟩
  have gH := hG i H hi p
  by_cases lt : i < n
  · exact .inr ⟨w.goes i H lt gH, Pv (i + 1), fun H' p' => ⟨n - (i + 1), by omega, rfl, lt, p'⟩, fun x H' y => hs i x H H' lt p (w.yields i H x H' lt gH y)⟩
  · have e : i = n := by omega
    subst e
    exact .inl ⟨w.stops H gH, hd H p⟩
theorem et_updD {K : PySem.W.Frag} {H H' : Hp} {l : Addr} {xs ys : List (Key × V)} (e : ET K H H') (h : H' l = some (.dK xs)) : ET K H (upd H' l (.dK ys)) := fun a zs q => by
  rcases e a zs q with (q | ⟨o, q⟩) | q
  · exact .inl (.inl (by rw [upd_ne (fun z => by rw [z, h] at q; cases q)]; exact q))
  · exact .inl (.inr ⟨o, by rw [upd_ne (fun z => by rw [z, h] at q; cases q)]; exact q⟩)
  · exact .inr q
theorem put_len (c : List (Key × V)) (k : Key) (x : V) : (putK c k x).length ≤ c.length + 1 := by
  unfold putK
  split
  · rw [List.length_map]
    exact Nat.le_add_right _ _
  · rw [List.length_append]
    exact Nat.le_refl _
theorem do_yes {σ : L2.St} {H : Hp} {A B : Hp → Prop} (h : A H) : tYes σ H fun b H3 => if b = true then A H3 else B H3 := h
section
variable {σ : L2.St} {H : Hp} {ta tb : TE}
theorem do_dcW {wi : TI} {g : TG} {tt : TT} {tk tv : TE} {vs : List Nat} {Q : VK} {J : It} {n : Nat} {G : Hp → Prop} {Y : Nat → Hp → V → Hp → Prop} (w : Walk J n G Y) (h : ∀ R : It → Hp → Prop, (∀ H1, Ex H H1 → R J H1) → wi σ H R) (Pv : Addr → Nat → Hp → Prop) (h0 : ∀ D H1, Ex H H1 → H1 D = none → Pv D 0 (upd H1 D (.dK []))) (hG : ∀ D i H', i ≤ n → Pv D i H' → G H')
    (hs : ∀ D i x H' H'', i < n → Pv D i H' → Y i H' x H'' → g x (wipe σ vs) H'' fun σ2 H2 => wipe σ2 vs = wipe σ vs ∧ tt σ2 H2 fun b H3 => if b = true then tk σ2 H3 fun y H4 => tv σ2 H4 fun z H5 => ∃ kvs k, y = kV k ∧ H5 D = some (.dK kvs) ∧ kvs.length < sizeLine ∧ Pv D (i + 1) (upd H5 D (.dK (putK kvs k z))) else Pv D (i + 1) H3)
    (hd : ∀ D H', Pv D n H' → Q (.ref D) H') : tDc wi g tt tk tv vs σ H Q := h _ fun H1 e1 D nD => dc_it w (Pv D) (h0 D H1 e1 nD) (hG D) (fun i x H2 H3 hi p y => hs D i x H2 H3 hi p y) (fun H2 p => hd D H2 p)
theorem ev_dget {d : Addr} {kvs : List (Key × V)} {x : Str} {v : V} (ha : Ev ta σ H (.ref d)) (hb : Ev tb σ H (.str x)) (hd : H d = some (.dK kvs)) (hv : valV kvs (.inr x) = some v) : Ev (tDGet ta tb) σ H v := fun H1 e Q q =>
  ha H1 e _ fun H2 e2 => hb H2 (e.trans e2) _ fun H3 e3 => ⟨d, v, rfl, hv ▸ DGet.k (k := .inr x) (((e.trans e2).trans e3) _ _ hd), q H3 (e2.trans e3)⟩
end
section
variable {X : Cx}
theorem ps_setDc {i : Nat} {y : Str} {py : Pos} {kx vx tg iter : Expr} {ifs : List Expr} {scope : Scope} {own : List (Str × Nat)} {pos spos : Pos} {wi : TI} {g : TG} {tt : TT} {tk tv : TE} (hc : X.calm = true) (hN : X.N.Nodup) (hy : X.N[i]? = some y) (hyl : X.env.scope.names.lookup y = some .local)
    (hsw : swapsWith (.DictComp kx vx [⟨tg, iter, ifs, 0⟩] scope pos) (some (.Name y py)) spos.line X.env = pure true) (hi : PI X tg iter wi) (ok : BlkOk X.N X.env.scope scope own)
    (hg : ∀ (s : Shared) (H : Hp) (C : Addr) (cl : List (Str × Addr)) (fp : List Addr), PG (X.blk s H scope (compEnvC scope cl C X.env) fp) tg g) (ht : ∀ (s : Shared) (H : Hp) (C : Addr) (cl : List (Str × Addr)) (fp : List Addr), PTs (X.blk s H scope (compEnvC scope cl C X.env) fp) ifs tt)
    (hk : ∀ (s : Shared) (H : Hp) (C : Addr) (cl : List (Str × Addr)) (fp : List Addr), PE (X.blk s H scope (compEnvC scope cl C X.env) fp) kx tk)
    (he : ∀ (s : Shared) (H : Hp) (C : Addr) (cl : List (Str × Addr)) (fp : List Addr), PE (X.blk s H scope (compEnvC scope cl C X.env) fp) vx tv) (hs : ∀ x, foldedSetIterable iter X.env x = pure x := by intro _; rfl) :
    PS X (.Assign [.Name y py] (.DictComp kx vx [⟨tg, iter, ifs, 0⟩] scope pos) spos) (tAsg (tDc wi g tt tk tv (own.map (·.2))) (gName i)) := by
  refine ⟨fun pins s σ H D I h => ?_⟩
  rw [exec_Assign_Name_used _ _ _ _ hsw]
  refine wpAny_bind (wpAny_standAt (wpAny_bind ?_))
  show wpAny _ X.A (do let _ ← comprehension (.DictComp kx vx [⟨tg, iter, ifs, 0⟩] scope pos) scope X.env (firstIterPos [⟨tg, iter, ifs, 0⟩] pos) newDict false (eval iter X.env) (some (assign (.Name y py) X.env))) _ _ s
  have h : tDc wi g tt tk tv (own.map (·.2)) σ H (fun x H1 => gName i x σ H1 D.nx) := h
  refine wpAny_bind (thn (dc_core (Qf := fun _ s' => SP X pins D .next s') hc hN I hi ok hg ht hk he hs h fun L C s' m H' I' q hn f => ?_) fun _ s' hq => wpAny_pure (wpAny_pure hq))
  show wpAny _ _ (assign (.Name y py) X.env (.ref L)) _ _ _
  refine wpAny_assign_Name (store_ok2 (v := V.ref L) I' hN hy (.inl hyl) rfl (fun s2 I2 ⟨a, sb, ha⟩ => ?_) (.inr hyl))
  obtain ⟨f0, f1, f2, f3, f4, f5⟩ := f
  have haC : C ≠ a := by
    rcases ha with z | z
    · rw [z]; exact f1
    · exact fun e => f4 y a z e.symm
  refine ⟨m, hn.sameBut sb haC, fun h3 sb3 => ?_⟩
  exact ⟨_, H', I2.turned (t' := s2.toks) (fun b o hb e => (sb3.2 b hb).trans e) f0 f1 f3 f4 f5, q⟩
theorem sw_trueD {kx vx : Expr} {gs : List Comprehension} {scope : Scope} {pos py : Pos} {y : Str} {l : Nat} {env : Env} (hk : env.scope.kind = .function) (hy : env.scope.names.lookup y = some .local) (hl : (py.line == pos.line) = true)
    (ha : (scope.names.any fun (n, k) => n == y && (k == .local || k == .cell)) = false) : swapsWith (.DictComp kx vx gs scope pos) (some (.Name y py)) l env = pure true := by
  have ky : env.kindOf y = some .local := hy
  have hb : env.blockKind = .function := by unfold Env.blockKind; rw [hk]; rfl
  unfold swapsWith
  simp only [hb, ky, ha, Expr.pos, hl]
  rfl
end
section
variable {K : PySem.W.Frag} {σ : L2.St} {H : Hp} {te tl : TE}
theorem el_rowM {xa : Addr} {row : List Nat} {j : Nat} {u : Nat → Nat} (h : Ev tl σ H (.ref xa)) (hx : H xa = some (.lst (row.map vi))) (l : row.length ≤ 40000) (hwp : ∀ x, wipe ((wipe σ [j]).set j (some x)) [j] = wipe σ [j])
    (hu : ∀ k, k ∈ row → ∀ H1, Ex H H1 → Ev te ((wipe σ [j]).set j (some (vi k))) H1 (vi (u k))) : EvL (tLc (iList K tl) (gName j) tYes te [j]) σ H ((row.map u).map vi) := by
  have z := el_lcL (K := K) (tl := tl) (t := tYes) (te := te) (σ := σ) (j := j) (vs := [j]) (fun _ => true) (fun i => vi (u (row.getD i 0))) h (sq_of hx) (by rw [List.length_map]; exact l) hwp (fun _ _ _ _ _ => et_yes) (fun i x H5 e5 hx _ => by
    rw [List.getElem?_map] at hx
    cases hk : row[i]? with
    | none => rw [hk] at hx; cases hx
    | some k =>
      rw [hk] at hx
      cases Option.some.inj hx
      have : row.getD i 0 = k := by rw [List.getD_eq_getElem?_getD, hk]; rfl
      rw [this]
      exact hu k (List.mem_iff_getElem?.mpr ⟨i, hk⟩) H5 e5)
  rw [given_all] at z
  have e : (List.range (row.map vi).length).map (fun i => vi (u (row.getD i 0))) = (row.map u).map vi := by
    rw [List.length_map]
    have h1 : (List.range row.length).map (fun i => vi (u (row.getD i 0))) = (((List.range row.length).map fun i => row.getD i 0).map u).map vi := by
      rw [List.map_map, List.map_map]
      rfl
    rw [h1, Dw.range_getD]
  rw [e] at z
  exact z
theorem el_rowN {row : List Nat} {j : Nat} {u : Nat → Nat} (h : EvL tl σ H (row.map vi)) (l : row.length ≤ 40000) (hwp : ∀ x, wipe ((wipe σ [j]).set j (some x)) [j] = wipe σ [j])
    (hu : ∀ k, k ∈ row → ∀ H1, Ex H H1 → Ev te ((wipe σ [j]).set j (some (vi k))) H1 (vi (u k))) : EvL (tLc (iList K tl) (gName j) tYes te [j]) σ H ((row.map u).map vi) := fun H1 e1 Q q =>
  lc_src (h H1 e1 _ fun p H2 np e2 hp => el_rowM (K := K) (tl := tC (.ref p)) (u := u) ev_c hp l hwp (fun k hk H3 e3 => hu k hk H3 ((e1.trans e2).trans e3)) H2 (Ex.refl _) Q fun p2 H3 np2 e3 h3 => q p2 H3 (fresh_back e2 np2) (e2.trans e3) h3)
end
end Dw
end
section
namespace K76
open PySem PySem.Spec PyProof.Rows L2 Evl Dw M20
open C8 (fnScope_by)
/-! ### the text -/
def topS (i : Nat) : Stmt := PySem.Challenge.pw_deedworlds_k76_whole_leads_are_quotients.main.body.getD i (.Pass ⟨0, 0, 0, 0⟩)
abbrev s_is_whole : Stmt := topS 1
theorem sc_is_whole : FnScope ["thing"] ["thing"] (defScope s_is_whole) := fnScope_by (by decide +kernel)
abbrev s_is_below : Stmt := topS 2
theorem sc_is_below : FnScope ["thing", "size"] ["thing", "size"] (defScope s_is_below) := fnScope_by (by decide +kernel)
abbrev s_is_row : Stmt := topS 3
theorem sc_is_row : FnScope ["thing", "many", "size", "number"] ["thing", "many", "size"] (defScope s_is_row) := fnScope_by (by decide +kernel)
abbrev s_are_unlike_below : Stmt := topS 4
theorem sc_are_unlike_below : FnScope ["things", "size", "met", "number"] ["things", "size"] (defScope s_are_unlike_below) := fnScope_by (by decide +kernel)
abbrev s_power : Stmt := topS 5
theorem sc_power : FnScope ["base", "many", "told", "step"] ["base", "many"] (defScope s_power) := fnScope_by (by decide +kernel)
abbrev s_rows_below : Stmt := topS 6
theorem sc_rows_below : FnScope ["size", "many", "rows", "step", "row", "number"] ["size", "many"] (defScope s_rows_below) := fnScope_by (by decide +kernel)
abbrev s_rising_lists : Stmt := topS 7
theorem sc_rising_lists : FnScope ["size", "lists", "number", "one"] ["size"] (defScope s_rising_lists) := fnScope_by (by decide +kernel)
abbrev s_place_of_row : Stmt := topS 8
theorem sc_place_of_row : FnScope ["size", "row", "place", "number"] ["size", "row"] (defScope s_place_of_row) := fnScope_by (by decide +kernel)
abbrev s_cells_in_order : Stmt := topS 18
theorem sc_cells_in_order : FnScope ["signature", "size", "cells", "top", "name", "places", "args"] ["signature", "size"] (defScope s_cells_in_order) := fnScope_by (by decide +kernel)
abbrev s_table_of : Stmt := topS 20
theorem sc_table_of : FnScope ["signature", "tables", "name", "deed", "table"] ["signature", "tables", "name"] (defScope s_table_of) := fnScope_by (by decide +kernel)
abbrev s_cells_with_worths : Stmt := topS 21
theorem sc_cells_with_worths : FnScope ["signature", "model", "told", "name", "places", "table", "args", "worth"] ["signature", "model"] (defScope s_cells_with_worths) := fnScope_by (by decide +kernel)
abbrev s_is_name : Stmt := topS 28
theorem sc_is_name : FnScope ["thing", "sign"] ["thing"] (defScope s_is_name) := fnScope_by (by decide +kernel)
abbrev s_is_deed : Stmt := topS 29
theorem sc_is_deed : FnScope ["thing"] ["thing"] (defScope s_is_deed) := fnScope_by (by decide +kernel)
abbrev s_signature_wrong : Stmt := topS 30
theorem sc_signature_wrong : FnScope ["thing", "k", "deed", "names", "name"] ["thing"] (defScope s_signature_wrong) := fnScope_by (by decide +kernel)
abbrev s_need_signature : Stmt := topS 31
theorem sc_need_signature : FnScope ["signature"] ["signature"] (defScope s_need_signature) := fnScope_by (by decide +kernel)
abbrev s_is_size : Stmt := topS 33
theorem sc_is_size : FnScope ["thing"] ["thing"] (defScope s_is_size) := fnScope_by (by decide +kernel)
abbrev s_first_odd_cell : Stmt := topS 34
theorem sc_first_odd_cell : FnScope ["size", "tables", "k", "table", "at", "number"] ["size", "tables"] (defScope s_first_odd_cell) := fnScope_by (by decide +kernel)
abbrev s_model_wrong : Stmt := topS 36
theorem sc_model_wrong : FnScope ["signature", "thing", "size", "tables", "k", "deed", "odd"] ["signature", "thing"] (defScope s_model_wrong) := fnScope_by (by decide +kernel)
abbrev s_need_model : Stmt := topS 37
theorem sc_need_model : FnScope ["signature", "model"] ["signature", "model"] (defScope s_need_model) := fnScope_by (by decide +kernel)
abbrev s_need_two_models : Stmt := topS 38
theorem sc_need_two_models : FnScope ["signature", "one", "other"] ["signature", "one", "other"] (defScope s_need_two_models) := fnScope_by (by decide +kernel)
abbrev s_cells_by_greatest : Stmt := topS 40
theorem sc_cells_by_greatest : FnScope ["signature", "one", "other", "told", "name", "args", "worth", "number"] ["signature", "one", "other"] (defScope s_cells_by_greatest) := fnScope_by (by decide +kernel)
abbrev s_leads_on : Stmt := topS 41
theorem sc_leads_on : FnScope ["cells", "size", "images", "args", "worth", "table", "arg"] ["cells", "size", "images"] (defScope s_leads_on) := fnScope_by (by decide +kernel)
abbrev s_leads : Stmt := topS 42
theorem sc_leads : FnScope ["signature", "one", "other", "size", "begins", "cells", "longer", "images", "number"] ["signature", "one", "other"] (defScope s_leads) := fnScope_by (by decide +kernel)
abbrev s_has_lead_form : Stmt := topS 43
theorem sc_has_lead_form : FnScope ["one", "other", "thing"] ["one", "other", "thing"] (defScope s_has_lead_form) := fnScope_by (by decide +kernel)
abbrev s_first_odd_lead : Stmt := topS 44
theorem sc_first_odd_lead : FnScope ["signature", "one", "other", "images", "name", "args", "worth"] ["signature", "one", "other", "images"] (defScope s_first_odd_lead) := fnScope_by (by decide +kernel)
abbrev s_lead_wrong : Stmt := topS 46
theorem sc_lead_wrong : FnScope ["signature", "one", "other", "thing", "odd"] ["signature", "one", "other", "thing"] (defScope s_lead_wrong) := fnScope_by (by decide +kernel)
abbrev s_lead_judged : Stmt := topS 47
theorem sc_lead_judged : FnScope ["signature", "one", "other", "thing"] ["signature", "one", "other", "thing"] (defScope s_lead_judged) := fnScope_by (by decide +kernel)
abbrev s_image : Stmt := topS 48
theorem sc_image : FnScope ["signature", "one", "other", "lead", "join", "closed", "onto", "called", "number"] ["signature", "one", "other", "lead"] (defScope s_image) := fnScope_by (by decide +kernel)
abbrev s_with_arg : Stmt := topS 50
theorem sc_with_arg : FnScope ["args", "at", "other"] ["args", "at", "other"] (defScope s_with_arg) := fnScope_by (by decide +kernel)
abbrev s_all_partings : Stmt := topS 51
theorem sc_all_partings : FnScope ["size", "rows", "number", "row", "least"] ["size"] (defScope s_all_partings) := fnScope_by (by decide +kernel)
abbrev s_goes_with_deeds : Stmt := topS 52
theorem sc_goes_with_deeds : FnScope ["signature", "model", "lots", "tables", "name", "args", "worth", "at", "arg", "place", "places"] ["signature", "model", "lots"] (defScope s_goes_with_deeds) := fnScope_by (by decide +kernel)
abbrev s_is_join : Stmt := topS 53
theorem sc_is_join : FnScope ["signature", "model", "thing", "number", "least"] ["signature", "model", "thing"] (defScope s_is_join) := fnScope_by (by decide +kernel)
abbrev s_joins_of : Stmt := topS 55
theorem sc_joins_of : FnScope ["signature", "model", "lots"] ["signature", "model"] (defScope s_joins_of) := fnScope_by (by decide +kernel)
abbrev s_joins : Stmt := topS 56
theorem sc_joins : FnScope ["signature", "model"] ["signature", "model"] (defScope s_joins) := fnScope_by (by decide +kernel)
abbrev s_quotient : Stmt := topS 57
theorem sc_quotient : FnScope ["signature", "model", "join", "least", "tables", "name", "places", "table", "row", "args", "worth", "arg"] ["signature", "model", "join"] (defScope s_quotient) := fnScope_by (by decide +kernel)
abbrev s_is_order : Stmt := topS 59
theorem sc_is_order : FnScope ["thing", "size"] ["thing", "size"] (defScope s_is_order) := fnScope_by (by decide +kernel)
abbrev s_turned_back : Stmt := topS 60
theorem sc_turned_back : FnScope ["order", "back", "number", "called"] ["order"] (defScope s_turned_back) := fnScope_by (by decide +kernel)
abbrev s_renamed_table : Stmt := topS 61
theorem sc_renamed_table : FnScope ["size", "places", "table", "order", "back", "number", "one", "other"] ["size", "places", "table", "order"] (defScope s_renamed_table) := fnScope_by (by decide +kernel)
abbrev s_renamed_tables : Stmt := topS 62
theorem sc_renamed_tables : FnScope ["signature", "size", "tables", "order", "told", "name", "places", "table"] ["signature", "size", "tables", "order"] (defScope s_renamed_tables) := fnScope_by (by decide +kernel)
abbrev s_renamed : Stmt := topS 64
theorem sc_renamed : FnScope ["signature", "model", "order", "size", "tables"] ["signature", "model", "order"] (defScope s_renamed) := fnScope_by (by decide +kernel)
abbrev s_is_among : Stmt := topS 66
theorem sc_is_among : FnScope ["args", "numbers", "arg"] ["args", "numbers"] (defScope s_is_among) := fnScope_by (by decide +kernel)
abbrev s_has_worths : Stmt := topS 67
theorem sc_has_worths : FnScope ["signature", "model", "numbers", "name", "args", "worth"] ["signature", "model", "numbers"] (defScope s_has_worths) := fnScope_by (by decide +kernel)
abbrev s_closed_lists : Stmt := topS 68
theorem sc_closed_lists : FnScope ["signature", "model", "numbers"] ["signature", "model"] (defScope s_closed_lists) := fnScope_by (by decide +kernel)
abbrev s_is_closed : Stmt := topS 69
theorem sc_is_closed : FnScope ["signature", "model", "thing"] ["signature", "model", "thing"] (defScope s_is_closed) := fnScope_by (by decide +kernel)
abbrev s_part_of : Stmt := topS 70
theorem sc_part_of : FnScope ["signature", "model", "closed", "size", "tables", "told", "name", "places", "table", "row", "args", "arg"] ["signature", "model", "closed"] (defScope s_part_of) := fnScope_by (by decide +kernel)
abbrev s_part : Stmt := topS 71
theorem sc_part : FnScope ["signature", "model", "closed"] ["signature", "model", "closed"] (defScope s_part) := fnScope_by (by decide +kernel)
abbrev s_purse : Stmt := topS 73
theorem sc_purse : FnScope ["_law_script", "_law_cells", "_law_j"] ["_law_script"] (defScope s_purse) := fnScope_by (by decide +kernel)
abbrev s_draw : Stmt := topS 74
theorem sc_draw : FnScope ["_law_purse_here", "_law_out_of", "_law_cells", "_law_went", "_law_where", "_law_cell", "_law_figure"] ["_law_purse_here", "_law_out_of"] (defScope s_draw) := fnScope_by (by decide +kernel)
abbrev s_pick : Stmt := topS 75
theorem sc_pick : FnScope ["_law_purse_here", "_law_some"] ["_law_purse_here", "_law_some"] (defScope s_pick) := fnScope_by (by decide +kernel)
abbrev s_signature : Stmt := topS 76
theorem sc_signature : FnScope ["_law_purse_here", "_law_some"] ["_law_purse_here"] (defScope s_signature) := fnScope_by (by decide +kernel)
abbrev s_ways : Stmt := topS 77
theorem sc_ways : FnScope ["_law_many", "_law_size", "_law_found", "_law_k", "_law_longer", "_law_way_here", "_law_number"] ["_law_many", "_law_size"] (defScope s_ways) := fnScope_by (by decide +kernel)
abbrev s_table : Stmt := topS 78
theorem sc_table : FnScope ["_law_purse_here", "_law_many", "_law_size", "_law_way_here", "_law_by", "_law_found", "_law_args", "_law_worth"] ["_law_purse_here", "_law_many", "_law_size"] (defScope s_table) := fnScope_by (by decide +kernel)
abbrev s_mdl : Stmt := topS 79
theorem sc_mdl : FnScope ["_law_purse_here", "_law_signature_here", "_law_size", "_law_name", "_law_many"] ["_law_purse_here", "_law_signature_here", "_law_size"] (defScope s_mdl) := fnScope_by (by decide +kernel)
abbrev s_right : Stmt := topS 80
theorem sc_right : FnScope ["_law_signature_here", "_law_one", "_law_other", "_law_lead", "_law_every", "_law_lists_here", "_law_kept", "_law_told_here", "_law_join", "_law_closed", "_law_onto", "_law_a", "_law_least", "_law_b", "_law_place", "_law_lot"] ["_law_signature_here", "_law_one", "_law_other", "_law_lead", "_law_every", "_law_lists_here"] (defScope s_right) := fnScope_by (by decide +kernel)
abbrev s_of_one : Stmt := topS 81
theorem sc_of_one : FnScope ["_law_signature_here", "_law_model_here", "_law_join", "_law_least", "_law_less", "_law_lead", "_law_closed", "_law_lot"] ["_law_signature_here", "_law_model_here"] (defScope s_of_one) := fnScope_by (by decide +kernel)
abbrev s_law : Stmt := topS 82
theorem sc_law : FnScope ["_law_script", "_law_purse_here", "_law_time", "_law_signature_here", "_law_one", "_law_other", "_law_way_here", "_law_every", "_law_full", "_law_lists_here", "_law_told_here", "_law_lead", "_law_some"] ["_law_script"] (defScope s_law) := fnScope_by (by decide +kernel)
/-- what the module's names hold -/
structure Txt (mg : Str → Option Value) : Prop where
  z_abs : mg "abs" = none
  z_all : mg "all" = none
  z_bool : mg "bool" = none
  z_enumerate : mg "enumerate" = none
  z_int : mg "int" = none
  z_isinstance : mg "isinstance" = none
  z_len : mg "len" = none
  z_list : mg "list" = none
  z_max : mg "max" = none
  z_min : mg "min" = none
  z_range : mg "range" = none
  z_set : mg "set" = none
  z_sorted : mg "sorted" = none
  z_str : mg "str" = none
  z_sum : mg "sum" = none
  z_tuple : mg "tuple" = none
  z_zip : mg "zip" = none
  z_repr : mg "repr" = none
  c_NAME_LETTERS : ∃ t, mg "NAME_LETTERS" = some (.str "abcdefghijklmnopqrst" t)
  c_MOST_NAME : ∃ t, mg "MOST_NAME" = some (.int 4 t)
  c_MOST_DEEDS : ∃ t, mg "MOST_DEEDS" = some (.int 4 t)
  c_MOST_PLACES : ∃ t, mg "MOST_PLACES" = some (.int 2 t)
  c_MOST_SIZE : ∃ t, mg "MOST_SIZE" = some (.int 6 t)
section
variable {X : Cx} {x : Str} {pos : Pos}
theorem pe_gi {i : Int} (hg : Gl X x) (h : ∃ t, X.mg x = some (.int i t)) (hn : x ≠ "__name__" := by decide) (hd : (x == ("__debug__" : Str)) = false := by decide) : PE X (.Name x pos) (tC (.int i)) := by
  obtain ⟨t, e⟩ := h
  exact pe_glob hg e ⟨t, rfl⟩ (hd := hd)
theorem pe_gs {z : Str} (hg : Gl X x) (h : ∃ t, X.mg x = some (.str z t)) (hn : x ≠ "__name__" := by decide) (hd : (x == ("__debug__" : Str)) = false := by decide) : PE X (.Name x pos) (tC (.str z)) := by
  obtain ⟨t, e⟩ := h
  exact pe_glob hg e ⟨t, rfl⟩ (hd := hd)
theorem pe_ty (n : String) (hg : Gl X x) (hm : X.mg x = none) (hv : bootBuiltins x = some (.type n)) (hn : x ≠ "__name__" := by decide) (hd : (x == ("__debug__" : Str)) = false := by decide) : PE X (.Name x pos) (tC (.ty n)) := pe_bltn hg hm hv rfl (hn := hn) (hd := hd)
theorem ip_mul : PIp X .Mult (rI CMul fun i j => .int (i * j)) := iop_mul
end
section
variable {P : Program} {w : World} {K : PySem.W.Frag} {mg : Str → Option Value} {base : Heap}
/-! ### is_whole, is_below, power -/
def sp_is_whole : Sp := spX (fun (i : Int) vs _ => vs = [.int i]) (fun _ v _ => v = .bl true)
theorem c_is_whole (T : Txt mg) (D : Df K mg "is_whole" s_is_whole ["thing"]) : Cl P w K mg base 1 "is_whole" sp_is_whole := by
  refine cl_of (k := 0) D sc_is_whole (fun vs H Q E h => ?_) (fun f cdv A outer s H vs Q E hr h => ?_)
  · obtain ⟨i, rfl, _⟩ := h
    rfl
  · obtain ⟨i, rfl, q⟩ := h
    refine ⟨_, (pss_one (ps_ret (pe_and (pe_callB call_isi (by rfl) T.z_isinstance (by decide +kernel) (pa_cons (pv 0) (pa_cons (pe_ty "int" (by rfl) T.z_int (by decide +kernel)) pa_nil))) (pe_one (pe_not (pe_callB call_isi (by rfl) T.z_isinstance (by decide +kernel) (pa_cons (pv 0) (pa_cons (pe_ty "bool" (by rfl) T.z_bool (by decide +kernel)) pa_nil)))))))), ?_⟩
    exact s_ret (ev_andV (ev_isi (ev_var rfl) ev_c (.ty _) (fun _ _ => tyx_int i) kit_ii) (fun _ => ev_notV (ev_isi (ev_var rfl) ev_c (.ty _) (fun _ _ => tyx_int i) kit_ib))) fun H1 e => q _ H1 e rfl
def sp_is_below : Sp := spX (fun (p : Int × Int) vs _ => vs = [.int p.1, .int p.2] ∧ 0 ≤ p.1 ∧ p.1 < p.2) (fun _ v _ => v = .bl true)
theorem c_is_below (T : Txt mg) (D : Df K mg "is_below" s_is_below ["thing", "size"]) (c_is_whole : Cl P w K mg base 1 "is_whole" sp_is_whole) : Cl P w K mg base 2 "is_below" sp_is_below := by
  refine cl_of (k := 1) D sc_is_below (fun vs H Q E h => ?_) (fun f cdv A outer s H vs Q E hr h => ?_)
  · obtain ⟨p, ⟨rfl, _⟩, _⟩ := h
    rfl
  · obtain ⟨⟨i, n⟩, ⟨rfl, h0, h1⟩, q⟩ := h
    refine ⟨_, (pss_one (ps_ret (pe_and (pe_cl c_is_whole hr (by first | decide | omega) (by rfl) (pa_cons (pv 0) pa_nil)) (pe_one (pe_chain op_le op_lt pe_int (pv 0) (pv 1)))))), ?_⟩
    refine s_ret (ev_andV (ev_callV (v := .bl true) i (ea_cons (ev_var rfl) ea_nil) (fun _ _ => rfl) (fun _ _ p => p)) (fun _ => ev_chain ev_c (ev_var rfl) (fun _ => ev_var rfl) rv_I0 (fun _ => rv_I0))) fun H1 e => q _ H1 e ?_
    show V.bl (true && (decide (0 ≤ i) && decide (i < n))) = _
    rw [decide_eq_true h0, decide_eq_true h1]
    rfl
def sp_power : Sp := spX (fun (p : Nat × Nat) vs _ => vs = [vi p.1, vi p.2] ∧ p.1 ≤ 6 ∧ p.2 ≤ 2) (fun p v _ => v = vi (p.1 ^ p.2))
theorem c_power (T : Txt mg) (D : Df K mg "power" s_power ["base", "many"]) : Cl P w K mg base 1 "power" sp_power := by
  refine cl_of (k := 0) D sc_power (fun vs H Q E h => ?_) (fun f cdv A outer s H vs Q E hr h => ?_)
  · obtain ⟨p, ⟨rfl, _⟩, _⟩ := h
    rfl
  · obtain ⟨⟨b, m⟩, ⟨rfl, hb, hm⟩, q⟩ := h
    refine ⟨_, (pss_cons (ps_set (i := 2) sc_power.nd rfl (.inl rfl) pe_int)
      (pss_cons (ps_for PassesOwn.never (by rfl) (pi_range1 (by rfl) T.z_range (pa_cons (pv 1) pa_nil)) (pg_name (i := 3) sc_power.nd rfl (.inl rfl))
        (pss_one (ps_aug (i := 2) sc_power.nd rfl (.inl rfl) (pv 0) ip_mul)))
      (pss_one (ps_ret (pv 2))))), ?_⟩
    refine q_asg ev_c fun H1 e1 => ?_
    refine q_forR1 (ea_cons (ev_var rfl) ea_nil) (by omega) (fun i σ H' => ∃ y, σ = [some (vi b), some (vi m), some (vi (b ^ i)), y] ∧ Ex H H') (fun H2 e2 => ⟨none, rfl, e1.trans e2⟩) (fun i σ H' hi ⟨y, hσ, e⟩ => ?_) (fun σ H' ⟨y, hσ, e⟩ => ?_)
    · subst hσ
      refine ⟨_, rfl, _, rfl, ((b ^ i : Nat) : Int), (b : Int), rfl, rfl, .inr ⟨by omega, by omega⟩, some (vi i), ?_, e⟩
      show [some (vi b), some (vi m), some (.int (((b ^ i : Nat) : Int) * (b : Int))), some (vi i)] = [some (vi b), some (vi m), some (vi (b ^ (i + 1))), some (vi i)]
      rw [Nat.pow_succ]
      show _ = [some (vi b), some (vi m), some (.int ((b ^ i * b : Nat) : Int)), some (vi i)]
      rw [Int.natCast_mul]
    · subst hσ
      exact s_ret (ev_var rfl) fun H2 e2 => q _ H2 (e.trans e2) rfl
end
end K76
end
section
namespace K76
open PySem PySem.Spec PyProof.Rows L2 Evl Dw M20
section
variable {P : Program} {w : World} {K : PySem.W.Frag} {mg : Str → Option Value} {base : Heap}
theorem ix_tupK {X : Cx} (K : PySem.W.Frag) (h : X.K = K := by rfl) : IxR X (rIxT K) := by
  subst h
  exact ix_tup
theorem pi_tupK {X : Cx} {tg l : Expr} {tl : TE} (K : PySem.W.Frag) (hl : PE X l tl) (h : X.K = K := by rfl) : PI X tg l (iTup K tl) := by
  subst h
  exact pi_tup hl
/-! ### names, deeds, signatures -/
def letters : Str := "abcdefghijklmnopqrst"
structure Name (z : Str) : Prop where
  l1 : 1 ≤ z.length
  l4 : z.length ≤ 4
  abc : ∀ c ∈ z.cps.toList, c ∈ letters.cps.toList
def sp_is_name : Sp := spX (fun (z : Str) vs _ => vs = [.str z] ∧ Name z) (fun _ v _ => v = .bl true)
theorem c_is_name (T : Txt mg) (D : Df K mg "is_name" s_is_name ["thing"]) : Cl P w K mg base 1 "is_name" sp_is_name := by
  refine cl_of (k := 0) D sc_is_name (fun vs H Q E h => ?_) (fun f cdv A outer s H vs Q E hr h => ?_)
  · obtain ⟨p, ⟨rfl, _⟩, _⟩ := h
    rfl
  · obtain ⟨z, ⟨rfl, hz⟩, q⟩ := h
    refine ⟨_, (pss_cons (ps_if (PW.pt (pw_or (pt_not (pt_val (pe_callB call_isi (by rfl) T.z_isinstance (by decide +kernel) (pa_cons (pv 0) (pa_cons (pe_ty "str" (by rfl) T.z_str (by decide +kernel)) pa_nil))))) (pw_or1 (pt_not (pt_chain op_le op_le pe_int (pe_callB call_len_str (by rfl) T.z_len PySem.boot_len (pa_cons (pv 0) pa_nil)) (pe_gi (by rfl) T.c_MOST_NAME))))))
        (pss_one (ps_ret pe_bl))
        pss_nil)
      (pss_one (ps_ret (pe_callB (cr_all rfl) (by rfl) T.z_all (by decide +kernel) (pa_cons (pe_lc (own := [("sign", 1)]) (g := (gName 1)) (by rfl) sc_is_name.nd (pi_str (pv 0)) (blkOk_by (own := [("sign", 1)]) (N := ["thing", "sign"]) (sc := (defScope s_is_name)) (by decide +kernel)) (fun _ _ _ _ _ => (pg_name (i := 1) sc_is_name.nd rfl (.inl rfl))) (fun _ _ _ _ _ => pts_nil) (fun _ _ _ _ _ => (pe_cmpR op_in_sign (pv 1) (pe_gs (by rfl) T.c_NAME_LETTERS) (by rfl)))) pa_nil))))), ?_⟩
    have h1 := hz.l1
    have h4 := hz.l4
    have hs : z.cps.size = z.length := rfl
    refine q_when (b := false) (et_is (et_or (et_not (et_val (ev_isi (ev_var rfl) ev_c (.ty _) (fun _ _ => tyx_str z) kit_ss))) (fun _ => et_not (et_test (ev_chain ev_c (ev_lenS (ev_var rfl) (by omega)) (fun _ => ev_c) rv_I0 (fun _ => rv_I0))))) ?_) (fun hb => by cases hb) (fun _ H1 e1 => ?_)
    · show (!true || !(decide ((1 : Int) ≤ (z.length : Int)) && decide ((z.length : Int) ≤ 4))) = false
      rw [decide_eq_true (by omega), decide_eq_true (by omega)]
      rfl
    · refine s_ret (ev_all (bs := List.replicate z.cps.size true) ?_) fun H2 e2 => q _ H2 (e1.trans e2) ?_
      · have e : (List.replicate z.cps.size true).map V.bl = (List.range z.cps.size).map (fun _ => V.bl true) := by
          rw [List.map_const', List.length_range, List.map_replicate]
        rw [e]
        refine el_lcS (ev_var rfl) (fun _ => .bl true) (by omega) (fun _ => rfl) (fun i c H2 e2 hc => ?_)
        refine ev_op (ev_var rfl) ev_c ?_
        have hm : c ∈ letters.cps.toList := hz.abc c (by
          obtain ⟨hi, e⟩ := Array.getElem?_eq_some_iff.mp hc
          rw [← e]
          exact Array.getElem_mem_toList hi)
        exact fun H3 _ Q q3 => ⟨c, letters, rfl, rfl, by rw [decide_eq_true hm]; exact q3 H3 (Ex.refl H3)⟩
      · show V.bl ((List.replicate z.cps.size true).all id) = V.bl true
        rw [show (List.replicate z.cps.size true).all id = true from List.all_eq_true.mpr (fun b hb => (List.mem_replicate.mp hb).2)]
def sp_is_deed (K : PySem.W.Frag) : Sp := spX (fun (p : Str × Nat) vs H => (∃ v, vs = [v] ∧ Deed K H v p) ∧ Name p.1 ∧ p.2 ≤ 2) (fun _ v _ => v = .bl true)
theorem c_is_deed (T : Txt mg) (D : Df K mg "is_deed" s_is_deed ["thing"]) (c_is_name : Cl P w K mg base 1 "is_name" sp_is_name) (c_is_below : Cl P w K mg base 2 "is_below" sp_is_below) : Cl P w K mg base 3 "is_deed" (sp_is_deed K) := by
  refine cl_of (k := 2) D sc_is_deed (fun vs H Q E h => ?_) (fun f cdv A outer s H vs Q E hr h => ?_)
  · obtain ⟨p, ⟨⟨v, rfl, _⟩, _⟩, _⟩ := h
    rfl
  · obtain ⟨⟨z, p⟩, ⟨⟨v, rfl, b, rfl, hb⟩, hz, hp⟩, q⟩ := h
    refine ⟨_, (pss_one (ps_ret (pe_and (pe_callB call_isi (by rfl) T.z_isinstance (by decide +kernel) (pa_cons (pv 0) (pa_cons (pe_ty "tuple" (by rfl) T.z_tuple (by decide +kernel)) pa_nil))) (pe_and (pe_cmpR op_eq (pe_callB call_len_seq (by rfl) T.z_len PySem.boot_len (pa_cons (pv 0) pa_nil)) pe_int (nomark _)) (pe_and (pe_cl c_is_name hr (by first | decide | omega) (by rfl) (pa_cons (pe_ix ix_tup (pv 0) pe_int (fun _ _ => rfl)) pa_nil)) (pe_one (pe_cl c_is_below hr (by first | decide | omega) (by rfl) (pa_cons (pe_ix ix_tup (pv 0) pe_int (fun _ _ => rfl)) (pa_cons (pe_op op_add (pe_gi (by rfl) T.c_MOST_PLACES) pe_int) pa_nil))))))))), ?_⟩
    refine s_ret (ev_andV (ev_isi (ev_var rfl) ev_c (.ty _) (fun _ e => tyx_tup (ex_t e hb)) kit_tt) (fun _ => ev_andV (ev_op (ev_lenT (ev_var rfl) hb) ev_c (rv_eq rfl)) (fun _ =>
      ev_andV (ev_callV (v := .bl true) z (ea_cons (ev_op (ev_var rfl) ev_c (rv_ixT hb (atI_vi (k := 0) rfl))) ea_nil) (fun _ _ => ⟨rfl, hz⟩) (fun _ _ p => p)) (fun _ =>
        ev_callV (v := .bl true) (((p : Nat) : Int), (3 : Int)) (ea_cons (ev_op (ev_var rfl) ev_c (rv_ixT hb (atI_vi (k := 1) rfl))) (ea_cons (ev_op ev_c ev_c rv_I0) ea_nil)) (fun _ _ => ⟨rfl, by show (0 : Int) ≤ (p : Int); omega, by show (p : Int) < 3; have : p ≤ 2 := hp; omega⟩) (fun _ _ p => p))))) fun H1 e => q _ H1 e rfl
/-- a signature as the law draws it -/
structure SigOk (sg : List (Str × Nat)) : Prop where
  l1 : 1 ≤ sg.length
  l4 : sg.length ≤ 4
  nm : ∀ p ∈ sg, Name p.1
  pl : ∀ p ∈ sg, p.2 ≤ 2
  nd : (sg.map (·.1)).Nodup
def sp_signature_wrong (K : PySem.W.Frag) : Sp := spX (fun (sg : List (Str × Nat)) vs H => (∃ v, vs = [v] ∧ Sig K H v sg) ∧ SigOk sg) (fun _ v _ => v = .non)
theorem c_signature_wrong (T : Txt mg) (D : Df K mg "signature_wrong" s_signature_wrong ["thing"]) (c_is_deed : Cl P w K mg base 3 "is_deed" (sp_is_deed K)) : Cl P w K mg base 4 "signature_wrong" (sp_signature_wrong K) := by
  refine cl_of (k := 3) D sc_signature_wrong (fun vs H Q E h => ?_) (fun f cdv A outer s H vs Q E hr h => ?_)
  · obtain ⟨p, ⟨⟨v, rfl, _⟩, _⟩, _⟩ := h
    rfl
  · obtain ⟨sg, ⟨⟨v, rfl, a, us, rfl, hS, hP⟩, ok⟩, q⟩ := h
    refine ⟨_, (pss_cons (ps_if (PW.pt (pw_or (pt_not (pt_val (pe_callB call_isi (by rfl) T.z_isinstance (by decide +kernel) (pa_cons (pv 0) (pa_cons (pe_ty "tuple" (by rfl) T.z_tuple (by decide +kernel)) pa_nil))))) (pw_or1 (pt_not (pt_chain op_le op_le pe_int (pe_callB call_len_seq (by rfl) T.z_len PySem.boot_len (pa_cons (pv 0) pa_nil)) (pe_gi (by rfl) T.c_MOST_DEEDS))))))
        (pss_one (ps_ret (pe_tup (pa_cons pe_str pa_nil))))
        pss_nil)
      (pss_cons (ps_for PassesOwn.never (by rfl) (pi_enumT (by rfl) T.z_enumerate (pa_cons (pv 0) pa_nil)) (pg_tup (by rfl) (pgs_cons (pg_name (i := 1) sc_signature_wrong.nd rfl (.inl rfl)) (pgs_cons (pg_name (i := 2) sc_signature_wrong.nd rfl (.inl rfl)) pgs_nil)))
        (pss_one (ps_if (pt_not (pt_val (pe_cl c_is_deed hr (by first | decide | omega) (by rfl) (pa_cons (pv 2) pa_nil))))
          (pss_one (ps_ret (pe_tup (pa_cons pe_str (pa_cons (pv 1) pa_nil)))))
          pss_nil)))
      (pss_cons (ps_setLc (i := 3) (own := [("deed", 2)]) (g := (gName 2)) (by rfl) sc_signature_wrong.nd rfl rfl (sw_true rfl rfl rfl (by decide +kernel)) (pi_tup (pv 0)) (blkOk_by (own := [("deed", 2)]) (N := ["thing", "k", "deed", "names", "name"]) (sc := (defScope s_signature_wrong)) (by decide +kernel)) (fun _ _ _ _ _ => (pg_name (i := 2) sc_signature_wrong.nd rfl (.inl rfl))) (fun _ _ _ _ _ => pts_nil) (fun _ _ _ _ _ => (pe_ix (ix_tupK K) (pv 2) pe_int (fun _ _ => rfl))))
      (pss_cons (ps_for PassesOwn.never (by rfl) (pi_enum (by rfl) T.z_enumerate (pa_cons (pv 3) pa_nil)) (pg_tup (by rfl) (pgs_cons (pg_name (i := 1) sc_signature_wrong.nd rfl (.inl rfl)) (pgs_cons (pg_name (i := 4) sc_signature_wrong.nd rfl (.inl rfl)) pgs_nil)))
        (pss_one (ps_if (pt_cmpR op_in_seq (pv 4) (pe_slice sl_list (pv 3) po_none (po_some (pv 1))) (by rfl))
          (pss_one (ps_ret (pe_tup (pa_cons pe_str (pa_cons (pv 1) pa_nil)))))
          pss_nil)))
      (pss_one (ps_ret pe_non)))))), ?_⟩
    have h1 := ok.l1
    have h4 := ok.l4
    have hl : us.length = sg.length := paired_len hP
    refine q_when (b := false) (et_is (et_or (et_not (et_val (ev_isi (ev_var rfl) ev_c (.ty _) (fun _ e => tyx_tup (ex_t e hS)) kit_tt))) (fun _ => et_not (et_test (ev_chain ev_c (ev_lenT (ev_var rfl) hS) (fun _ => ev_c) rv_I0 (fun _ => rv_I0))))) ?_) (fun hb => by cases hb) (fun _ H1 e1 => ?_)
    · show (!true || !(decide ((1 : Int) ≤ (us.length : Int)) && decide ((us.length : Int) ≤ 4))) = false
      rw [decide_eq_true (by omega), decide_eq_true (by omega)]
      rfl
    -- each is a deed
    refine q_enumT (ea_cons (ev_var rfl) ea_nil) (ex_t e1 hS) (fun i σ H' => Ex H H' ∧ ∃ y1 y2, σ = [some (.ref a), y1, y2, none, none]) (fun H2 e2 => ⟨e1.trans e2, none, none, rfl⟩) (fun i σ H' _ ⟨e, _⟩ => ex_t e hS) (fun i x σ H2 H3 hx ⟨e, y1, y2, hσ⟩ e3 => ?_) (fun σ H2 ⟨e2, y1, y2, hσ⟩ => ?_)
    · subst hσ
      have hi : i < sg.length := by rw [← hl]; exact (List.getElem?_eq_some_iff.mp hx).1
      obtain ⟨x', ex', dx⟩ := paired_get hP (List.getElem?_eq_getElem hi)
      have : x' = x := Option.some.inj (ex'.symm.trans hx)
      subst this
      have hm : sg[i] ∈ sg := List.getElem_mem hi
      have e03 : Ex H H3 := e.trans e3
      refine s_when (b := false) (et_is (et_not (et_val (ev_callV (v := .bl true) sg[i] (ea_cons (ev_var rfl) ea_nil) (fun H4 e4 => ⟨⟨_, rfl, dx.et (Dw.Ex.et (e03.trans e4))⟩, ok.nm _ hm, ok.pl _ hm⟩) (fun _ _ p => p)))) rfl) (fun hb => by cases hb) (fun _ H4 e4 => ⟨e03.trans e4, _, _, rfl⟩)
    · subst hσ
      -- the names
      have names : EvL (tLc (iTup K (tVar 0)) (gName 2) tYes (tOp (rIxT K) (tVar 2) (tC (.int 0))) [2]) [some (.ref a), y1, y2, none, none] H2 ((List.range us.length).map fun i => .str (sg.getD i ("", 0)).1) := by
        refine el_lcT (ev_var rfl) (ex_t e2 hS) _ (by omega) (fun _ => rfl) (fun i x H3 e3 hx => ?_)
        have hi : i < sg.length := by rw [← hl]; exact (List.getElem?_eq_some_iff.mp hx).1
        obtain ⟨x', ex', b, hb, hd⟩ := paired_get hP (List.getElem?_eq_getElem hi)
        have : x' = x := Option.some.inj (ex'.symm.trans hx)
        subst this
        subst hb
        rw [List.getD_eq_getElem?_getD, List.getElem?_eq_getElem hi]
        exact ev_op (ev_var rfl) ev_c (rv_ixT (ex_t (e2.trans e3) hd) (atI_vi (k := 0) rfl))
      rw [hl] at names
      have eN : ((List.range sg.length).map fun i => V.str (sg.getD i ("", 0)).1) = (sg.map (·.1)).map V.str := by
        apply List.ext_getElem?
        intro i
        by_cases hi : i < sg.length
        · rw [List.getElem?_map, List.getElem?_range hi, List.getElem?_map, List.getElem?_map, List.getElem?_eq_getElem hi]
          show some (V.str (sg.getD i ("", 0)).1) = some (V.str sg[i].1)
          rw [List.getD_eq_getElem?_getD, List.getElem?_eq_getElem hi]
          rfl
        · rw [List.getElem?_eq_none_iff.mpr (by simp; omega), List.getElem?_eq_none_iff.mpr (by simp; omega)]
      rw [eN] at names
      refine q_asgL names fun p H3 np e3 hp => ?_
      have e03 : Ex H H3 := e2.trans e3
      refine q_enumL (K := K) (ea_cons (ev_var rfl) ea_nil) (sq_of hp) (fun i σ H' => Ex H3 H' ∧ ∃ z1 z4, σ = [some (.ref a), z1, y2, some (.ref p), z4]) (fun H4 e4 => ⟨e4, _, _, rfl⟩) (fun i σ H' _ ⟨e, _⟩ => ex_l e (sq_of hp)) (fun i x σ H4 H5 hx ⟨e4, z1, z4, hσ⟩ e5 => ?_) (fun σ H4 ⟨e4, z1, z4, hσ⟩ => ?_)
      · subst hσ
        have hi : i < (sg.map (·.1)).length := by simpa using (List.getElem?_eq_some_iff.mp hx).1
        have ex : x = .str (sg.map (·.1))[i] := by
          rw [List.getElem?_map, List.getElem?_eq_getElem hi] at hx
          exact (Option.some.inj hx).symm
        subst ex
        have cut : cutV ((sg.map (·.1)).map V.str) none (some (i : Int)) = ((sg.map (·.1)).take i).map V.str := by
          unfold cutV
          rw [HT.sIx_none, HT.sIx_nat, List.length_map, Nat.sub_zero, List.drop_zero, ← List.map_take, Nat.min_eq_left (Nat.le_of_lt hi)]
        have flat : (((sg.map (·.1)).take i).map V.str).all flatV = true := List.all_eq_true.mpr (fun v hv => by
          obtain ⟨z, _, rfl⟩ := List.mem_map.mp hv
          rfl)
        have out : inV (.str (sg.map (·.1))[i]) (((sg.map (·.1)).take i).map V.str) = false := by
          unfold inV
          rw [List.any_eq_false]
          intro v hv
          obtain ⟨z, hz, rfl⟩ := List.mem_map.mp hv
          show ¬ (z == (sg.map (·.1))[i]) = true
          intro he
          have he' : z = (sg.map (·.1))[i] := eq_of_beq he
          obtain ⟨j, hj, ej⟩ := List.mem_take_iff_getElem.mp hz
          have hji : j < i := by omega
          have := (List.getElem_inj ok.nd).mp (ej.trans he')
          omega
        have eL : Ex H3 H5 := e4.trans e5
        have sl : EvL (tSl (rSlL K) (tVar 3) tNoPart (tPart (tVar 1))) [some (.ref a), some (vi i), y2, some (.ref p), some (.str (sg.map (·.1))[i])] H5 (((sg.map (·.1)).take i).map V.str) := by
          rw [← cut]
          exact el_sl (ev_var rfl) eo_none (eo_some (ev_var rfl)) (ex_l eL (sq_of hp))
        exact s_when (b := false) (et_is (et_test (ev_opL (ev_var rfl) sl (fun r H6 hr6 _ => rv_isL (sq_of hr6) rfl flat))) out) (fun hb => by cases hb) (fun _ H6 e6 => ⟨eL.trans e6, _, _, rfl⟩)
      · subst hσ
        exact s_ret ev_c fun H5 e5 => q _ H5 ((e03.trans e4).trans e5) rfl
def sp_need_signature (K : PySem.W.Frag) : Sp := spX (fun (sg : List (Str × Nat)) vs H => (∃ v, vs = [v] ∧ Sig K H v sg) ∧ SigOk sg) (fun _ v _ => v = .non)
theorem c_need_signature (T : Txt mg) (D : Df K mg "need_signature" s_need_signature ["signature"]) (c_signature_wrong : Cl P w K mg base 4 "signature_wrong" (sp_signature_wrong K)) : Cl P w K mg base 5 "need_signature" (sp_need_signature K) := by
  refine cl_of (k := 4) D sc_need_signature (fun vs H Q E h => ?_) (fun f cdv A outer s H vs Q E hr h => ?_)
  · obtain ⟨p, ⟨⟨v, rfl, _⟩, _⟩, _⟩ := h
    rfl
  · obtain ⟨sg, ⟨⟨v, rfl, hS⟩, ok⟩, q⟩ := h
    refine ⟨_, (pss_one (ps_if (pt_cmpR op_notN (pe_cl c_signature_wrong hr (by first | decide | omega) (by rfl) (pa_cons (pv 0) pa_nil)) pe_non (nomark _))
        (pss_one ps_never)
        pss_nil)), ?_⟩
    exact s_when (b := false) (et_is (et_isN (ev_callV (v := .non) sg (ea_cons (ev_var rfl) ea_nil) (fun H1 e1 => ⟨⟨_, rfl, hS.ex e1⟩, ok⟩) (fun _ _ p => p))) rfl) (fun hb => by cases hb) (fun _ H1 e1 => q _ H1 e1 rfl)
/-! ### models looked at -/
def sp_is_size : Sp := spX (fun (n : Nat) vs _ => vs = [vi n] ∧ 1 ≤ n ∧ n ≤ 6) (fun _ v _ => v = .bl true)
theorem c_is_size (T : Txt mg) (D : Df K mg "is_size" s_is_size ["thing"]) (c_is_whole : Cl P w K mg base 1 "is_whole" sp_is_whole) : Cl P w K mg base 2 "is_size" sp_is_size := by
  refine cl_of (k := 1) D sc_is_size (fun vs H Q E h => ?_) (fun f cdv A outer s H vs Q E hr h => ?_)
  · obtain ⟨p, ⟨rfl, _⟩, _⟩ := h
    rfl
  · obtain ⟨n, ⟨rfl, h1, h6⟩, q⟩ := h
    refine ⟨_, (pss_one (ps_ret (pe_and (pe_cl c_is_whole hr (by first | decide | omega) (by rfl) (pa_cons (pv 0) pa_nil)) (pe_one (pe_chain op_le op_le pe_int (pv 0) (pe_gi (by rfl) T.c_MOST_SIZE)))))), ?_⟩
    refine s_ret (ev_andV (ev_callV (v := .bl true) (n : Int) (ea_cons (ev_var rfl) ea_nil) (fun _ _ => rfl) (fun _ _ p => p)) (fun _ => ev_chain ev_c (ev_var rfl) (fun _ => ev_c) rv_I0 (fun _ => rv_I0))) fun H1 e => q _ H1 e ?_
    show V.bl (true && (decide ((1 : Int) ≤ (n : Int)) && decide ((n : Int) ≤ 6))) = _
    rw [decide_eq_true (by omega), decide_eq_true (by omega)]
    rfl
def sp_first_odd_cell (K : PySem.W.Frag) : Sp := spX (fun (p : Nat × List (List Nat)) vs H => (∃ v, vs = [vi p.1, v] ∧ Tabs K H v p.2) ∧ ∀ t ∈ p.2, ∀ k ∈ t, k < p.1) (fun _ v _ => v = .non)
theorem c_first_odd_cell_models (T : Txt mg) (D : DfQ K mg "first_odd_cell_models" "first_odd_cell" s_first_odd_cell ["size", "tables"]) (c_is_below : Cl P w K mg base 2 "is_below" sp_is_below) : Cl P w K mg base 3 "first_odd_cell_models" (sp_first_odd_cell K) := by
  refine cl_ofQ (k := 2) D sc_first_odd_cell (fun vs H Q E h => ?_) (fun f cdv A outer s H vs Q E hr h => ?_)
  · obtain ⟨p, ⟨⟨v, rfl, _⟩, _⟩, _⟩ := h
    rfl
  · obtain ⟨⟨n, ts⟩, ⟨⟨v, rfl, a, us, rfl, hS, hP⟩, low⟩, q⟩ := h
    refine ⟨_, (pss_cons (ps_for PassesOwn.never (by rfl) (pi_enumT (by rfl) T.z_enumerate (pa_cons (pv 1) pa_nil)) (pg_tup (by rfl) (pgs_cons (pg_name (i := 2) sc_first_odd_cell.nd rfl (.inl rfl)) (pgs_cons (pg_name (i := 3) sc_first_odd_cell.nd rfl (.inl rfl)) pgs_nil)))
        (pss_one (ps_for PassesOwn.never (by rfl) (pi_enumT (by rfl) T.z_enumerate (pa_cons (pv 3) pa_nil)) (pg_tup (by rfl) (pgs_cons (pg_name (i := 4) sc_first_odd_cell.nd rfl (.inl rfl)) (pgs_cons (pg_name (i := 5) sc_first_odd_cell.nd rfl (.inl rfl)) pgs_nil)))
          (pss_one (ps_if (pt_not (pt_val (pe_cl c_is_below hr (by first | decide | omega) (by rfl) (pa_cons (pv 5) (pa_cons (pv 0) pa_nil)))))
            (pss_one (ps_ret (pe_tup (pa_cons (pv 2) (pa_cons (pv 4) pa_nil)))))
            pss_nil)))))
      (pss_one (ps_ret pe_non))), ?_⟩
    refine q_enumT (ea_cons (ev_var rfl) ea_nil) hS (fun i σ H' => Ex H H' ∧ ∃ y2 y3 y4 y5, σ = [some (vi n), some (.ref a), y2, y3, y4, y5]) (fun H2 e2 => ⟨e2, none, none, none, none, rfl⟩) (fun i σ H' _ ⟨e, _⟩ => ex_t e hS) (fun i x σ H2 H3 hx ⟨e, y2, y3, y4, y5, hσ⟩ e3 => ?_) (fun σ H2 ⟨e2, _, _, _, _, hσ⟩ => ?_)
    · subst hσ
      have hi : i < ts.length := by rw [← paired_len hP]; exact (List.getElem?_eq_some_iff.mp hx).1
      obtain ⟨x', ex', b, hb, hd⟩ := paired_get hP (List.getElem?_eq_getElem hi)
      have : x' = x := Option.some.inj (ex'.symm.trans hx)
      subst this
      subst hb
      have e03 : Ex H H3 := e.trans e3
      refine s_enumT (ea_cons (ev_var rfl) ea_nil) (ex_t e03 hd) (fun j σ H' => Ex H H' ∧ ∃ y4 y5, σ = [some (vi n), some (.ref a), some (vi i), some (.ref b), y4, y5]) (fun H4 e4 => ⟨e03.trans e4, _, _, rfl⟩) (fun j σ H' _ ⟨e, _⟩ => ex_t e hd) (fun j y σ H4 H5 hy ⟨e4, z4, z5, hσ⟩ e5 => ?_) (fun σ H4 ⟨e4, z4, z5, hσ⟩ => ?_)
      · subst hσ
        have hj : j < ts[i].length := by simpa using (List.getElem?_eq_some_iff.mp hy).1
        have ey : y = vi ts[i][j] := by
          rw [List.getElem?_map, List.getElem?_eq_getElem hj] at hy
          exact (Option.some.inj hy).symm
        subst ey
        have lo : ts[i][j] < n := low _ (List.getElem_mem hi) _ (List.getElem_mem hj)
        exact s_when (b := false) (et_is (et_not (et_val (ev_callV (v := .bl true) (((ts[i][j] : Nat) : Int), (n : Int)) (ea_cons (ev_var rfl) (ea_cons (ev_var rfl) ea_nil)) (fun H4 e4 => ⟨rfl, by show (0 : Int) ≤ ((ts[i][j] : Nat) : Int); omega, by show ((ts[i][j] : Nat) : Int) < (n : Int); omega⟩) (fun _ _ p => p)))) rfl) (fun hb => by cases hb) (fun _ H6 e6 => ⟨(e4.trans e5).trans e6, _, _, rfl⟩)
      · subst hσ
        exact ⟨e4, _, _, _, _, rfl⟩
    · subst hσ
      exact s_ret ev_c fun H3 e3 => q _ H3 (e2.trans e3) rfl
/-- a model of a signature, as tables of natural numbers -/
structure MdlOk (sg : List (Str × Nat)) (n : Nat) (ts : List (List Nat)) : Prop where
  n1 : 1 ≤ n
  n6 : n ≤ 6
  len : ts.length = sg.length
  tab : ∀ i (h1 : i < sg.length) (h2 : i < ts.length), Tab n sg[i].2 ts[i]
theorem MdlOk.low {sg : List (Str × Nat)} {n : Nat} {ts : List (List Nat)} (m : MdlOk sg n ts) : ∀ t ∈ ts, ∀ k ∈ t, k < n := by
  intro t ht k hk
  obtain ⟨i, hi, e⟩ := List.mem_iff_getElem.mp ht
  subst e
  have tb := m.tab i (by rw [← m.len]; exact hi) hi
  obtain ⟨j, hj, e⟩ := List.mem_iff_getElem.mp hk
  have h := tb.low j (by rw [← tb.len]; exact hj)
  have g1 := g_eq hj
  rw [List.getElem?_eq_getElem hj, e] at g1
  rw [← Option.some.inj g1] at h
  exact h
def sp_model_wrong (K : PySem.W.Frag) : Sp := spX (fun (p : List (Str × Nat) × Nat × List (List Nat)) vs H => (∃ u v, vs = [u, v] ∧ Sig K H u p.1 ∧ Mdl K H v p.2.1 p.2.2) ∧ SigOk p.1 ∧ MdlOk p.1 p.2.1 p.2.2) (fun _ v _ => v = .non)
theorem c_model_wrong (T : Txt mg) (D : Df K mg "model_wrong" s_model_wrong ["signature", "thing"]) (c_need_signature : Cl P w K mg base 5 "need_signature" (sp_need_signature K)) (c_is_size : Cl P w K mg base 2 "is_size" sp_is_size)
    (c_power : Cl P w K mg base 1 "power" sp_power) (c_first_odd_cell_models : Cl P w K mg base 3 "first_odd_cell_models" (sp_first_odd_cell K)) : Cl P w K mg base 6 "model_wrong" (sp_model_wrong K) := by
  refine cl_of (k := 5) D sc_model_wrong (fun vs H Q E h => ?_) (fun f cdv A outer s H vs Q E hr h => ?_)
  · obtain ⟨p, ⟨⟨u, v, rfl, _⟩, _⟩, _⟩ := h
    rfl
  · obtain ⟨⟨sg, n, ts⟩, ⟨⟨u, v, rfl, hG, hM⟩, sok, mok⟩, q⟩ := h
    refine ⟨_, (pss_cons (ps_expr (pe_cl c_need_signature hr (by first | decide | omega) (by rfl) (pa_cons (pv 0) pa_nil)))
      (pss_cons (ps_if (PW.pt (pw_or (pt_not (pt_val (pe_callB call_isi (by rfl) T.z_isinstance (by decide +kernel) (pa_cons (pv 1) (pa_cons (pe_ty "tuple" (by rfl) T.z_tuple (by decide +kernel)) pa_nil))))) (pw_or1 (pt_cmpR op_ne (pe_callB call_len_seq (by rfl) T.z_len PySem.boot_len (pa_cons (pv 1) pa_nil)) pe_int (nomark _)))))
        (pss_one (ps_ret (pe_tup (pa_cons pe_str pa_nil))))
        pss_nil)
      (pss_cons (ps_asg (pv 1) (pg_tup (by rfl) (pgs_cons (pg_name (i := 2) sc_model_wrong.nd rfl (.inl rfl)) (pgs_cons (pg_name (i := 3) sc_model_wrong.nd rfl (.inl rfl)) pgs_nil))))
      (pss_cons (ps_if (pt_not (pt_val (pe_cl c_is_size hr (by first | decide | omega) (by rfl) (pa_cons (pv 2) pa_nil))))
        (pss_one (ps_ret (pe_tup (pa_cons pe_str pa_nil))))
        pss_nil)
      (pss_cons (ps_if (PW.pt (pw_or (pt_not (pt_val (pe_callB call_isi (by rfl) T.z_isinstance (by decide +kernel) (pa_cons (pv 3) (pa_cons (pe_ty "tuple" (by rfl) T.z_tuple (by decide +kernel)) pa_nil))))) (pw_or1 (pt_cmpR op_ne (pe_callB call_len_seq (by rfl) T.z_len PySem.boot_len (pa_cons (pv 3) pa_nil)) (pe_callB call_len_seq (by rfl) T.z_len PySem.boot_len (pa_cons (pv 0) pa_nil)) (nomark _)))))
        (pss_one (ps_ret (pe_tup (pa_cons pe_str pa_nil))))
        pss_nil)
      (pss_cons (ps_for PassesOwn.never (by rfl) (pi_enumT (by rfl) T.z_enumerate (pa_cons (pv 0) pa_nil)) (pg_tup (by rfl) (pgs_cons (pg_name (i := 4) sc_model_wrong.nd rfl (.inl rfl)) (pgs_cons (pg_name (i := 5) sc_model_wrong.nd rfl (.inl rfl)) pgs_nil)))
        (pss_one (ps_if (PW.pt (pw_or (pt_not (pt_val (pe_callB call_isi (by rfl) T.z_isinstance (by decide +kernel) (pa_cons (pe_ix ix_tup (pv 3) (pv 4) (fun _ _ => rfl)) (pa_cons (pe_ty "tuple" (by rfl) T.z_tuple (by decide +kernel)) pa_nil))))) (pw_or1 (pt_cmpR op_ne (pe_callB call_len_seq (by rfl) T.z_len PySem.boot_len (pa_cons (pe_ix ix_tup (pv 3) (pv 4) (fun _ _ => rfl)) pa_nil)) (pe_cl c_power hr (by first | decide | omega) (by rfl) (pa_cons (pv 2) (pa_cons (pe_ix ix_tup (pv 5) pe_int (fun _ _ => rfl)) pa_nil))) (nomark _)))))
          (pss_one (ps_ret (pe_tup (pa_cons pe_str (pa_cons (pv 4) pa_nil)))))
          pss_nil)))
      (pss_cons (ps_set (i := 6) sc_model_wrong.nd rfl (.inl rfl) (pe_cl c_first_odd_cell_models hr (by first | decide | omega) (by rfl) (pa_cons (pv 2) (pa_cons (pv 3) pa_nil))))
      (pss_one (ps_ret (pe_ifExp (pt_cmpR op_isN (pv 6) pe_non (nomark _)) pe_non (pe_tup (pa_cons pe_str (pa_cons (pe_ix ix_tup (pv 6) pe_int (fun _ _ => rfl)) (pa_cons (pe_ix ix_tup (pv 6) pe_int (fun _ _ => rfl)) pa_nil)))))))))))))), ?_⟩
    obtain ⟨a, us, rfl, hS, hP⟩ := id hG
    obtain ⟨b, tv, rfl, hB, c, tvs, rfl, hC, hT⟩ := id hM
    have n1 := mok.n1
    have n6 := mok.n6
    have lS : us.length = sg.length := paired_len hP
    have lT : tvs.length = ts.length := paired_len hT
    have lM : ts.length = sg.length := mok.len
    refine q_drop (ev_callV (v := .non) sg (ea_cons (ev_var rfl) ea_nil) (fun H1 e1 => ⟨⟨_, rfl, hG.ex e1⟩, sok⟩) (fun _ _ p => p)) fun H1 e1 => ?_
    refine q_when (b := false) (et_is (et_or (et_not (et_val (ev_isi (ev_var rfl) ev_c (.ty _) (fun _ e => tyx_tup (ex_t (e1.trans e) hB)) kit_tt))) (fun _ => et_test (ev_op (ev_lenT (ev_var rfl) (ex_t e1 hB)) ev_c (rv_ne rfl)))) rfl) (fun hb => by cases hb) (fun _ H2 e2 => ?_)
    have e02 := e1.trans e2
    -- size, tables = thing
    refine ⟨.ref b, rfl, b, _, rfl, ex_t e02 hB, rfl, _, _, rfl, _, _, rfl, rfl, ?_⟩
    refine q_when (b := false) (et_is (et_not (et_val (ev_callV (v := .bl true) n (ea_cons (ev_var rfl) ea_nil) (fun _ _ => ⟨rfl, n1, n6⟩) (fun _ _ p => p)))) rfl) (fun hb => by cases hb) (fun _ H3 e3 => ?_)
    have e03 := e02.trans e3
    refine q_when (b := false) (et_is (et_or (et_not (et_val (ev_isi (ev_var rfl) ev_c (.ty _) (fun _ e => tyx_tup (ex_t (e03.trans e) hC)) kit_tt))) (fun _ => et_test (ev_op (ev_lenT (ev_var rfl) (ex_t e03 hC)) (ev_lenT (ev_var rfl) (ex_t e03 hS)) (rv_ne rfl)))) ?_) (fun hb => by cases hb) (fun _ H4 e4 => ?_)
    · show (!true || !decide (V.int (tvs.length : Int) = V.int (us.length : Int))) = false
      rw [lT, lS, lM, decide_eq_true rfl]
      rfl
    have e04 := e03.trans e4
    refine q_enumT (ea_cons (ev_var rfl) ea_nil) (ex_t e04 hS) (fun i σ H' => Ex H H' ∧ ∃ y4 y5, σ = [some (.ref a), some (.ref b), some (vi n), some (.ref c), y4, y5, none]) (fun H5 e5 => ⟨e04.trans e5, none, none, rfl⟩) (fun i σ H' _ ⟨e, _⟩ => ex_t e hS) (fun i x σ H5 H6 hx ⟨e, y4, y5, hσ⟩ e6 => ?_) (fun σ H5 ⟨e5, y4, y5, hσ⟩ => ?_)
    · subst hσ
      have hi : i < sg.length := by rw [← lS]; exact (List.getElem?_eq_some_iff.mp hx).1
      have hi2 : i < ts.length := by rw [lM]; exact hi
      obtain ⟨x', ex', d, hd, dd⟩ := paired_get hP (List.getElem?_eq_getElem hi)
      have : x' = x := Option.some.inj (ex'.symm.trans hx)
      subst this
      subst hd
      obtain ⟨y', ey', r, hr', rr⟩ := paired_get hT (List.getElem?_eq_getElem hi2)
      subst hr'
      have e06 : Ex H H6 := e.trans e6
      have tb := mok.tab i hi hi2
      have p2 : sg[i].2 ≤ 2 := sok.pl _ (List.getElem_mem hi)
      have tk : Ev (tOp (rIxT K) (tVar 3) (tVar 4)) [some (.ref a), some (.ref b), some (vi n), some (.ref c), some (vi i), some (.ref d), none] H6 (.ref r) := ev_op (ev_var rfl) (ev_var rfl) (rv_ixT (ex_t e06 hC) (atI_vi ey'))
      refine s_when (b := false) (et_is (et_or (et_not (et_val (ev_isi tk ev_c (.ty _) (fun _ e => tyx_tup (ex_t (e06.trans e) rr)) kit_tt))) (fun _ => et_test (ev_op (ev_lenT tk (ex_t e06 rr)) (ev_callV (v := vi (n ^ sg[i].2)) (n, sg[i].2) (ea_cons (ev_var rfl) (ea_cons (ev_op (ev_var rfl) ev_c (rv_ixT (ex_t e06 dd) (atI_vi (k := 1) rfl))) ea_nil)) (fun _ _ => ⟨rfl, n6, p2⟩) (fun _ _ p => p)) (rv_ne rfl)))) ?_) (fun hb => by cases hb) (fun _ H7 e7 => ⟨e06.trans e7, _, _, rfl⟩)
      show (!true || !decide (V.int (((ts[i].map vi).length : Nat) : Int) = vi (n ^ sg[i].2))) = false
      rw [List.length_map, tb.len, decide_eq_true rfl]
      rfl
    · subst hσ
      refine q_asg (ev_callV (v := .non) (n, ts) (ea_cons (ev_var rfl) (ea_cons (ev_var rfl) ea_nil)) (fun H6 e6 => ⟨⟨_, rfl, c, tvs, rfl, ex_t (e5.trans e6) hC, paired_imp (fun _ _ z => z.ex (e5.trans e6)) hT⟩, mok.low⟩) (fun _ _ p => p)) fun H6 e6 => ?_
      refine s_ret (ev_if (b := true) ?_ (fun _ => ev_c) (fun hb => by cases hb)) fun H7 e7 => q _ H7 ((e5.trans e6).trans e7) rfl
      exact fun H7 e7 Q q => ⟨_, rfl, rfl, _, rfl, q H7 (Ex.refl H7)⟩
def sp_need_model (K : PySem.W.Frag) : Sp := spX (fun (p : List (Str × Nat) × Nat × List (List Nat)) vs H => (∃ u v, vs = [u, v] ∧ Sig K H u p.1 ∧ Mdl K H v p.2.1 p.2.2) ∧ SigOk p.1 ∧ MdlOk p.1 p.2.1 p.2.2) (fun _ v _ => v = .non)
theorem c_need_model (T : Txt mg) (D : Df K mg "need_model" s_need_model ["signature", "model"]) (c_model_wrong : Cl P w K mg base 6 "model_wrong" (sp_model_wrong K)) : Cl P w K mg base 7 "need_model" (sp_need_model K) := by
  refine cl_of (k := 6) D sc_need_model (fun vs H Q E h => ?_) (fun f cdv A outer s H vs Q E hr h => ?_)
  · obtain ⟨p, ⟨⟨u, v, rfl, _⟩, _⟩, _⟩ := h
    rfl
  · obtain ⟨p, ⟨⟨u, v, rfl, hG, hM⟩, sok, mok⟩, q⟩ := h
    refine ⟨_, (pss_one (ps_if (pt_cmpR op_notN (pe_cl c_model_wrong hr (by first | decide | omega) (by rfl) (pa_cons (pv 0) (pa_cons (pv 1) pa_nil))) pe_non (nomark _))
        (pss_one ps_never)
        pss_nil)), ?_⟩
    exact s_when (b := false) (et_is (et_isN (ev_callV (v := .non) p (ea_cons (ev_var rfl) (ea_cons (ev_var rfl) ea_nil)) (fun H1 e1 => ⟨⟨_, _, rfl, hG.ex e1, hM.ex e1⟩, sok, mok⟩) (fun _ _ p => p))) rfl) (fun hb => by cases hb) (fun _ H1 e1 => q _ H1 e1 rfl)
end
end K76
end
section
namespace K76
open PySem PySem.Spec PyProof.Rows L2 Evl RZ Dw M20
theorem big1200 : Builtin.Int.intTooBig (((Builtin.Int.intBits (10 ^ 60) : Nat) : Int) * 20) = false := by decide +kernel
theorem pow1200 {X : Cx} : OpR X (binaryOp .Pow) (fun x y H Q => x = .int (10 ^ 60) ∧ y = .int 20 ∧ Q (.int ((10 ^ 60) ^ (20 : Int).toNat)) H) := op_powG (b := 10 ^ 60) (e := 20) (by decide) (by decide) big1200
/-! ### the purse -/
/-- a purse at p, its cells at c, t draws done -/
def Pur (H : Hp) (p c : Addr) (t : Nat) : Prop := H p = some (.lst [.ref c, vi t]) ∧ ∃ cs : List Int, cs ≠ [] ∧ cs.length ≤ 63 ∧ H c = some (.lst (cs.map V.int))
/-- all but these two as it was -/
def Off (H H' : Hp) (p c : Addr) : Prop := ∀ b o, b ≠ p → b ≠ c → H b = some o → H' b = some o
theorem Off.refl {H : Hp} {p c : Addr} : Off H H p c := fun _ _ _ _ h => h
theorem Off.trans {H H1 H2 : Hp} {p c : Addr} (a : Off H H1 p c) (b : Off H1 H2 p c) : Off H H2 p c := fun x o h1 h2 h => b x o h1 h2 (a x o h1 h2 h)
theorem Off.of_ex {H H' : Hp} {p c : Addr} (e : Ex H H') : Off H H' p c := fun b o _ _ h => e b o h
theorem Pur.ex {H H' : Hp} {p c : Addr} {t : Nat} (e : Ex H H') (h : Pur H p c t) : Pur H' p c t := ⟨e _ _ h.1, let ⟨cs, h1, h2, h3⟩ := h.2; ⟨cs, h1, h2, e _ _ h3⟩⟩
theorem Pur.ne {H : Hp} {p c : Addr} {t : Nat} (h : Pur H p c t) : p ≠ c := fun e => by
  obtain ⟨h1, cs, h2, _, h3⟩ := h
  rw [e, h3] at h1
  have h4 := HO.lst.inj (Option.some.inj h1)
  cases cs with
  | nil => exact h2 rfl
  | cons x r =>
    have h5 := (List.cons.inj h4).1
    cases h5
/-- a new address is neither -/
theorem Pur.fresh {H : Hp} {p c b : Addr} {t : Nat} (h : Pur H p c t) (n : H b = none) : b ≠ p ∧ b ≠ c := by
  constructor
  · intro e
    rw [e, h.1] at n
    cases n
  · intro e
    obtain ⟨_, cs, _, _, h3⟩ := h
    rw [e, h3] at n
    cases n
theorem Off.et {K : PySem.W.Frag} {H H' : Hp} {p c : Addr} {t : Nat} (o : Off H H' p c) (h : Pur H p c t) : ET K H H' := fun a xs q => by
  have no : ∀ u, H a = some u → (∀ ys, u ≠ .lst ys) → H' a = some u := fun u hu hl => o a u (fun e => by rw [e, h.1] at hu; exact hl _ (Option.some.inj hu).symm) (fun e => by
    obtain ⟨_, cs, _, _, h3⟩ := h
    rw [e, h3] at hu
    exact hl _ (Option.some.inj hu).symm) hu
  rcases q with (q | ⟨ob, q⟩) | q
  · exact .inl (.inl (no _ q fun _ z => by cases z))
  · exact .inl (.inr ⟨ob, no _ q fun _ z => by cases z⟩)
  · exact .inr q
section
variable {P : Program} {w : World} {K : PySem.W.Frag} {mg : Str → Option Value} {base : Heap}
def sp_purse (K : PySem.W.Frag) : Sp := fun vs H Q _ => ∃ (a : Addr) (ns : List Int), vs = [.ref a] ∧ SqL K H a (ns.map V.int) ∧ ns.length ≤ 63 ∧ ∀ p c H', Ex H H' → H p = none → H c = none → Pur H' p c 0 → Q (.ref p) H'
theorem ints_shaped (cs : List Int) : SeqAt.shaped (.list (cs.map PyData.int)) = true := by
  have h1 : ∀ l : List Int, PyData.canLayAll0 (l.map PyData.int) = true := by
    intro l
    induction l with
    | nil => rfl
    | cons x r ih => show (PyData.canLay0 (.int x) && PyData.canLayAll0 (r.map PyData.int)) = true; rw [ih]; rfl
  have h2 : ∀ l : List Int, PyData.depthAll (l.map PyData.int) = 0 := by
    intro l
    induction l with
    | nil => rfl
    | cons x r ih => show max (PyData.depth (.int x)) (PyData.depthAll (r.map PyData.int)) = 0; rw [ih]; rfl
  show (PyData.canLayAll0 (cs.map PyData.int) && decide (PyData.depthAll (cs.map PyData.int) + 1 ≤ 64)) = true
  rw [h1, h2]
  rfl
theorem dp_ints {H : Hp} {a : Addr} {cs : List Int} (h : SqL K H a (cs.map V.int)) : Dp K H (.ref a) (.list (cs.map PyData.int)) := by
  refine .lst h ?_
  have : ∀ l : List Int, DpAll K H (l.map V.int) (l.map PyData.int) := by
    intro l
    induction l with
    | nil => exact .nil
    | cons x r ih => exact .cons (.int x) ih
  exact this cs
theorem c_purse (T : Txt mg) (D : Df K mg "_law_purse" s_purse ["_law_script"]) : Cl P w K mg base 1 "_law_purse" (sp_purse K) := by
  refine cl_of (k := 0) D sc_purse (fun vs H Q E h => ?_) (fun f cdv A outer s H vs Q E hr h => ?_)
  · obtain ⟨a, ns, rfl, _⟩ := h
    rfl
  · obtain ⟨a, ns, rfl, hS, len, q⟩ := h
    refine ⟨_, (pss_cons (ps_set (i := 1) sc_purse.nd rfl (.inl rfl) (pe_slice sl_list (pv 0) po_none (po_some pe_int)))
      (pss_cons (ps_for PassesOwn.never (by rfl) (pi_range1 (by rfl) T.z_range (pa_cons (pe_callB call_len_seq (by rfl) T.z_len PySem.boot_len (pa_cons (pv 1) pa_nil)) pa_nil)) (pg_name (i := 2) sc_purse.nd rfl (.inl rfl))
        (pss_one (ps_if (pt_cmpR op_ge (pe_callB call_abs (by rfl) T.z_abs (by decide +kernel) (pa_cons (pe_ix ix_list (pv 1) (pv 2) (fun _ _ => rfl)) pa_nil)) (pe_op op_pow pe_int pe_int) (nomark _))
          (pss_one (ps_asg (pe_op op_mod (pe_ix ix_list (pv 1) (pv 2) (fun _ _ => rfl)) (pe_op pow1200 (pe_op op_pow pe_int pe_int) pe_int)) (pg_sub (pv 1) (pv 2) set_list)))
          pss_nil)))
      (pss_cons (ps_if (pt_cmpR (op_eqD hr.units) (pv 1) (pe_lst pa_nil) (nomark _))
        (pss_one (ps_set (i := 1) sc_purse.nd rfl (.inl rfl) (pe_lst (pa_cons pe_int pa_nil))))
        pss_nil)
      (pss_one (ps_ret (pe_lst (pa_cons (pv 1) (pa_cons pe_int pa_nil)))))))), ?_⟩
    have cut : cutV (ns.map V.int) none (some 63) = ns.map V.int := by
      unfold cutV
      rw [HT.sIx_none, show HT.sIx (ns.map V.int).length (ns.map V.int).length (some 63) = min 63 (ns.map V.int).length from HT.sIx_nat _ _ 63, Nat.sub_zero, List.drop_zero, List.length_map]
      exact List.take_of_length_le (by rw [List.length_map]; omega)
    have sl : EvL (tSl (rSlL K) (tVar 0) tNoPart (tPart (tC (.int 63)))) [some (.ref a), none, none] H (ns.map V.int) := by
      have := el_sl (σ := [some (.ref a), none, none]) (te := tVar 0) (ev_var rfl) eo_none (eo_some (i := 63) (te := tC (.int 63)) ev_c) hS
      rw [cut] at this
      exact this
    refine q_asgL sl fun c H1 nc e1 hc => ?_
    have l63 : ∀ cs : List Int, cs.length = ns.length → (cs.map V.int).length ≤ 63 := fun cs h => by rw [List.length_map, h]; exact len
    have lenE : EvA (tCons (tCB (rLenS K) (tCons (tVar 1) tNil)) tNil) [some (.ref a), some (.ref c), none] H1 [.int (ns.length : Int)] := by
      have := ev_len (K := K) (σ := [some (.ref a), some (.ref c), none]) (ta := tVar 1) (ev_var rfl) (sq_of hc)
      rw [List.length_map] at this
      exact ea_cons this ea_nil
    refine q_forR1 lenE (by omega) (fun i σ H' => Ex H H' ∧ (∃ cs : List Int, cs.length = ns.length ∧ H' c = some (.lst (cs.map V.int))) ∧ ∃ y, σ = [some (.ref a), some (.ref c), y]) (fun H2 e2 => ⟨e1.trans e2, ⟨ns, rfl, e2 _ _ hc⟩, _, rfl⟩) (fun i σ H2 hi ⟨e2, ⟨cs, lc, hcs⟩, y, hσ⟩ => ?_) (fun σ H2 ⟨e2, ⟨cs, lc, hcs⟩, y, hσ⟩ => ?_)
    · subst hσ
      have hi' : i < cs.length := by rw [lc]; omega
      have it : Ev (tOp (rIxL K) (tVar 1) (tVar 2)) [some (.ref a), some (.ref c), some (vi i)] H2 (.int cs[i]) := ev_op (ev_var rfl) (ev_var rfl) (rv_ixL (sq_of hcs) (atI_vi (by rw [List.getElem?_map, List.getElem?_eq_getElem hi']; rfl)))
      refine s_when (et_test (ev_op (ev_cb (z := .int (if cs[i] < 0 then -cs[i] else cs[i])) (ea_cons it ea_nil) (fun H3 _ Q q3 => ⟨_, rfl, q3 H3 (Ex.refl _)⟩)) (ev_op ev_c ev_c (rv_I ⟨by decide, by decide, by decide⟩)) rv_I0)) (fun _ H3 e3 => ?_) (fun _ H3 e3 => ⟨e2.trans e3, ⟨cs, lc, e3 _ _ hcs⟩, _, rfl⟩)
      refine s_setL (e3 _ _ hcs) (ev_op (it.mono e3) (ev_op (ev_op ev_c ev_c (rv_I ⟨by decide, by decide, by decide⟩)) ev_c (fun H4 _ Q q4 => ⟨rfl, rfl, q4 H4 (Ex.refl _)⟩)) (rv_I (by decide))) (ev_var rfl) (ev_var rfl) (by rw [List.length_map]; exact hi') (fun H4 e4 => ⟨((e2.trans e3).trans e4).mut nc, ⟨cs.set i (cs[i] % (10 ^ 60) ^ (20 : Int).toNat), by rw [List.length_set, lc], ?_⟩, _, rfl⟩)
      rw [upd_same, List.map_set]
    · subst hσ
      have dp := dp_ints (K := K) (sq_of hcs)
      have test : EvT (tTest (tOp (rEqD K) (tVar 1) (tLst tNil))) [some (.ref a), some (.ref c), y] H2 (PyData.eqv (.list (cs.map PyData.int)) (.list [])) := fun H3 e3 Q q3 => ⟨_, rfl, Nat.zero_le _, fun r nr => ⟨_, _, dp_ints (sq_of (by rw [upd_ne (ne_of_none (e3 _ _ hcs) nr)]; exact e3 _ _ hcs)), .lst (sq_of upd_same) .nil, ints_shaped cs, rfl, _, rfl, q3 _ (Ex.new nr)⟩⟩
      refine q_when test (fun hb H3 e3 => ?_) (fun hb H3 e3 => ?_)
      · refine s_asgL (el_lst (ea_cons ev_c ea_nil) (by decide)) fun d H4 nd e4 hd => ?_
        have e04 : Ex H H4 := (e2.trans e3).trans e4
        have nd0 : H d = none := fresh_back (e2.trans e3) nd
        refine s_retL (el_lst (ea_cons (ev_var rfl) (ea_cons ev_c ea_nil)) (by show 2 ≤ 100000; decide)) fun p H5 np e5 hp => q p d H5 (e04.trans e5) (fresh_back e04 np) nd0 ⟨hp, [0], by simp, by decide, e5 _ _ hd⟩
      · have ne : cs ≠ [] := fun z => by
          subst z
          exact absurd hb (by decide)
        have e03 : Ex H H3 := e2.trans e3
        have l63' : cs.length ≤ 63 := by rw [lc]; exact len
        refine s_retL (el_lst (ea_cons (ev_var rfl) (ea_cons ev_c ea_nil)) (by show 2 ≤ 100000; decide)) fun p H5 np e5 hp => q p c H5 (e03.trans e5) (fresh_back e03 np) nc ⟨hp, cs, ne, l63', e5 _ _ (e3 _ _ hcs)⟩
end
end K76
end
section
namespace K76
open PySem PySem.Spec PyProof.Rows L2 Evl RZ Dw M20
section
variable {P : Program} {w : World} {K : PySem.W.Frag} {mg : Str → Option Value} {base : Heap}
/-- a draw: a number below n, one more done -/
def sp_draw : Sp := fun vs H Q _ => ∃ (p c : Addr) (t n : Nat), vs = [.ref p, vi n] ∧ Pur H p c t ∧ t ≤ 100000 ∧ 1 ≤ n ∧ n ≤ 1000 ∧ ∀ k H', k < n → Off H H' p c → Pur H' p c (t + 1) → Q (vi k) H'
theorem vi_mod {x : Int} {n : Nat} (h : 1 ≤ n) : ∃ k, k < n ∧ V.int (x % (n : Int)) = vi k := by
  have h1 : 0 ≤ x % (n : Int) := Int.emod_nonneg _ (by omega)
  have h2 : x % (n : Int) < n := Int.emod_lt_of_pos _ (by omega)
  exact ⟨(x % (n : Int)).toNat, by omega, by show V.int _ = V.int _; rw [Int.toNat_of_nonneg h1]⟩
theorem c_draw (T : Txt mg) (D : Df K mg "_law_draw" s_draw ["_law_purse_here", "_law_out_of"]) : Cl P w K mg base 1 "_law_draw" sp_draw := by
  refine cl_of (k := 0) D sc_draw (fun vs H Q E h => ?_) (fun f cdv A outer s H vs Q E hr h => ?_)
  · obtain ⟨p, c, t, n, rfl, _⟩ := h
    rfl
  · obtain ⟨p, c, t, n, rfl, pu, t1, n1, n2, q⟩ := h
    refine ⟨_, (pss_cons (ps_asg (pv 0) (pg_unl (by rfl) (pgs_cons (pg_name (i := 2) sc_draw.nd rfl (.inl rfl)) (pgs_cons (pg_name (i := 3) sc_draw.nd rfl (.inl rfl)) pgs_nil))))
      (pss_cons (ps_set (i := 4) sc_draw.nd rfl (.inl rfl) (pe_op op_mod (pv 3) (pe_callB call_len_seq (by rfl) T.z_len PySem.boot_len (pa_cons (pv 2) pa_nil))))
      (pss_cons (ps_set (i := 5) sc_draw.nd rfl (.inl rfl) (pe_ix ix_list (pv 2) (pv 4) (fun _ _ => rfl)))
      (pss_cons (ps_asg (pe_op op_add (pv 3) pe_int) (pg_sub (pv 0) pe_int set_list))
      (pss_cons (ps_if (pt_cmpR op_ge (pv 5) (pe_op op_pow pe_int pe_int) (nomark _))
        (pss_cons (ps_asg (pe_op op_fdiv (pv 5) (pv 1)) (pg_sub (pv 2) (pv 4) set_list))
        (pss_one (ps_ret (pe_op op_mod (pv 5) (pv 1)))))
        pss_nil)
      (pss_cons (ps_set (i := 6) sc_draw.nd rfl (.inl rfl) (pe_op op_mod (pe_op op_add (pe_op op_add (pe_op op_mul (pe_op op_mod (pv 5) pe_int) pe_int) (pe_op op_mul (pe_op op_mul (pv 3) (pv 3)) pe_int)) pe_int) pe_int))
      (pss_cons (ps_set (i := 6) sc_draw.nd rfl (.inl rfl) (pe_op op_mod (pe_op op_mul (pv 6) (pv 6)) pe_int))
      (pss_cons (ps_set (i := 6) sc_draw.nd rfl (.inl rfl) (pe_op op_mod (pe_op op_mul (pv 6) (pv 6)) pe_int))
      (pss_one (ps_ret (pe_op op_mod (pv 6) (pv 1)))))))))))), ?_⟩
    have ne := pu.ne
    obtain ⟨hp, cs, cne, c63, hc⟩ := id pu
    -- cells, turn = purse
    refine ⟨.ref p, rfl, p, _, rfl, sq_of hp, rfl, _, _, rfl, _, _, rfl, rfl, ?_⟩
    have cl : 0 < cs.length := List.length_pos_iff.mpr cne
    have lenE : Ev (tCB (rLenS K) (tCons (tVar 2) tNil)) [some (.ref p), some (vi n), some (.ref c), some (vi t), none, none, none] H (.int (cs.length : Int)) := by
      have := ev_len (K := K) (σ := [some (.ref p), some (vi n), some (.ref c), some (vi t), none, none, none]) (ta := tVar 2) (ev_var rfl) (sq_of hc)
      rw [List.length_map] at this
      exact this
    refine q_asg (v := vi (t % cs.length)) (ev_is (ev_op (ev_var rfl) lenE (rv_I (by show (0 : Int) < (cs.length : Int); omega))) (by show V.int ((t : Int) % (cs.length : Int)) = V.int ((t % cs.length : Nat) : Int); rw [Int.natCast_emod])) fun H1 e1 => ?_
    have ai : t % cs.length < cs.length := Nat.mod_lt _ cl
    refine q_asg (v := .int cs[t % cs.length]) (ev_op (ev_var rfl) (ev_var rfl) (rv_ixL (ex_l e1 (sq_of hc)) (atI_vi (by rw [List.getElem?_map, List.getElem?_eq_getElem ai]; rfl)))) fun H2 e2 => ?_
    have e02 := e1.trans e2
    -- purse[1] = turn + 1
    refine q_setL (j := 1) (e02 _ _ hp) (ev_op (ev_var rfl) ev_c rv_I0) (ev_var rfl) ev_c (by show 1 < 2; decide) fun H3 e3 => ?_
    have e03 := e02.trans e3
    have hp4 : (upd H3 p (.lst [.ref c, vi (t + 1)])) p = some (.lst [.ref c, vi (t + 1)]) := upd_same
    have hc4 : (upd H3 p (.lst [.ref c, vi (t + 1)])) c = some (.lst (cs.map V.int)) := by rw [upd_ne (Ne.symm ne)]; exact e03 _ _ hc
    have off4 : Off H (upd H3 p (.lst [.ref c, vi (t + 1)])) p c := fun b o b1 b2 hb => by rw [upd_ne b1]; exact e03 _ _ hb
    have st : (upd H3 p (.lst (List.set [V.ref c, vi t] 1 (V.int ((t : Int) + 1))))) = upd H3 p (.lst [.ref c, vi (t + 1)]) := by
      show upd H3 p (.lst [.ref c, .int ((t : Int) + 1)]) = upd H3 p (.lst [.ref c, .int ((t + 1 : Nat) : Int)])
      rw [Int.natCast_add]
      rfl
    rw [st]
    generalize upd H3 p (.lst [.ref c, vi (t + 1)]) = H4 at hp4 hc4 off4
    have pu4 : Pur H4 p c (t + 1) := ⟨hp4, cs, cne, c63, hc4⟩
    refine q_when (et_test (ev_op (ev_var rfl) (ev_op ev_c ev_c (rv_I ⟨by decide, by decide, by decide⟩)) rv_I0)) (fun _ H5 e5 => ?_) (fun _ H5 e5 => ?_)
    · refine q_setL (e5 _ _ hc4) (ev_op (ev_var rfl) (ev_var rfl) (rv_I ⟨by omega, by omega⟩)) (ev_var rfl) (ev_var rfl) (by rw [List.length_map]; exact ai) fun H6 e6 => ?_
      obtain ⟨k, hk, ek⟩ := vi_mod (x := cs[t % cs.length]) n1
      refine s_ret (v := vi k) (ev_is (ev_op (ev_var rfl) (ev_var rfl) (rv_I (by show (0 : Int) < (n : Int); omega))) ek) fun H7 e7 => q k H7 hk (fun b o b1 b2 hb => e7 _ _ (by rw [upd_ne b2]; exact e6 _ _ (e5 _ _ (off4 b o b1 b2 hb)))) ⟨e7 _ _ (by rw [upd_ne ne]; exact e6 _ _ (e5 _ _ hp4)), cs.set (t % cs.length) (cs[t % cs.length] / (n : Int)), ?_, ?_, ?_⟩
      · intro z
        have := congrArg List.length z
        rw [List.length_set] at this
        have z0 : cs.length = 0 := this
        omega
      · rw [List.length_set]; exact c63
      · refine e7 _ _ ?_
        rw [upd_same, List.map_set]
    · refine q_asg (ev_op (ev_op (ev_op (ev_op (ev_op (ev_var rfl) ev_c (rv_I (by decide))) ev_c (rv_I (.inr ⟨by decide, by decide⟩))) (ev_op (ev_op (ev_var rfl) (ev_var rfl) (rv_I (.inl ⟨by omega, by omega⟩))) ev_c (rv_I (.inr ⟨by decide, by decide⟩))) rv_I0) ev_c rv_I0) ev_c (rv_I (by decide))) fun H6 e6 => ?_
      have small : ∀ x m : Int, 0 < m → m < 2 ^ 40 → CMul (x % m) (x % m) := fun x m h1 h2 => .inl ⟨by have := Int.emod_nonneg x (show m ≠ 0 by omega); omega, by have := Int.emod_lt_of_pos x h1; omega⟩
      refine q_asg (ev_op (ev_op (ev_var rfl) (ev_var rfl) (rv_I (small _ _ (by decide) (by decide)))) ev_c (rv_I (by decide))) fun H7 e7 => ?_
      refine q_asg (ev_op (ev_op (ev_var rfl) (ev_var rfl) (rv_I (small _ _ (by decide) (by decide)))) ev_c (rv_I (by decide))) fun H8 e8 => ?_
      · have e49 := ((e5.trans e6).trans e7).trans e8
        have fin : ∀ x : Int, tRet (tOp (rI (fun _ j => 0 < j) fun i j => .int (i % j)) (tVar 6) (tVar 1)) { nx := fun _ H' => Q .non H', rt := Q } [some (.ref p), some (vi n), some (.ref c), some (vi t), some (vi (t % cs.length)), some (.int cs[t % cs.length]), some (.int x)] H8 := fun x => by
          obtain ⟨k, hk, ek⟩ := vi_mod (x := x) n1
          exact s_ret (v := vi k) (ev_is (ev_op (ev_var rfl) (ev_var rfl) (rv_I (by show (0 : Int) < (n : Int); omega))) ek) fun Ha ea => q k Ha hk (fun b o b1 b2 hb => (e49.trans ea) _ _ (off4 b o b1 b2 hb)) (pu4.ex (e49.trans ea))
        exact fin _
/-- _law_draw(purse, e), e worth n -/
theorem do_draw {σ : L2.St} {H : Hp} {ta tb : TE} {p c : Addr} {t n : Nat} {E : XK} {Q : VK} (hp : Ev ta σ H (.ref p)) (hn : Ev tb σ H (vi n)) (pu : Pur H p c t) (t1 : t ≤ 100000) (n1 : 1 ≤ n) (n2 : n ≤ 1000) (q : ∀ k H', k < n → Off H H' p c → Pur H' p c (t + 1) → Q (vi k) H') :
    tCall sp_draw [] E (tCons ta (tCons tb tNil)) σ H Q :=
  ea_cons hp (ea_cons hn ea_nil) H (Ex.refl H) _ fun H1 e1 => ⟨p, c, t, n, rfl, pu.ex e1, t1, n1, n2, fun k H' hk o p' => q k H' hk ((Off.of_ex e1).trans o) p'⟩
end
end K76
end
section
namespace K76
open PySem PySem.Spec PyProof.Rows L2 Evl RZ Dw M20
theorem Off.sql {K : PySem.W.Frag} {H H' : Hp} {p c l : Addr} {xs : List V} (o : Off H H' p c) (h1 : l ≠ p) (h2 : l ≠ c) (h : SqL K H l xs) : SqL K H' l xs := by
  rcases h with (h | ⟨ob, h⟩) | h
  · exact .inl (.inl (o _ _ h1 h2 h))
  · exact .inl (.inr ⟨ob, o _ _ h1 h2 h⟩)
  · exact .inr h
theorem Off.upd {H H' : Hp} {p c l : Addr} {o : HO} (f : Off H H' p c) (n : H l = none) : Off H (upd H' l o) p c := fun b u b1 b2 h => by
  rw [upd_ne (ne_of_none h n)]
  exact f b u b1 b2 h
theorem Off.back {H H' : Hp} {p c l : Addr} (f : Off H H' p c) (h1 : l ≠ p) (h2 : l ≠ c) (n : H' l = none) : H l = none := by
  cases e : H l with
  | none => rfl
  | some o =>
    rw [f l o h1 h2 e] at n
    cases n
theorem Pur.upd {H : Hp} {p c l : Addr} {t : Nat} {o : HO} (h : Pur H p c t) (h1 : l ≠ p) (h2 : l ≠ c) : Pur (upd H l o) p c t := ⟨by rw [upd_ne (Ne.symm h1)]; exact h.1, let ⟨cs, a, b, d⟩ := h.2; ⟨cs, a, b, by rw [upd_ne (Ne.symm h2)]; exact d⟩⟩
section
variable {P : Program} {w : World} {K : PySem.W.Frag} {mg : Str → Option Value} {base : Heap}
section
variable {σ : L2.St} {H : Hp} {D : Ends} {tu tz : TS}
end
/-! ### a list mixed -/

end
/-- a comprehension whose element may do anything, by what holds between its turns -/
theorem do_lcIt {J : It} {n : Nat} {G : Hp → Prop} {Y : Nat → Hp → V → Hp → Prop} {wi : TI} {g : TG} {te : TE} {σ : L2.St} {H : Hp} {vs : List Nat} {Q : VK} (w : Walk J n G Y) (hw0 : ∀ R : It → Hp → Prop, (∀ H1, Ex H H1 → R J H1) → wi σ H R) (Pv : Addr → Nat → Hp → Prop)
    (h0 : ∀ D H1, Ex H H1 → H1 D = none → Pv D 0 (upd H1 D (.lst []))) (hG : ∀ D i H', i ≤ n → Pv D i H' → G H')
    (hs : ∀ D i x H' H'', i < n → Pv D i H' → Y i H' x H'' → g x (wipe σ vs) H'' fun σ2 H2 => wipe σ2 vs = wipe σ vs ∧ if true = true then te σ2 H2 fun y H4 => ∃ acc, H4 D = some (.lst acc) ∧ acc.length < sizeLine ∧ Pv D (i + 1) (upd H4 D (.lst (acc ++ [y]))) else Pv D (i + 1) H2)
    (hd : ∀ D H', Pv D n H' → Q (.ref D) H') : tLc wi g tYes te vs σ H Q :=
  hw0 _ fun H1 e1 Dl nD => lc_it w (Pv Dl) (h0 Dl H1 e1 nD) (hG Dl) (fun i x H2 H3 hi p y => hs Dl i x H2 H3 hi p y) (fun H2 p => hd Dl H2 p)
theorem do_name {i : Nat} {v : V} {σ : L2.St} {H : Hp} {Q : L2.St → Hp → Prop} (h : Q (σ.set i (some v)) H) : gName i v σ H Q := h
theorem do_set {i : Nat} {te : TE} {tz : TS} {D : Ends} {σ : L2.St} {H : Hp} (h : te σ H fun x H1 => tz D (σ.set i (some x)) H1) : tSeq (tAsg te (gName i)) tz D σ H := h
end K76
end
section
namespace K76
open PySem PySem.Spec PyProof.Rows L2 Evl RZ Dw M20 M25
section
variable {P : Program} {w : World} {K : PySem.W.Frag} {mg : Str → Option Value} {base : Heap}
/-! ### rows of numbers -/
/-- a list of rows -/
def RowsL (K : PySem.W.Frag) (H : Hp) (v : V) (rs : List (List Nat)) : Prop := ∃ a vs, v = .ref a ∧ H a = some (.lst vs) ∧ Paired (Nats K H) vs rs
theorem RowsL.ex {H H' : Hp} {v : V} {rs : List (List Nat)} (e : Ex H H') (h : RowsL K H v rs) : RowsL K H' v rs := let ⟨a, vs, q, s, p⟩ := h; ⟨a, vs, q, e _ _ s, paired_imp (fun _ _ z => z.ex e) p⟩
theorem pairs_rows (L : List (List Nat)) (m : Nat) : ((List.range L.length).flatMap fun i => (List.range m).map fun k => (i, k)).map (fun p => L.getD p.1 [] ++ [p.2]) = L.flatMap fun r => (List.range m).map fun k => r ++ [k] := by
  rw [List.map_flatMap]
  have e : (List.range L.length).map (fun i => L.getD i []) = L := by
    apply List.ext_getElem?
    intro i
    by_cases h : i < L.length
    · rw [List.getElem?_map, List.getElem?_range h]
      show some (L.getD i []) = _
      rw [List.getD_eq_getElem?_getD, List.getElem?_eq_getElem h]
      rfl
    · rw [List.getElem?_eq_none_iff.mpr (by simp; omega), List.getElem?_eq_none_iff.mpr (by omega)]
  conv => rhs; rw [← e, List.flatMap_map]
  congr 1
  funext i
  rw [List.map_map]
  rfl
theorem rows_length (n : Nat) : ∀ p, (rows n p).length = n ^ p
  | 0 => rfl
  | p + 1 => by
    show ((rows n p).flatMap _).length = _
    rw [List.length_flatMap, Nat.pow_succ]
    have : (rows n p).map (fun r => ((List.range n).map fun k => r ++ [k]).length) = List.replicate (rows n p).length n := by
      rw [List.eq_replicate_iff]
      refine ⟨by rw [List.length_map], fun b hb => ?_⟩
      obtain ⟨r, _, rfl⟩ := List.mem_map.mp hb
      simp
    rw [this, List.sum_replicate_nat, rows_length n p]
theorem stb_nats {β : Type} (f : β → List Nat) : StbB (fun v b H => Nats K H v (f b)) := fun _ _ _ _ e h => h.et e.et
def sp_rows_below (K : PySem.W.Frag) : Sp := spF (fun (p : Nat × Nat) vs _ => vs = [vi p.1, vi p.2] ∧ p.1 ≤ 6 ∧ p.2 ≤ 2) (fun p v H => RowsL K H v (rows p.1 p.2))
theorem c_rows_below (T : Txt mg) (D : Df K mg "rows_below" s_rows_below ["size", "many"]) : Cl P w K mg base 1 "rows_below" (sp_rows_below K) := by
  refine cl_of (k := 0) D sc_rows_below (fun vs H Q E h => ?_) (fun f cdv A outer s H vs Q E hr h => ?_)
  · obtain ⟨p, ⟨rfl, _⟩, _⟩ := h
    rfl
  · obtain ⟨⟨n, m⟩, ⟨rfl, hn, hm⟩, q⟩ := h
    refine ⟨_, (pss_cons (ps_set (i := 2) sc_rows_below.nd rfl (.inl rfl) (pe_lst (pa_cons (pe_tup pa_nil) pa_nil)))
      (pss_cons (ps_for PassesOwn.never (by rfl) (pi_range1 (by rfl) T.z_range (pa_cons (pv 1) pa_nil)) (pg_name (i := 3) sc_rows_below.nd rfl (.inl rfl))
        (pss_one (ps_setLc2 (i := 2) (own := [("row", 4), ("number", 5)]) (g := (gName 4)) (g1 := (gName 5)) (vs1 := [5]) (by rfl) sc_rows_below.nd rfl rfl (sw_true rfl rfl rfl (by decide +kernel)) (pi_list (pv 2)) (blkOk_by (own := [("row", 4), ("number", 5)]) (N := ["size", "many", "rows", "step", "row", "number"]) (sc := (defScope s_rows_below)) (by decide +kernel)) (by decide) (fun _ _ _ _ _ => (pg_name (i := 4) sc_rows_below.nd rfl (.inl rfl))) (fun _ _ _ _ _ => pts_nil) (fun _ _ _ _ _ => (pi_range1 (by rfl) T.z_range (pa_cons (pv 0) pa_nil))) (fun _ _ _ _ _ => (pg_name (i := 5) sc_rows_below.nd rfl (.inl rfl))) (fun _ _ _ _ _ => pts_nil) (fun _ _ _ _ _ => (pe_op (op_catAK K) (pv 4) (pe_tup (pa_cons (pv 5) pa_nil)))))))
      (pss_one (ps_ret (pv 2))))), ?_⟩
    replace hn : n ≤ 6 := hn
    replace hm : m ≤ 2 := hm
    refine do_set (do_lst (do_cons (do_tup (do_nil ⟨Nat.zero_le _, fun r nr => do_nil ⟨by show 1 ≤ sizeLine; decide, fun f0 nf0 => ?_⟩⟩))))
    have e1 : Ex H (upd (upd H r (.tup [])) f0 (.lst [.ref r])) := (Ex.new nr).trans (Ex.new nf0)
    have nfH : H f0 = none := fresh_back (Ex.new nr) nf0
    have hf0 : (upd (upd H r (.tup [])) f0 (.lst [.ref r])) f0 = some (.lst [.ref r]) := upd_same
    have hr0 : (upd (upd H r (.tup [])) f0 (.lst [.ref r])) r = some (.tup []) := Ex.new nf0 _ _ upd_same
    generalize upd (upd H r (.tup [])) f0 (.lst [.ref r]) = H1 at *
    refine q_forR1 (n := (m : Int)) (ea_cons (ev_var rfl) ea_nil) ⟨by omega, by omega⟩ (fun i σ H' => Ex H H' ∧ ∃ (v : V) (y3 : Option V), RowsL K H' v (rows n i) ∧ (∀ d, v = .ref d → H d = none) ∧ σ = [some (vi n), some (vi m), some v, y3, none, none])
      (fun H2 e2 => ⟨e1.trans e2, .ref f0, none, ⟨f0, [.ref r], rfl, e2 _ _ hf0, .cons ⟨r, rfl, st_of (e2 _ _ hr0)⟩ .nil⟩, (fun d z => V.ref.inj z ▸ nfH), rfl⟩) (fun i σ H2 hi ⟨e2, v, y3, hv, hnv, hσ⟩ => ?_) (fun σ H2 ⟨e2, v, y3, hv, hnv, hσ⟩ => ?_)
    · subst hσ
      obtain ⟨a, us, rfl, ha, pus⟩ := hv
      have li : us.length = n ^ i := by rw [paired_len pus, rows_length]
      have lu : us.length ≤ 10000 := by
        rw [li]
        have i1 : i ≤ 1 := by omega
        have : n ^ i ≤ n ^ 1 ∨ i = 0 := by
          rcases Nat.eq_zero_or_pos i with z | z
          · exact .inr z
          · have : i = 1 := by omega
            rw [this]; exact .inl (Nat.le_refl _)
        rcases this with z | z
        · rw [Nat.pow_one] at z; omega
        · rw [z, Nat.pow_zero]; omega
      refine s_asgLP (elp_lc2 (K := K) (ev_var rfl) (sq_of ha) (fun x H3 e3 => ea_cons (ev_var rfl) ea_nil) lu (by omega) (fun v p H' => Nats K H' v ((rows n i).getD p.1 [] ++ [p.2])) (stb_nats (K := K) _) (fun _ => rfl) (fun _ _ => rfl) (fun j x k H3 e3 hx hk => ?_)) fun p ws H3 np e3 hp hw => ⟨e2.trans e3, .ref p, _, ⟨p, ws, rfl, hp, ?_⟩, (fun d z => V.ref.inj z ▸ fresh_back e2 np), rfl⟩
      · obtain ⟨row, hrow, xa, rfl, hxa⟩ := paired_at pus hx
        have er : (rows n i).getD j [] = row := by rw [List.getD_eq_getElem?_getD, hrow]; rfl
        have lr : row.length = i := (rows_of (List.mem_iff_getElem?.mpr ⟨j, hrow⟩)).1
        rw [er]
        refine tv_nats (tv_is (tv_cat (tv_ev (ev_var rfl) (ex_t e3 hxa)) (tv_tup (ea_cons (ev_var rfl) ea_nil) (by show 1 ≤ 100000; decide)) ?_) ?_)
        · rw [List.length_map, lr]
          show i + 1 ≤ 100000
          omega
        · rw [List.map_append]
          rfl
      · rw [paired_len pus] at hw
        have := paired_map (S := Nats K H3) (f := fun p : Nat × Nat => (rows n i).getD p.1 [] ++ [p.2]) (fun _ _ z => z) hw
        rw [pairs_rows] at this
        exact this
    · subst hσ
      rw [Int.toNat_natCast] at hv
      exact s_ret (ev_var rfl) fun H3 e3 => q _ H3 (e2.trans e3) (hv.ex e3) hnv
end
end K76
end
section
namespace K76
open PySem PySem.Spec PyProof.Rows L2 Evl RZ Dw M20 M25 CL
section
variable {σ : L2.St} {H : Hp} {ta tb te : TE}
theorem ev_mulN {a b : Nat} (ha : Ev ta σ H (vi a)) (hb : Ev tb σ H (vi b)) (la : a ≤ 1000) (lb : b ≤ 1000) : Ev (tOp (rI CMul fun i j => .int (i * j)) ta tb) σ H (vi (a * b)) := ev_is (ev_op ha hb (rv_I (.inl ⟨by omega, by omega⟩))) (by show V.int ((a : Int) * (b : Int)) = V.int ((a * b : Nat) : Int); rw [Int.natCast_mul])
theorem ev_addN {a b : Nat} (ha : Ev ta σ H (vi a)) (hb : Ev tb σ H (vi b)) : Ev (tOp (rI0 fun i j => .int (i + j)) ta tb) σ H (vi (a + b)) := ev_is (ev_op ha hb rv_I0) (by show V.int ((a : Int) + (b : Int)) = V.int ((a + b : Nat) : Int); rw [Int.natCast_add])
end
section
variable {P : Program} {w : World} {K : PySem.W.Frag} {mg : Str → Option Value} {base : Heap}
def sp_place_of_row (K : PySem.W.Frag) : Sp := spX (fun (p : Nat × List Nat) vs H => (∃ l, vs = [vi p.1, .ref l] ∧ H l = some (.lst (p.2.map vi))) ∧ p.1 ≤ 6 ∧ p.2.length ≤ 2 ∧ ∀ k ∈ p.2, k < p.1) (fun p v _ => v = vi (plc p.1 p.2))
theorem c_place_of_row (T : Txt mg) (D : Df K mg "place_of_row" s_place_of_row ["size", "row"]) : Cl P w K mg base 1 "place_of_row" (sp_place_of_row K) := by
  refine cl_of (k := 0) D sc_place_of_row (fun vs H Q E h => ?_) (fun f cdv A outer s H vs Q E hr h => ?_)
  · obtain ⟨p, ⟨⟨l, rfl, _⟩, _⟩, _⟩ := h
    rfl
  · obtain ⟨⟨n, ns⟩, ⟨⟨l, rfl, hl⟩, n6, l2, low⟩, q⟩ := h
    refine ⟨_, (pss_cons (ps_set (i := 2) sc_place_of_row.nd rfl (.inl rfl) pe_int)
      (pss_cons (ps_for PassesOwn.never (by rfl) (pi_list (pv 1)) (pg_name (i := 3) sc_place_of_row.nd rfl (.inl rfl))
        (pss_one (ps_set (i := 2) sc_place_of_row.nd rfl (.inl rfl) (pe_op op_add (pe_op op_mul (pv 2) (pv 0)) (pv 3)))))
      (pss_one (ps_ret (pv 2))))), ?_⟩
    replace hl : H l = some (.lst (ns.map vi)) := hl
    replace n6 : n ≤ 6 := n6
    replace l2 : ns.length ≤ 2 := l2
    replace low : ∀ k ∈ ns, k < n := low
    refine q_asg (v := vi 0) ev_c fun H1 e1 => ?_
    refine q_forL (K := K) (ev_var rfl) (sq_of (e1 _ _ hl)) (fun i σ H' => Ex H H' ∧ ∃ y : Option V, σ = [some (vi n), some (.ref l), some (vi (plc n (ns.take i))), y]) (fun H2 e2 => ⟨e1.trans e2, none, rfl⟩) (fun i σ H' _ ⟨e, _⟩ => sq_of (e _ _ hl)) (fun i x σ H2 hx hP => ?_) (fun σ H2 hP => ?_)
    · obtain ⟨e2, y, hσ⟩ := hP
      subst hσ
      rw [List.getElem?_map] at hx
      cases hk : ns[i]? with
      | none =>
        rw [hk] at hx
        cases hx
      | some k =>
        rw [hk] at hx
        cases Option.some.inj hx
        have small : plc n (ns.take i) ≤ 1000 := by
          have a := plc_low (n := n) (ns := ns.take i) (fun k h => low k (List.mem_of_mem_take h)) (by rw [List.length_take]; omega)
          have b : n ^ (ns.take i).length ≤ 6 ^ (ns.take i).length := Nat.pow_le_pow_left n6 _
          have c : 6 ^ (ns.take i).length ≤ 6 ^ 2 := Nat.pow_le_pow_right (by decide) (by rw [List.length_take]; omega)
          omega
        refine s_asg (v := vi (plc n (ns.take (i + 1)))) (ev_is (ev_addN (ev_mulN (ev_var rfl) (ev_var rfl) small (by omega)) (ev_var rfl)) (by rw [plc_take hk])) fun H3 e3 => ?_
        exact ⟨e2.trans e3, _, rfl⟩
    · obtain ⟨e2, y, hσ⟩ := hP
      subst hσ
      rw [List.length_map, List.take_length]
      exact s_ret (ev_var rfl) fun H3 e3 => q _ H3 (e2.trans e3) rfl
def sp_is_row (K : PySem.W.Frag) : Sp := spX (fun (p : Nat × List Nat) vs H => (∃ v, vs = [v, vi p.2.length, vi p.1] ∧ Nats K H v p.2) ∧ (∀ k ∈ p.2, k < p.1) ∧ p.2.length ≤ 1000) (fun _ v _ => v = .bl true)
theorem c_is_row (T : Txt mg) (D : Df K mg "is_row" s_is_row ["thing", "many", "size"]) (c_is_below : Cl P w K mg base 2 "is_below" sp_is_below) : Cl P w K mg base 3 "is_row" (sp_is_row K) := by
  refine cl_of (k := 2) D sc_is_row (fun vs H Q E h => ?_) (fun f cdv A outer s H vs Q E hr h => ?_)
  · obtain ⟨p, ⟨⟨v, rfl, _⟩, _⟩, _⟩ := h
    rfl
  · obtain ⟨⟨n, ns⟩, ⟨⟨v, rfl, a, rfl, ha⟩, low, few⟩, q⟩ := h
    refine ⟨_, (pss_one (ps_ret (pe_and (pe_callB call_isi (by rfl) T.z_isinstance (by decide +kernel) (pa_cons (pv 0) (pa_cons (pe_ty "tuple" (by rfl) T.z_tuple (by decide +kernel)) pa_nil))) (pe_and (pe_cmpR op_eq (pe_callB call_len_seq (by rfl) T.z_len PySem.boot_len (pa_cons (pv 0) pa_nil)) (pv 1) (nomark _)) (pe_one (pe_callB (cr_all rfl) (by rfl) T.z_all (by decide +kernel) (pa_cons (pe_lc (own := [("number", 3)]) (g := (gName 3)) (by rfl) sc_is_row.nd (pi_tup (pv 0)) (blkOk_by (own := [("number", 3)]) (N := ["thing", "many", "size", "number"]) (sc := (defScope s_is_row)) (by decide +kernel)) (fun _ _ _ _ _ => (pg_name (i := 3) sc_is_row.nd rfl (.inl rfl))) (fun _ _ _ _ _ => pts_nil) (fun _ _ _ _ _ => (pe_cl c_is_below hr (by first | decide | omega) (by rfl) (pa_cons (pv 3) (pa_cons (pv 2) pa_nil))))) pa_nil))))))), ?_⟩
    replace ha : SqT K H a (ns.map vi) := ha
    replace low : ∀ k ∈ ns, k < n := low
    replace few : ns.length ≤ 1000 := few
    refine s_ret (v := .bl true) (ev_is (ev_andV (a := true) (ev_isi (ev_var rfl) ev_c (.ty _) (fun _ e => tyx_tup (ex_t e ha)) kit_tt) (fun _ => ev_andV (ev_op (ev_lenT (ev_var rfl) ha) (ev_var rfl) (rv_eq rfl)) (fun _ => ev_all (bs := List.replicate ns.length true) ?_))) ?_) fun H1 e1 => q _ H1 e1 rfl
    · have z := el_lcT (K := K) (tl := tVar 0) (te := tCall sp_is_below [] E0 (tCons (tVar 3) (tCons (tVar 2) tNil))) (σ := [some (.ref a), some (vi ns.length), some (vi n), none]) (j := 3) (vs := [3]) (ev_var rfl) ha (fun _ => V.bl true) (by rw [List.length_map]; omega) (fun _ => rfl) (fun i x H1 e1 hx => by
        rw [List.getElem?_map] at hx
        cases hk : ns[i]? with
        | none =>
          rw [hk] at hx
          cases hx
        | some k =>
          rw [hk] at hx
          cases Option.some.inj hx
          have lk := low k (List.mem_iff_getElem?.mpr ⟨i, hk⟩)
          exact ev_callV (v := .bl true) (((k : Nat) : Int), ((n : Nat) : Int)) (ea_cons (ev_var rfl) (ea_cons (ev_var rfl) ea_nil)) (fun _ _ => ⟨rfl, by show (0 : Int) ≤ (k : Int); omega, by show (k : Int) < (n : Int); omega⟩) (fun _ _ p => p))
      have e : (List.range (ns.map vi).length).map (fun _ => V.bl true) = (List.replicate ns.length true).map V.bl := by
        rw [List.length_map, List.map_replicate, List.map_const', List.length_range]
      rw [e] at z
      exact z
    · rw [List.length_map]
      simp
end
end K76
end
section
namespace K76
open PySem PySem.Spec PyProof.Rows L2 Evl RZ Dw M20 M25 CL
section
variable {P : Program} {w : World} {K : PySem.W.Frag} {mg : Str → Option Value} {base : Heap}
/-! ### rising lists -/
def sp_rising : Sp := fun vs H Q _ => ∃ n : Nat, vs = [vi n] ∧ n ≤ 6 ∧ ∀ a as H', Ex H H' → LLs H H' a as (sub n) → Q (.ref a) H'
theorem sub_few {n : Nat} (h : n ≤ 6) : (sub n).length ≤ 64 := by
  rw [subs_len]
  exact Nat.pow_le_pow_right (by decide) h
theorem c_rising_lists (T : Txt mg) (D : Df K mg "rising_lists" s_rising_lists ["size"]) : Cl P w K mg base 1 "rising_lists" sp_rising := by
  refine cl_of (k := 0) D sc_rising_lists (fun vs H Q E h => ?_) (fun f cdv A outer s H vs Q E hr h => ?_)
  · obtain ⟨n, rfl, _⟩ := h
    rfl
  · obtain ⟨n, rfl, n6, q⟩ := h
    refine ⟨_, (pss_cons (ps_set (i := 1) sc_rising_lists.nd rfl (.inl rfl) (pe_lst (pa_cons (pe_lst pa_nil) pa_nil)))
      (pss_cons (ps_for PassesOwn.never (by rfl) (pi_range1 (by rfl) T.z_range (pa_cons (pv 0) pa_nil)) (pg_name (i := 2) sc_rising_lists.nd rfl (.inr rfl))
        (pss_one (ps_set (i := 1) sc_rising_lists.nd rfl (.inl rfl) (pe_op op_cat (pv 1) (pe_lc (own := [("one", 3)]) (g := (gName 3)) (by rfl) sc_rising_lists.nd (pi_list (pv 1)) (blkOk_by (own := [("one", 3)]) (N := ["size", "lists", "number", "one"]) (sc := (defScope s_rising_lists)) (by decide +kernel)) (fun _ _ _ _ _ => (pg_name (i := 3) sc_rising_lists.nd rfl (.inl rfl))) (fun _ _ _ _ _ => pts_nil) (fun _ _ _ _ _ => (pe_op op_cat (pv 3) (pe_lst (pa_cons (pv 2) pa_nil)))))))))
      (pss_one (ps_ret (pv 1))))), ?_⟩
    refine do_set (do_lst (do_cons (do_lst (do_nil ⟨Nat.zero_le _, fun r nr => do_nil ⟨by show 1 ≤ sizeLine; decide, fun f0 nf0 => ?_⟩⟩))))
    have e1 : Ex H (upd (upd H r (.lst [])) f0 (.lst [.ref r])) := (Ex.new nr).trans (Ex.new nf0)
    have rf : r ≠ f0 := fun z => by rw [z, upd_same] at nf0; cases nf0
    have ll1 : LLs H (upd (upd H r (.lst [])) f0 (.lst [.ref r])) f0 [r] (sub 0) := ⟨upd_same, by
      have := nf0
      rw [upd_ne (Ne.symm rf)] at this
      exact this, .cons ⟨by rw [upd_ne rf, upd_same]; rfl, nr⟩ .nil, List.pairwise_singleton _ _, fun z => rf (List.mem_singleton.mp z).symm⟩
    generalize upd (upd H r (.lst [])) f0 (.lst [.ref r]) = H1 at *
    refine q_forR1 (n := (n : Int)) (ea_cons (ev_var rfl) ea_nil) ⟨by omega, by omega⟩ (fun i σ H' => Ex H H' ∧ ∃ a as y, LLs H H' a as (sub i) ∧ σ = [some (vi n), some (.ref a), y, none])
      (fun H2 e2 => ⟨e1.trans e2, f0, [r], none, ll1.ex e2, rfl⟩) (fun i σ H2 hi ⟨e2, a, as, y, ll, hσ⟩ => ?_) (fun σ H2 ⟨e2, a, as, y, ll, hσ⟩ => ?_)
    · subst hσ
      have hi' : i < n := by omega
      have ls : (sub i).length ≤ 64 := sub_few (by omega)
      have la := ll.len
      refine do_asg (do_op (do_ev (ev_var rfl) fun H3 e3 => do_lcNew (K := K) (a := a) (xs := as.map V.ref) (L := (sub i).map (· ++ [i])) (ev_var rfl) (sq_of (e3 _ _ ll.at_)) (by rw [List.length_map, List.length_map, la]) (by rw [List.length_map]; omega) (fun _ => rfl) (fun j x ns H4 e4 hx hns => ?_) (fun p bs H4 e4 l2 => ?_)))
      · rw [List.getElem?_map] at hx hns
        cases hb : as[j]? with
        | none => rw [hb] at hx; cases hx
        | some b =>
          rw [hb] at hx
          cases Option.some.inj hx
          obtain ⟨ms, hms, q, _⟩ := paired_at ll.each hb
          rw [hms] at hns
          cases Option.some.inj hns
          show EvL _ _ H4 ((ms ++ [i]).map vi)
          rw [List.map_append]
          have up := sub_up (List.mem_iff_getElem?.mpr ⟨j, hms⟩)
          have lm : ms.length ≤ i := by
            have := sub_le (R := ms) (F := List.range i) up.nodup fun k hk => List.mem_range.mpr (up.2 k hk)
            rw [List.length_range] at this
            exact this
          intro H5 e5 Q' q'
          refine do_op (do_ev (v := .ref b) (ev_var rfl) fun H6 e6 => do_evL (el_lst (ea_cons (ev_var rfl) ea_nil) (by show 1 ≤ 100000; decide)) fun r2 H7 nr2 e7 hr2 => ?_)
          exact ⟨b, r2, ms.map vi, [vi i], rfl, rfl, ((e3.trans e4).trans ((e5.trans e6).trans e7)) _ _ q, hr2, by rw [List.length_map]; exact sz_of (by show ms.length + 1 ≤ 100000; omega), fun l nl => q' l _ (fresh_back (e6.trans e7) nl) ((e6.trans e7).trans (Ex.new nl)) upd_same⟩
      · have l1 := ll.ex (e3.trans e4)
        have lb := l2.len
        rw [List.length_map] at lb
        refine ⟨a, p, as.map V.ref, bs.map V.ref, rfl, rfl, l1.at_, l2.at_, by rw [List.length_map, List.length_map]; exact sz_of (by omega), fun l nl => ?_⟩
        have e24 := (e3.trans e4).trans (Ex.new (o := .lst (as.map V.ref ++ bs.map V.ref)) nl)
        have e03 := e2.trans e3
        have dis : ∀ x ∈ as, ∀ y ∈ bs, x ≠ y := fun x hx y hy z => by
          obtain ⟨ns, _, q1, _⟩ := (ll.ex e3).some hx
          obtain ⟨_, _, _, q2⟩ := l2.some hy
          rw [← z, q1] at q2
          cases q2
        refine ⟨e2.trans e24, l, as ++ bs, _, ⟨by rw [upd_same, List.map_append], fresh_back ((e2.trans e3).trans e4) nl, ?_, List.nodup_append.mpr ⟨ll.nd, l2.nd, dis⟩, fun z => ?_⟩, rfl⟩
        · exact paired_app (paired_imp (fun _ _ z => ⟨Ex.new nl _ _ z.1, z.2⟩) l1.each) (paired_imp (fun _ _ z => ⟨Ex.new nl _ _ z.1, fresh_back e03 z.2⟩) l2.each)
        · rcases List.mem_append.mp z with z | z
          · obtain ⟨_, _, q1, _⟩ := l1.some z
            rw [q1] at nl; cases nl
          · obtain ⟨_, _, q1, _⟩ := l2.some z
            rw [q1] at nl; cases nl
    · subst hσ
      rw [Int.toNat_natCast] at ll
      exact s_ret (ev_var rfl) fun H3 e3 => q _ _ _ (e2.trans e3) (ll.ex e3)
/-! ### arguments among numbers -/
def sp_is_among (K : PySem.W.Frag) : Sp := spX (fun (p : List Nat × List Nat) vs H => (∃ u a, vs = [u, .ref a] ∧ Nats K H u p.1 ∧ SqL K H a (p.2.map vi)) ∧ p.1.length ≤ 1000) (fun p v _ => v = .bl (among p.1 p.2))
theorem all_map {α : Type} (f : α → Bool) : ∀ l : List α, (l.map f).all id = l.all f
  | [] => rfl
  | x :: l => by rw [List.map_cons, List.all_cons, List.all_cons, all_map f l]; rfl
theorem c_is_among (T : Txt mg) (D : Df K mg "is_among" s_is_among ["args", "numbers"]) : Cl P w K mg base 1 "is_among" (sp_is_among K) := by
  refine cl_of (k := 0) D sc_is_among (fun vs H Q E h => ?_) (fun f cdv A outer s H vs Q E hr h => ?_)
  · obtain ⟨p, ⟨⟨u, a, rfl, _⟩, _⟩, _⟩ := h
    rfl
  · obtain ⟨⟨r, S⟩, ⟨⟨u, a, rfl, ⟨ua, rfl, hu⟩, ha⟩, few⟩, q⟩ := h
    refine ⟨_, (pss_one (ps_ret (pe_callB (cr_all rfl) (by rfl) T.z_all (by decide +kernel) (pa_cons (pe_lc (own := [("arg", 2)]) (g := (gName 2)) (by rfl) sc_is_among.nd (pi_tup (pv 0)) (blkOk_by (own := [("arg", 2)]) (N := ["args", "numbers", "arg"]) (sc := (defScope s_is_among)) (by decide +kernel)) (fun _ _ _ _ _ => (pg_name (i := 2) sc_is_among.nd rfl (.inl rfl))) (fun _ _ _ _ _ => pts_nil) (fun _ _ _ _ _ => (pe_cmpR (op_in_seqK K) (pv 2) (pv 1) (by rfl)))) pa_nil)))), ?_⟩
    replace hu : SqT K H ua (r.map vi) := hu
    replace ha : SqL K H a (S.map vi) := ha
    replace few : r.length ≤ 1000 := few
    refine s_ret (v := .bl (among r S)) (ev_is (ev_all (bs := r.map fun k => decide (k ∈ S)) ?_) (by rw [all_map]; rfl)) fun H1 e1 => q _ H1 e1 rfl
    have z := el_lcT (K := K) (tl := tVar 0) (te := tOp (rIn K false) (tVar 2) (tVar 1)) (σ := [some (.ref ua), some (.ref a), none]) (j := 2) (vs := [2]) (ev_var rfl) hu (fun i => V.bl (decide (r.getD i 0 ∈ S))) (by rw [List.length_map]; omega) (fun _ => rfl) (fun i x H1 e1 hx => by
      rw [List.getElem?_map] at hx
      cases hk : r[i]? with
      | none => rw [hk] at hx; cases hx
      | some k =>
        rw [hk] at hx
        cases Option.some.inj hx
        rw [List.getD_eq_getElem?_getD, hk]
        exact ev_is (ev_op (ev_var rfl) (ev_var rfl) (rv_isL (K := K) (ex_l e1 ha) rfl (flat_vi S))) (by rw [inV_vi]; rfl))
    have e : (List.range (r.map vi).length).map (fun i => V.bl (decide (r.getD i 0 ∈ S))) = (r.map fun k => decide (k ∈ S)).map V.bl := by
      rw [List.length_map, List.map_map]
      apply List.ext_getElem?
      intro i
      by_cases hi : i < r.length
      · rw [List.getElem?_map, List.getElem?_range hi, List.getElem?_map, List.getElem?_eq_getElem hi]
        show some (V.bl (decide (r.getD i 0 ∈ S))) = some (V.bl (decide (r[i] ∈ S)))
        rw [List.getD_eq_getElem?_getD, List.getElem?_eq_getElem hi]
        rfl
      · rw [List.getElem?_eq_none_iff.mpr (by simp; omega), List.getElem?_eq_none_iff.mpr (by simp; omega)]
    rw [e] at z
    exact z
/-! ### the cells with their worths -/
def CellV (K : PySem.W.Frag) (H : Hp) (v : V) (c : Str × List Nat × Nat) : Prop := ∃ b x, v = .ref b ∧ SqT K H b [.str c.1, x, vi c.2.2] ∧ Nats K H x c.2.1
theorem CellV.et {H H' : Hp} {v : V} {c : Str × List Nat × Nat} (e : ET K H H') (h : CellV K H v c) : CellV K H' v c := let ⟨b, x, q, s, n⟩ := h; ⟨b, x, q, e _ _ s, n.et e⟩
/-- a list of cells -/
def CellsL (K : PySem.W.Frag) (H : Hp) (v : V) (cs : List (Str × List Nat × Nat)) : Prop := ∃ a vs, v = .ref a ∧ H a = some (.lst vs) ∧ Paired (CellV K H) vs cs
theorem CellsL.ex {H H' : Hp} {v : V} {cs : List (Str × List Nat × Nat)} (e : Ex H H') (h : CellsL K H v cs) : CellsL K H' v cs := let ⟨a, vs, q, s, p⟩ := h; ⟨a, vs, q, e _ _ s, paired_imp (fun _ _ z => CellV.et (Dw.Ex.et e) z) p⟩
abbrev MArg := List (Str × Nat) × Nat × List (List Nat)
def blk (n : Nat) (x : (Str × Nat) × List Nat) : List (Str × List Nat × Nat) := ((rows n x.1.2).zip x.2).map fun y => (x.1.1, y.1, y.2)
theorem blk_len {n : Nat} {x : (Str × Nat) × List Nat} (h : Tab n x.1.2 x.2) : (blk n x).length = n ^ x.1.2 := by
  unfold blk
  rw [List.length_map, List.length_zip, rows_len', h.len, Nat.min_self]
theorem pow_36 {n p : Nat} (n6 : n ≤ 6) (p2 : p ≤ 2) : n ^ p ≤ 36 := by
  have h1 : n ^ p ≤ 6 ^ p := Nat.pow_le_pow_left n6 p
  have h2 : 6 ^ p ≤ 6 ^ 2 := Nat.pow_le_pow_right (by decide) p2
  omega
theorem cws_few {n : Nat} {sg : List (Str × Nat)} {ts : List (List Nat)} (so : SigOk sg) (m : MdlOk sg n ts) (i : Nat) : (((sg.zip ts).take i).flatMap (blk n)).length ≤ 36 * i ∧ (((sg.zip ts).take i).flatMap (blk n)).length ≤ 144 := by
  have one : ∀ l : List ((Str × Nat) × List Nat), (∀ x ∈ l, x ∈ sg.zip ts) → (l.flatMap (blk n)).length ≤ 36 * l.length := fun l => by
    induction l with
    | nil => exact fun _ => Nat.zero_le _
    | cons x l ih =>
      intro h
      rw [List.flatMap_cons, List.length_append, List.length_cons]
      have a := ih fun y hy => h y (List.mem_cons_of_mem _ hy)
      obtain ⟨j, hj⟩ := List.mem_iff_getElem?.mp (h x (List.mem_cons_self ..))
      rw [List.getElem?_zip_eq_some] at hj
      obtain ⟨h1, e1⟩ := List.getElem?_eq_some_iff.mp hj.1
      obtain ⟨h2, e2⟩ := List.getElem?_eq_some_iff.mp hj.2
      have tb := m.tab j h1 h2
      rw [e1, e2] at tb
      have b := blk_len tb
      have c := pow_36 m.n6 (so.pl _ (List.mem_iff_getElem?.mpr ⟨j, hj.1⟩))
      omega
  have a := one ((sg.zip ts).take i) fun x hx => List.mem_of_mem_take hx
  have l4 := so.l4
  have lt : ((sg.zip ts).take i).length ≤ i := by rw [List.length_take]; omega
  have lz : ((sg.zip ts).take i).length ≤ 4 := by rw [List.length_take, List.length_zip]; omega
  constructor
  · exact Nat.le_trans a (Nat.mul_le_mul_left 36 lt)
  · exact Nat.le_trans a (Nat.mul_le_mul_left 36 lz)
def sp_cells (K : PySem.W.Frag) : Sp := spF (fun (p : MArg) vs H => (∃ u v, vs = [u, v] ∧ Sig K H u p.1 ∧ Mdl K H v p.2.1 p.2.2) ∧ SigOk p.1 ∧ MdlOk p.1 p.2.1 p.2.2) (fun p v H => CellsL K H v (cws p.2.1 p.1 p.2.2))
theorem c_cells_with_worths (T : Txt mg) (D : Df K mg "cells_with_worths" s_cells_with_worths ["signature", "model"]) (c_rows_below : Cl P w K mg base 1 "rows_below" (sp_rows_below K)) : Cl P w K mg base 2 "cells_with_worths" (sp_cells K) := by
  refine cl_of (k := 1) D sc_cells_with_worths (fun vs H Q E h => ?_) (fun f cdv A outer s H vs Q E hr h => ?_)
  · obtain ⟨p, ⟨⟨u, v, rfl, _⟩, _⟩, _⟩ := h
    rfl
  · obtain ⟨⟨sg, n, ts⟩, ⟨⟨u, v, rfl, hG, hM⟩, sok, mok⟩, q⟩ := h
    refine ⟨_, (pss_cons (ps_set (i := 2) sc_cells_with_worths.nd rfl (.inl rfl) (pe_lst pa_nil))
      (pss_cons (ps_for PassesOwn.never (by rfl) (pi_zipA (by rfl) T.z_zip (pa_cons (pv 0) (pa_cons (pe_ix ix_tup (pv 1) pe_int (fun _ _ => rfl)) pa_nil))) (pg_tup (by rfl) (pgs_cons (pg_tup (by rfl) (pgs_cons (pg_name (i := 3) sc_cells_with_worths.nd rfl (.inl rfl)) (pgs_cons (pg_name (i := 4) sc_cells_with_worths.nd rfl (.inl rfl)) pgs_nil))) (pgs_cons (pg_name (i := 5) sc_cells_with_worths.nd rfl (.inl rfl)) pgs_nil)))
        (pss_one (ps_for PassesOwn.never (by rfl) (pi_zipM (by rfl) T.z_zip (pa_cons (pe_cl c_rows_below hr (by first | decide | omega) (by rfl) (pa_cons (pe_ix ix_tup (pv 1) pe_int (fun _ _ => rfl)) (pa_cons (pv 4) pa_nil))) (pa_cons (pv 5) pa_nil))) (pg_tup (by rfl) (pgs_cons (pg_name (i := 6) sc_cells_with_worths.nd rfl (.inl rfl)) (pgs_cons (pg_name (i := 7) sc_cells_with_worths.nd rfl (.inl rfl)) pgs_nil)))
          (pss_one (ps_expr (pe_bm PySem.F.plainAttrs_list PySem.F.slot_list_append PySem.F.type_list_append mt_append (pv 2) (pa_cons (pe_tup (pa_cons (pv 3) (pa_cons (pv 6) (pa_cons (pv 7) pa_nil)))) pa_nil)))))))
      (pss_one (ps_ret (pv 2))))), ?_⟩
    replace sok : SigOk sg := sok
    replace mok : MdlOk sg n ts := mok
    have n6 := mok.n6
    obtain ⟨a, us, rfl, hS, hP⟩ := id hG
    obtain ⟨z, tv, rfl, hZ, hT⟩ := id hM
    obtain ⟨b, tvs, rfl, hB, hR⟩ := id hT
    replace hZ : SqT K H z [vi n, .ref b] := hZ
    replace hP : Paired (Deed K H) us sg := hP
    replace hR : Paired (Nats K H) tvs ts := hR
    have lS : us.length = sg.length := paired_len hP
    have lT : tvs.length = ts.length := paired_len hR
    have lM : ts.length = sg.length := mok.len
    refine q_asgL (el_lst ea_nil (Nat.zero_le _)) fun m H1 nm e1 hm => ?_
    refine q_zipT (ea_cons (ev_var rfl) (ea_cons (ev_op (ev_var rfl) ev_c (rv_ixT (K := K) (ex_t e1 hZ) (atI_vi (k := 1) rfl))) ea_nil)) (ex_t e1 hS) (ex_t e1 hB) (by rw [lS, lT, lM]) (fun i σ H' => Ex H H' ∧ (∃ ws, H' m = some (.lst ws) ∧ Paired (CellV K H') ws (((sg.zip ts).take i).flatMap (blk n))) ∧ ∃ y3 y4 y5 y6 y7, σ = [some (.ref a), some (.ref z), some (.ref m), y3, y4, y5, y6, y7])
      (fun H2 e2 => ⟨e1.trans e2, ⟨[], e2 _ _ hm, .nil⟩, none, none, none, none, none, rfl⟩) (fun i σ H' _ ⟨e, _⟩ => ⟨ex_t e hS, ex_t e hB⟩) (fun i d tv p σ H2 hd ht ⟨e2, ⟨ws, hws, pws⟩, y3, y4, y5, y6, y7, hσ⟩ np => ?_) (fun σ H2 ⟨e2, ⟨ws, hws, pws⟩, y3, y4, y5, y6, y7, hσ⟩ => ?_)
    · subst hσ
      have hi : i < sg.length := by rw [← lS]; exact (List.getElem?_eq_some_iff.mp hd).1
      have hi2 : i < ts.length := by rw [lM]; exact hi
      obtain ⟨d', ed', c, hc, dc⟩ := paired_get hP (List.getElem?_eq_getElem hi)
      have : d' = d := Option.some.inj (ed'.symm.trans hd)
      subst this
      subst hc
      obtain ⟨t', et', r, hr', nt⟩ := paired_get hR (List.getElem?_eq_getElem hi2)
      have : t' = tv := Option.some.inj (et'.symm.trans ht)
      subst this
      subst hr'
      have e3 : Ex H2 (upd H2 p (.tup [.ref c, .ref r])) := Ex.new np
      have e03 : Ex H (upd H2 p (.tup [.ref c, .ref r])) := e2.trans e3
      have p2 : sg[i].2 ≤ 2 := sok.pl _ (List.getElem_mem hi)
      have tab := mok.tab i hi hi2
      refine ⟨p, _, rfl, st_of upd_same, rfl, _, _, rfl, ⟨c, _, rfl, ex_t e03 dc, rfl, _, _, rfl, _, _, rfl, rfl, ?_⟩⟩
      refine ⟨_, _, rfl, rfl, ?_⟩
      have hzip : (sg.zip ts)[i]? = some (sg[i], ts[i]) := List.getElem?_zip_eq_some.mpr ⟨List.getElem?_eq_getElem hi, List.getElem?_eq_getElem hi2⟩
      have fw := (cws_few sok mok i).2
      have lws : ws.length ≤ 144 := by rw [paired_len pws]; exact fw
      refine s_zipM (do_cons (do_evP (ep_callF (n, sg[i].2) (ea_cons (ev_op (ev_var rfl) ev_c (rv_ixT (K := K) (ex_t e03 hZ) (atI_vi (k := 0) rfl))) (ea_cons (ev_var rfl) ea_nil)) (fun _ _ => ⟨rfl, n6, p2⟩)) fun rv H4 e4 ⟨⟨ra, rvs, hra, hrl, prs⟩, nra⟩ => do_cons (do_ev (ev_var rfl) fun H5 e5 => do_nil ?_)))
      subst hra
      replace prs : Paired (Nats K H4) rvs (rows n sg[i].2) := prs
      have e35 := e4.trans e5
      have lr : rvs.length = n ^ sg[i].2 := by rw [paired_len prs, rows_len']
      have big := pow_36 n6 p2
      refine ⟨ra, r, rvs, _, rfl, sq_of (e5 _ _ hrl), ex_t (e03.trans e35) nt, ?_⟩
      refine loops_zipM (by rw [List.length_map, lr, tab.len]) (fun j σ H' => Ex H H' ∧ H' ra = some (.lst rvs) ∧ Paired (Nats K H') rvs (rows n sg[i].2) ∧ (∃ ws2, H' m = some (.lst ws2) ∧ Paired (CellV K H') ws2 (((sg.zip ts).take i).flatMap (blk n) ++ (blk n (sg[i], ts[i])).take j)) ∧ ∃ y6 y7, σ = [some (.ref a), some (.ref z), some (.ref m), some (.str sg[i].1), some (vi sg[i].2), some (.ref r), y6, y7])
        ⟨e03.trans e35, e5 _ _ hrl, paired_imp (fun _ _ z => z.ex e5) prs, ⟨ws, (e3.trans e35) _ _ hws, by
          rw [List.take_zero, List.append_nil]
          exact paired_imp (fun _ _ z => CellV.et (Dw.Ex.et (e3.trans e35)) z) pws⟩, _, _, rfl⟩ (fun j σ' H' _ ⟨e, hr, _⟩ => ⟨sq_of hr, ex_t e nt⟩) (fun j x y T σ' H6 hx hy ⟨e6, hr6, pr6, ⟨ws2, hw2, pw2⟩, y6, y7, hσ⟩ nT => ?_) (fun σ' H6 ⟨e6, hr6, pr6, ⟨ws2, hw2, pw2⟩, y6, y7, hσ⟩ => ?_)
      · subst hσ
        have hj : j < n ^ sg[i].2 := by rw [← lr]; exact (List.getElem?_eq_some_iff.mp hx).1
        obtain ⟨row, hrow, xa, rfl, hxa⟩ := paired_at pr6 hx
        rw [List.getElem?_map] at hy
        cases hw : ts[i][j]? with
        | none => rw [hw] at hy; cases hy
        | some wv =>
        rw [hw] at hy
        cases Option.some.inj hy
        have e7 : Ex H6 (upd H6 T (.tup [.ref xa, vi wv])) := Ex.new nT
        have hblk : (blk n (sg[i], ts[i]))[j]? = some (sg[i].1, row, wv) := by
          unfold blk
          rw [List.getElem?_map, show ((rows n sg[i].2).zip ts[i])[j]? = some (row, wv) from List.getElem?_zip_eq_some.mpr ⟨hrow, hw⟩]
          rfl
        refine ⟨T, _, rfl, st_of upd_same, rfl, _, _, rfl, _, _, rfl, rfl, ?_⟩
        refine s_appP (e7 _ _ hw2) (ev_var rfl) (tv_tup (K := K) (ea_cons (ev_var rfl) (ea_cons (ev_var rfl) (ea_cons (ev_var rfl) ea_nil))) (by show 3 ≤ 100000; decide)) ?_ (fun v H8 e8 hv => ?_)
        · rw [paired_len pw2, List.length_append, List.length_take]
          omega
        · obtain ⟨va, rfl, hva⟩ := hv
          have e78 := e7.trans e8
          have hm8 : H8 m = some (.lst ws2) := e78 _ _ hw2
          have et : ET K H8 (upd H8 m (.lst (ws2 ++ [.ref va]))) := ET.refl.upd hm8
          have mra : ra ≠ m := fun zz => by
            have := nra _ rfl
            rw [zz, e3 _ _ hws] at this
            cases this
          refine ⟨(e6.trans e78).mut nm, by rw [upd_ne mra]; exact e78 _ _ hr6, paired_imp (fun _ _ z => (z.ex e78).et et) pr6, ⟨ws2 ++ [.ref va], upd_same, ?_⟩, _, _, rfl⟩
          rw [List.take_add_one, hblk]
          show Paired _ _ (_ ++ (_ ++ [(sg[i].1, row, wv)]))
          rw [← List.append_assoc]
          exact paired_snoc' (R := CellV K (upd H8 m (.lst (ws2 ++ [.ref va])))) (x := .ref va) (y := (sg[i].1, row, wv)) ⟨va, .ref xa, rfl, et _ _ hva, xa, rfl, et _ _ (ex_t e78 hxa)⟩ (paired_imp (fun _ _ z => CellV.et (ET.trans (Dw.Ex.et e78) et) z) pw2)
      · subst hσ
        refine ⟨e6, ⟨ws2, hw2, ?_⟩, _, _, _, _, _, rfl⟩
        rw [List.take_add_one, hzip, List.flatMap_append]
        have full : (blk n (sg[i], ts[i])).take rvs.length = blk n (sg[i], ts[i]) := List.take_of_length_le (by rw [blk_len tab, lr]; exact Nat.le_refl _)
        rw [full] at pw2
        show Paired _ _ (_ ++ (Option.toList (some (sg[i], ts[i]))).flatMap (blk n))
        rw [show (Option.toList (some (sg[i], ts[i]))).flatMap (blk n) = blk n (sg[i], ts[i]) from by simp [Option.toList]]
        exact pw2
    · subst hσ
      have full : (sg.zip ts).take us.length = sg.zip ts := List.take_of_length_le (by rw [List.length_zip]; omega)
      rw [full] at pws
      exact s_ret (ev_var rfl) fun H3 e3 => q _ H3 (e2.trans e3) ⟨m, ws, rfl, e3 _ _ hws, paired_imp (fun _ _ z => CellV.et (Dw.Ex.et e3) z) pws⟩ fun d z => V.ref.inj z ▸ nm
end
end K76
end
section
namespace K76
open PySem PySem.Spec PyProof.Rows L2 Evl RZ Dw M20 M25 CL
section
variable {P : Program} {w : World} {K : PySem.W.Frag} {mg : Str → Option Value} {base : Heap}
/-! ### closed lists -/
/-- a model and its signature as they are handed in -/
def MA (K : PySem.W.Frag) (H : Hp) (u v : V) (p : MArg) : Prop := Sig K H u p.1 ∧ Mdl K H v p.2.1 p.2.2
theorem MA.ex {H H' : Hp} {u v : V} {p : MArg} (e : Ex H H') (h : MA K H u v p) : MA K H' u v p := ⟨h.1.ex e, h.2.ex e⟩
theorem MA.et {H H' : Hp} {u v : V} {p : MArg} (e : ET K H H') (h : MA K H u v p) : MA K H' u v p := ⟨h.1.et e, h.2.et e⟩
def MOk (p : MArg) : Prop := SigOk p.1 ∧ MdlOk p.1 p.2.1 p.2.2
def cwm (p : MArg) : List (Str × List Nat × Nat) := cws p.2.1 p.1 p.2.2
theorem MOk.cells {p : MArg} (h : MOk p) : ∀ c ∈ cwm p, c.2.1.length ≤ 2 ∧ (∀ a ∈ c.2.1, a < p.2.1) ∧ c.2.2 < p.2.1 := fun c hc => by
  obtain ⟨i, d, t, j, r, h1, h2, h3, h4, h5, h6⟩ := cws_mem.mp hc
  have rr := rows_of (List.mem_iff_getElem?.mpr ⟨j, h3⟩)
  have p2 := h.1.pl d (List.mem_iff_getElem?.mpr ⟨i, h1⟩)
  have tt := h.2.low t (List.mem_iff_getElem?.mpr ⟨i, h2⟩)
  rw [h6]
  exact ⟨by rw [rr.1]; exact p2, rr.2, tt _ (List.mem_iff_getElem?.mpr ⟨j, h4⟩)⟩
theorem MOk.few {p : MArg} (h : MOk p) : (cwm p).length ≤ 144 := by
  have := (cws_few h.1 h.2 (p.1.zip p.2.2).length).2
  rw [List.take_length] at this
  exact this
def sp_has_worths (K : PySem.W.Frag) : Sp := spX (fun (p : MArg × List Nat) vs H => (∃ u v a, vs = [u, v, .ref a] ∧ MA K H u v p.1 ∧ SqL K H a (p.2.map vi)) ∧ MOk p.1) (fun p v _ => v = .bl (closed (cwm p.1) p.2))
theorem c_has_worths (T : Txt mg) (D : Df K mg "has_worths" s_has_worths ["signature", "model", "numbers"]) (c_cells_with_worths : Cl P w K mg base 2 "cells_with_worths" (sp_cells K)) (c_is_among : Cl P w K mg base 1 "is_among" (sp_is_among K)) : Cl P w K mg base 3 "has_worths" (sp_has_worths K) := by
  refine cl_of (k := 2) D sc_has_worths (fun vs H Q E h => ?_) (fun f cdv A outer s H vs Q E hr h => ?_)
  · obtain ⟨p, ⟨⟨u, v, a, rfl, _⟩, _⟩, _⟩ := h
    rfl
  · obtain ⟨⟨p, S⟩, ⟨⟨u, v, a, rfl, hm, ha⟩, ok⟩, q⟩ := h
    refine ⟨_, (pss_cons (ps_for PassesOwn.never (by rfl) (pi_list (pe_cl c_cells_with_worths hr (by first | decide | omega) (by rfl) (pa_cons (pv 0) (pa_cons (pv 1) pa_nil)))) (pg_tup (by rfl) (pgs_cons (pg_name (i := 3) sc_has_worths.nd rfl (.inl rfl)) (pgs_cons (pg_name (i := 4) sc_has_worths.nd rfl (.inl rfl)) (pgs_cons (pg_name (i := 5) sc_has_worths.nd rfl (.inl rfl)) pgs_nil))))
        (pss_one (ps_if (PW.pt (pw_and (pt_cmpR op_notIn_seq (pv 5) (pv 2) (by rfl)) (pw_and1 (pt_val (pe_cl c_is_among hr (by first | decide | omega) (by rfl) (pa_cons (pv 4) (pa_cons (pv 2) pa_nil)))))))
          (pss_one (ps_ret pe_bl))
          pss_nil)))
      (pss_one (ps_ret pe_bl))), ?_⟩
    replace hm : MA K H u v p := hm
    replace ha : SqL K H a (S.map vi) := ha
    replace ok : MOk p := ok
    refine q_forLs (do_evP (ep_callF p (ea_cons (ev_var rfl) (ea_cons (ev_var rfl) ea_nil)) (fun H1 e1 => ⟨⟨_, _, rfl, hm.1.ex e1, hm.2.ex e1⟩, ok.1, ok.2⟩)) fun cv H1 e1 ⟨⟨c, vs, hc, hl, pc⟩, _⟩ => ⟨c, hc, ⟨vs, sq_of hl⟩, ?_⟩)
    replace pc : Paired (CellV K H1) vs (cwm p) := pc
    refine qloops_list (K := K) (xs := vs) (fun i σ H' => Ex H1 H' ∧ ((cwm p).take i).all (fun c => !outs S c) = true ∧ ∃ y3 y4 y5, σ = [some u, some v, some (.ref a), y3, y4, y5]) ⟨Ex.refl _, by rw [List.take_zero]; rfl, none, none, none, rfl⟩ (fun i σ' H' _ ⟨e, _⟩ => sq_of (e _ _ hl)) (fun i x σ' H2 hx ⟨e2, al, y3, y4, y5, hσ⟩ => ?_) (fun σ' H2 ⟨e2, al, y3, y4, y5, hσ⟩ => ?_)
    · subst hσ
      obtain ⟨cl, hcl, b, xa, rfl, hb, hxa⟩ := paired_at pc hx
      have mem := List.mem_iff_getElem?.mpr ⟨i, hcl⟩
      have c2 := (ok.cells _ mem).1
      refine ⟨b, _, rfl, ex_t e2 hb, rfl, _, _, rfl, _, _, rfl, _, _, rfl, rfl, ?_⟩
      have e02 : Ex H H2 := e1.trans e2
      refine s_when (b := outs S cl) (et_is (et_and (et_test (ev_op (ev_var rfl) (ev_var rfl) (rv_niL (K := K) (ex_l e02 ha) rfl (flat_vi S)))) (fun _ => et_val (ev_callV (v := .bl (among cl.2.1 S)) (cl.2.1, S) (ea_cons (ev_var rfl) (ea_cons (ev_var rfl) ea_nil)) (fun H3 e3 => ⟨⟨_, _, rfl, hxa.ex (e2.trans e3), ex_l (e02.trans e3) ha⟩, by show cl.2.1.length ≤ 1000; omega⟩) (fun _ _ p => p)))) (by rw [inV_vi]; rfl)) (fun ho H3 e3 => s_ret ev_c fun H4 e4 => q _ H4 ((e02.trans e3).trans e4) ?_) (fun ho H3 e3 => ⟨e2.trans e3, ?_, _, _, _, rfl⟩)
      · show V.bl false = V.bl (closed (cwm p) S)
        cases hcc : closed (cwm p) S with
        | false => rfl
        | true =>
          unfold closed at hcc
          have := List.all_eq_true.mp hcc cl mem
          rw [ho] at this
          cases this
      · rw [List.take_add_one, hcl, List.all_append, al]
        show (true && ([cl].all _)) = true
        rw [List.all_cons, ho]
        rfl
    · subst hσ
      have full : (cwm p).take vs.length = cwm p := List.take_of_length_le (by rw [paired_len pc]; exact Nat.le_refl _)
      rw [full] at al
      refine s_ret ev_c fun H3 e3 => q _ H3 ((e1.trans e2).trans e3) ?_
      show V.bl true = V.bl (closed (cwm p) S)
      rw [show closed (cwm p) S = true from al]
def clsd (p : MArg) : List (List Nat) := (srtO (sub p.2.1)).filter fun S => closed (cwm p) S
def sp_closed_lists (K : PySem.W.Frag) : Sp := fun vs H Q _ => ∃ (p : MArg) (u v : V), vs = [u, v] ∧ MA K H u v p ∧ MOk p ∧ ∀ a as H', Ex H H' → LLs H H' a as (clsd p) → Q (.ref a) H'
theorem c_closed_lists (T : Txt mg) (D : Df K mg "closed_lists" s_closed_lists ["signature", "model"]) (c_need_model : Cl P w K mg base 7 "need_model" (sp_need_model K)) (c_rising_lists : Cl P w K mg base 1 "rising_lists" sp_rising) (c_has_worths : Cl P w K mg base 3 "has_worths" (sp_has_worths K)) : Cl P w K mg base 8 "closed_lists" (sp_closed_lists K) := by
  refine cl_of (k := 7) D sc_closed_lists (fun vs H Q E h => ?_) (fun f cdv A outer s H vs Q E hr h => ?_)
  · obtain ⟨p, u, v, rfl, _⟩ := h
    rfl
  · obtain ⟨p, u, v, rfl, hm, ok, q⟩ := h
    refine ⟨_, (pss_cons (ps_expr (pe_cl c_need_model hr (by first | decide | omega) (by rfl) (pa_cons (pv 0) (pa_cons (pv 1) pa_nil))))
      (pss_one (ps_ret (pe_callB (cr_sortD hr) (by rfl) T.z_sorted (by decide +kernel) (pa_cons (pe_lc (own := [("numbers", 2)]) (g := (gName 2)) (by rfl) sc_closed_lists.nd (pi_list (pe_cl c_rising_lists hr (by first | decide | omega) (by rfl) (pa_cons (pe_ix ix_tup (pv 1) pe_int (fun _ _ => rfl)) pa_nil))) (blkOk_by (own := [("numbers", 2)]) (N := ["signature", "model", "numbers"]) (sc := (defScope s_closed_lists)) (by decide +kernel)) (fun _ _ _ _ _ => (pg_name (i := 2) sc_closed_lists.nd rfl (.inl rfl))) (fun _ _ _ _ _ => (pts_one (pt_val (pe_cl c_has_worths hr (by first | decide | omega) (by rfl) (pa_cons (pv 0) (pa_cons (pv 1) (pa_cons (pv 2) pa_nil))))))) (fun _ _ _ _ _ => (pv 2))) pa_nil))))), ?_⟩
    obtain ⟨z, tv, hv, hZ, hT⟩ := id hm.2
    have n6 := ok.2.n6
    refine q_drop (v := .non) (ev_callV p (ea_cons (ev_var rfl) (ea_cons (ev_var rfl) ea_nil)) (fun H1 e1 => ⟨⟨_, _, rfl, hm.1.ex e1, hm.2.ex e1⟩, ok.1, ok.2⟩) (fun _ _ p => p)) fun H1 e1 => ?_
    have ev0 : ∀ H2, Ex H H2 → Ev (tOp (rIxT K) (tVar 1) (tC (.int 0))) [some u, some v, none] H2 (vi p.2.1) := fun H2 e2 => by
      subst hv
      exact ev_op (ev_var rfl) ev_c (rv_ixT (K := K) (ex_t e2 hZ) (atI_vi (k := 0) rfl))
    refine do_ret (cb1_src (lc_src (ea_cons (ev0 H1 e1) ea_nil H1 (Ex.refl _) _ fun H2 e2 => ⟨p.2.1, rfl, n6, fun a as H3 e3 ll => ?_⟩)))
    have ll1 := ll.low (e1.trans e2)
    have e03 := (e1.trans e2).trans e3
    refine do_lcFit (K := K) (f := fun S => closed (cwm p) S) (ev_c) ll1 e03 (by have := sub_few n6; omega) (fun _ => rfl) (fun _ => rfl) (fun b ns H4 e4 hns hb => et_val (ev_callV (v := .bl (closed (cwm p) ns)) (p, ns) (ea_cons (ev_var rfl) (ea_cons (ev_var rfl) (ea_cons (ev_var rfl) ea_nil))) (fun H5 e5 => ⟨⟨_, _, _, rfl, hm.ex ((e03.trans e4).trans e5), sq_of (e5 _ _ hb)⟩, ok⟩) (fun _ _ p => p))) (fun l bs H4 e4 sl l2 => ?_)
    refine do_sortL (K := K) l2 (e03.trans e4) fun l3 cs H5 e5 _ l4 => q _ cs H5 ((e03.trans e4).trans e5) ?_
    have : srtO ((sub p.2.1).filter fun S => closed (cwm p) S) = clsd p := srt_filter _ _
    rw [← this]
    exact l4
end
end K76
end
section
namespace K76
open PySem PySem.Spec PyProof.Rows L2 Evl RZ Dw M20 M25 CL
section
variable {P : Program} {w : World} {K : PySem.W.Frag} {mg : Str → Option Value} {base : Heap}
theorem kit_ll : PySem.W.kitOne K (.type "list") (.type "list") = some true := kit_ty (by decide +kernel)
/-! ### building -/
abbrev Steps := List (Nat × Option (Str × List Nat))
def StepV (K : PySem.W.Frag) (H : Hp) (v : V) (s : Nat × Option (Str × List Nat)) : Prop := ∃ b x, v = .ref b ∧ SqT K H b [vi s.1, x] ∧ ((s.2 = none ∧ x = .non) ∨ ∃ nm r p y, s.2 = some (nm, r) ∧ x = .ref p ∧ SqT K H p [.str nm, y] ∧ Nats K H y r)
theorem StepV.et {H H' : Hp} {v : V} {s : Nat × Option (Str × List Nat)} (e : ET K H H') (h : StepV K H v s) : StepV K H' v s := let ⟨b, x, q, s, c⟩ := h; ⟨b, x, q, e _ _ s, c.imp id fun ⟨nm, r, p, y, a, b, c, d⟩ => ⟨nm, r, p, y, a, b, e _ _ c, d.et e⟩⟩
def StepsL (K : PySem.W.Frag) (H : Hp) (a : Addr) (st : Steps) : Prop := ∃ vs, H a = some (.lst vs) ∧ Paired (StepV K H) vs st
theorem StepsL.ex {H H' : Hp} {a : Addr} {st : Steps} (e : Ex H H') (h : StepsL K H a st) : StepsL K H' a st := let ⟨vs, s, p⟩ := h; ⟨vs, e _ _ s, paired_imp (fun _ _ z => StepV.et (Dw.Ex.et e) z) p⟩
end
end K76
end
section
namespace K76
open PySem PySem.Spec PyProof.Rows L2 Evl RZ Dw M20 M25 CL
section
variable {P : Program} {w : World} {K : PySem.W.Frag} {mg : Str → Option Value} {base : Heap}
/-! ### made by some numbers -/
theorem upFew {n : Nat} {S : List Nat} (h : Up n S) : S.length ≤ n := by
  have := sub_le (F := List.range n) h.nodup fun k hk => List.mem_range.mpr (h.2 k hk)
  rw [List.length_range] at this
  exact this
theorem upGd {n : Nat} {S : List Nat} (h : Up n S) (n6 : n ≤ 6) : (∀ k ∈ S, k ≤ 1000) ∧ S.length ≤ 36 := ⟨fun k hk => by have := h.2 k hk; omega, by have := upFew h; omega⟩
/-! ### parts -/
def sp_is_closed (K : PySem.W.Frag) : Sp := spX (fun (p : MArg × List Nat) vs H => (∃ u v a, vs = [u, v, .ref a] ∧ MA K H u v p.1 ∧ H a = some (.lst (p.2.map vi))) ∧ MOk p.1 ∧ Up p.1.2.1 p.2 ∧ closed (cwm p.1) p.2 = true) (fun _ v _ => v = .bl true)
theorem c_is_closed (T : Txt mg) (D : Df K mg "is_closed" s_is_closed ["signature", "model", "thing"]) (c_is_row : Cl P w K mg base 3 "is_row" (sp_is_row K)) (c_has_worths : Cl P w K mg base 3 "has_worths" (sp_has_worths K)) : Cl P w K mg base 4 "is_closed" (sp_is_closed K) := by
  refine cl_of (k := 3) D sc_is_closed (fun vs H Q E h => ?_) (fun f cdv A outer s H vs Q E hr h => ?_)
  · obtain ⟨p, ⟨⟨u, v, a, rfl, _⟩, _⟩, _⟩ := h
    rfl
  · obtain ⟨⟨p, S⟩, ⟨⟨u, v, a, rfl, hm, ha⟩, ok, up, cl⟩, q⟩ := h
    refine ⟨_, (pss_cons (ps_if (PW.pt (pw_or (pt_not (pt_val (pe_callB call_isi (by rfl) T.z_isinstance (by decide +kernel) (pa_cons (pv 2) (pa_cons (pe_ty "list" (by rfl) T.z_list (by decide +kernel)) pa_nil))))) (pw_or1 (pt_not (pt_val (pe_cl c_is_row hr (by first | decide | omega) (by rfl) (pa_cons (pe_callTy call_tuple_of (by rfl) T.z_tuple (by decide +kernel) (pa_cons (pv 2) pa_nil)) (pa_cons (pe_callB call_len_seq (by rfl) T.z_len PySem.boot_len (pa_cons (pv 2) pa_nil)) (pa_cons (pe_ix ix_tup (pv 1) pe_int (fun _ _ => rfl)) pa_nil)))))))))
        (pss_one (ps_ret pe_bl))
        pss_nil)
      (pss_one (ps_ret (pe_and (pe_cmpR (op_eqD hr.units) (pv 2) (pe_callB (cr_sortedSet rfl) (by rfl) T.z_sorted (by decide +kernel) (pa_cons (pe_callTy (cr_setI rfl) (by rfl) T.z_set (by decide +kernel) (pa_cons (pv 2) pa_nil)) pa_nil)) (nomark _)) (pe_one (pe_cl c_has_worths hr (by first | decide | omega) (by rfl) (pa_cons (pv 0) (pa_cons (pv 1) (pa_cons (pv 2) pa_nil))))))))), ?_⟩
    replace hm : MA K H u v p := hm
    replace ha : H a = some (.lst (S.map vi)) := ha
    replace ok : MOk p := ok
    replace up : Up p.2.1 S := up
    replace cl : closed (cwm p) S = true := cl
    have n6 := ok.2.n6
    have g := upGd up n6
    obtain ⟨z, tv, rfl, hZ, hT⟩ := id hm.2
    have ixe : ∀ H1, Ex H H1 → Ev (tOp (rIxT K) (tVar 1) (tC (.int 0))) [some u, some (.ref z), some (.ref a)] H1 (vi p.2.1) := fun H1 e1 => ev_op (ev_var rfl) ev_c (rv_ixT (K := K) (ex_t e1 hZ) (atI_vi (k := 0) rfl))
    refine q_when (b := false) (et_is (et_or (et_not (et_val (ev_isi (ev_var rfl) ev_c (.ty _) (fun _ e => .base (.lst (e _ _ ha))) kit_ll))) (fun _ => et_not (et_val (b := true) (ev_ep ((ep_callP (p.2.1, S) (eap_cons (P := fun v H' => Nats K H' v S) (R := fun vs _ => vs = [vi S.length, vi p.2.1]) (ep_nats (eu_tupL (K := K) (ev_var rfl) (sq_of ha)) rfl) (eap_ev (ea_cons (ev_lenL (K := K) (ev_var rfl) ha) (ea_cons (ixe _ (Ex.refl _)) ea_nil)) (fun _ _ => rfl)) (fun v H1 H2 e h => h.ex e)) (fun vs H1 e1 ⟨x, r, hvs, hx, hr⟩ => ⟨⟨x, by rw [hvs, hr], hx⟩, up.2, by show S.length ≤ 1000; omega⟩)).imp fun _ _ _ z => z))))) rfl) (fun hb => by cases hb) (fun _ H1 e1 => ?_)
    refine s_ret (v := .bl true) (ev_is (ev_andV (ev_eqLN (K := K) (xs := S) (ys := S) (ev_var rfl) (sq_of (e1 _ _ ha)) (el_sortSetV (K := K) (w := w) (ms := S) (ev_var rfl) (sq_of (e1 _ _ ha)) (by omega) p.2.1 (by omega) up.2 up.1 (fun _ => Iff.rfl)) g.1 g.1 g.2 g.2) (fun _ => ev_callV (v := .bl true) (p, S) (ea_cons (ev_var rfl) (ea_cons (ev_var rfl) (ea_cons (ev_var rfl) ea_nil))) (fun H2 e2 => ⟨⟨_, _, _, rfl, hm.ex (e1.trans e2), sq_of ((e1.trans e2) _ _ ha)⟩, ok⟩) (fun _ _ z => by rw [z]; exact congrArg V.bl cl))) (by rw [decide_eq_true rfl]; rfl)) fun H2 e2 => q _ H2 (e1.trans e2) rfl
/-- the model of a closed list -/
def prtT (n : Nat) (S : List Nat) (x : (Str × Nat) × List Nat) : List Nat := (rows S.length x.1.2).map fun r => S.idxOf (g x.2 (plc n (r.map (g S))))
def prt (p : MArg) (S : List Nat) : List (List Nat) := (p.1.zip p.2.2).map (prtT p.2.1 S)
theorem cell_in {p : MArg} (ok : MOk p) {S : List Nat} (cl : closed (cwm p) S = true) (low : ∀ k ∈ S, k < p.2.1) {i : Nat} (h1 : i < p.1.length) (h2 : i < p.2.2.length) {r : List Nat} (hr : r ∈ rows S.length p.1[i].2) :
    (∀ k ∈ r.map (g S), k < p.2.1) ∧ (r.map (g S)).length = p.1[i].2 ∧ plc p.2.1 (r.map (g S)) < p.2.2[i].length ∧ g p.2.2[i] (plc p.2.1 (r.map (g S))) ∈ S := by
  obtain ⟨lr, rl⟩ := rows_of hr
  have p2 := ok.1.pl _ (List.getElem_mem h1)
  have inS : ∀ k ∈ r.map (g S), k ∈ S := fun k hk => by
    obtain ⟨j, hj, rfl⟩ := List.mem_map.mp hk
    exact g_mem (rl j hj)
  have lw : ∀ k ∈ r.map (g S), k < p.2.1 := fun k hk => low k (inS k hk)
  have lm : (r.map (g S)).length = p.1[i].2 := by rw [List.length_map, lr]
  have pl := plc_low lw (by rw [lm]; exact p2)
  rw [lm] at pl
  have tb := ok.2.tab i h1 h2
  have pl' : plc p.2.1 (r.map (g S)) < p.2.2[i].length := by rw [tb.len]; exact pl
  refine ⟨lw, lm, pl', ?_⟩
  obtain ⟨row, hrow, ep⟩ := rows_plc p2 ok.2.n1 pl
  have erow : row = r.map (g S) := plc_inj p2 (rows_of (List.mem_iff_getElem?.mpr ⟨_, hrow⟩)) ⟨lm, lw⟩ ep
  refine closed_iff.mp cl (p.1[i].1, r.map (g S), g p.2.2[i] (plc p.2.1 (r.map (g S)))) (cws_mem.mpr ⟨i, p.1[i], p.2.2[i], plc p.2.1 (r.map (g S)), r.map (g S), List.getElem?_eq_getElem h1, List.getElem?_eq_getElem h2, by rw [erow] at hrow; exact hrow, ?_, rfl, rfl⟩) inS
  exact g_eq pl'
end
end K76
end
section
namespace K76
open PySem PySem.Spec PyProof.Rows L2 Evl RZ Dw M20 M25 CL
section
variable {P : Program} {w : World} {K : PySem.W.Frag} {mg : Str → Option Value} {base : Heap}
def sp_part_of (K : PySem.W.Frag) : Sp := spX (fun (p : MArg × List Nat) vs H => (∃ u v a, vs = [u, v, .ref a] ∧ MA K H u v p.1 ∧ H a = some (.lst (p.2.map vi))) ∧ MOk p.1 ∧ Up p.1.2.1 p.2 ∧ closed (cwm p.1) p.2 = true) (fun p v H => Mdl K H v p.2.length (prt p.1 p.2))
theorem c_part_of (T : Txt mg) (D : Df K mg "part_of" s_part_of ["signature", "model", "closed"]) (c_rows_below : Cl P w K mg base 1 "rows_below" (sp_rows_below K)) (c_place_of_row : Cl P w K mg base 1 "place_of_row" (sp_place_of_row K)) : Cl P w K mg base 2 "part_of" (sp_part_of K) := by
  refine cl_of (k := 1) D sc_part_of (fun vs H Q E h => ?_) (fun f cdv A outer s H vs Q E hr h => ?_)
  · obtain ⟨p, ⟨⟨u, v, a, rfl, _⟩, _⟩, _⟩ := h
    rfl
  · obtain ⟨⟨⟨sg, n, ts⟩, S⟩, ⟨⟨u, v, x, rfl, ⟨hG, hM⟩, hx⟩, ok, up, cl⟩, q⟩ := h
    refine ⟨_, (pss_cons (ps_asg (pv 1) (pg_tup (by rfl) (pgs_cons (pg_name (i := 3) sc_part_of.nd rfl (.inl rfl)) (pgs_cons (pg_name (i := 4) sc_part_of.nd rfl (.inl rfl)) pgs_nil))))
      (pss_cons (ps_set (i := 5) sc_part_of.nd rfl (.inl rfl) (pe_lst pa_nil))
      (pss_cons (ps_for PassesOwn.never (by rfl) (pi_zipA (by rfl) T.z_zip (pa_cons (pv 0) (pa_cons (pv 4) pa_nil))) (pg_tup (by rfl) (pgs_cons (pg_tup (by rfl) (pgs_cons (pg_name (i := 6) sc_part_of.nd rfl (.inl rfl)) (pgs_cons (pg_name (i := 7) sc_part_of.nd rfl (.inl rfl)) pgs_nil))) (pgs_cons (pg_name (i := 8) sc_part_of.nd rfl (.inl rfl)) pgs_nil)))
        (pss_cons (ps_set (i := 9) sc_part_of.nd rfl (.inl rfl) (pe_lst pa_nil))
        (pss_cons (ps_for PassesOwn.never (by rfl) (pi_list (pe_cl c_rows_below hr (by first | decide | omega) (by rfl) (pa_cons (pe_callB call_len_seq (by rfl) T.z_len PySem.boot_len (pa_cons (pv 2) pa_nil)) (pa_cons (pv 7) pa_nil)))) (pg_name (i := 10) sc_part_of.nd rfl (.inl rfl))
          (pss_one (ps_expr (pe_bm PySem.F.plainAttrs_list PySem.F.slot_list_append PySem.F.type_list_append mt_append (pv 9) (pa_cons (pe_bm PySem.F.plainAttrs_list PySem.F.slot_list_index PySem.F.type_list_index mt_index (pv 2) (pa_cons (pe_ix ix_tup (pv 8) (pe_cl c_place_of_row hr (by first | decide | omega) (by rfl) (pa_cons (pv 3) (pa_cons (pe_lc (own := [("arg", 11)]) (g := (gName 11)) (by rfl) sc_part_of.nd (pi_tup (pv 10)) (blkOk_by (own := [("arg", 11)]) (N := ["signature", "model", "closed", "size", "tables", "told", "name", "places", "table", "row", "args", "arg"]) (sc := (defScope s_part_of)) (by decide +kernel)) (fun _ _ _ _ _ => (pg_name (i := 11) sc_part_of.nd rfl (.inl rfl))) (fun _ _ _ _ _ => pts_nil) (fun _ _ _ _ _ => (pe_ix (ix_listK K) (pv 2) (pv 11) (fun _ _ => rfl)))) pa_nil))) (fun _ _ => rfl)) pa_nil)) pa_nil)))))
        (pss_one (ps_expr (pe_bm PySem.F.plainAttrs_list PySem.F.slot_list_append PySem.F.type_list_append mt_append (pv 5) (pa_cons (pe_callTy call_tuple_of (by rfl) T.z_tuple (by decide +kernel) (pa_cons (pv 9) pa_nil)) pa_nil)))))))
      (pss_one (ps_ret (pe_tup (pa_cons (pe_callB call_len_seq (by rfl) T.z_len PySem.boot_len (pa_cons (pv 2) pa_nil)) (pa_cons (pe_callTy call_tuple_of (by rfl) T.z_tuple (by decide +kernel) (pa_cons (pv 5) pa_nil)) pa_nil)))))))), ?_⟩
    replace hx : H x = some (.lst (S.map vi)) := hx
    replace ok : MOk (sg, n, ts) := ok
    replace up : Up n S := up
    replace cl : closed (cwm (sg, n, ts)) S = true := cl
    have sok : SigOk sg := ok.1
    have mok : MdlOk sg n ts := ok.2
    have n6 : n ≤ 6 := mok.n6
    have fS := upFew up
    obtain ⟨a, us, rfl, hS, hP⟩ := id hG
    obtain ⟨z, tv, rfl, hZ, hT⟩ := id hM
    obtain ⟨b, tvs, rfl, hB, hR⟩ := id hT
    replace hZ : SqT K H z [vi n, .ref b] := hZ
    replace hP : Paired (Deed K H) us sg := hP
    replace hR : Paired (Nats K H) tvs ts := hR
    have lS : us.length = sg.length := paired_len hP
    have lT : tvs.length = ts.length := paired_len hR
    have lM : ts.length = sg.length := mok.len
    have l4 := sok.l4
    refine ⟨.ref z, rfl, z, _, rfl, hZ, rfl, _, _, rfl, _, _, rfl, rfl, ?_⟩
    refine q_asgL (el_lst ea_nil (Nat.zero_le _)) fun m H1 nm e1 hm => ?_
    refine q_zipT (ea_cons (ev_var rfl) (ea_cons (ev_var rfl) ea_nil)) (ex_t e1 hS) (ex_t e1 hB) (by rw [lS, lT, lM]) (fun i σ H' => Ex H H' ∧ (∃ ws, H' m = some (.lst ws) ∧ Paired (Nats K H') ws (((sg.zip ts).take i).map (prtT n S))) ∧ ∃ y6 y7 y8 y9 y10, σ = [some (.ref a), some (.ref z), some (.ref x), some (vi n), some (.ref b), some (.ref m), y6, y7, y8, y9, y10, none])
      (fun H2 e2 => ⟨e1.trans e2, ⟨[], e2 _ _ hm, .nil⟩, none, none, none, none, none, rfl⟩) (fun i σ H' _ ⟨e, _⟩ => ⟨ex_t e hS, ex_t e hB⟩) (fun i d tv p σ H2 hd ht ⟨e2, ⟨ws, hws, pws⟩, y6, y7, y8, y9, y10, hσ⟩ np => ?_) (fun σ H2 ⟨e2, ⟨ws, hws, pws⟩, y6, y7, y8, y9, y10, hσ⟩ => ?_)
    · subst hσ
      have hi : i < sg.length := by rw [← lS]; exact (List.getElem?_eq_some_iff.mp hd).1
      have hi2 : i < ts.length := by rw [lM]; exact hi
      obtain ⟨d', ed', c, hc, dc⟩ := paired_get hP (List.getElem?_eq_getElem hi)
      have : d' = d := Option.some.inj (ed'.symm.trans hd)
      subst this
      subst hc
      obtain ⟨t', et', r, hr', nt⟩ := paired_get hR (List.getElem?_eq_getElem hi2)
      have : t' = tv := Option.some.inj (et'.symm.trans ht)
      subst this
      subst hr'
      have e3 : Ex H2 (upd H2 p (.tup [.ref c, .ref r])) := Ex.new np
      have e03 : Ex H (upd H2 p (.tup [.ref c, .ref r])) := e2.trans e3
      have p2 : sg[i].2 ≤ 2 := sok.pl _ (List.getElem_mem hi)
      have hzip : (sg.zip ts)[i]? = some (sg[i], ts[i]) := List.getElem?_zip_eq_some.mpr ⟨List.getElem?_eq_getElem hi, List.getElem?_eq_getElem hi2⟩
      refine ⟨p, _, rfl, st_of upd_same, rfl, _, _, rfl, ⟨c, _, rfl, ex_t e03 dc, rfl, _, _, rfl, _, _, rfl, rfl, ?_⟩⟩
      refine ⟨_, _, rfl, rfl, ?_⟩
      refine q_asgL (el_lst ea_nil (Nat.zero_le _)) fun ro H4 nro e4 hro => ?_
      have e04 := e03.trans e4
      have nroH : H ro = none := fresh_back e03 nro
      have rom : m ≠ ro := fun zz => by rw [← zz, e3 _ _ hws] at nro; cases nro
      refine q_forLs (do_evP (ep_callF (S.length, sg[i].2) (ea_cons (ev_lenL (K := K) (ev_var rfl) (e04 _ _ hx)) (ea_cons (ev_var rfl) ea_nil)) (fun _ _ => ⟨rfl, by show S.length ≤ 6; omega, p2⟩)) fun rv H5 e5 ⟨⟨ra, rvs, hra, hrl, prs⟩, nra⟩ => ⟨ra, hra, ⟨rvs, sq_of hrl⟩, ?_⟩)
      replace prs : Paired (Nats K H5) rvs (rows S.length sg[i].2) := prs
      have e05 := e04.trans e5
      have rar : ra ≠ ro := fun zz => by have := nra _ hra; rw [zz, hro] at this; cases this
      have ram : ra ≠ m := fun zz => by have := nra _ hra; rw [zz, (e3.trans e4) _ _ hws] at this; cases this
      have lrv := paired_len prs
      rw [rows_len'] at lrv
      have big : S.length ^ sg[i].2 ≤ 36 := pow_36 (by omega) p2
      refine qloops_list (K := K) (xs := rvs) (fun j σ H' => Ex H H' ∧ H' ra = some (.lst rvs) ∧ Paired (Nats K H') rvs (rows S.length sg[i].2) ∧ H' m = some (.lst ws) ∧ Paired (Nats K H') ws (((sg.zip ts).take i).map (prtT n S)) ∧ H' ro = some (.lst (((prtT n S (sg[i], ts[i])).take j).map vi)) ∧ ∃ y10, σ = [some (.ref a), some (.ref z), some (.ref x), some (vi n), some (.ref b), some (.ref m), some (.str sg[i].1), some (vi sg[i].2), some (.ref r), some (.ref ro), y10, none])
        ⟨e05, hrl, prs, ((e3.trans e4).trans e5) _ _ hws, paired_imp (fun _ _ zz => zz.ex ((e3.trans e4).trans e5)) pws, e5 _ _ hro, _, rfl⟩ (fun j σ' H' _ ⟨_, hr, _⟩ => sq_of hr) (fun j rv2 σ' H6 hx2 ⟨e6, hr6, pr6, hm6, pw6, hro6, y10', hσ⟩ => ?_) (fun σ' H6 ⟨e6, hr6, pr6, hm6, pw6, hro6, y10', hσ⟩ => ?_)
      · subst hσ
        obtain ⟨row, hrow, xa, rfl, hxa⟩ := paired_at pr6 hx2
        have rmem := List.mem_iff_getElem?.mpr ⟨j, hrow⟩
        obtain ⟨lw, lm, pl, gin⟩ := cell_in ok cl up.2 hi hi2 rmem
        obtain ⟨lr, rl⟩ := rows_of rmem
        have hj : j < rvs.length := (List.getElem?_eq_some_iff.mp hx2).1
        have lpt : (prtT n S (sg[i], ts[i])).length = S.length ^ sg[i].2 := by unfold prtT; rw [List.length_map, rows_len']
        have hpt : (prtT n S (sg[i], ts[i]))[j]? = some (S.idxOf (g ts[i] (plc n (row.map (g S))))) := by
          unfold prtT
          rw [List.getElem?_map, hrow]
          rfl
        have hcomp : EvL (tLc (iTup K (tVar 10)) (gName 11) tYes (tOp (rIxL K) (tVar 2) (tVar 11)) [11]) [some (.ref a), some (.ref z), some (.ref x), some (vi n), some (.ref b), some (.ref m), some (.str sg[i].1), some (vi sg[i].2), some (.ref r), some (.ref ro), some (.ref xa), none] H6 ((row.map (g S)).map vi) := by
          have zz := el_lcT (K := K) (tl := tVar 10) (te := tOp (rIxL K) (tVar 2) (tVar 11)) (σ := [some (.ref a), some (.ref z), some (.ref x), some (vi n), some (.ref b), some (.ref m), some (.str sg[i].1), some (vi sg[i].2), some (.ref r), some (.ref ro), some (.ref xa), none]) (j := 11) (vs := [11]) (ev_var rfl) hxa (fun k => vi (g S (row.getD k 0))) (by rw [List.length_map, lr]; omega) (fun _ => rfl) (fun k y H7 e7 hy => by
            rw [List.getElem?_map] at hy
            cases hk : row[k]? with
            | none => rw [hk] at hy; cases hy
            | some kk =>
              rw [hk] at hy
              cases Option.some.inj hy
              have lk := rl kk (List.mem_iff_getElem?.mpr ⟨k, hk⟩)
              rw [List.getD_eq_getElem?_getD, hk]
              exact ev_op (ev_var rfl) (ev_var rfl) (rv_ixL (K := K) (sq_of ((e6.trans e7) _ _ hx)) (atI_vi (k := kk) (by rw [List.getElem?_map, g_eq lk]; rfl))))
          have e : (List.range (row.map vi).length).map (fun k => vi (g S (row.getD k 0))) = (row.map (g S)).map vi := by
            rw [List.length_map, List.map_map]
            apply List.ext_getElem?
            intro k
            by_cases hk : k < row.length
            · rw [List.getElem?_map, List.getElem?_range hk, List.getElem?_map, List.getElem?_eq_getElem hk]
              show some (vi (g S (row.getD k 0))) = some (vi (g S row[k]))
              rw [List.getD_eq_getElem?_getD, List.getElem?_eq_getElem hk]
              rfl
            · rw [List.getElem?_eq_none_iff.mpr (by simp; omega), List.getElem?_eq_none_iff.mpr (by simp; omega)]
          rw [e] at zz
          exact zz
        have place : Ev (tCall (sp_place_of_row K) [] E0 (tCons (tVar 3) (tCons (tLc (iTup K (tVar 10)) (gName 11) tYes (tOp (rIxL K) (tVar 2) (tVar 11)) [11]) tNil))) [some (.ref a), some (.ref z), some (.ref x), some (vi n), some (.ref b), some (.ref m), some (.str sg[i].1), some (vi sg[i].2), some (.ref r), some (.ref ro), some (.ref xa), none] H6 (vi (plc n (row.map (g S)))) := fun H7 e7 Q' q' =>
          do_cons (do_ev (ev_var rfl) fun H8 e8 => do_cons (hcomp H8 (e7.trans e8) _ fun l H9 nl e9 hl => do_nil ⟨(n, row.map (g S)), ⟨⟨l, rfl, hl⟩, n6, by rw [lm]; exact p2, lw⟩, fun v H10 e10 hv => by rw [hv]; exact q' H10 ((e8.trans e9).trans e10)⟩))
        refine s_app (v := vi (S.idxOf (g ts[i] (plc n (row.map (g S)))))) hro6 (ev_var rfl) (ev_lindex (K := K) (S := S) (ev_var rfl) (e6 _ _ hx) (ev_op (ev_var rfl) place (rv_ixT (K := K) (ex_t e6 nt) (atI_vi (k := plc n (row.map (g S))) (by rw [List.getElem?_map, g_eq pl]; rfl)))) gin) (by rw [List.length_map, List.length_take]; omega) fun H7 e7 => ?_
        have et : ET K H7 (upd H7 ro (.lst (((prtT n S (sg[i], ts[i])).take j).map vi ++ [vi (S.idxOf (g ts[i] (plc n (row.map (g S)))))]))) := ET.refl.upd (e7 _ _ hro6)
        refine ⟨(e6.trans e7).mut nroH, by rw [upd_ne rar]; exact e7 _ _ hr6, paired_imp (fun _ _ zz => (zz.ex e7).et et) pr6, by rw [upd_ne rom]; exact e7 _ _ hm6, paired_imp (fun _ _ zz => (zz.ex e7).et et) pw6, ?_, _, rfl⟩
        rw [upd_same, List.take_add_one, hpt, List.map_append]
        rfl
      · subst hσ
        have full : (prtT n S (sg[i], ts[i])).take rvs.length = prtT n S (sg[i], ts[i]) := List.take_of_length_le (by unfold prtT; rw [List.length_map, rows_len', lrv]; exact Nat.le_refl _)
        rw [full] at hro6
        refine s_appU hm6 (ev_var rfl) (eu_tupL (K := K) (ev_var rfl) (sq_of hro6)) (by have l1 := paired_len pws; rw [List.length_map, List.length_take, List.length_zip] at l1; omega) fun r2 H7 nr2 e7 hr2 => ?_
        have et : ET K H7 (upd H7 m (.lst (ws ++ [.ref r2]))) := ET.refl.upd (e7 _ _ hm6)
        refine ⟨(e6.trans e7).mut nm, ⟨ws ++ [.ref r2], upd_same, ?_⟩, _, _, _, _, _, rfl⟩
        rw [List.take_add_one, hzip, List.map_append]
        exact paired_snoc' (R := Nats K (upd H7 m (.lst (ws ++ [.ref r2])))) (x := .ref r2) (y := prtT n S (sg[i], ts[i])) ⟨r2, rfl, et _ _ (st_of hr2)⟩ (paired_imp (fun _ _ zz => (zz.ex e7).et et) pw6)
    · subst hσ
      have full : (sg.zip ts).take us.length = sg.zip ts := List.take_of_length_le (by rw [List.length_zip]; omega)
      rw [full] at pws
      refine do_ret (do_tup (do_cons (do_ev (ev_lenL (K := K) (ev_var rfl) (e2 _ _ hx)) fun H3 e3 => do_cons (do_evU (eu_tupL (K := K) (ev_var rfl) (sq_of (e3 _ _ hws))) fun r H4 nr e4 hr4 => ⟨by show 2 ≤ sizeLine; decide, fun r2 nr2 => ?_⟩))))
      have e24 := (e3.trans e4).trans (Ex.new (o := .tup [vi S.length, .ref r]) nr2)
      exact q _ _ (e2.trans e24) ⟨r2, .ref r, rfl, st_of upd_same, r, ws, rfl, st_of (Ex.new nr2 _ _ hr4), paired_imp (fun _ _ zz => Nats.ex e24 zz) pws⟩
def sp_part (K : PySem.W.Frag) : Sp := spX (fun (p : MArg × List Nat) vs H => (∃ u v a, vs = [u, v, .ref a] ∧ MA K H u v p.1 ∧ H a = some (.lst (p.2.map vi))) ∧ MOk p.1 ∧ Up p.1.2.1 p.2 ∧ closed (cwm p.1) p.2 = true ∧ p.2 ≠ []) (fun p v H => Mdl K H v p.2.length (prt p.1 p.2))
theorem c_part (T : Txt mg) (D : Df K mg "part" s_part ["signature", "model", "closed"]) (c_need_model : Cl P w K mg base 7 "need_model" (sp_need_model K)) (c_is_closed : Cl P w K mg base 4 "is_closed" (sp_is_closed K)) (c_part_of : Cl P w K mg base 2 "part_of" (sp_part_of K)) :
    Cl P w K mg base 8 "part" (sp_part K) := by
  refine cl_of (k := 7) D sc_part (fun vs H Q E h => ?_) (fun f cdv A outer s H vs Q E hr h => ?_)
  · obtain ⟨p, ⟨⟨u, v, a, rfl, _⟩, _⟩, _⟩ := h
    rfl
  · obtain ⟨⟨p, S⟩, ⟨⟨u, v, a, rfl, hm, ha⟩, ok, up, cl, ne⟩, q⟩ := h
    refine ⟨_, (pss_cons (ps_expr (pe_cl c_need_model hr (by first | decide | omega) (by rfl) (pa_cons (pv 0) (pa_cons (pv 1) pa_nil))))
      (pss_cons (ps_if (PW.pt (pw_or (pt_cmpR (op_eqD hr.units) (pv 2) (pe_lst pa_nil) (nomark _)) (pw_or1 (pt_not (pt_val (pe_cl c_is_closed hr (by first | decide | omega) (by rfl) (pa_cons (pv 0) (pa_cons (pv 1) (pa_cons (pv 2) pa_nil)))))))))
        (pss_one ps_never)
        pss_nil)
      (pss_one (ps_ret (pe_cl c_part_of hr (by first | decide | omega) (by rfl) (pa_cons (pv 0) (pa_cons (pv 1) (pa_cons (pv 2) pa_nil)))))))), ?_⟩
    replace hm : MA K H u v p := hm
    replace ha : H a = some (.lst (S.map vi)) := ha
    replace ok : MOk p := ok
    replace up : Up p.2.1 S := up
    replace ne : S ≠ [] := ne
    have g := upGd up ok.2.n6
    refine q_drop (v := .non) (ev_callV p (ea_cons (ev_var rfl) (ea_cons (ev_var rfl) ea_nil)) (fun H1 e1 => ⟨⟨_, _, rfl, hm.1.ex e1, hm.2.ex e1⟩, ok.1, ok.2⟩) (fun _ _ p => p)) fun H1 e1 => ?_
    refine q_when (b := false) (et_is (et_or (et_test (ev_eqLN (K := K) (xs := S) (ys := []) (ev_var rfl) (sq_of (e1 _ _ ha)) (el_lst ea_nil (Nat.zero_le _)) g.1 (fun _ h => nomatch h) g.2 (Nat.zero_le _))) (fun _ => et_not (et_val (ev_callV (v := .bl true) (p, S) (ea_cons (ev_var rfl) (ea_cons (ev_var rfl) (ea_cons (ev_var rfl) ea_nil))) (fun H2 e2 => ⟨⟨_, _, _, rfl, hm.ex (e1.trans e2), (e1.trans e2) _ _ ha⟩, ok, up, cl⟩) (fun _ _ z => z))))) (by rw [decide_eq_false ne]; rfl)) (fun hb => by cases hb) (fun _ H2 e2 => ?_)
    refine s_retP (ep_call (p, S) (ea_cons (ev_var rfl) (ea_cons (ev_var rfl) (ea_cons (ev_var rfl) ea_nil))) (fun H3 e3 => ⟨⟨_, _, _, rfl, hm.ex ((e1.trans e2).trans e3), ((e1.trans e2).trans e3) _ _ ha⟩, ok, up, cl⟩)) fun v H3 e3 hv => q v H3 ((e1.trans e2).trans e3) hv
end
end K76
end
section
namespace K76
open PySem PySem.Spec PyProof.Rows L2 Evl RZ Dw M20 M25 CL
theorem Off.seq {K : PySem.W.Frag} {H H' : Hp} {p c l : Addr} {t : Nat} {xs : List V} (o : Off H H' p c) (pu : Pur H p c t) (h1 : l ≠ p) (h2 : l ≠ c) (h : SqL K H l xs ∨ SqT K H l xs) : SqL K H' l xs ∨ SqT K H' l xs := h.imp (o.sql h1 h2) (o.et pu l xs)
section
variable {P : Program} {w : World} {K : PySem.W.Frag} {mg : Str → Option Value} {base : Heap}
/-! ### pick -/
def sp_pick (K : PySem.W.Frag) : Sp := fun vs H Q _ => ∃ (p c : Addr) (t : Nat), Pur H p c t ∧ t ≤ 90000 ∧
  ((∃ z : Str, vs = [.ref p, .str z] ∧ 1 ≤ z.length ∧ z.length ≤ 1000 ∧ ∀ (k d : Nat) H', z.cps[k]? = some d → Off H H' p c → Pur H' p c (t + 1) → Q (.str ⟨#[d]⟩) H') ∨
   (∃ (l : Addr) (xs : List V), vs = [.ref p, .ref l] ∧ (SqL K H l xs ∨ SqT K H l xs) ∧ l ≠ p ∧ l ≠ c ∧ 1 ≤ xs.length ∧ xs.length ≤ 1000 ∧ ∀ (k : Nat) x H', xs[k]? = some x → Off H H' p c → Pur H' p c (t + 1) → Q x H'))
theorem c_pick (T : Txt mg) (D : Df K mg "_law_pick" s_pick ["_law_purse_here", "_law_some"]) (c_draw : Cl P w K mg base 1 "_law_draw" sp_draw) : Cl P w K mg base 2 "_law_pick" (sp_pick K) := by
  refine cl_of (k := 1) D sc_pick (fun vs H Q E h => ?_) (fun f cdv A outer s H vs Q E hr h => ?_)
  · obtain ⟨p, c, t, _, _, ⟨z, rfl, _⟩ | ⟨l, xs, rfl, _⟩⟩ := h <;> rfl
  · obtain ⟨p, c, t, pu, t1, h⟩ := h
    refine ⟨_, (pss_one (ps_ret (pe_ix (ix_or (ix_or ix_tup ix_list) ix_str) (pv 1) (pe_cl c_draw hr (by first | decide | omega) (by rfl) (pa_cons (pv 0) (pa_cons (pe_callB (call_or call_len_seq call_len_str) (by rfl) T.z_len PySem.boot_len (pa_cons (pv 1) pa_nil)) pa_nil))) (fun _ _ => rfl)))), ?_⟩
    rcases h with ⟨z, rfl, z1, z2, q⟩ | ⟨l, xs, rfl, hx, lp, lc, x1, x2, q⟩
    · refine do_ret (do_op (do_ev (ev_var rfl) fun H1 e1 => do_draw (n := z.length) (ev_var rfl) (fun H2 e2 Q2 q2 => ev_var rfl H2 (Ex.refl _) _ fun H3 e3 => .inr ⟨z, rfl, sz_of (by omega), q2 H3 e3⟩) (pu.ex e1) (by omega) z1 z2 fun k H2 hk o2 pu2 => ?_))
      have hz : z.cps[k]? = some z.cps[k] := Array.getElem?_eq_getElem hk
      exact .inr ⟨z, (k : Int), z.cps[k], rfl, rfl, sz_of (by omega), atI_nat (by rw [Array.getElem?_toList]; exact hz), q k _ H2 hz ((Off.of_ex e1).trans o2) pu2⟩
    · refine do_ret (do_op (do_ev (ev_var rfl) fun H1 e1 => do_draw (n := xs.length) (ev_var rfl) (fun H2 e2 Q2 q2 => ev_var rfl H2 (Ex.refl _) _ fun H3 e3 => .inl ⟨l, xs, rfl, hx.imp (ex_l ((e1.trans e2).trans e3)) (ex_t ((e1.trans e2).trans e3)), q2 H3 e3⟩) (pu.ex e1) (by omega) x1 x2 fun k H2 hk o2 pu2 => ?_))
      have hk' : xs[k]? = some xs[k] := List.getElem?_eq_getElem hk
      have o02 := (Off.of_ex e1).trans o2
      have got := q k _ H2 hk' o02 pu2
      rcases o02.seq pu lp lc hx with a | a
      · exact .inl (.inr ⟨l, xs, (k : Int), xs[k], rfl, rfl, a, atI_nat hk', got⟩)
      · exact .inl (.inl ⟨l, xs, (k : Int), xs[k], rfl, rfl, a, atI_nat hk', got⟩)
end
section
variable {K : PySem.W.Frag} {σ : L2.St} {H H' : Hp} {R : V → Hp → Prop} {n m t : Nat} {p c : Addr} {ta : TA} {te : TE}
/-! a new list of things of one kind; a pick out of it -/
def EvAs (R : V → Hp → Prop) (n : Nat) (ta : TA) (σ : L2.St) (H : Hp) : Prop := ∀ H1, Ex H H1 → ∀ Q : List V → Hp → Prop, (∀ vs H2, Ex H1 H2 → vs.length = n → (∀ x ∈ vs, R x H2) → Q vs H2) → ta σ H1 Q
theorem eas_nil : EvAs R 0 tNil σ H := fun H1 _ Q q => q [] H1 (Ex.refl _) rfl (fun x hx => by cases hx)
theorem eas_cons (st : ∀ v H H', Ex H H' → R v H → R v H') (h : EvP te σ H R) (hr : EvAs R n ta σ H) : EvAs R (n + 1) (tCons te ta) σ H := fun H1 e Q q => do_cons (h H1 e _ fun v H2 e2 hv => hr H2 (e.trans e2) _ fun vs H3 e3 ln hvs => q _ H3 (e2.trans e3) (by rw [List.length_cons, ln]) (fun x hx => by
  rcases List.mem_cons.mp hx with z | z
  · rw [z]
    exact st _ _ _ e3 hv
  · exact hvs x z))
def LsR (R : V → Hp → Prop) (p c : Addr) (n : Nat) (v : V) (H : Hp) : Prop := ∃ (l : Addr) (xs : List V), v = .ref l ∧ H l = some (.lst xs) ∧ l ≠ p ∧ l ≠ c ∧ xs.length = n ∧ ∀ x ∈ xs, R x H
theorem LsR.ex (st : ∀ v H H', Ex H H' → R v H → R v H') (e : Ex H H') (h : LsR R p c n v H) : LsR R p c n v H' := let ⟨l, xs, q, hx, a, b, ln, all⟩ := h; ⟨l, xs, q, e _ _ hx, a, b, ln, fun x hx => st _ _ _ e (all x hx)⟩
theorem ep_lstR (st : ∀ v H H', Ex H H' → R v H → R v H') (h : EvAs R n ta σ H) (l : n ≤ 1000) (pu : Pur H p c m) : EvP (tLst ta) σ H (LsR R p c n) := fun H1 e Q q => do_lst (h H1 e _ fun vs H2 e2 ln hv => ⟨sz_of (by omega), fun a na => by
  obtain ⟨ap, ac⟩ := (pu.ex (e.trans e2)).fresh na
  exact q _ _ (e2.trans (Ex.new na)) ⟨a, vs, rfl, upd_same, ap, ac, ln, fun x hx => st _ _ _ (Ex.new na) (hv x hx)⟩⟩)
/-- the one list behind the other -/
theorem ep_catR {t1 t2 : TE} {n1 n2 : Nat} (st : ∀ v H H', Ex H H' → R v H → R v H') (h1 : EvP t1 σ H (LsR R p c n1)) (h2 : EvP t2 σ H (LsR R p c n2)) (l : n1 + n2 ≤ 1000) (pu : Pur H p c m) : EvP (tOp rCat t1 t2) σ H (LsR R p c (n1 + n2)) := fun H1 e Q q => do_op (h1 H1 e _ fun v H2 e2 hv => h2 H2 (e.trans e2) _ fun u H3 e3 hu => by
  obtain ⟨l1, xs, rfl, hx, _, _, ln, all⟩ := LsR.ex st e3 hv
  obtain ⟨l2, ys, rfl, hy, _, _, ln2, all2⟩ := hu
  refine ⟨l1, l2, xs, ys, rfl, rfl, hx, hy, sz_of (by omega), fun r nr => ?_⟩
  obtain ⟨ap, ac⟩ := (pu.ex ((e.trans e2).trans e3)).fresh nr
  refine q _ _ ((e2.trans e3).trans (Ex.new nr)) ⟨r, xs ++ ys, rfl, upd_same, ap, ac, by rw [List.length_append, ln, ln2], fun x hx => ?_⟩
  rcases List.mem_append.mp hx with z | z
  · exact st _ _ _ (Ex.new nr) (all x z)
  · exact st _ _ _ (Ex.new nr) (all2 x z))
/-- a pick out of a list -/
theorem do_pickR {tp tl : TE} {Q : VK} (hp : Ev tp σ H (.ref p)) (pu : Pur H p c t) (l9 : t ≤ 90000) (hl : EvP tl σ H (LsR R p c n)) (n1 : 1 ≤ n) (n2 : n ≤ 1000) (so : ∀ v H2 H', Pur H2 p c t → Off H2 H' p c → R v H2 → R v H')
    (q : ∀ v H', Off H H' p c → Pur H' p c (t + 1) → R v H' → Q v H') : tCall (sp_pick K) [] E0 (tCons tp (tCons tl tNil)) σ H Q :=
  do_cons (hp H (Ex.refl _) _ fun H1 e1 => do_cons (hl H1 e1 _ fun v H2 e2 hv => do_nil (by
    obtain ⟨l, xs, rfl, hx, lp, lc, ln, all⟩ := hv
    have pu2 := pu.ex (e1.trans e2)
    exact ⟨p, c, t, pu2, l9, .inr ⟨l, xs, rfl, .inl (sq_of hx), lp, lc, by omega, by omega, fun k x H3 hk o3 pu3 => q x H3 ((Off.of_ex (e1.trans e2)).trans o3) pu3 (so _ _ _ pu2 o3 (all x (List.mem_of_getElem? hk)))⟩⟩)))
/-- the name's worth set where something is so -/
theorem q_mayset {i : Nat} {C : V → Prop} {v0 : V} {b : Bool} {tt : TT} {tz : TS} {D : Ends} (h : EvT tt σ H b) (hv : C v0) (h0 : σ.set i (some v0) = σ) (he : b = true → ∀ H1, Ex H H1 → EvP te σ H1 (fun v _ => C v)) (k : ∀ v H1, Ex H H1 → C v → tz D (σ.set i (some v)) H1) : tSeq (tIfS tt (tAsg te (gName i)) tNext) tz D σ H :=
  q_when h (fun hb H1 e1 => he hb H1 e1 H1 (Ex.refl _) _ fun v H2 e2 c => k v H2 (e1.trans e2) c) fun _ H1 e1 => by
    have := k v0 H1 e1 hv
    rw [h0] at this
    exact this
end
end K76
end
section
namespace K76
open PySem PySem.Spec PyProof.Rows L2 Evl RZ Dw M20 M25 CL
/-! ### a signature picked -/
def SgV (K : PySem.W.Frag) (v : V) (H : Hp) : Prop := ∃ sg, Sig K H v sg ∧ SigOk sg
theorem SgV.et {K : PySem.W.Frag} {v : V} {H H' : Hp} (e : ET K H H') (h : SgV K v H) : SgV K v H' := let ⟨sg, a, b⟩ := h; ⟨sg, a.et e, b⟩
theorem st_sg {K : PySem.W.Frag} : ∀ v H H', Ex H H' → SgV K v H → SgV K v H' := fun _ _ _ e h => h.et (Dw.Ex.et e)
def sigOkB (sg : List (Str × Nat)) : Bool := decide (1 ≤ sg.length) && decide (sg.length ≤ 4) && sg.all (fun p => decide (1 ≤ p.1.length) && decide (p.1.length ≤ 4) && p.1.cps.toList.all (fun c => decide (c ∈ letters.cps.toList)) && decide (p.2 ≤ 2)) && decide ((sg.map (·.1)).Nodup)
theorem sigOk_of {sg : List (Str × Nat)} (h : sigOkB sg = true) : SigOk sg := by
  unfold sigOkB at h
  simp only [Bool.and_eq_true, decide_eq_true_eq, List.all_eq_true] at h
  obtain ⟨⟨⟨a, b⟩, c⟩, d⟩ := h
  exact ⟨a, b, fun p hp => ⟨(c p hp).1.1.1, (c p hp).1.1.2, (c p hp).1.2⟩, fun p hp => (c p hp).2, d⟩
def EvDs (K : PySem.W.Frag) (sg : List (Str × Nat)) (ta : TA) (σ : L2.St) (H : Hp) : Prop := ∀ H1, Ex H H1 → ∀ Q : List V → Hp → Prop, (∀ vs H2, Ex H1 H2 → Paired (Deed K H2) vs sg → Q vs H2) → ta σ H1 Q
section
variable {K : PySem.W.Frag} {σ : L2.St} {H : Hp} {ta : TA}
theorem eds_nil : EvDs K [] tNil σ H := fun H1 _ Q q => q [] H1 (Ex.refl _) .nil
theorem eds_cons {z : Str} {k : Nat} {sg : List (Str × Nat)} (h : EvDs K sg ta σ H) : EvDs K ((z, k) :: sg) (tCons (tTup (tCons (tC (.str z)) (tCons (tC (.int (k : Int))) tNil))) ta) σ H := fun H1 e Q q =>
  do_cons (tv_tup (K := K) (xs := [.str z, vi k]) (ea_cons ev_c (ea_cons ev_c ea_nil)) (by show 2 ≤ 100000; decide) H1 e _ fun v H2 e2 ⟨b, hv, hb⟩ => h H2 (e.trans e2) _ fun vs H3 e3 hvs => q _ H3 (e2.trans e3) (.cons ⟨b, hv, ex_t e3 hb⟩ hvs))
theorem ep_sgT {sg : List (Str × Nat)} (h : EvDs K sg ta σ H) (l : sg.length ≤ 100000) (ok : sigOkB sg = true) : EvP (tTup ta) σ H (SgV K) := fun H1 e Q q =>
  do_tup (h H1 e _ fun vs H2 e2 hvs => ⟨by rw [paired_len hvs]; exact sz_of l, fun p np => q _ _ (e2.trans (Ex.new np)) ⟨sg, ⟨p, vs, rfl, st_of upd_same, paired_imp (fun _ _ z => Deed.et (Dw.Ex.et (Ex.new np)) z) hvs⟩, sigOk_of ok⟩⟩)
end
section
variable {P : Program} {w : World} {K : PySem.W.Frag} {mg : Str → Option Value} {base : Heap}
def sp_signature (K : PySem.W.Frag) : Sp := fun vs H Q _ => ∃ (p c : Addr) (t : Nat), vs = [.ref p] ∧ Pur H p c t ∧ t ≤ 80000 ∧ ∀ v sg H', Off H H' p c → Pur H' p c (t + 1) → Sig K H' v sg → SigOk sg → Q v H'
/-! ### ways -/
def sp_ways (K : PySem.W.Frag) : Sp := spF (fun (p : Nat × Nat) vs _ => vs = [vi p.2, vi p.1] ∧ p.1 ≤ 6 ∧ p.2 ≤ 4) (fun p v H => RowsL K H v (rows p.1 p.2))
theorem c_ways (T : Txt mg) (D : Df K mg "_law_ways" s_ways ["_law_many", "_law_size"]) : Cl P w K mg base 1 "_law_ways" (sp_ways K) := by
  refine cl_of (k := 0) D sc_ways (fun vs H Q E h => ?_) (fun f cdv A outer s H vs Q E hr h => ?_)
  · obtain ⟨p, ⟨rfl, _⟩, _⟩ := h
    rfl
  · obtain ⟨⟨n, m⟩, ⟨rfl, hn, hm⟩, q⟩ := h
    refine ⟨_, (pss_cons (ps_set (i := 2) sc_ways.nd rfl (.inl rfl) (pe_lst (pa_cons (pe_tup pa_nil) pa_nil)))
      (pss_cons (ps_for PassesOwn.never (by rfl) (pi_range1 (by rfl) T.z_range (pa_cons (pv 0) pa_nil)) (pg_name (i := 3) sc_ways.nd rfl (.inl rfl))
        (pss_cons (ps_set (i := 4) sc_ways.nd rfl (.inl rfl) (pe_lst pa_nil))
        (pss_cons (ps_for PassesOwn.never (by rfl) (pi_list (pv 2)) (pg_name (i := 5) sc_ways.nd rfl (.inr rfl))
          (pss_one (ps_set (i := 4) sc_ways.nd rfl (.inl rfl) (pe_op op_cat (pv 4) (pe_lc (own := [("_law_number", 6)]) (g := (gName 6)) (by rfl) sc_ways.nd (pi_range1 (by rfl) T.z_range (pa_cons (pv 1) pa_nil)) (blkOk_by (own := [("_law_number", 6)]) (N := ["_law_many", "_law_size", "_law_found", "_law_k", "_law_longer", "_law_way_here", "_law_number"]) (sc := (defScope s_ways)) (by decide +kernel)) (fun _ _ _ _ _ => (pg_name (i := 6) sc_ways.nd rfl (.inl rfl))) (fun _ _ _ _ _ => pts_nil) (fun _ _ _ _ _ => (pe_op (op_catAK K) (pv 5) (pe_tup (pa_cons (pv 6) pa_nil)))))))))
        (pss_one (ps_set (i := 2) sc_ways.nd rfl (.inl rfl) (pv 4))))))
      (pss_one (ps_ret (pv 2))))), ?_⟩
    replace hn : n ≤ 6 := hn
    replace hm : m ≤ 4 := hm
    refine do_set (do_lst (do_cons (do_tup (do_nil ⟨Nat.zero_le _, fun r nr => do_nil ⟨by show 1 ≤ sizeLine; decide, fun f0 nf0 => ?_⟩⟩))))
    have e1 : Ex H (upd (upd H r (.tup [])) f0 (.lst [.ref r])) := (Ex.new nr).trans (Ex.new nf0)
    have nfH : H f0 = none := fresh_back (Ex.new nr) nf0
    have hf0 : (upd (upd H r (.tup [])) f0 (.lst [.ref r])) f0 = some (.lst [.ref r]) := upd_same
    have hr0 : (upd (upd H r (.tup [])) f0 (.lst [.ref r])) r = some (.tup []) := Ex.new nf0 _ _ upd_same
    generalize upd (upd H r (.tup [])) f0 (.lst [.ref r]) = H1 at *
    refine q_forR1 (n := (m : Int)) (ea_cons (ev_var rfl) ea_nil) ⟨by omega, by omega⟩ (fun i σ H' => Ex H H' ∧ ∃ (v : V) (y3 y4 y5 : Option V), RowsL K H' v (rows n i) ∧ (∀ d, v = .ref d → H d = none) ∧ σ = [some (vi m), some (vi n), some v, y3, y4, y5, none])
      (fun H2 e2 => ⟨e1.trans e2, .ref f0, none, none, none, ⟨f0, [.ref r], rfl, e2 _ _ hf0, .cons ⟨r, rfl, st_of (e2 _ _ hr0)⟩ .nil⟩, (fun d z => V.ref.inj z ▸ nfH), rfl⟩) (fun i σ H2 hi ⟨e2, v, y3, y4, y5, hv, hnv, hσ⟩ => ?_) (fun σ H2 ⟨e2, v, y3, y4, y5, hv, hnv, hσ⟩ => ?_)
    · subst hσ
      obtain ⟨a, us, rfl, ha, pus⟩ := hv
      have hi' : i < m := by omega
      have li : us.length = n ^ i := by rw [paired_len pus, rows_length]
      have b36 : n ^ i ≤ 216 := by
        have h1 : n ^ i ≤ 6 ^ i := Nat.pow_le_pow_left hn i
        have h2 : 6 ^ i ≤ 6 ^ 3 := Nat.pow_le_pow_right (by decide) (by omega)
        omega
      refine q_asgL (el_lst ea_nil (Nat.zero_le _)) fun lo H3 nlo e3 hlo => ?_
      refine q_forLs (do_ev (ev_var rfl) fun H4 e4 => ⟨a, rfl, ⟨us, sq_of ((e3.trans e4) _ _ ha)⟩, ?_⟩)
      have e24 := e3.trans e4
      refine qloops_list (K := K) (xs := us) (fun j σ H' => Ex H2 H' ∧ ∃ (l : Addr) (ws : List V) (y5 : Option V), H' l = some (.lst ws) ∧ H2 l = none ∧ Paired (Nats K H') ws (((rows n i).take j).flatMap fun r => (List.range n).map fun k => r ++ [k]) ∧ σ = [some (vi m), some (vi n), some (.ref a), some (vi i), some (.ref l), y5, none])
        ⟨e24, lo, [], y5, e4 _ _ hlo, nlo, .nil, rfl⟩ (fun j σ' H' _ ⟨e, _⟩ => sq_of (e _ _ ha)) (fun j x σ' H5 hx ⟨e5, l, ws, y5', hl, nl, pw, hσ⟩ => ?_) (fun σ' H5 ⟨e5, l, ws, y5', hl, nl, pw, hσ⟩ => ?_)
      · subst hσ
        obtain ⟨row, hrow, xa, rfl, hxa⟩ := paired_at pus hx
        have hj := (List.getElem?_eq_some_iff.mp hx).1
        have lr : row.length = i := (rows_of (List.mem_iff_getElem?.mpr ⟨j, hrow⟩)).1
        have lw : ws.length ≤ 216 * 6 := by
          rw [paired_len pw]
          have : ∀ L : List (List Nat), (L.flatMap fun r => (List.range n).map fun k => r ++ [k]).length = L.length * n := fun L => by
            induction L with
            | nil => simp
            | cons r L ih => rw [List.flatMap_cons, List.length_append, ih, List.length_map, List.length_range, List.length_cons, Nat.add_mul, Nat.one_mul, Nat.add_comm]
          rw [this, List.length_take]
          exact Nat.mul_le_mul (by omega) hn
        refine s_asgLP (elp_cat (ta := tVar 4) (ev_var rfl) hl (elp_lcR (n := n) (ea_cons (ev_var rfl) ea_nil) (by omega) (fun _ => true) (fun v k H' => Nats K H' v (row ++ [k])) (stb_nats (K := K) _) (fun _ => rfl) (fun k H6 hk e6 => ⟨et_yes, fun _ => tv_nats (tv_is (tv_cat (tv_ev (ev_var rfl) (ex_t (e5.trans e6) hxa)) (tv_tup (ea_cons (ev_var rfl) ea_nil) (by show 1 ≤ 100000; decide)) (by rw [List.length_map, lr]; show i + 1 ≤ 100000; omega)) (by rw [List.map_append]; rfl))⟩)) (fun ws2 H' p2 => by have := paired_len p2; rw [range_all, List.length_range] at this; omega) (fun ws2 H6 H7 e6 p2 => paired_imp (fun _ _ z => z.ex e6) p2)) fun l2 us2 H6 nl2 e6 hl2 ⟨ws2, hu2, p2⟩ => ?_
        subst hu2
        refine ⟨e5.trans e6, l2, ws ++ ws2, _, hl2, fresh_back e5 nl2, ?_, rfl⟩
        rw [List.take_add_one, hrow, List.flatMap_append]
        rw [range_all] at p2
        show Paired _ _ (_ ++ ([row].flatMap fun r => (List.range n).map fun k => r ++ [k]))
        rw [List.flatMap_singleton]
        exact paired_app (paired_imp (fun _ _ z => z.ex e6) pw) (paired_map (S := Nats K H6) (f := fun k => row ++ [k]) (fun _ _ z => z) p2)
      · subst hσ
        have full : (rows n i).take us.length = rows n i := List.take_of_length_le (by rw [paired_len pus]; exact Nat.le_refl _)
        rw [full] at pw
        refine s_asg (ev_var rfl) fun H6 e6 => ⟨e2.trans (e5.trans e6), .ref l, _, _, _, ⟨l, ws, rfl, e6 _ _ hl, paired_imp (fun _ _ z => z.ex e6) pw⟩, (fun d z => V.ref.inj z ▸ fresh_back e2 nl), rfl⟩
    · subst hσ
      rw [Int.toNat_natCast] at hv
      exact s_ret (ev_var rfl) fun H3 e3 => q _ H3 (e2.trans e3) (hv.ex e3) hnv
end
end K76
end
section
namespace K76
open PySem PySem.Spec PyProof.Rows L2 Evl RZ Dw M20 M25 CL
section
variable {P : Program} {w : World} {K : PySem.W.Frag} {mg : Str → Option Value} {base : Heap}
/-! ### a table -/
theorem tab_of {n pl : Nat} {ks : List Nat} (h1 : ks.length = n ^ pl) (h2 : ∀ k ∈ ks, k < n) : Tab n pl ks := ⟨h1, fun k hk => h2 _ (List.mem_iff_getElem?.mpr ⟨k, g_eq (by rw [h1]; exact hk)⟩)⟩
theorem mem_low {n x : Nat} {row : List Nat} (hx : x < n) (h : ∀ k ∈ row, k < n) : ∀ k ∈ x :: row, k < n := fun k hk => by
  rcases List.mem_cons.mp hk with z | z
  · omega
  · exact h k z
def sp_table (K : PySem.W.Frag) : Sp := fun vs H Q _ => ∃ (p c : Addr) (t n m : Nat), vs = [.ref p, vi m, vi n] ∧ Pur H p c t ∧ t ≤ 80000 ∧ 1 ≤ n ∧ n ≤ 6 ∧ m ≤ 2 ∧ ∀ v tb t' H', Off H H' p c → Pur H' p c t' → t' ≤ t + 100 → Nats K H' v tb → Tab n m tb → Q v H'
theorem c_table (T : Txt mg) (D : Df K mg "_law_table" s_table ["_law_purse_here", "_law_many", "_law_size"]) (c_draw : Cl P w K mg base 1 "_law_draw" sp_draw) (c_ways : Cl P w K mg base 1 "_law_ways" (sp_ways K)) : Cl P w K mg base 2 "_law_table" (sp_table K) := by
  refine cl_of (k := 1) D sc_table (fun vs H Q E h => ?_) (fun f cdv A outer s H vs Q E hr h => ?_)
  · obtain ⟨p, c, t, n, m, rfl, _⟩ := h
    rfl
  · obtain ⟨p, c, t, n, m, rfl, pu, t1, n1, n6, m2, q⟩ := h
    refine ⟨_, (pss_cons (ps_set (i := 3) sc_table.nd rfl (.inl rfl) (pe_cl c_draw hr (by first | decide | omega) (by rfl) (pa_cons (pv 0) (pa_cons pe_int pa_nil))))
      (pss_cons (ps_set (i := 4) sc_table.nd rfl (.inl rfl) (pe_cl c_draw hr (by first | decide | omega) (by rfl) (pa_cons (pv 0) (pa_cons (pv 2) pa_nil))))
      (pss_cons (ps_set (i := 5) sc_table.nd rfl (.inl rfl) (pe_lst pa_nil))
      (pss_cons (ps_for PassesOwn.never (by rfl) (pi_list (pe_cl c_ways hr (by first | decide | omega) (by rfl) (pa_cons (pv 1) (pa_cons (pv 2) pa_nil)))) (pg_name (i := 6) sc_table.nd rfl (.inl rfl))
        (pss_cons (ps_set (i := 7) sc_table.nd rfl (.inl rfl) (pe_cl c_draw hr (by first | decide | omega) (by rfl) (pa_cons (pv 0) (pa_cons (pv 2) pa_nil))))
        (pss_cons (ps_if (pt_cmpR op_eq (pv 3) pe_int (nomark _))
          (pss_one (ps_set (i := 7) sc_table.nd rfl (.inl rfl) (pv 4)))
          pss_nil)
        (pss_cons (ps_if (pt_cmpR op_eq (pv 3) pe_int (nomark _))
          (pss_one (ps_set (i := 7) sc_table.nd rfl (.inl rfl) (pe_op op_mod (pe_op op_add (pe_callB (cr_sumT rfl) (by rfl) T.z_sum (by decide +kernel) (pa_cons (pv 6) pa_nil)) (pv 4)) (pv 2))))
          pss_nil)
        (pss_cons (ps_if (pt_cmpR op_eq (pv 3) pe_int (nomark _))
          (pss_one (ps_set (i := 7) sc_table.nd rfl (.inl rfl) (pe_callB (cr_maxT rfl hr) (by rfl) T.z_max (by decide +kernel) (pa_cons (pe_op op_catA (pe_tup (pa_cons pe_int pa_nil)) (pv 6)) pa_nil))))
          pss_nil)
        (pss_cons (ps_if (pt_cmpR op_eq (pv 3) pe_int (nomark _))
          (pss_one (ps_set (i := 7) sc_table.nd rfl (.inl rfl) (pe_callB (cr_minT rfl hr) (by rfl) T.z_min (by decide +kernel) (pa_cons (pe_op op_catA (pe_tup (pa_cons (pe_op op_sub (pv 2) pe_int) pa_nil)) (pv 6)) pa_nil))))
          pss_nil)
        (pss_cons (ps_if (PW.pt (pw_and (pt_cmpR op_eq (pv 3) pe_int (nomark _)) (pw_and1 (pt_cmpR op_gt (pv 1) pe_int (nomark _)))))
          (pss_one (ps_set (i := 7) sc_table.nd rfl (.inl rfl) (pe_ix ix_tup (pv 6) (pe_un un_neg pe_int) (fun _ _ => rfl))))
          pss_nil)
        (pss_cons (ps_if (pt_cmpR op_eq (pv 3) pe_int (nomark _))
          (pss_one (ps_set (i := 7) sc_table.nd rfl (.inl rfl) (pe_op op_mod (pe_op op_add (pe_op op_mul pe_int (pe_callB (cr_sumT rfl) (by rfl) T.z_sum (by decide +kernel) (pa_cons (pv 6) pa_nil))) (pv 4)) (pv 2))))
          pss_nil)
        (pss_one (ps_expr (pe_bm PySem.F.plainAttrs_list PySem.F.slot_list_append PySem.F.type_list_append mt_append (pv 5) (pa_cons (pv 7) pa_nil))))))))))))
      (pss_one (ps_ret (pe_callTy call_tuple_of (by rfl) T.z_tuple (by decide +kernel) (pa_cons (pv 5) pa_nil)))))))), ?_⟩
    refine do_set (do_draw (ev_var rfl) (ev_c (v := vi 8)) pu (by omega) (by decide) (by decide) fun wy H1 hw o1 pu1 => ?_)
    refine do_set (do_draw (ev_var rfl) (ev_var rfl) pu1 (by omega) n1 (by omega) fun b H2 hb o2 pu2 => ?_)
    have o02 := o1.trans o2
    refine q_asgL (el_lst ea_nil (Nat.zero_le _)) fun fo H3 nfo e3 hfo => ?_
    have pu3 := pu2.ex e3
    obtain ⟨fp, fc⟩ := pu2.fresh nfo
    refine q_forLs (ea_cons (ev_var rfl) (ea_cons (ev_var rfl) ea_nil) H3 (Ex.refl _) _ fun H4 e4 => ⟨(n, m), ⟨rfl, n6, by show m ≤ 4; omega⟩, fun v H5 e5 ⟨ra, rvs, hra, hrl, prs⟩ nra => ⟨ra, hra, ⟨rvs, sq_of hrl⟩, ?_⟩⟩)
    subst hra
    have e35 := e4.trans e5
    replace prs : Paired (Nats K H5) rvs (rows n m) := prs
    have lrv := paired_len prs
    rw [rows_len'] at lrv
    have big := pow_36 n6 m2
    have nra4 := nra _ rfl
    have raf : ra ≠ fo := fun z => by rw [z, e4 _ _ hfo] at nra4; cases nra4
    have pu5 := pu3.ex e35
    obtain ⟨rp, rc⟩ := (pu3.ex e4).fresh nra4
    have nfoH : H fo = none := o02.back fp fc nfo
    have o05 : Off H H5 p c := o02.trans (.of_ex (e3.trans e35))
    refine qloops_list (K := K) (xs := rvs) (fun j σ H' => Off H H' p c ∧ Pur H' p c (t + 2 + j) ∧ H' ra = some (.lst rvs) ∧ (∃ ks : List Nat, H' fo = some (.lst (ks.map vi)) ∧ ks.length = j ∧ ∀ k ∈ ks, k < n) ∧ Paired (Nats K H') rvs (rows n m) ∧ ∃ y6 y7, σ = [some (.ref p), some (vi m), some (vi n), some (vi wy), some (vi b), some (.ref fo), y6, y7])
      ⟨o05, pu5, hrl, ⟨[], e35 _ _ hfo, rfl, fun _ z => nomatch z⟩, prs, none, none, rfl⟩ (fun j σ' H' _ ⟨_, _, hr, _⟩ => sq_of hr) (fun j x σ' H6 hx ⟨o6, pu6, hr6, ⟨ks, hks, lks, low⟩, pr6, y6, y7, hσ⟩ => ?_) (fun σ' H6 ⟨o6, pu6, hr6, ⟨ks, hks, lks, low⟩, pr6, y6, y7, hσ⟩ => ?_)
    · subst hσ
      obtain ⟨row, hrow, xa, rfl, hxa⟩ := paired_at pr6 hx
      obtain ⟨lr, rl⟩ := rows_of (List.mem_iff_getElem?.mpr ⟨j, hrow⟩)
      have hj := (List.getElem?_eq_some_iff.mp hx).1
      show tSeq _ _ _ [some (.ref p), some (vi m), some (vi n), some (vi wy), some (vi b), some (.ref fo), some (.ref xa), y7] H6
      refine do_set (do_draw (ev_var rfl) (ev_var rfl) pu6 (by omega) n1 (by omega) fun w0 H7 hw0 o7 pu7 => ?_)
      show tSeq _ _ _ [some (.ref p), some (vi m), some (vi n), some (vi wy), some (vi b), some (.ref fo), some (.ref xa), some (vi w0)] H7
      have hxa7 : SqT K H7 xa (row.map vi) := o7.et pu6 _ _ hxa
      refine q_mayset (C := fun v => ∃ k, k < n ∧ v = vi k) (et_test (ev_op (ev_var rfl) ev_c (rv_eq rfl))) ⟨w0, hw0, rfl⟩ rfl (fun _ H8 e8 => ep_ev (ev_var rfl) fun _ _ => ⟨b, hb, rfl⟩) fun v1 H8 e8 ⟨w1, hw1, hv1⟩ => ?_
      subst hv1
      have sumE : ∀ (v : Option V) H9, Ex H7 H9 → Ev (tCB (rSumT K) (tCons (tVar 6) tNil)) [some (.ref p), some (vi m), some (vi n), some (vi wy), some (vi b), some (.ref fo), some (.ref xa), v] H9 (vi row.sum) := fun v H9 e9 => ep_sumT (P := fun v H' => Nats K H' v row) (ep_ev (ev_var rfl) fun H1 e => ⟨xa, rfl, ex_t (e9.trans e) hxa7⟩) (fun _ _ h => h)
      show tSeq _ _ _ [some (.ref p), some (vi m), some (vi n), some (vi wy), some (vi b), some (.ref fo), some (.ref xa), some (vi w1)] H8
      refine q_mayset (C := fun v => ∃ k, k < n ∧ v = vi k) (et_test (ev_op (ev_var rfl) ev_c (rv_eq rfl))) ⟨w1, hw1, rfl⟩ rfl (fun _ H9 e9 => ep_ev (ev_modM (ev_addM (sumE _ H9 (e8.trans e9)) (ev_var rfl)) (ev_var rfl) n1) fun _ _ => ⟨_, Nat.mod_lt _ n1, rfl⟩) fun v2 H9 e9 ⟨w2, hw2, hv2⟩ => ?_
      subst hv2
      show tSeq _ _ _ [some (.ref p), some (vi m), some (vi n), some (vi wy), some (vi b), some (.ref fo), some (.ref xa), some (vi w2)] H9
      have e79 := e8.trans e9
      refine q_mayset (C := fun v => ∃ k, k < n ∧ v = vi k) (et_test (ev_op (ev_var rfl) ev_c (rv_eq rfl))) ⟨w2, hw2, rfl⟩ rfl (fun _ Ha ea => (ep_maxT (K := K) (ns := 0 :: row) (tv_nats (tv_is (tv_cat (tv_tup (xs := [vi 0]) (ea_cons ev_c ea_nil) (by show 1 ≤ 100000; decide)) (tv_ev (ev_var rfl) (ex_t (e79.trans ea) hxa7)) (by rw [List.length_map, lr]; show 1 + m ≤ 100000; omega)) rfl)) (by simp)).imp fun v H' _ ⟨k, hk, hv⟩ => ⟨k, mem_low n1 rl k hk, hv⟩) fun v3 Ha ea ⟨w3, hw3, hv3⟩ => ?_
      subst hv3
      show tSeq _ _ _ [some (.ref p), some (vi m), some (vi n), some (vi wy), some (vi b), some (.ref fo), some (.ref xa), some (vi w3)] Ha
      have e7a := e79.trans ea
      refine q_mayset (C := fun v => ∃ k, k < n ∧ v = vi k) (et_test (ev_op (ev_var rfl) ev_c (rv_eq rfl))) ⟨w3, hw3, rfl⟩ rfl (fun _ Hb eb => (ep_minT (K := K) (ns := (n - 1) :: row) (tv_nats (tv_is (tv_cat (tv_tup (xs := [vi (n - 1)]) (ea_cons (ev_subM (b := 1) (ev_var rfl) ev_c n1) ea_nil) (by show 1 ≤ 100000; decide)) (tv_ev (ev_var rfl) (ex_t (e7a.trans eb) hxa7)) (by rw [List.length_map, lr]; show 1 + m ≤ 100000; omega)) rfl)) (by simp)).imp fun v H' _ ⟨k, hk, hv⟩ => ⟨k, mem_low (by omega) rl k hk, hv⟩) fun v4 Hb eb ⟨w4, hw4, hv4⟩ => ?_
      subst hv4
      show tSeq _ _ _ [some (.ref p), some (vi m), some (vi n), some (vi wy), some (vi b), some (.ref fo), some (.ref xa), some (vi w4)] Hb
      have e7b := e7a.trans eb
      refine q_mayset (C := fun v => ∃ k, k < n ∧ v = vi k) (et_and (et_test (ev_op (ev_var rfl) ev_c (rv_eq rfl))) (fun _ => et_test (ev_op (ev_var rfl) ev_c rv_I0))) ⟨w4, hw4, rfl⟩ rfl (fun hbb Hc ec => ?_) fun v5 Hc ec ⟨w5, hw5, hv5⟩ => ?_
      · rw [Bool.and_eq_true] at hbb
        have m0 : 0 < m := by
          have := of_decide_eq_true hbb.2
          omega
        have ne : row ≠ [] := fun z => by rw [z] at lr; have : (0 : Nat) = m := lr; omega
        have eL : row.map vi = (row.dropLast.map vi) ++ [vi (row.getLast ne)] := by
          conv => lhs; rw [← List.dropLast_concat_getLast ne, List.map_append]
          rfl
        exact ep_ev (ev_op (ev_var rfl) (ev_un ev_c ru_neg) (rv_ixT (K := K) (ex_t (e7b.trans ec) hxa7) (by rw [eL]; exact atI_last _ _))) fun _ _ => ⟨_, rl _ (List.getLast_mem ne), rfl⟩
      subst hv5
      show tSeq _ _ _ [some (.ref p), some (vi m), some (vi n), some (vi wy), some (vi b), some (.ref fo), some (.ref xa), some (vi w5)] Hc
      have e7c := e7b.trans ec
      refine q_mayset (C := fun v => ∃ k, k < n ∧ v = vi k) (et_test (ev_op (ev_var rfl) ev_c (rv_eq rfl))) ⟨w5, hw5, rfl⟩ rfl (fun _ Hd ed => ep_ev (ev_modM (ev_addM (ev_mulM (a := 2) ev_c (sumE _ Hd (e7c.trans ed)) (by decide)) (ev_var rfl)) (ev_var rfl) n1) fun _ _ => ⟨_, Nat.mod_lt _ n1, rfl⟩) fun v6 Hd ed ⟨w6, hw6, hv6⟩ => ?_
      subst hv6
      show tDrop _ _ [some (.ref p), some (vi m), some (vi n), some (vi wy), some (vi b), some (.ref fo), some (.ref xa), some (vi w6)] Hd
      have e7d := e7c.trans ed
      have fo7 := o7 _ _ fp fc hks
      refine s_app (e7d _ _ fo7) (ev_var rfl) (ev_var rfl) (by rw [List.length_map]; omega) fun He ee => ?_
      have e7e := e7d.trans ee
      have o6e : Off H6 He p c := o7.trans (.of_ex e7e)
      have et : ET K He (upd He fo (.lst (ks.map vi ++ [vi w6]))) := ET.refl.upd (e7e _ _ fo7)
      refine ⟨(o6.trans o6e).upd nfoH, (pu7.ex e7e).upd fp fc, by rw [upd_ne raf]; exact o6e _ _ rp rc hr6, ⟨ks ++ [w6], by rw [upd_same, List.map_append]; rfl, by rw [List.length_append, lks]; rfl, fun k hk => ?_⟩, paired_imp (fun _ _ z => z.et ((o6e.et pu6).trans et)) pr6, _, _, rfl⟩
      rcases List.mem_append.mp hk with z | z
      · exact low k z
      · rw [List.mem_singleton.mp z]; exact hw6
    · subst hσ
      refine s_retU (eu_tupL (K := K) (ev_var rfl) (sq_of hks)) fun r H7 nr e7 hr7 => q _ ks _ H7 (o6.trans (.of_ex e7)) (pu6.ex e7) (by rw [lrv]; omega) ⟨r, rfl, st_of hr7⟩ (tab_of (by rw [lks, lrv]) low)
/-! ### a model drawn -/
def sp_model (K : PySem.W.Frag) : Sp := fun vs H Q _ => ∃ (p c : Addr) (t n : Nat) (u : V) (sg : List (Str × Nat)), vs = [.ref p, u, vi n] ∧ Pur H p c t ∧ t ≤ 70000 ∧ 1 ≤ n ∧ n ≤ 6 ∧ Sig K H u sg ∧ SigOk sg ∧ ∀ v ts t' H', Off H H' p c → Pur H' p c t' → t' ≤ t + 400 → Mdl K H' v n ts → MdlOk sg n ts → Q v H'
theorem c_model (T : Txt mg) (D : Df K mg "_law_model" s_mdl ["_law_purse_here", "_law_signature_here", "_law_size"]) (c_table : Cl P w K mg base 2 "_law_table" (sp_table K)) : Cl P w K mg base 3 "_law_model" (sp_model K) := by
  refine cl_of (k := 2) D sc_mdl (fun vs H Q E h => ?_) (fun f cdv A outer s H vs Q E hr h => ?_)
  · obtain ⟨p, c, t, n, u, sg, rfl, _⟩ := h
    rfl
  · obtain ⟨p, c, t, n, u, sg, rfl, pu, t1, n1, n6, hG, sok, q⟩ := h
    refine ⟨_, (pss_one (ps_ret (pe_tup (pa_cons (pv 2) (pa_cons (pe_callTy call_tuple_of (by rfl) T.z_tuple (by decide +kernel) (pa_cons (pe_lc (own := [("_law_name", 3), ("_law_many", 4)]) (g := (gTup _ 2 (gCons (gName 3) (gCons (gName 4) gNil)))) (by rfl) sc_mdl.nd (pi_tup (pv 1)) (blkOk_by (own := [("_law_name", 3), ("_law_many", 4)]) (N := ["_law_purse_here", "_law_signature_here", "_law_size", "_law_name", "_law_many"]) (sc := (defScope s_mdl)) (by decide +kernel)) (fun _ _ _ _ _ => (pg_tup (by rfl) (pgs_cons (pg_name (i := 3) sc_mdl.nd rfl (.inl rfl)) (pgs_cons (pg_name (i := 4) sc_mdl.nd rfl (.inl rfl)) pgs_nil)))) (fun _ _ _ _ _ => pts_nil) (fun _ _ _ _ _ => (pe_cl c_table hr (by first | decide | omega) (by rfl) (pa_cons (pv 0) (pa_cons (pv 4) (pa_cons (pv 2) pa_nil)))))) pa_nil)) pa_nil))))), ?_⟩
    obtain ⟨a, us, rfl, hS, hP⟩ := id hG
    have lS : us.length = sg.length := paired_len hP
    have l4 := sok.l4
    refine do_ret (do_tup (do_cons (do_ev (ev_var rfl) fun H1 e1 => do_cons (do_cb (do_cons ?_)))))
    have hS1 : SqT K H1 a us := ex_t e1 hS
    have pu1 := pu.ex e1
    refine do_lcIt walk_tup (fun R r => w_tup (K := K) (ev_var rfl) hS1 H1 (Ex.refl _) R r) (fun Dl i H' => H1 Dl = none ∧ Off H1 H' p c ∧ (∃ t', Pur H' p c t' ∧ t' ≤ t + 100 * i) ∧ ∃ ws ts, H' Dl = some (.lst ws) ∧ Paired (Nats K H') ws ts ∧ ts.length = i ∧ ∀ (j : Nat) d tb, sg[j]? = some d → ts[j]? = some tb → Tab n d.2 tb)
      (fun Dl H2 e2 nD => ⟨fresh_back e2 nD, .of_ex (e2.trans (Ex.new nD)), ⟨t, pu1.ex (e2.trans (Ex.new nD)), by omega⟩, [], [], upd_same, .nil, rfl, fun j d tb _ h2 => by rw [List.getElem?_nil] at h2; cases h2⟩) (fun Dl i H' _ ⟨_, o, _⟩ => o.et pu1 _ _ hS1) (fun Dl i x H2 H3 hi ⟨nD, o2, ⟨t', pu2, lt'⟩, ws, ts, hws, pws, lts, tabs⟩ y => ?_) (fun Dl H2 ⟨nD, o2, ⟨t', pu2, lt'⟩, ws, ts, hws, pws, lts, tabs⟩ => ?_)
    · obtain ⟨rfl, hx⟩ := y
      have hi2 : i < sg.length := by rw [← lS]; exact hi
      obtain ⟨x', ex', b, hb, db⟩ := paired_get hP (List.getElem?_eq_getElem hi2)
      have : x' = x := Option.some.inj (ex'.symm.trans hx)
      subst this
      subst hb
      obtain ⟨Dp1, Dc1⟩ := pu1.fresh nD
      have db3 : SqT K H3 b [.str sg[i].1, vi sg[i].2] := o2.et pu1 _ _ (ex_t e1 db)
      refine ⟨b, _, rfl, db3, rfl, _, _, rfl, _, _, rfl, rfl, rfl, iteT ?_⟩
      refine ea_cons (ev_var rfl) (ea_cons (ev_var rfl) (ea_cons (ev_var rfl) ea_nil)) H3 (Ex.refl H3) _ fun H4 e4 => ⟨p, c, t', n, sg[i].2, rfl, pu2.ex e4, by omega, n1, n6, sok.pl _ (List.getElem_mem hi2), fun v tb t2 H5 o5 pu5 l5 nt tt => ?_⟩
      have o35 : Off H3 H5 p c := (Off.of_ex e4).trans o5
      have hws5 : H5 Dl = some (.lst ws) := o35 _ _ Dp1 Dc1 hws
      have lw : ws.length = i := by rw [paired_len pws, lts]
      have et : ET K H5 (upd H5 Dl (.lst (ws ++ [v]))) := ET.refl.upd hws5
      refine ⟨ws, hws5, sz_lt (by omega), nD, (o2.trans o35).upd nD, ⟨t2, pu5.upd Dp1 Dc1, by omega⟩, ws ++ [v], ts ++ [tb], upd_same, paired_snoc (nt.et et) (paired_imp (fun _ _ z => z.et ((o35.et pu2).trans et)) pws), by rw [List.length_append, lts]; rfl, fun j d tb' h1 h2 => ?_⟩
      by_cases hj : j < ts.length
      · rw [List.getElem?_append_left hj] at h2
        exact tabs j d tb' h1 h2
      · have hj2 : j < (ts ++ [tb]).length := (List.getElem?_eq_some_iff.mp h2).1
        rw [List.length_append, List.length_singleton] at hj2
        have ej : j = ts.length := by omega
        subst ej
        rw [List.getElem?_append_right (Nat.le_refl _), Nat.sub_self] at h2
        cases Option.some.inj h2
        rw [lts, List.getElem?_eq_getElem hi2] at h1
        cases Option.some.inj h1
        exact tt
    · refine ⟨Dl, ws, rfl, .inl ⟨sq_of hws, fun r nr => ⟨by show 2 ≤ sizeLine; decide, fun m nm => ?_⟩⟩⟩
      have e24 : Ex H2 (upd (upd H2 r (.tup ws)) m (.tup [vi n, .ref r])) := (Ex.new nr).trans (Ex.new nm)
      refine q _ ts t' _ (((Off.of_ex e1).trans o2).trans (.of_ex e24)) (pu2.ex e24) (by omega) ⟨m, .ref r, rfl, st_of upd_same, r, ws, rfl, st_of (Ex.new nm _ _ upd_same), paired_imp (fun _ _ z => z.ex e24) pws⟩ ?_
      exact { len := by rw [lts, lS], n1 := n1, n6 := n6, tab := fun i h1 h2 => tabs i _ _ (List.getElem?_eq_getElem h1) (List.getElem?_eq_getElem h2) }
end
end K76
end
section
namespace K76
open PySem PySem.Spec PyProof.Rows L2 Evl RZ Dw M20 M25 CL
section
variable {P : Program} {w : World} {K : PySem.W.Frag} {mg : Str → Option Value} {base : Heap}
/-! ### what a cell comes to -/
/-! ### all cells of a signature -/
def allc (n : Nat) (sg : List (Str × Nat)) : List (Str × List Nat) := sg.flatMap fun d => (rows n d.2).map fun r => (d.1, r)
abbrev Fnd := Int × Nat × Str × List Nat
def FndV (K : PySem.W.Frag) (v : V) (c : Fnd) (H : Hp) : Prop := ∃ b x, v = .ref b ∧ SqT K H b [.int c.1, vi c.2.1, x, .str c.2.2.1] ∧ Nats K H x c.2.2.2
theorem FndV.et {v : V} {c : Fnd} {H H' : Hp} (e : ET K H H') (h : FndV K v c H) : FndV K v c H' := let ⟨b, x, q, s, n⟩ := h; ⟨b, x, q, e _ _ s, n.et e⟩
def dF (c : Fnd) : PyData := .tuple [.int c.1, .int (c.2.1 : Int), dN c.2.2.2, .str c.2.2.1]
theorem FndV.dp {v : V} {c : Fnd} {H : Hp} (h : FndV K v c H) : Dp K H v (dF c) := let ⟨b, x, q, s, n⟩ := h; by
  subst q
  exact .tup s (.cons (.int _) (.cons (.int _) (.cons n.dp (.cons (.str _) .nil))))
def ArgV (K : PySem.W.Frag) (H : Hp) (v : V) (c : Str × List Nat) : Prop := ∃ b x, v = .ref b ∧ SqT K H b [.str c.1, x] ∧ Nats K H x c.2
theorem ArgV.et {v : V} {c : Str × List Nat} {H H' : Hp} (e : ET K H H') (h : ArgV K H v c) : ArgV K H' v c := let ⟨b, x, q, s, n⟩ := h; ⟨b, x, q, e _ _ s, n.et e⟩
theorem allc_few {n : Nat} {sg : List (Str × Nat)} (n6 : n ≤ 6) (so : SigOk sg) (i : Nat) : (allc n (sg.take i)).length ≤ 144 := by
  have one : ∀ l : List (Str × Nat), (∀ d ∈ l, d.2 ≤ 2) → (allc n l).length ≤ 36 * l.length := fun l => by
    induction l with
    | nil => exact fun _ => Nat.zero_le _
    | cons d l ih =>
      intro h
      have a := ih fun x hx => h x (List.mem_cons_of_mem _ hx)
      have b := pow_36 n6 (h d (List.mem_cons_self ..))
      unfold allc at a ⊢
      rw [List.flatMap_cons, List.length_append, List.length_map, rows_len', List.length_cons]
      omega
  have a := one (sg.take i) fun d hd => so.pl d (List.mem_of_mem_take hd)
  have l4 := so.l4
  have lt : (sg.take i).length ≤ 4 := by rw [List.length_take]; omega
  exact Nat.le_trans a (Nat.mul_le_mul_left 36 lt)
end
end K76
end
section
namespace K76
open PySem PySem.Spec PyProof.Rows L2 Evl RZ Dw M20 M25 CL PySem.W
section
variable {P : Program} {w : World} {K : PySem.W.Frag} {mg : Str → Option Value} {base : Heap}
/-! ### closed, as the law looks -/
end
end K76
end
section
namespace K76
open PySem PySem.Spec PyProof.Rows L2 Evl RZ Dw M20 M25 CL
section
variable {P : Program} {w : World} {K : PySem.W.Frag} {mg : Str → Option Value} {base : Heap}
theorem sig_at {p : MArg} (ok : MOk p) {c : Str × List Nat} (h : c ∈ allc p.2.1 p.1) : ∃ (i : Nat) (d : Str × Nat), p.1[i]? = some d ∧ c.1 = d.1 ∧ c.2 ∈ rows p.2.1 d.2 := by
  unfold allc at h
  obtain ⟨d, hd, hc⟩ := List.mem_flatMap.mp h
  obtain ⟨i, hi⟩ := List.mem_iff_getElem?.mp hd
  obtain ⟨r, hr, rfl⟩ := List.mem_map.mp hc
  exact ⟨i, d, hi, rfl, hr⟩
theorem sig_one {p : MArg} (ok : MOk p) {i j : Nat} {d e : Str × Nat} (hi : p.1[i]? = some d) (hj : p.1[j]? = some e) (h : d.1 = e.1) : i = j ∧ d = e := by
  obtain ⟨il, ed⟩ := List.getElem?_eq_some_iff.mp hi
  obtain ⟨jl, ee⟩ := List.getElem?_eq_some_iff.mp hj
  have : i = j := (List.getElem_inj (h₀ := by rw [List.length_map]; exact il) (h₁ := by rw [List.length_map]; exact jl) ok.1.nd).mp (by rw [List.getElem_map, List.getElem_map, ed, ee]; exact h)
  subst this
  exact ⟨rfl, by rw [← ed, ← ee]⟩
/-! ### all lists of numbers, sorted -/
end
end K76
end
section
namespace K76
open PySem PySem.Spec PyProof.Rows L2 Evl RZ Dw M20 M25 CL
section
variable {P : Program} {w : World} {K : PySem.W.Frag} {mg : Str → Option Value} {base : Heap}
/-! ### the least of them about some numbers -/
theorem clsd_mem {p : MArg} {S : List Nat} : S ∈ clsd p ↔ Up p.2.1 S ∧ closed (cwm p) S = true := by
  unfold clsd
  rw [List.mem_filter, srt_mem]
  exact ⟨fun h => ⟨sub_up h.1, h.2⟩, fun h => ⟨up_sub h.1, h.2⟩⟩
/-! ### the part, as the law makes it -/
/-! ### something put behind a list -/
end
end K76
end
section
namespace K76
open PySem PySem.Spec PyProof.Rows L2 Evl RZ Dw M20 M25 CL LD
/-! ### the table of a deed -/
def tbOf : List (Str × Nat) → List (List Nat) → Str → List Nat
  | d :: sg, tb :: tbs, f => if d.1 = f then tb else tbOf sg tbs f
  | _, _, _ => []
theorem tbOf_at : ∀ {sg : List (Str × Nat)} {tbs : List (List Nat)} {f : Str} {i : Nat} (h1 : i < sg.length) (h2 : i < tbs.length), sg[i].1 = f → (∀ j (h : j < sg.length), j < i → sg[j].1 ≠ f) → tbOf sg tbs f = tbs[i]
  | d :: sg, tb :: tbs, f, 0, _, _, e, _ => by
    rw [tbOf, if_pos (show d.1 = f from e)]
    rfl
  | d :: sg, tb :: tbs, f, i + 1, h1, h2, e, no => by
    rw [tbOf, if_neg (show ¬ d.1 = f from no 0 (Nat.zero_lt_succ _) (Nat.zero_lt_succ _))]
    exact tbOf_at (sg := sg) (tbs := tbs) (i := i) (Nat.lt_of_succ_lt_succ h1) (Nat.lt_of_succ_lt_succ h2) e fun j h lt => no (j + 1) (Nat.succ_lt_succ h) (Nat.succ_lt_succ lt)
section
variable {P : Program} {w : World} {K : PySem.W.Frag} {mg : Str → Option Value} {base : Heap}
def sp_table_of (K : PySem.W.Frag) : Sp := spX (fun (p : List (Str × Nat) × Nat × List (List Nat) × Str × Nat) vs H => (∃ u v, vs = [u, v, .str p.2.2.2.1] ∧ Sig K H u p.1 ∧ Tabs K H v p.2.2.1) ∧ p.2.2.1.length = p.1.length ∧ (p.2.2.2.1, p.2.2.2.2) ∈ p.1) (fun p v H => Nats K H v (tbOf p.1 p.2.2.1 p.2.2.2.1))
theorem c_table_of (T : Txt mg) (D : Df K mg "table_of" s_table_of ["signature", "tables", "name"]) : Cl P w K mg base 1 "table_of" (sp_table_of K) := by
  refine cl_of (k := 0) D sc_table_of (fun vs H Q E h => ?_) (fun f cdv A outer s H vs Q E hr h => ?_)
  · obtain ⟨p, ⟨⟨u, v, rfl, _⟩, _⟩, _⟩ := h
    rfl
  · obtain ⟨⟨sg, n, tbs, f, k⟩, ⟨⟨u, v, rfl, hG, hT⟩, lM, mem⟩, q⟩ := h
    refine ⟨_, (pss_cons (ps_for PassesOwn.never (by rfl) (pi_zipA (by rfl) T.z_zip (pa_cons (pv 0) (pa_cons (pv 1) pa_nil))) (pg_tup (by rfl) (pgs_cons (pg_name (i := 3) sc_table_of.nd rfl (.inl rfl)) (pgs_cons (pg_name (i := 4) sc_table_of.nd rfl (.inl rfl)) pgs_nil)))
        (pss_one (ps_if (pt_cmpR op_eq (pe_ix ix_tup (pv 3) pe_int (fun _ _ => rfl)) (pv 2) (nomark _))
          (pss_one (ps_ret (pv 4)))
          pss_nil)))
      (pss_one (ps_ret pe_non))), ?_⟩
    replace lM : tbs.length = sg.length := lM
    replace mem : (f, k) ∈ sg := mem
    obtain ⟨a, us, rfl, hS, hP⟩ := id hG
    obtain ⟨b, tvs, rfl, hB, hR⟩ := id hT
    replace hP : Paired (Deed K H) us sg := hP
    replace hR : Paired (Nats K H) tvs tbs := hR
    have lS : us.length = sg.length := paired_len hP
    have lT : tvs.length = tbs.length := paired_len hR
    refine q_zipT (ea_cons (ev_var rfl) (ea_cons (ev_var rfl) ea_nil)) hS hB (by rw [lS, lT, lM]) (fun i σ H' => Ex H H' ∧ (∀ j (h : j < sg.length), j < i → sg[j].1 ≠ f) ∧ ∃ y3 y4, σ = [some (.ref a), some (.ref b), some (.str f), y3, y4])
      (fun H2 e2 => ⟨e2, fun j _ z => absurd z (Nat.not_lt_zero _), none, none, rfl⟩) (fun i σ H' _ ⟨e, _⟩ => ⟨ex_t e hS, ex_t e hB⟩) (fun i d tv p σ H2 hd ht hPv np => ?_) (fun σ H2 hPv => ?_)
    · obtain ⟨e2, no, y3, y4, hσ⟩ := hPv
      subst hσ
      have hi : i < sg.length := by rw [← lS]; exact (List.getElem?_eq_some_iff.mp hd).1
      have hi2 : i < tbs.length := by rw [lM]; exact hi
      obtain ⟨d', ed', c, hc, dc⟩ := paired_get hP (List.getElem?_eq_getElem hi)
      have : d' = d := Option.some.inj (ed'.symm.trans hd)
      subst this
      subst hc
      obtain ⟨t', et', nt⟩ := paired_get hR (List.getElem?_eq_getElem hi2)
      have : t' = tv := Option.some.inj (et'.symm.trans ht)
      subst this
      have e3 : Ex H2 (upd H2 p (.tup [.ref c, t'])) := Ex.new np
      have e03 : Ex H (upd H2 p (.tup [.ref c, t'])) := e2.trans e3
      refine ⟨p, _, rfl, st_of upd_same, rfl, _, _, rfl, _, _, rfl, rfl, ?_⟩
      show tIfS _ _ _ _ [some (.ref a), some (.ref b), some (.str f), some (.ref c), some t'] (upd H2 p (.tup [.ref c, t']))
      refine s_when (et_test (ev_op (ev_op (ev_var rfl) ev_c (rv_ixT (K := K) (ex_t e03 dc) (atI_vi (k := 0) rfl))) (ev_var rfl) (rv_eq rfl))) (fun hb H4 e4 => ?_) (fun hb H4 e4 => ?_)
      · have isF : sg[i].1 = f := V.str.inj (of_decide_eq_true hb)
        refine s_ret (ev_var rfl) fun H5 e5 => q _ H5 (e03.trans (e4.trans e5)) ?_
        show Nats K H5 t' (tbOf sg tbs f)
        rw [tbOf_at hi hi2 isF no]
        exact nt.ex (e03.trans (e4.trans e5))
      · have notF : sg[i].1 ≠ f := fun z => by
          rw [z] at hb
          exact absurd rfl (of_decide_eq_false hb)
        refine ⟨e03.trans e4, fun j h lt => ?_, _, _, rfl⟩
        by_cases e : j < i
        · exact no j h e
        · have : j = i := by omega
          subst this
          exact notF
    · obtain ⟨e2, no, y3, y4, hσ⟩ := hPv
      obtain ⟨i, hi⟩ := List.mem_iff_getElem?.mp mem
      have il : i < sg.length := (List.getElem?_eq_some_iff.mp hi).1
      rw [List.getElem?_eq_getElem il] at hi
      exact absurd (by rw [Option.some.inj hi]) (no i il (by rw [lS]; exact il))
/-! ### leads -/
def sp_need_two (K : PySem.W.Frag) : Sp := spX (fun (p : MArg × MArg) vs H => (∃ u v w, vs = [u, v, w] ∧ MA K H u v p.1 ∧ Mdl K H w p.2.2.1 p.2.2.2) ∧ MOk p.1 ∧ MOk p.2 ∧ p.2.1 = p.1.1) (fun _ v _ => v = .non)
theorem c_need_two_models (T : Txt mg) (D : Df K mg "need_two_models" s_need_two_models ["signature", "one", "other"]) (c_need_model : Cl P w K mg base 7 "need_model" (sp_need_model K)) : Cl P w K mg base 8 "need_two_models" (sp_need_two K) := by
  refine cl_of (k := 7) D sc_need_two_models (fun vs H Q E h => ?_) (fun f cdv A outer s H vs Q E hr h => ?_)
  · obtain ⟨p, ⟨⟨u, v, w, rfl, _⟩, _⟩, _⟩ := h
    rfl
  · obtain ⟨⟨p, p2⟩, ⟨⟨u, v, w, rfl, hm, hw⟩, ok, ok2, es⟩, q⟩ := h
    refine ⟨_, (pss_cons (ps_expr (pe_cl c_need_model hr (by first | decide | omega) (by rfl) (pa_cons (pv 0) (pa_cons (pv 1) pa_nil))))
      (pss_one (ps_expr (pe_cl c_need_model hr (by first | decide | omega) (by rfl) (pa_cons (pv 0) (pa_cons (pv 2) pa_nil)))))), ?_⟩
    replace hm : MA K H u v p := hm
    replace es : p2.1 = p.1 := es
    refine q_drop (v := .non) (ev_callV p (ea_cons (ev_var rfl) (ea_cons (ev_var rfl) ea_nil)) (fun H1 e1 => ⟨⟨_, _, rfl, hm.1.ex e1, hm.2.ex e1⟩, ok.1, ok.2⟩) (fun _ _ p => p)) fun H1 e1 => ?_
    exact s_drop (v := .non) (ev_callV p2 (ea_cons (ev_var rfl) (ea_cons (ev_var rfl) ea_nil)) (fun H2 e2 => ⟨⟨_, _, rfl, by rw [es]; exact hm.1.ex (e1.trans e2), hw.ex (e1.trans e2)⟩, ok2.1, ok2.2⟩) (fun _ _ p => p)) fun H2 e2 => q _ H2 (e1.trans e2) rfl
def LcV (K : PySem.W.Frag) (H : Hp) (v : V) (c : LC) : Prop := ∃ b x y, v = .ref b ∧ SqT K H b [x, vi c.2.1, y] ∧ Nats K H x c.1 ∧ Nats K H y c.2.2
theorem LcV.et {H H' : Hp} {v : V} {c : LC} (e : ET K H H') (h : LcV K H v c) : LcV K H' v c := let ⟨b, x, y, q, s, n, m⟩ := h; ⟨b, x, y, q, e _ _ s, n.et e, m.et e⟩
/-- a cell that fits images -/
structure GdC (n2 : Nat) (f : List Nat) (c : LC) : Prop where
  l2 : c.1.length ≤ 2
  ar : ∀ x ∈ c.1, x < f.length
  wr : c.2.1 < f.length
  tb : c.2.2.length = n2 ^ c.1.length
def sp_leads_on (K : PySem.W.Frag) : Sp := spX (fun (p : List LC × Nat × List Nat) vs H => (∃ b ws a, vs = [.ref b, vi p.2.1, .ref a] ∧ H b = some (.lst ws) ∧ Paired (LcV K H) ws p.1 ∧ SqL K H a (p.2.2.map vi)) ∧ p.2.1 ≤ 6 ∧ (∀ y ∈ p.2.2, y < p.2.1) ∧ ∀ c ∈ p.1, GdC p.2.1 p.2.2 c) (fun p v _ => v = .bl (allOk p.2.1 p.1 p.2.2))
theorem c_leads_on (T : Txt mg) (D : Df K mg "leads_on" s_leads_on ["cells", "size", "images"]) (c_place_of_row : Cl P w K mg base 1 "place_of_row" (sp_place_of_row K)) : Cl P w K mg base 2 "leads_on" (sp_leads_on K) := by
  refine cl_of (k := 1) D sc_leads_on (fun vs H Q E h => ?_) (fun f cdv A outer s H vs Q E hr h => ?_)
  · obtain ⟨p, ⟨⟨b, ws, a, rfl, _⟩, _⟩, _⟩ := h
    rfl
  · obtain ⟨⟨cs, n2, F⟩, ⟨⟨b, ws, a, rfl, hb, pw, ha⟩, n6, low, gd⟩, q⟩ := h
    refine ⟨_, (pss_cons (ps_for PassesOwn.never (by rfl) (pi_list (pv 0)) (pg_tup (by rfl) (pgs_cons (pg_name (i := 3) sc_leads_on.nd rfl (.inl rfl)) (pgs_cons (pg_name (i := 4) sc_leads_on.nd rfl (.inl rfl)) (pgs_cons (pg_name (i := 5) sc_leads_on.nd rfl (.inl rfl)) pgs_nil))))
        (pss_one (ps_if (pt_cmpR op_ne (pe_ix ix_list (pv 2) (pv 4) (fun _ _ => rfl)) (pe_ix ix_tup (pv 5) (pe_cl c_place_of_row hr (by first | decide | omega) (by rfl) (pa_cons (pv 1) (pa_cons (pe_lc (own := [("arg", 6)]) (g := (gName 6)) (by rfl) sc_leads_on.nd (pi_tup (pv 3)) (blkOk_by (own := [("arg", 6)]) (N := ["cells", "size", "images", "args", "worth", "table", "arg"]) (sc := (defScope s_leads_on)) (by decide +kernel)) (fun _ _ _ _ _ => (pg_name (i := 6) sc_leads_on.nd rfl (.inl rfl))) (fun _ _ _ _ _ => pts_nil) (fun _ _ _ _ _ => (pe_ix (ix_listK K) (pv 2) (pv 6) (fun _ _ => rfl)))) pa_nil))) (fun _ _ => rfl)) (nomark _))
          (pss_one (ps_ret pe_bl))
          pss_nil)))
      (pss_one (ps_ret pe_bl))), ?_⟩
    replace hb : H b = some (.lst ws) := hb
    replace pw : Paired (LcV K H) ws cs := pw
    replace ha : SqL K H a (F.map vi) := ha
    replace n6 : n2 ≤ 6 := n6
    replace low : ∀ y ∈ F, y < n2 := low
    replace gd : ∀ c ∈ cs, GdC n2 F c := gd
    refine q_forLs (do_ev (ev_var rfl) fun H1 e1 => ⟨b, rfl, ⟨ws, sq_of (e1 _ _ hb)⟩, ?_⟩)
    refine qloops_list (K := K) (xs := ws) (fun i σ H' => Ex H H' ∧ (cs.take i).all (okC n2 F) = true ∧ ∃ y3 y4 y5, σ = [some (.ref b), some (vi n2), some (.ref a), y3, y4, y5, none]) ⟨e1, by rw [List.take_zero]; rfl, none, none, none, rfl⟩ (fun i σ' H' _ ⟨e, _⟩ => sq_of (e _ _ hb)) (fun i x σ' H2 hx ⟨e2, al, y3, y4, y5, hσ⟩ => ?_) (fun σ' H2 ⟨e2, al, y3, y4, y5, hσ⟩ => ?_)
    · subst hσ
      obtain ⟨c, hc, t, x1, y1, rfl, ht, ⟨xa, rfl, hxa⟩, ⟨ya, rfl, hya⟩⟩ := paired_at pw hx
      have mem := List.mem_iff_getElem?.mpr ⟨i, hc⟩
      obtain ⟨l2, ar, wr, tb⟩ := gd c mem
      have im : ∀ k ∈ c.1.map (g F), k < n2 := fun k hk => by
        obtain ⟨j, hj, rfl⟩ := List.mem_map.mp hk
        exact low _ (M25.g_mem (ar j hj))
      have pl := plc_low im (by rw [List.length_map]; exact l2)
      rw [List.length_map, ← tb] at pl
      refine ⟨t, _, rfl, ex_t e2 ht, rfl, _, _, rfl, _, _, rfl, _, _, rfl, rfl, ?_⟩
      have place : Ev (tCall (sp_place_of_row K) [] E0 (tCons (tVar 1) (tCons (tLc (iTup K (tVar 3)) (gName 6) tYes (tOp (rIxL K) (tVar 2) (tVar 6)) [6]) tNil))) [some (.ref b), some (vi n2), some (.ref a), some (.ref xa), some (vi c.2.1), some (.ref ya), none] H2 (vi (plc n2 (c.1.map (g F)))) := fun H7 e7 Q' q' =>
        do_cons (do_ev (ev_var rfl) fun H8 e8 => do_cons (el_getS (K := K) (row := c.1) (S := F) (i := 3) (j := 6) (k := 2) (fun _ => rfl) rfl (fun _ => rfl) (fun _ => rfl) (ex_t (e2.trans (e7.trans e8)) hxa) (ex_l (e2.trans (e7.trans e8)) ha) ar (by omega) H8 (Ex.refl _) _ fun l H9 nl e9 hl => do_nil ⟨(n2, c.1.map (g F)), ⟨⟨l, rfl, hl⟩, n6, by rw [List.length_map]; exact l2, im⟩, fun v H10 e10 hv => by rw [hv]; exact q' H10 ((e8.trans e9).trans e10)⟩))
      refine s_when (b := !decide (vi (g F c.2.1) = vi (g c.2.2 (plc n2 (c.1.map (g F)))))) (et_test (ev_op (ev_op (ev_var rfl) (ev_var rfl) (rv_ixL (K := K) (ex_l e2 ha) (atI_vi (k := c.2.1) (v := vi (g F c.2.1)) (by rw [List.getElem?_map, g_eq wr]; rfl)))) (ev_op (ev_var rfl) place (rv_ixT (K := K) (ex_t e2 hya) (atI_vi (k := plc n2 (c.1.map (g F))) (v := vi (g c.2.2 (plc n2 (c.1.map (g F))))) (by rw [List.getElem?_map, g_eq pl]; rfl)))) (rv_ne rfl))) (fun ho H3 e3 => s_ret ev_c fun H4 e4 => q _ H4 ((e2.trans e3).trans e4) ?_) (fun ho H3 e3 => ⟨e2.trans e3, ?_, _, _, _, rfl⟩)
      · show V.bl false = V.bl (allOk n2 cs F)
        cases ha : allOk n2 cs F with
        | false => rfl
        | true =>
          have := List.all_eq_true.mp ha c mem
          have z := of_decide_eq_true this
          rw [z, decide_eq_true rfl] at ho
          cases ho
      · rw [List.take_add_one, hc, List.all_append, al]
        show (true && ([c].all _)) = true
        rw [List.all_cons, List.all_nil, Bool.and_true, Bool.true_and]
        have : vi (g F c.2.1) = vi (g c.2.2 (plc n2 (c.1.map (g F)))) := by
          rw [Bool.not_eq_false'] at ho
          exact of_decide_eq_true ho
        have z := V.int.inj this
        exact decide_eq_true (by omega)
    · subst hσ
      have full : cs.take ws.length = cs := List.take_of_length_le (by rw [paired_len pw]; exact Nat.le_refl _)
      rw [full] at al
      refine s_ret ev_c fun H3 e3 => q _ H3 (e2.trans e3) ?_
      show V.bl true = V.bl (allOk n2 cs F)
      rw [show allOk n2 cs F = true from al]
end
end K76
end
section
namespace K76
open PySem PySem.Spec PyProof.Rows L2 Evl RZ Dw M20 M25 CL LD
section
variable {P : Program} {w : World} {K : PySem.W.Frag} {mg : Str → Option Value} {base : Heap}
/-- the cells of the one with the tables of the other -/
def lcs (p p2 : MArg) : List LC := (cwm p).map fun c => (c.2.1, c.2.2, tbOf p.1 p2.2.2 c.1)
theorem tbOf_sig {p2 : MArg} {p : MArg} (ok : MOk p) (ok2 : MOk p2) (es : p2.1 = p.1) {i : Nat} {d : Str × Nat} (hi : p.1[i]? = some d) : ∃ h : i < p2.2.2.length, tbOf p.1 p2.2.2 d.1 = p2.2.2[i] ∧ Tab p2.2.1 d.2 p2.2.2[i] := by
  obtain ⟨il, ed⟩ := List.getElem?_eq_some_iff.mp hi
  have il2 : i < p2.2.2.length := by rw [ok2.2.len, es]; exact il
  have il3 : i < p2.1.length := by rw [es]; exact il
  refine ⟨il2, ?_, ?_⟩
  · refine tbOf_at il il2 (by rw [ed]) fun j h lt e => ?_
    have := (sig_one ok (List.getElem?_eq_getElem h) hi e).1
    omega
  · have := ok2.2.tab i il3 il2
    rw [show p2.1[i] = d from by rw [← ed]; simp only [es]] at this
    exact this
theorem lcs_gd {p p2 : MArg} (ok : MOk p) (ok2 : MOk p2) (es : p2.1 = p.1) {f : List Nat} (lf : f.length = p.2.1) : ∀ c ∈ lcs p p2, GdC p2.2.1 f c := fun c hc => by
  obtain ⟨c0, hc0, rfl⟩ := List.mem_map.mp hc
  obtain ⟨l2, ar, wr⟩ := ok.cells c0 hc0
  obtain ⟨i, d, t, j, r, h1, h2, h3, h4, h5, h6⟩ := cws_mem.mp hc0
  obtain ⟨il, e1, tb⟩ := tbOf_sig ok ok2 es h1
  refine ⟨l2, fun x hx => by rw [lf]; exact ar x hx, by rw [lf]; exact wr, ?_⟩
  show (tbOf p.1 p2.2.2 c0.1).length = _
  rw [h5, e1, tb.len, h6, (rows_of (List.mem_iff_getElem?.mpr ⟨j, h3⟩)).1]
theorem lcs_grt {p p2 : MArg} (ok : MOk p) : ∀ c ∈ lcs p p2, grt c < p.2.1 := fun c hc => by
  obtain ⟨c0, hc0, rfl⟩ := List.mem_map.mp hc
  obtain ⟨l2, ar, wr⟩ := ok.cells c0 hc0
  exact grt_low ar wr
/-- lists of cells by their greatest -/
structure CgL (K : PySem.W.Frag) (H0 H : Hp) (a : Addr) (bs : List Addr) (f : Nat → List LC) (n : Nat) : Prop where
  at_ : H a = some (.lst (bs.map V.ref))
  new : H0 a = none
  len : bs.length = n
  each : ∀ (k : Nat) (b : Addr), bs[k]? = some b → H0 b = none ∧ ∃ ws, H b = some (.lst ws) ∧ Paired (LcV K H) ws (f k)
  nd : bs.Nodup
  ne : a ∉ bs
theorem CgL.ex {H0 H H' : Hp} {a : Addr} {bs : List Addr} {f : Nat → List LC} {n : Nat} (e : Ex H H') (h : CgL K H0 H a bs f n) : CgL K H0 H' a bs f n := ⟨e _ _ h.at_, h.new, h.len, fun k b hb => let ⟨z, ws, q, p⟩ := h.each k b hb; ⟨z, ws, e _ _ q, paired_imp (fun _ _ y => LcV.et (Dw.Ex.et e) y) p⟩, h.nd, h.ne⟩
def grp (cs : List LC) (k : Nat) : List LC := cs.filter fun c => decide (grt c = k)
def sp_by_greatest (K : PySem.W.Frag) : Sp := fun vs H Q _ => ∃ (p p2 : MArg) (u v w : V), vs = [u, v, w] ∧ MA K H u v p ∧ Mdl K H w p2.2.1 p2.2.2 ∧ MOk p ∧ MOk p2 ∧ p2.1 = p.1 ∧ ∀ a bs H', Ex H H' → CgL K H H' a bs (grp (lcs p p2)) p.2.1 → Q (.ref a) H'
theorem ep_lc {σ : L2.St} {H : Hp} {t1 t2 : TE} {t3 : TE} {x : V} {c : LC} (h1 : Ev t1 σ H x) (h2 : Ev t2 σ H (vi c.2.1)) (h3 : EvP t3 σ H (fun y H' => Nats K H' y c.2.2)) (hx : Nats K H x c.1) : EvP (tTup (tCons t1 (tCons t2 (tCons t3 tNil)))) σ H (fun v H' => LcV K H' v c) := fun H1 e1 Q q =>
  do_tup (do_cons (h1 H1 e1 _ fun H2 e2 => do_cons (h2 H2 (e1.trans e2) _ fun H3 e3 => do_cons (h3 H3 ((e1.trans e2).trans e3) _ fun y H4 e4 hy => do_nil ⟨by show 3 ≤ sizeLine; decide, fun p np => q _ _ (((e2.trans e3).trans e4).trans (Ex.new np)) ⟨p, x, y, rfl, st_of upd_same, (hx.ex (((e1.trans e2).trans e3).trans e4)).ex (Ex.new np), hy.ex (Ex.new np)⟩⟩))))
theorem c_cells_by_greatest (T : Txt mg) (D : Df K mg "cells_by_greatest" s_cells_by_greatest ["signature", "one", "other"]) (c_cells_with_worths : Cl P w K mg base 2 "cells_with_worths" (sp_cells K)) (c_table_of : Cl P w K mg base 1 "table_of" (sp_table_of K)) : Cl P w K mg base 3 "cells_by_greatest" (sp_by_greatest K) := by
  refine cl_of (k := 2) D sc_cells_by_greatest (fun vs H Q E h => ?_) (fun f cdv A outer s H vs Q E hr h => ?_)
  · obtain ⟨p, p2, u, v, w, rfl, _⟩ := h
    rfl
  · obtain ⟨p, p2, u, v, w, rfl, hm, hw, ok, ok2, es, q⟩ := h
    refine ⟨_, (pss_cons (ps_setLc (i := 3) (own := [("number", 7)]) (g := (gName 7)) (by rfl) sc_cells_by_greatest.nd rfl rfl (sw_true rfl rfl rfl (by decide +kernel)) (pi_range1 (by rfl) T.z_range (pa_cons (pe_ix ix_tup (pv 1) pe_int (fun _ _ => rfl)) pa_nil)) (blkOk_by (own := [("number", 7)]) (N := ["signature", "one", "other", "told", "name", "args", "worth", "number"]) (sc := (defScope s_cells_by_greatest)) (by decide +kernel)) (fun _ _ _ _ _ => (pg_name (i := 7) sc_cells_by_greatest.nd rfl (.inl rfl))) (fun _ _ _ _ _ => pts_nil) (fun _ _ _ _ _ => (pe_lst pa_nil)))
      (pss_cons (ps_for PassesOwn.never (by rfl) (pi_list (pe_cl c_cells_with_worths hr (by first | decide | omega) (by rfl) (pa_cons (pv 0) (pa_cons (pv 1) pa_nil)))) (pg_tup (by rfl) (pgs_cons (pg_name (i := 4) sc_cells_by_greatest.nd rfl (.inl rfl)) (pgs_cons (pg_name (i := 5) sc_cells_by_greatest.nd rfl (.inl rfl)) (pgs_cons (pg_name (i := 6) sc_cells_by_greatest.nd rfl (.inl rfl)) pgs_nil))))
        (pss_one (ps_expr (pe_bm PySem.F.plainAttrs_list PySem.F.slot_list_append PySem.F.type_list_append mt_append (pe_ix ix_list (pv 3) (pe_callB (cr_maxT rfl hr) (by rfl) T.z_max (by decide +kernel) (pa_cons (pe_op op_catA (pv 5) (pe_tup (pa_cons (pv 6) pa_nil))) pa_nil)) (fun _ _ => rfl)) (pa_cons (pe_tup (pa_cons (pv 5) (pa_cons (pv 6) (pa_cons (pe_cl c_table_of hr (by first | decide | omega) (by rfl) (pa_cons (pv 0) (pa_cons (pe_ix ix_tup (pv 2) pe_int (fun _ _ => rfl)) (pa_cons (pv 4) pa_nil)))) pa_nil)))) pa_nil)))))
      (pss_one (ps_ret (pv 3))))), ?_⟩
    obtain ⟨z, tv, rfl, hZ, hT⟩ := id hm.2
    obtain ⟨z2, tv2, rfl, hZ2, hT2⟩ := id hw
    have n6 := ok.2.n6
    have hG2 : Sig K H u p.1 := hm.1
    refine do_set (do_lcNewR (n := p.2.1) (u := fun _ => []) (σ := [some u, some (.ref z), some (.ref z2), none, none, none, none, none]) (ea_cons (ev_op (ev_var rfl) ev_c (rv_ixT (K := K) hZ (atI_vi (k := 0) rfl))) ea_nil) (by omega) (fun _ => rfl) (fun i H1 e1 hi => el_lst ea_nil (Nat.zero_le _)) (fun a bs H1 e1 ll => ?_))
    have lb : bs.length = p.2.1 := by rw [ll.len, List.length_map, List.length_range]
    have cg1 : CgL K H H1 a bs (fun k => grp ((lcs p p2).take 0) k) p.2.1 := ⟨ll.at_, ll.new, lb, fun k b hb => by
      obtain ⟨ns, hns, q1, q2⟩ := paired_at ll.each hb
      refine ⟨q2, [], ?_, ?_⟩
      · rw [q1]
        have : ns = [] := by
          rw [List.getElem?_map] at hns
          cases hr : (List.range p.2.1)[k]? with
          | none => rw [hr] at hns; cases hns
          | some j => rw [hr] at hns; exact (Option.some.inj hns).symm
        rw [this]
        rfl
      · exact .nil, ll.nd, ll.ne⟩
    show tSeq _ _ _ [some u, some (.ref z), some (.ref z2), some (.ref a), none, none, none, none] H1
    refine q_forLs (do_evP (ep_callF p (ea_cons (ev_var rfl) (ea_cons (ev_var rfl) ea_nil)) (fun H2 e2 => ⟨⟨_, _, rfl, hm.1.ex (e1.trans e2), hm.2.ex (e1.trans e2)⟩, ok.1, ok.2⟩)) fun cv H2 e2 ⟨⟨c, cvs, hc, hl, pc⟩, nc⟩ => ⟨c, hc, ⟨cvs, sq_of hl⟩, ?_⟩)
    subst hc
    replace pc : Paired (CellV K H2) cvs (cwm p) := pc
    have nc1 := nc _ rfl
    have ca : c ≠ a := fun zz => by rw [zz, ll.at_] at nc1; cases nc1
    have cb : c ∉ bs := fun zz => by
      obtain ⟨_, _, q1, _⟩ := ll.some zz
      rw [q1] at nc1
      cases nc1
    have e02 := e1.trans e2
    refine qloops_list (K := K) (xs := cvs) (fun i σ H' => Ex H H' ∧ H' c = some (.lst cvs) ∧ Paired (CellV K H') cvs (cwm p) ∧ CgL K H H' a bs (fun k => grp ((lcs p p2).take i) k) p.2.1 ∧ ∃ y4 y5 y6, σ = [some u, some (.ref z), some (.ref z2), some (.ref a), y4, y5, y6, none]) ⟨e02, hl, pc, cg1.ex e2, none, none, none, rfl⟩ (fun i σ' H' _ ⟨_, hc', _⟩ => sq_of hc') (fun i x σ' H3 hx ⟨e3, hc3, pc3, cg3, y4, y5, y6, hσ⟩ => ?_) (fun σ' H3 ⟨e3, hc3, pc3, cg3, y4, y5, y6, hσ⟩ => ?_)
    · subst hσ
      obtain ⟨cl, hcl, b, xa, rfl, hb, hxa⟩ := paired_at pc3 hx
      obtain ⟨xaa, rfl, hxaa⟩ := id hxa
      have mem := List.mem_iff_getElem?.mpr ⟨i, hcl⟩
      obtain ⟨l2, ar, wr⟩ := ok.cells cl mem
      obtain ⟨j0, d, t, j, r, h1, h2, h3, h4, h5, h6⟩ := cws_mem.mp mem
      obtain ⟨il, et1, tb⟩ := tbOf_sig ok ok2 es h1
      have hlc : (lcs p p2)[i]? = some (cl.2.1, cl.2.2, tbOf p.1 p2.2.2 cl.1) := by
        unfold lcs
        rw [List.getElem?_map, hcl]
        rfl
      have gl : grt (cl.2.1, cl.2.2, tbOf p.1 p2.2.2 cl.1) < p.2.1 := grt_low ar wr
      generalize hk : grt (cl.2.1, cl.2.2, tbOf p.1 p2.2.2 cl.1) = k at gl
      obtain ⟨bk, hbk⟩ : ∃ bk, bs[k]? = some bk := ⟨_, List.getElem?_eq_getElem (by rw [cg3.len]; exact gl)⟩
      obtain ⟨nbk, ws, hws, pws⟩ := cg3.each k bk hbk
      refine ⟨b, _, rfl, hb, rfl, _, _, rfl, _, _, rfl, _, _, rfl, rfl, ?_⟩
      have hmx : Ev (tOp (rIxL K) (tVar 3) (tCB (rMaxT K) (tCons (tOp (rCatA K) (tVar 5) (tTup (tCons (tVar 6) tNil))) tNil))) [some u, some (.ref z), some (.ref z2), some (.ref a), some (.str cl.1), some (.ref xaa), some (vi cl.2.2), none] H3 (.ref bk) := by
        refine ev_op (ev_var rfl) (ev_maxP (K := K) (row := cl.2.1 ++ [cl.2.2]) (tv_nats (tv_is (tv_cat (tv_ev (ev_var rfl) hxaa) (tv_tup (xs := [vi cl.2.2]) (ea_cons (ev_var rfl) ea_nil) (by show 1 ≤ 100000; decide)) (by rw [List.length_map]; show cl.2.1.length + 1 ≤ 100000; omega)) (by rw [List.map_append]; rfl))) (by simp)) (rv_ixL (K := K) (sq_of cg3.at_) ?_)
        have e : need (cl.2.1 ++ [cl.2.2]) - 1 = k := hk
        rw [e]
        exact atI_vi (by rw [List.getElem?_map, hbk]; rfl)
      have lws : ws.length ≤ 144 := by
        rw [paired_len pws]
        have a := List.length_filter_le (fun c => decide (grt c = k)) ((lcs p p2).take i)
        have b : ((lcs p p2).take i).length ≤ 144 := by
          rw [List.length_take]
          unfold lcs
          rw [List.length_map]
          have := ok.few
          omega
        exact Nat.le_trans a b
      refine s_appP hws hmx (ep_lc (K := K) (c := (cl.2.1, cl.2.2, tbOf p.1 p2.2.2 cl.1)) (ev_var rfl) (ev_var rfl) (ep_call (p.1, p2.2.1, p2.2.2, cl.1, d.2) (ea_cons (ev_var rfl) (ea_cons (ev_op (ev_var rfl) ev_c (rv_ixT (K := K) (ex_t e3 hZ2) (atI_vi (k := 1) rfl))) (ea_cons (ev_var rfl) ea_nil))) (fun H4 e4 => ⟨⟨_, _, rfl, hG2.ex (e3.trans e4), hT2.ex (e3.trans e4)⟩, by rw [ok2.2.len, es], by show (cl.1, d.2) ∈ p.1; rw [h5]; exact List.mem_iff_getElem?.mpr ⟨j0, h1⟩⟩)) ⟨xaa, rfl, hxaa⟩) (by omega) fun v H4 e4 hv => ?_
      have hb4 := e4 _ _ hws
      have et : ET K H4 (upd H4 bk (.lst (ws ++ [v]))) := ET.refl.upd hb4
      have bkm := List.mem_iff_getElem?.mpr ⟨k, hbk⟩
      have nbH := nbk
      refine ⟨(e3.trans e4).mut nbH, by rw [upd_ne (fun zz => cb (by rw [zz]; exact bkm))]; exact e4 _ _ hc3, paired_imp (fun _ _ zz => CellV.et (ET.trans (Dw.Ex.et e4) et) zz) pc3, ⟨by rw [upd_ne (fun zz => cg3.ne (by rw [zz]; exact bkm))]; exact e4 _ _ cg3.at_, cg3.new, cg3.len, fun k' b' hb' => ?_, cg3.nd, cg3.ne⟩, _, _, _, rfl⟩
      obtain ⟨nb', ws', hws', pws'⟩ := cg3.each k' b' hb'
      refine ⟨nb', ?_⟩
      by_cases hkk : k' = k
      · subst hkk
        rw [hbk] at hb'
        cases Option.some.inj hb'
        rw [hws] at hws'
        cases HO.lst.inj (Option.some.inj hws')
        refine ⟨ws ++ [v], upd_same, ?_⟩
        unfold grp
        rw [List.take_add_one, hlc, List.filter_append]
        show Paired _ _ (_ ++ [(cl.2.1, cl.2.2, tbOf p.1 p2.2.2 cl.1)].filter _)
        rw [List.filter_cons_of_pos (by rw [hk]; exact decide_eq_true rfl), List.filter_nil]
        exact paired_snoc' (R := LcV K (upd H4 bk (.lst (ws ++ [v])))) (x := v) (y := (cl.2.1, cl.2.2, tbOf p.1 p2.2.2 cl.1)) (LcV.et et hv) (paired_imp (fun _ _ zz => LcV.et (ET.trans (Dw.Ex.et e4) et) zz) pws')
      · have nbb : b' ≠ bk := fun zz => hkk (by
          obtain ⟨i1, e1'⟩ := List.getElem?_eq_some_iff.mp hb'
          obtain ⟨i2, e2'⟩ := List.getElem?_eq_some_iff.mp hbk
          exact (List.getElem_inj cg3.nd).mp (e1'.trans (zz.trans e2'.symm)))
        refine ⟨ws', by rw [upd_ne nbb]; exact e4 _ _ hws', ?_⟩
        unfold grp
        rw [List.take_add_one, hlc, List.filter_append]
        show Paired _ _ (_ ++ [(cl.2.1, cl.2.2, tbOf p.1 p2.2.2 cl.1)].filter _)
        rw [List.filter_cons_of_neg (by rw [hk, decide_eq_true_iff]; exact fun zz => hkk zz.symm), List.filter_nil, List.append_nil]
        exact paired_imp (fun _ _ zz => LcV.et (ET.trans (Dw.Ex.et e4) et) zz) pws'
    · subst hσ
      have full : (lcs p p2).take cvs.length = lcs p p2 := List.take_of_length_le (by unfold lcs; rw [List.length_map, paired_len pc3]; exact Nat.le_refl _)
      rw [full] at cg3
      exact s_ret (ev_var rfl) fun H4 e4 => q a bs H4 (e3.trans e4) (cg3.ex e4)
end
end K76
end
section
namespace K76
open PySem PySem.Spec PyProof.Rows L2 Evl RZ Dw M20 M25 CL LD
section
variable {P : Program} {w : World} {K : PySem.W.Frag} {mg : Str → Option Value} {base : Heap}
def sp_leads (K : PySem.W.Frag) : Sp := fun vs H Q _ => ∃ (p p2 : MArg) (u v w : V), vs = [u, v, w] ∧ MA K H u v p ∧ Mdl K H w p2.2.1 p2.2.2 ∧ MOk p ∧ MOk p2 ∧ p2.1 = p.1 ∧ (∀ k, k < p.2.1 → (lvl p2.2.1 (lcs p p2) k).length ≤ 1600) ∧ ∀ a as H', Ex H H' → LLs H H' a as (lvl p2.2.1 (lcs p p2) p.2.1) → Q (.ref a) H'
theorem lvl_low {n2 : Nat} {cs : List LC} {k : Nat} {f : List Nat} (h : f ∈ lvl n2 cs k) : f.length = k ∧ ∀ y ∈ f, y < n2 := by
  rw [lvl_eq] at h
  exact rows_of (List.mem_filter.mp h).1
theorem c_leads (T : Txt mg) (D : Df K mg "leads" s_leads ["signature", "one", "other"]) (c_need_two_models : Cl P w K mg base 8 "need_two_models" (sp_need_two K)) (c_cells_by_greatest : Cl P w K mg base 3 "cells_by_greatest" (sp_by_greatest K)) (c_leads_on : Cl P w K mg base 2 "leads_on" (sp_leads_on K)) : Cl P w K mg base 9 "leads" (sp_leads K) := by
  refine cl_of (k := 8) D sc_leads (fun vs H Q E h => ?_) (fun f cdv A outer s H vs Q E hr h => ?_)
  · obtain ⟨p, p2, u, v, w, rfl, _⟩ := h
    rfl
  · obtain ⟨p, p2, u, v, w, rfl, hm, hw, ok, ok2, es, few, q⟩ := h
    refine ⟨_, (pss_cons (ps_expr (pe_cl c_need_two_models hr (by first | decide | omega) (by rfl) (pa_cons (pv 0) (pa_cons (pv 1) (pa_cons (pv 2) pa_nil)))))
      (pss_cons (ps_set (i := 3) sc_leads.nd rfl (.inr rfl) (pe_ix ix_tup (pv 2) pe_int (fun _ _ => rfl)))
      (pss_cons (ps_set (i := 4) sc_leads.nd rfl (.inl rfl) (pe_lst (pa_cons (pe_lst pa_nil) pa_nil)))
      (pss_cons (ps_for PassesOwn.never (by rfl) (pi_list (pe_cl c_cells_by_greatest hr (by first | decide | omega) (by rfl) (pa_cons (pv 0) (pa_cons (pv 1) (pa_cons (pv 2) pa_nil))))) (pg_name (i := 5) sc_leads.nd rfl (.inr rfl))
        (pss_cons (ps_setLc2 (i := 6) (own := [("images", 7), ("number", 8)]) (g := (gName 7)) (g1 := (gName 8)) (vs1 := [8]) (by rfl) sc_leads.nd rfl rfl (sw_true rfl rfl rfl (by decide +kernel)) (pi_list (pv 4)) (blkOk_by (own := [("images", 7), ("number", 8)]) (N := ["signature", "one", "other", "size", "begins", "cells", "longer", "images", "number"]) (sc := (defScope s_leads)) (by decide +kernel)) (by decide) (fun _ _ _ _ _ => (pg_name (i := 7) sc_leads.nd rfl (.inl rfl))) (fun _ _ _ _ _ => pts_nil) (fun _ _ _ _ _ => (pi_range1 (by rfl) T.z_range (pa_cons (pv 3) pa_nil))) (fun _ _ _ _ _ => (pg_name (i := 8) sc_leads.nd rfl (.inl rfl))) (fun _ _ _ _ _ => pts_nil) (fun _ _ _ _ _ => (pe_op op_cat (pv 7) (pe_lst (pa_cons (pv 8) pa_nil)))))
        (pss_one (ps_setLc (i := 4) (own := [("images", 7)]) (g := (gName 7)) (by rfl) sc_leads.nd rfl rfl (sw_true rfl rfl rfl (by decide +kernel)) (pi_list (pv 6)) (blkOk_by (own := [("images", 7)]) (N := ["signature", "one", "other", "size", "begins", "cells", "longer", "images", "number"]) (sc := (defScope s_leads)) (by decide +kernel)) (fun _ _ _ _ _ => (pg_name (i := 7) sc_leads.nd rfl (.inl rfl))) (fun _ _ _ _ _ => (pts_one (pt_val (pe_cl c_leads_on hr (by first | decide | omega) (by rfl) (pa_cons (pv 5) (pa_cons (pv 3) (pa_cons (pv 7) pa_nil))))))) (fun _ _ _ _ _ => (pv 7))))))
      (pss_one (ps_ret (pv 4))))))), ?_⟩
    obtain ⟨z2, tv2, rfl, hZ2, hT2⟩ := id hw
    have n6 := ok.2.n6
    have n26 := ok2.2.n6
    refine q_drop (v := .non) (ev_callV (p, p2) (ea_cons (ev_var rfl) (ea_cons (ev_var rfl) (ea_cons (ev_var rfl) ea_nil))) (fun H1 e1 => ⟨⟨_, _, _, rfl, hm.ex e1, hw.ex e1⟩, ok, ok2, es⟩) (fun _ _ p => p)) fun H1 e1 => ?_
    refine q_asg (v := vi p2.2.1) (ev_op (ev_var rfl) ev_c (rv_ixT (K := K) (ex_t e1 hZ2) (atI_vi (k := 0) rfl))) fun H2 e2 => ?_
    have e02 := e1.trans e2
    refine do_set (do_lst (do_cons (do_lst (do_nil ⟨Nat.zero_le _, fun r nr => do_nil ⟨by show 1 ≤ sizeLine; decide, fun f0 nf0 => ?_⟩⟩))))
    have e3 : Ex H2 (upd (upd H2 r (.lst [])) f0 (.lst [.ref r])) := (Ex.new nr).trans (Ex.new nf0)
    have rf : r ≠ f0 := fun z => by rw [z, upd_same] at nf0; cases nf0
    have ll1 : LLs H2 (upd (upd H2 r (.lst [])) f0 (.lst [.ref r])) f0 [r] (lvl p2.2.1 (lcs p p2) 0) := ⟨upd_same, by
      have := nf0
      rw [upd_ne (Ne.symm rf)] at this
      exact this, .cons ⟨by rw [upd_ne rf, upd_same]; rfl, nr⟩ .nil, List.pairwise_singleton _ _, fun z => rf (List.mem_singleton.mp z).symm⟩
    replace ll1 := ll1.low e02
    generalize upd (upd H2 r (.lst [])) f0 (.lst [.ref r]) = H3 at *
    have e03 := e02.trans e3
    show tSeq _ _ _ [some u, some v, some (.ref z2), some (vi p2.2.1), some (.ref f0), none, none, none, none] H3
    refine q_forLs (ea_cons (ev_var rfl) (ea_cons (ev_var rfl) (ea_cons (ev_var rfl) ea_nil)) H3 (Ex.refl _) _ fun H4 e4 => ⟨p, p2, u, v, .ref z2, rfl, hm.ex (e03.trans e4), hw.ex (e03.trans e4), ok, ok2, es, fun a bs H5 e5 cg => ⟨a, rfl, ⟨_, sq_of cg.at_⟩, ?_⟩⟩)
    have e35 := e4.trans e5
    refine qloops_list (K := K) (xs := bs.map V.ref) (fun k σ H' => Ex H5 H' ∧ ∃ b as y5 y6, LLs H H' b as (lvl p2.2.1 (lcs p p2) k) ∧ σ = [some u, some v, some (.ref z2), some (vi p2.2.1), some (.ref b), y5, y6, none, none]) ⟨Ex.refl _, f0, [r], none, none, ll1.ex e35, rfl⟩ (fun k σ' H' _ ⟨e, _⟩ => sq_of (e _ _ cg.at_)) (fun k x σ' H6 hx ⟨e6, b, as, y5, y6, ll, hσ⟩ => ?_) (fun σ' H6 ⟨e6, b, as, y5, y6, ll, hσ⟩ => ?_)
    · subst hσ
      rw [List.getElem?_map] at hx
      cases hbk : bs[k]? with
      | none => rw [hbk] at hx; cases hx
      | some bk =>
      rw [hbk] at hx
      cases Option.some.inj hx
      obtain ⟨_, ws, hws, pws⟩ := cg.each k bk hbk
      have hk : k < p.2.1 := by rw [← cg.len]; exact (List.getElem?_eq_some_iff.mp hbk).1
      have fk := few k hk
      have la := ll.len
      have e06 : Ex H H6 := e03.trans (e35.trans e6)
      show tSeq _ _ _ [some u, some v, some (.ref z2), some (vi p2.2.1), some (.ref b), some (.ref bk), y6, none, none] H6
      refine do_set (do_lc2New (K := K) (a := b) (xs := as.map V.ref) (L := lvl p2.2.1 (lcs p p2) k) (u := fun ns x => ns ++ [x]) (m := p2.2.1) (ev_var rfl) (sq_of ll.at_) (by rw [List.length_map, la]) (fun x H7 e7 => ea_cons (ev_var rfl) ea_nil) (by rw [List.length_map]; omega) (by omega) (fun _ => rfl) (fun _ _ => rfl) (fun i x ns kk H7 e7 hx hns hkk => ?_) (fun b2 as2 H7 e7 l2 => ?_))
      · rw [List.getElem?_map] at hx
        cases hb : as[i]? with
        | none => rw [hb] at hx; cases hx
        | some bb =>
          rw [hb] at hx
          cases Option.some.inj hx
          obtain ⟨ms, hms, qq, _⟩ := paired_at ll.each hb
          rw [hms] at hns
          cases Option.some.inj hns
          show EvL _ _ H7 ((ns ++ [kk]).map vi)
          rw [List.map_append]
          have lm := (lvl_low (List.mem_iff_getElem?.mpr ⟨i, hms⟩)).1
          intro H8 e8 Q' q'
          refine do_op (do_ev (v := .ref bb) (ev_var rfl) fun H9 e9 => do_evL (el_lst (ea_cons (ev_var rfl) ea_nil) (by show 1 ≤ 100000; decide)) fun r2 H10 nr2 e10 hr2 => ?_)
          exact ⟨bb, r2, ns.map vi, [vi kk], rfl, rfl, (e7.trans (e8.trans (e9.trans e10))) _ _ qq, hr2, by rw [List.length_map]; exact sz_of (by show ns.length + 1 ≤ 100000; omega), fun l nl => q' l _ (fresh_back (e9.trans e10) nl) ((e9.trans e10).trans (Ex.new nl)) upd_same⟩
      · have e07 := e06.trans e7
        have lfl : ((lvl p2.2.1 (lcs p p2) k).flatMap fun ns => (List.range p2.2.1).map fun x => ns ++ [x]).length ≤ 1600 * 6 := by
          have : ∀ L : List (List Nat), (L.flatMap fun ns => (List.range p2.2.1).map fun x => ns ++ [x]).length = L.length * p2.2.1 := fun L => by
            induction L with
            | nil => simp
            | cons r L ih => rw [List.flatMap_cons, List.length_append, ih, List.length_map, List.length_range, List.length_cons, Nat.add_mul, Nat.one_mul, Nat.add_comm]
          rw [this]
          exact Nat.mul_le_mul fk n26
        refine do_asg (do_lcFit (K := K) (f := allOk p2.2.1 (grp (lcs p p2) k)) (ev_var rfl) (l2.low e06) e07 (by omega) (fun _ => rfl) (fun _ => rfl) (fun c ns H8 e8 hns hc => ?_) (fun b3 as3 H8 e8 _ l3 => ?_))
        · obtain ⟨f1, hf1, h2⟩ := List.mem_flatMap.mp hns
          obtain ⟨x, hx2, rfl⟩ := List.mem_map.mp h2
          obtain ⟨lf, lo⟩ := lvl_low hf1
          have e58 := e6.trans (e7.trans e8)
          refine et_val (ev_callV (v := .bl (allOk p2.2.1 (grp (lcs p p2) k) (f1 ++ [x]))) (grp (lcs p p2) k, p2.2.1, f1 ++ [x]) (ea_cons (ev_var rfl) (ea_cons (ev_var rfl) (ea_cons (ev_var rfl) ea_nil))) (fun H9 e9 => ⟨⟨_, ws, _, rfl, (e58.trans e9) _ _ hws, paired_imp (fun _ _ zz => LcV.et (Dw.Ex.et (e58.trans e9)) zz) pws, sq_of (e9 _ _ hc)⟩, n26, fun y hy => ?_, fun c' hc' => ?_⟩) (fun _ _ z => z))
          · rcases List.mem_append.mp hy with zz | zz
            · exact lo y zz
            · rw [List.mem_singleton.mp zz]
              exact List.mem_range.mp hx2
          · have hm := List.mem_filter.mp hc'
            have gk := of_decide_eq_true hm.2
            obtain ⟨l2', _, _, tb'⟩ := lcs_gd ok ok2 es (f := List.replicate p.2.1 0) (by simp) c' hm.1
            exact ⟨l2', fun y hy => by
              have := grt_lt (c := c') (.inl hy)
              rw [List.length_append, lf]
              show y < k + 1
              omega, by
              have := grt_lt (c := c') (.inr rfl)
              rw [List.length_append, lf]
              show _ < k + 1
              omega, tb'⟩
        · exact ⟨e6.trans (e7.trans e8), b3, as3, _, _, l3, rfl⟩
    · subst hσ
      rw [List.length_map, cg.len] at ll
      exact s_ret (ev_var rfl) fun H7 e7 => q b as H7 (e03.trans (e35.trans (e6.trans e7))) (ll.ex e7)
end
end K76
end
section
namespace K76
open PySem PySem.Spec PyProof.Rows L2 Evl RZ Dw M20 M25 CL LD
section
variable {P : Program} {w : World} {K : PySem.W.Frag} {mg : Str → Option Value} {base : Heap}
def sp_place_T (K : PySem.W.Frag) : Sp := spX (fun (p : Nat × List Nat) vs H => (∃ v, vs = [vi p.1, v] ∧ Nats K H v p.2) ∧ p.1 ≤ 6 ∧ p.2.length ≤ 2 ∧ ∀ k ∈ p.2, k < p.1) (fun p v _ => v = vi (plc p.1 p.2))
theorem c_place_of_rowT (T : Txt mg) (D : Df K mg "place_of_row" s_place_of_row ["size", "row"]) : Cl P w K mg base 1 "place_of_row" (sp_place_T K) := by
  refine cl_of (k := 0) D sc_place_of_row (fun vs H Q E h => ?_) (fun f cdv A outer s H vs Q E hr h => ?_)
  · obtain ⟨p, ⟨⟨l, rfl, _⟩, _⟩, _⟩ := h
    rfl
  · obtain ⟨⟨n, ns⟩, ⟨⟨v, rfl, ⟨l, rfl, hl⟩⟩, n6, l2, low⟩, q⟩ := h
    refine ⟨_, (pss_cons (ps_set (i := 2) sc_place_of_row.nd rfl (.inl rfl) pe_int)
      (pss_cons (ps_for PassesOwn.never (by rfl) (pi_tup (pv 1)) (pg_name (i := 3) sc_place_of_row.nd rfl (.inl rfl))
        (pss_one (ps_set (i := 2) sc_place_of_row.nd rfl (.inl rfl) (pe_op op_add (pe_op op_mul (pv 2) (pv 0)) (pv 3)))))
      (pss_one (ps_ret (pv 2))))), ?_⟩
    replace hl : SqT K H l (ns.map vi) := hl
    replace n6 : n ≤ 6 := n6
    replace l2 : ns.length ≤ 2 := l2
    replace low : ∀ k ∈ ns, k < n := low
    refine q_asg (v := vi 0) ev_c fun H1 e1 => ?_
    refine q_forT (K := K) (ev_var rfl) (ex_t e1 hl) (fun i σ H' => Ex H H' ∧ ∃ y : Option V, σ = [some (vi n), some (.ref l), some (vi (plc n (ns.take i))), y]) (fun H2 e2 => ⟨e1.trans e2, none, rfl⟩) (fun i σ H' _ ⟨e, _⟩ => ex_t e hl) (fun i x σ H2 hx hP => ?_) (fun σ H2 hP => ?_)
    · obtain ⟨e2, y, hσ⟩ := hP
      subst hσ
      rw [List.getElem?_map] at hx
      cases hk : ns[i]? with
      | none =>
        rw [hk] at hx
        cases hx
      | some k =>
        rw [hk] at hx
        cases Option.some.inj hx
        have small : plc n (ns.take i) ≤ 1000 := by
          have a := plc_low (n := n) (ns := ns.take i) (fun k h => low k (List.mem_of_mem_take h)) (by rw [List.length_take]; omega)
          have b := pow_36 (p := (ns.take i).length) n6 (by rw [List.length_take]; omega)
          omega
        refine s_asg (v := vi (plc n (ns.take (i + 1)))) (ev_is (ev_addN (ev_mulN (ev_var rfl) (ev_var rfl) small (by omega)) (ev_var rfl)) (by rw [plc_take hk])) fun H3 e3 => ?_
        exact ⟨e2.trans e3, _, rfl⟩
    · obtain ⟨e2, y, hσ⟩ := hP
      subst hσ
      rw [List.length_map, List.take_length]
      exact s_ret (ev_var rfl) fun H3 e3 => q _ H3 (e2.trans e3) rfl
/-! ### the cells in their order -/
def ordc (n : Nat) (sg : List (Str × Nat)) : List (Str × List Nat) := (List.range (n + 1)).flatMap fun t => (allc n sg).filter fun c => decide (need c.2 = t)
def ordT (n : Nat) (sg : List (Str × Nat)) (t : Nat) : List (Str × List Nat) := (allc n sg).filter fun c => decide (need c.2 = t)
theorem ord_few {n : Nat} {sg : List (Str × Nat)} (n6 : n ≤ 6) (so : SigOk sg) (t : Nat) : ((List.range t).flatMap fun t => ordT n sg t).length ≤ 144 := by
  have h := allc_few n6 so sg.length
  rw [List.take_of_length_le (Nat.le_refl _)] at h
  refine Nat.le_trans ?_ h
  rw [show ((List.range t).flatMap fun t => ordT n sg t) = ((List.range t).flatMap fun t => (allc n sg).filter fun c => decide (need c.2 = t)) from rfl, (levels_perm (fun c : Str × List Nat => need c.2) (allc n sg) t).length_eq]
  exact List.length_filter_le _ _
def sp_order (K : PySem.W.Frag) : Sp := fun vs H Q _ => ∃ (sg : List (Str × Nat)) (n : Nat) (u : V), vs = [u, vi n] ∧ Sig K H u sg ∧ SigOk sg ∧ n ≤ 6 ∧ ∀ a vs' H', Ex H H' → H a = none → H' a = some (.lst vs') → Paired (ArgV K H') vs' (ordc n sg) → Q (.ref a) H'
theorem c_cells_in_order (T : Txt mg) (D : Df K mg "cells_in_order" s_cells_in_order ["signature", "size"]) (c_rows_below : Cl P w K mg base 1 "rows_below" (sp_rows_below K)) : Cl P w K mg base 2 "cells_in_order" (sp_order K) := by
  refine cl_of (k := 1) D sc_cells_in_order (fun vs H Q E h => ?_) (fun f cdv A outer s H vs Q E hr h => ?_)
  · obtain ⟨sg, n, u, rfl, _⟩ := h
    rfl
  · obtain ⟨sg, n, u, rfl, hG, sok, n6, q⟩ := h
    refine ⟨_, (pss_cons (ps_set (i := 2) sc_cells_in_order.nd rfl (.inl rfl) (pe_lst pa_nil))
      (pss_cons (ps_for PassesOwn.never (by rfl) (pi_range2 (by rfl) T.z_range (pa_cons (pe_un un_neg pe_int) (pa_cons (pv 1) pa_nil))) (pg_name (i := 3) sc_cells_in_order.nd rfl (.inl rfl))
        (pss_one (ps_for PassesOwn.never (by rfl) (pi_tup (pv 0)) (pg_tup (by rfl) (pgs_cons (pg_name (i := 4) sc_cells_in_order.nd rfl (.inl rfl)) (pgs_cons (pg_name (i := 5) sc_cells_in_order.nd rfl (.inl rfl)) pgs_nil)))
          (pss_one (ps_for PassesOwn.never (by rfl) (pi_list (pe_cl c_rows_below hr (by first | decide | omega) (by rfl) (pa_cons (pv 1) (pa_cons (pv 5) pa_nil)))) (pg_name (i := 6) sc_cells_in_order.nd rfl (.inl rfl))
            (pss_one (ps_if (pt_cmpR op_eq (pe_callBK (cr_maxD rfl hr) (by rfl) T.z_max (by decide +kernel) (pa_cons (pv 6) pa_nil) (pk_cons (pe_un un_neg pe_int) pk_nil)) (pv 3) (nomark _))
              (pss_one (ps_expr (pe_bm PySem.F.plainAttrs_list PySem.F.slot_list_append PySem.F.type_list_append mt_append (pv 2) (pa_cons (pe_tup (pa_cons (pv 4) (pa_cons (pv 6) pa_nil))) pa_nil))))
              pss_nil)))))))
      (pss_one (ps_ret (pv 2))))), ?_⟩
    obtain ⟨a, us, rfl, hS, hP⟩ := id hG
    have lS : us.length = sg.length := paired_len hP
    refine q_asgL (el_lst ea_nil (Nat.zero_le _)) fun m H1 nm e1 hm => ?_
    refine q_forR2s (ea_cons (ev_un ev_c ru_neg) (ea_cons (ev_var rfl) ea_nil) H1 (Ex.refl _) _ fun H2 e2 => ⟨-1, (n : Int), rfl, ⟨by decide, by decide, by omega, by omega⟩, ?_⟩)
    have en : ((n : Int) - (-1)).toNat = n + 1 := by omega
    rw [en]
    have e02 := e1.trans e2
    refine qloops_rng (fun t σ H' => Ex H H' ∧ (∃ ws, H' m = some (.lst ws) ∧ Paired (ArgV K H') ws ((List.range t).flatMap fun t => ordT n sg t)) ∧ ∃ y3 y4 y5 y6, σ = [some (.ref a), some (vi n), some (.ref m), y3, y4, y5, y6])
      ⟨e02, ⟨[], e2 _ _ hm, .nil⟩, none, none, none, none, rfl⟩ (fun t σ' H3 ht ⟨e3, ⟨ws, hws, pws⟩, y3, y4, y5, y6, hσ⟩ => ?_) (fun σ' H3 ⟨e3, ⟨ws, hws, pws⟩, y3, y4, y5, y6, hσ⟩ => ?_)
    · subst hσ
      have f0 := ord_few n6 sok t
      refine do_name ?_
      show tFor _ _ _ _ [some (.ref a), some (vi n), some (.ref m), some (.int (-1 + (t : Int))), y4, y5, y6] H3
      refine s_forT (K := K) (ev_var rfl) (ex_t e3 hS) (fun i σ H' => Ex H H' ∧ (∃ ws, H' m = some (.lst ws) ∧ Paired (ArgV K H') ws (((List.range t).flatMap fun t => ordT n sg t) ++ ordT n (sg.take i) t)) ∧ ∃ y4 y5 y6, σ = [some (.ref a), some (vi n), some (.ref m), some (.int (-1 + (t : Int))), y4, y5, y6])
        (fun H4 e4 => ⟨e3.trans e4, ⟨ws, e4 _ _ hws, by
          have : ordT n (sg.take 0) t = [] := rfl
          rw [this, List.append_nil]
          exact paired_imp (fun _ _ z => ArgV.et (Dw.Ex.et e4) z) pws⟩, y4, y5, y6, rfl⟩) (fun i σ' H' _ ⟨e, _⟩ => ex_t e hS) (fun i x σ' H4 hx ⟨e4, ⟨ws4, hws4, pws4⟩, y4, y5, y6, hσ⟩ => ?_) (fun σ' H4 ⟨e4, ⟨ws4, hws4, pws4⟩, y4, y5, y6, hσ⟩ => ?_)
      · subst hσ
        obtain ⟨d, hd, b, rfl, hb⟩ := paired_at hP hx
        have mem := List.mem_iff_getElem?.mpr ⟨i, hd⟩
        have p2 := sok.pl d mem
        have fi : (ordT n (sg.take i) t).length ≤ 144 := Nat.le_trans (List.length_filter_le _ _) (allc_few n6 sok i)
        refine ⟨b, _, rfl, ex_t e4 hb, rfl, _, _, rfl, _, _, rfl, rfl, ?_⟩
        refine s_forLs (do_evP (ep_callF (n, d.2) (ea_cons (ev_var rfl) (ea_cons (ev_var rfl) ea_nil)) (fun _ _ => ⟨rfl, n6, p2⟩)) fun rv H5 e5 ⟨⟨ra, rvs, hra, hrl, prs⟩, nra⟩ => ⟨ra, hra, ⟨rvs, sq_of hrl⟩, ?_⟩)
        subst hra
        replace prs : Paired (Nats K H5) rvs (rows n d.2) := prs
        have lrv := paired_len prs
        rw [rows_len'] at lrv
        have big := pow_36 n6 p2
        have ram : ra ≠ m := fun zz => by have := nra _ rfl; rw [zz, hws4] at this; cases this
        refine loops_list (K := K) (xs := rvs) (fun j σ H' => Ex H H' ∧ H' ra = some (.lst rvs) ∧ Paired (Nats K H') rvs (rows n d.2) ∧ (∃ ws2, H' m = some (.lst ws2) ∧ Paired (ArgV K H') ws2 (((List.range t).flatMap fun t => ordT n sg t) ++ ordT n (sg.take i) t ++ (((rows n d.2).take j).map fun r => (d.1, r)).filter fun c => decide (need c.2 = t)) ∧ ws2.length ≤ 288 + j) ∧ ∃ y6, σ = [some (.ref a), some (vi n), some (.ref m), some (.int (-1 + (t : Int))), some (.str d.1), some (vi d.2), y6])
          ⟨e4.trans e5, hrl, prs, ⟨ws4, e5 _ _ hws4, by
            rw [List.take_zero]
            show Paired _ _ (_ ++ [])
            rw [List.append_nil]
            exact paired_imp (fun _ _ z => ArgV.et (Dw.Ex.et e5) z) pws4, by rw [paired_len pws4, List.length_append]; omega⟩, _, rfl⟩ (fun j σ' H' _ ⟨_, hr, _⟩ => sq_of hr) (fun j y σ' H6 hy ⟨e6, hr6, pr6, ⟨ws2, hw2, pw2, lw2⟩, y6', hσ⟩ => ?_) (fun σ' H6 ⟨e6, hr6, pr6, ⟨ws2, hw2, pw2, lw2⟩, y6', hσ⟩ => ?_)
        · subst hσ
          obtain ⟨row, hrow, xa, rfl, hxa⟩ := paired_at pr6 hy
          have hj := (List.getElem?_eq_some_iff.mp hy).1
          have snoc : (((rows n d.2).take (j + 1)).map fun r => (d.1, r)).filter (fun c => decide (need c.2 = t)) = ((((rows n d.2).take j).map fun r => (d.1, r)).filter fun c => decide (need c.2 = t)) ++ ([(d.1, row)].filter fun c => decide (need c.2 = t)) := by
            rw [List.take_add_one, hrow, List.map_append, List.filter_append]
            rfl
          refine do_name ?_
          show tIfS _ _ _ _ [some (.ref a), some (vi n), some (.ref m), some (.int (-1 + (t : Int))), some (.str d.1), some (vi d.2), some (.ref xa)] H6
          refine s_when (b := decide (V.int (((need row : Nat) : Int) - 1) = V.int (-1 + (t : Int)))) (et_test (ev_op (ev_maxD (K := K) (ea_cons (ev_var rfl) ea_nil) (ea_cons (ev_un ev_c ru_neg) ea_nil) hxa) (ev_var rfl) (rv_eq rfl))) (fun hb2 H7 e7 => ?_) (fun hb2 H7 e7 => ?_)
          · have hnt : need row = t := by
              have := V.int.inj (of_decide_eq_true hb2)
              omega
            have hm7 := e7 _ _ hw2
            refine s_appP hm7 (ev_var rfl) (tv_tup (K := K) (xs := [.str d.1, .ref xa]) (ea_cons (ev_var rfl) (ea_cons (ev_var rfl) ea_nil)) (by show 2 ≤ 100000; decide)) (by omega) fun v H8 e8 ⟨vb, hv, hvb⟩ => ?_
            subst hv
            have hm8 := e8 _ _ hm7
            have et : ET K H8 (upd H8 m (.lst (ws2 ++ [.ref vb]))) := ET.refl.upd hm8
            refine ⟨(e6.trans (e7.trans e8)).mut nm, by rw [upd_ne ram]; exact (e7.trans e8) _ _ hr6, paired_imp (fun _ _ z => (z.ex (e7.trans e8)).et et) pr6, ⟨ws2 ++ [.ref vb], upd_same, ?_, by rw [List.length_append]; show _ + 1 ≤ _; omega⟩, _, rfl⟩
            rw [snoc, List.filter_cons_of_pos (by rw [hnt]; exact decide_eq_true rfl), List.filter_nil, ← List.append_assoc]
            exact paired_snoc' (R := ArgV K (upd H8 m (.lst (ws2 ++ [.ref vb])))) (x := .ref vb) (y := (d.1, row)) ⟨vb, .ref xa, rfl, et _ _ hvb, xa, rfl, et _ _ (ex_t (e7.trans e8) hxa)⟩ (paired_imp (fun _ _ z => ArgV.et (ET.trans (Dw.Ex.et (e7.trans e8)) et) z) pw2)
          · have hnt : need row ≠ t := fun zz => by
              rw [zz] at hb2
              have e : ((t : Nat) : Int) - 1 = -1 + (t : Int) := by omega
              rw [e, decide_eq_true rfl] at hb2
              cases hb2
            refine ⟨e6.trans e7, e7 _ _ hr6, paired_imp (fun _ _ z => z.ex e7) pr6, ⟨ws2, e7 _ _ hw2, ?_, by omega⟩, _, rfl⟩
            rw [snoc, List.filter_cons_of_neg (by rw [decide_eq_true_iff]; exact hnt), List.filter_nil, List.append_nil]
            exact paired_imp (fun _ _ z => ArgV.et (Dw.Ex.et e7) z) pw2
        · subst hσ
          refine ⟨e6, ⟨ws2, hw2, ?_⟩, _, _, _, rfl⟩
          rw [show (rows n d.2).take rvs.length = rows n d.2 from List.take_of_length_le (by rw [lrv, rows_len']; exact Nat.le_refl _), List.append_assoc] at pw2
          have : ordT n (sg.take (i + 1)) t = ordT n (sg.take i) t ++ ((rows n d.2).map fun r => (d.1, r)).filter fun c => decide (need c.2 = t) := by
            unfold ordT allc
            rw [List.take_add_one, hd, List.flatMap_append, List.filter_append]
            simp
          rw [this]
          exact pw2
      · subst hσ
        refine ⟨e4, ⟨ws4, hws4, ?_⟩, _, _, _, _, rfl⟩
        rw [lS, List.take_of_length_le (Nat.le_refl _)] at pws4
        rw [List.range_succ, List.flatMap_append, List.flatMap_singleton]
        exact pws4
    · subst hσ
      exact s_ret (ev_var rfl) fun H4 e4 => q m ws H4 (e3.trans e4) nm (e4 _ _ hws) (paired_imp (fun _ _ z => ArgV.et (Dw.Ex.et e4) z) pws)
/-! ### the first cell at which images are no lead -/
def lcOf (p p2 : MArg) (c : Str × List Nat) : LC := (c.2, g (tbOf p.1 p.2.2 c.1) (plc p.2.1 c.2), tbOf p.1 p2.2.2 c.1)
def fod (p p2 : MArg) (f : List Nat) : Option (Str × List Nat) := (ordc p.2.1 p.1).find? fun c => !okC p2.2.1 f (lcOf p p2 c)
def OddV (K : PySem.W.Frag) (H : Hp) (v : V) : Option (Str × List Nat) → Prop
  | none => v = .non
  | some c => ArgV K H v c
def sp_first_odd_lead (K : PySem.W.Frag) : Sp := spX (fun (p : MArg × MArg × List Nat) vs H => (∃ u v w a, vs = [u, v, w, .ref a] ∧ MA K H u v p.1 ∧ Mdl K H w p.2.1.2.1 p.2.1.2.2 ∧ SqL K H a (p.2.2.map vi)) ∧ MOk p.1 ∧ MOk p.2.1 ∧ p.2.1.1 = p.1.1 ∧ p.2.2.length = p.1.2.1 ∧ ∀ y ∈ p.2.2, y < p.2.1.2.1) (fun p v H => OddV K H v (fod p.1 p.2.1 p.2.2))
theorem ordc_mem {n : Nat} {sg : List (Str × Nat)} {c : Str × List Nat} (h : c ∈ ordc n sg) : c ∈ allc n sg := by
  unfold ordc at h
  obtain ⟨t, _, hc⟩ := List.mem_flatMap.mp h
  exact (List.mem_filter.mp hc).1
theorem lcOf_gd {p p2 : MArg} (ok : MOk p) (ok2 : MOk p2) (es : p2.1 = p.1) {f : List Nat} (lf : f.length = p.2.1) {c : Str × List Nat} (hc : c ∈ allc p.2.1 p.1) : ∃ (d : Str × Nat) (i : Nat), p.1[i]? = some d ∧ c.1 = d.1 ∧ d.2 ≤ 2 ∧ c.2.length = d.2 ∧ (∀ x ∈ c.2, x < p.2.1) ∧ (∃ h : i < p.2.2.length, tbOf p.1 p.2.2 c.1 = p.2.2[i]) ∧ plc p.2.1 c.2 < (tbOf p.1 p.2.2 c.1).length ∧ GdC p2.2.1 f (lcOf p p2 c) := by
  obtain ⟨i, d, hi, hcd, hr⟩ := sig_at ok hc
  have p2' := ok.1.pl d (List.mem_iff_getElem?.mpr ⟨i, hi⟩)
  obtain ⟨lr, rl⟩ := rows_of hr
  obtain ⟨il, e1, tb⟩ := tbOf_sig ok ok rfl hi
  obtain ⟨il2, e2, tb2⟩ := tbOf_sig ok ok2 es hi
  have pl := plc_low rl (by rw [lr]; exact p2')
  have pl' : plc p.2.1 c.2 < (tbOf p.1 p.2.2 c.1).length := by
    rw [hcd, e1, tb.len, ← lr]
    exact pl
  refine ⟨d, i, hi, hcd, p2', lr, rl, ⟨il, by rw [hcd, e1]⟩, pl', by show c.2.length ≤ 2; omega, fun x hx => by rw [lf]; exact rl x hx, ?_, ?_⟩
  · rw [lf]
    show g (tbOf p.1 p.2.2 c.1) (plc p.2.1 c.2) < p.2.1
    rw [hcd, e1]
    refine tb.low _ ?_
    rw [← lr]
    exact pl
  · show (tbOf p.1 p2.2.2 c.1).length = p2.2.1 ^ c.2.length
    rw [hcd, e2, tb2.len, lr]
end
end K76
end
section
namespace K76
open PySem PySem.Spec PyProof.Rows L2 Evl RZ Dw M20
/-! data whose lists are none of the purse's -/
mutual
inductive Dz (K : PySem.W.Frag) (p c : Addr) (H : Hp) : V → PyData → Prop where
  | non : Dz K p c H .non .none
  | bl (b : Bool) : Dz K p c H (.bl b) (.bool b)
  | int (i : Int) : Dz K p c H (.int i) (.int i)
  | str (x : Str) : Dz K p c H (.str x) (.str x)
  | lst {a : Addr} {xs : List V} {ds : List PyData} (h : H a = some (.lst xs)) (hp : a ≠ p) (hc : a ≠ c) (r : DzAll K p c H xs ds) : Dz K p c H (.ref a) (.list ds)
  | tup {a : Addr} {xs : List V} {ds : List PyData} (h : SqT K H a xs) (r : DzAll K p c H xs ds) : Dz K p c H (.ref a) (.tuple ds)
inductive DzAll (K : PySem.W.Frag) (p c : Addr) (H : Hp) : List V → List PyData → Prop where
  | nil : DzAll K p c H [] []
  | cons {v : V} {vs : List V} {d : PyData} {ds : List PyData} (a : Dz K p c H v d) (b : DzAll K p c H vs ds) : DzAll K p c H (v :: vs) (d :: ds)
end
section
variable {P : Program} {w : World} {K : PySem.W.Frag} {mg : Str → Option Value} {base : Heap} {σ : L2.St} {H H' : Hp} {p c : Addr} {n : Nat} {v : V} {d : PyData}
mutual
theorem Dz.dp : ∀ {v : V} {d : PyData}, Dz K p c H v d → Dp K H v d
  | _, _, .non => .non
  | _, _, .bl b => .bl b
  | _, _, .int i => .int i
  | _, _, .str x => .str x
  | _, _, .lst h _ _ r => .lst (sq_of h) (DzAll.dp r)
  | _, _, .tup h r => .tup h (DzAll.dp r)
theorem DzAll.dp : ∀ {vs : List V} {ds : List PyData}, DzAll K p c H vs ds → DpAll K H vs ds
  | _, _, .nil => .nil
  | _, _, .cons a b => .cons (Dz.dp a) (DzAll.dp b)
end
mutual
theorem Dz.ex (e : Ex H H') : ∀ {v : V} {d : PyData}, Dz K p c H v d → Dz K p c H' v d
  | _, _, .non => .non
  | _, _, .bl b => .bl b
  | _, _, .int i => .int i
  | _, _, .str x => .str x
  | _, _, .lst h hp hc r => .lst (e _ _ h) hp hc (DzAll.ex e r)
  | _, _, .tup h r => .tup (ex_t e h) (DzAll.ex e r)
theorem DzAll.ex (e : Ex H H') : ∀ {vs : List V} {ds : List PyData}, DzAll K p c H vs ds → DzAll K p c H' vs ds
  | _, _, .nil => .nil
  | _, _, .cons a b => .cons (Dz.ex e a) (DzAll.ex e b)
end
mutual
theorem Dz.off (pu : Pur H p c n) (o : Off H H' p c) : ∀ {v : V} {d : PyData}, Dz K p c H v d → Dz K p c H' v d
  | _, _, .non => .non
  | _, _, .bl b => .bl b
  | _, _, .int i => .int i
  | _, _, .str x => .str x
  | _, _, .lst h hp hc r => .lst (o _ _ hp hc h) hp hc (DzAll.off pu o r)
  | _, _, .tup h r => .tup (o.et pu _ _ h) (DzAll.off pu o r)
theorem DzAll.off (pu : Pur H p c n) (o : Off H H' p c) : ∀ {vs : List V} {ds : List PyData}, DzAll K p c H vs ds → DzAll K p c H' vs ds
  | _, _, .nil => .nil
  | _, _, .cons a b => .cons (Dz.off pu o a) (DzAll.off pu o b)
end
theorem DzAll.len : ∀ {vs : List V} {ds : List PyData}, DzAll K p c H vs ds → vs.length = ds.length
  | _, _, .nil => rfl
  | _, _, .cons a b => by rw [List.length_cons, List.length_cons, DzAll.len b]
theorem DzAll.get : ∀ {vs : List V} {ds : List PyData} {k : Nat} {x : V}, DzAll K p c H vs ds → vs[k]? = some x → ∃ e, ds[k]? = some e ∧ Dz K p c H x e
  | _, _, k, _, .nil, h => by
    rw [List.getElem?_nil] at h
    cases h
  | _, _, 0, x, .cons a b, h => by
    cases Option.some.inj h
    exact ⟨_, rfl, a⟩
  | _, _, k + 1, x, .cons a b, h => DzAll.get (k := k) b h
theorem DzAll.take : ∀ {vs : List V} {ds : List PyData} (k : Nat), DzAll K p c H vs ds → DzAll K p c H (vs.take k) (ds.take k)
  | _, _, k, .nil => by
    rw [List.take_nil, List.take_nil]
    exact .nil
  | _, _, 0, .cons a b => .nil
  | _, _, k + 1, .cons a b => .cons a (DzAll.take k b)
theorem DzAll.drop : ∀ {vs : List V} {ds : List PyData} (k : Nat), DzAll K p c H vs ds → DzAll K p c H (vs.drop k) (ds.drop k)
  | _, _, k, .nil => by
    rw [List.drop_nil, List.drop_nil]
    exact .nil
  | _, _, 0, .cons a b => .cons a b
  | _, _, k + 1, .cons a b => DzAll.drop k b
/-! bounded data, ints of up to forty signs -/
structure Gb (k W : Nat) (d : PyData) : Prop where
  lay : d.canLay0 = true
  dep : d.depth ≤ k
  wgt : d.weight ≤ W
  its : d.intsShort 40 = true
  sho : d.showable = true
theorem Gb.mono {k W k' W' : Nat} {d : PyData} (h : Gb k W d) (a : k ≤ k') (b : W ≤ W') : Gb k' W' d := ⟨h.lay, Nat.le_trans h.dep a, Nat.le_trans h.wgt b, h.its, h.sho⟩
theorem Gb.len {k W : Nat} {d : PyData} (h : Gb k W d) (b : W ≤ 100000) : d.shown.length ≤ sizeLine := by
  have z := PyData.shown_le 40 (by decide) d (PyData.leavesShort_of_canLay0 40 d h.lay h.its)
  have y := h.wgt
  rw [sizeLine_eq]
  omega
/-! what isinstance says -/
def isTup : PyData → Bool
  | .tuple _ => true
  | _ => false
def wholeB : PyData → Bool
  | .int _ => true
  | _ => false
theorem ev_isIntB {ta tb tc td : TE} (ha : Ev ta σ H v) (hc : Ev tb σ H (.ty "int")) (ha2 : Ev tc σ H v) (hc2 : Ev td σ H (.ty "bool")) (h : Dz K p c H v d) : Ev (tAndV (tCB (rIsi K) (tCons ta (tCons tb tNil))) (tNotV (tCB (rIsi K) (tCons tc (tCons td tNil))))) σ H (.bl (wholeB d)) := by
  cases h with
  | non => exact ev_andV (a := false) (b := false) (ev_isi ha hc (.ty _) (fun _ _ => tyx_non) (kit_ty (by decide +kernel))) (fun z => by cases z)
  | bl b => exact ev_andV (a := true) (b := false) (ev_isi ha hc (.ty _) (fun _ _ => tyx_bl b) (kit_ty (by decide +kernel))) (fun _ => ev_notV (a := true) (ev_isi ha2 hc2 (.ty _) (fun _ _ => tyx_bl b) (kit_ty (by decide +kernel))))
  | int i => exact ev_andV (a := true) (b := true) (ev_isi ha hc (.ty _) (fun _ _ => tyx_int i) (kit_ty (by decide +kernel))) (fun _ => ev_notV (a := false) (ev_isi ha2 hc2 (.ty _) (fun _ _ => tyx_int i) (kit_ty (by decide +kernel))))
  | str z => exact ev_andV (a := false) (b := false) (ev_isi ha hc (.ty _) (fun _ _ => tyx_str z) (kit_ty (by decide +kernel))) (fun z => by cases z)
  | lst h _ _ _ => exact ev_andV (a := false) (b := false) (ev_isi ha hc (.ty _) (fun _ e => .base (.lst (e _ _ h))) (kit_ty (by decide +kernel))) (fun z => by cases z)
  | tup h _ => exact ev_andV (a := false) (b := false) (ev_isi ha hc (.ty _) (fun _ e => tyx_tup (ex_t e h)) (kit_ty (by decide +kernel))) (fun z => by cases z)
end
def inL (x : Nat) : Bool := decide (x ∈ letters.cps.toList)
def belowB (n : Int) : PyData → Bool
  | .int i => decide (0 ≤ i) && decide (i < n)
  | _ => false
section
variable {P : Program} {w : World} {K : PySem.W.Frag} {mg : Str → Option Value} {base : Heap} {σ : L2.St} {H H' : Hp} {p c : Addr} {n : Nat} {v : V} {d : PyData}
def sp_whole_any (K : PySem.W.Frag) : Sp := spX (fun (z : (Addr × Addr) × PyData) vs H => (fun (p c : Addr) (d : PyData) => ∃ v, vs = [v] ∧ Dz K p c H v d) z.1.1 z.1.2 z.2) (fun z v H => (fun (d : PyData) => v = .bl (wholeB d)) z.2)
theorem c_whole_any (T : Txt mg) (D : Df K mg "is_whole" s_is_whole ["thing"]) : Cl P w K mg base 1 "is_whole" (sp_whole_any K) := by
  refine cl_of (k := 0) D sc_is_whole (fun vs H Q E h => ?_) (fun f cdv A outer s H vs Q E hr h => ?_)
  · obtain ⟨d, ⟨v, rfl, _⟩, _⟩ := h
    rfl
  · obtain ⟨⟨⟨p, c⟩, d⟩, ⟨v, rfl, hv⟩, q⟩ := h
    refine ⟨_, (pss_one (ps_ret (pe_and (pe_callB call_isi (by rfl) T.z_isinstance (by decide +kernel) (pa_cons (pv 0) (pa_cons (pe_ty "int" (by rfl) T.z_int (by decide +kernel)) pa_nil))) (pe_one (pe_not (pe_callB call_isi (by rfl) T.z_isinstance (by decide +kernel) (pa_cons (pv 0) (pa_cons (pe_ty "bool" (by rfl) T.z_bool (by decide +kernel)) pa_nil)))))))), ?_⟩
    exact s_ret (ev_isIntB (K := K) (ev_var rfl) ev_c (ev_var rfl) ev_c hv) fun H1 e1 => q _ H1 e1 rfl
theorem whole_int (h : Dz K p c H v d) (w : wholeB d = true) : ∃ i, v = .int i ∧ d = .int i := by
  cases h with
  | int i => exact ⟨i, rfl, rfl⟩
  | non => cases w
  | bl b => cases w
  | str z => cases w
  | lst _ _ _ _ => cases w
  | tup _ _ => cases w
def sp_below_any (K : PySem.W.Frag) : Sp := spX (fun (z : (Addr × Addr) × PyData × Int) vs H => (fun (p c : Addr) (q : PyData × Int) => ∃ v, vs = [v, .int q.2] ∧ Dz K p c H v q.1) z.1.1 z.1.2 z.2) (fun z v H => (fun (q : PyData × Int) => v = .bl (belowB q.2 q.1)) z.2)
theorem c_below_any (T : Txt mg) (D : Df K mg "is_below" s_is_below ["thing", "size"]) (c_whole_any : Cl P w K mg base 1 "is_whole" (sp_whole_any K)) : Cl P w K mg base 2 "is_below" (sp_below_any K) := by
  refine cl_of (k := 1) D sc_is_below (fun vs H Q E h => ?_) (fun f cdv A outer s H vs Q E hr h => ?_)
  · obtain ⟨d, ⟨v, rfl, _⟩, _⟩ := h
    rfl
  · obtain ⟨⟨⟨p, c⟩, d, n⟩, ⟨v, rfl, hv⟩, q⟩ := h
    have c_is_whole := c_whole_any
    refine ⟨_, (pss_one (ps_ret (pe_and (pe_cl c_is_whole hr (by first | decide | omega) (by rfl) (pa_cons (pv 0) pa_nil)) (pe_one (pe_chain op_le op_lt pe_int (pv 0) (pv 1)))))), ?_⟩
    replace hv : Dz K p c H v d := hv
    replace q : ∀ r H', Ex H H' → r = .bl (belowB n d) → Q r H' := q
    by_cases hw : wholeB d = true
    · obtain ⟨i, rfl, rfl⟩ := whole_int hv hw
      refine s_ret (ev_andV (a := true) (b := belowB n (.int i)) (ev_callV (v := .bl true) ((p, c), PyData.int i) (ea_cons (ev_var rfl) ea_nil) (fun H1 e1 => ⟨_, rfl, .int i⟩) (fun _ _ z => z.trans rfl)) (fun _ => ev_chain ev_c (ev_var rfl) (fun _ => ev_var rfl) rv_I0 (fun _ => rv_I0))) fun H1 e1 => q _ H1 e1 rfl
    · have hw2 : wholeB d = false := by simpa using hw
      refine s_ret (ev_andV (a := false) (b := false) (ev_callV (v := .bl false) ((p, c), d) (ea_cons (ev_var rfl) ea_nil) (fun H1 e1 => ⟨_, rfl, hv.ex e1⟩) (fun _ _ z => by rw [z, hw2])) (fun z => by cases z)) fun H1 e1 => q _ H1 e1 ?_
      cases d <;> first | rfl | cases hw2
end
end K76
end
section
namespace K76
open PySem PySem.Spec PyProof.Rows L2 Evl RZ Dw M20 M25 CL LD
section
variable {P : Program} {w : World} {K : PySem.W.Frag} {mg : Str → Option Value} {base : Heap} {σ : L2.St} {H : Hp} {ta tb : TE}
theorem ev_ixNP {ns : List Nat} {k : Nat} (ha : EvP ta σ H (fun v H' => Nats K H' v ns)) (hb : ∀ H1, Ex H H1 → Ev tb σ H1 (vi k)) (hk : k < ns.length) : Ev (tOp (rIxT K) ta tb) σ H (vi (g ns k)) := fun H1 e1 Q q =>
  do_op (ha H1 e1 _ fun v H2 e2 ⟨a, hv, hs⟩ => by
    subst hv
    exact do_ev (hb H2 (e1.trans e2)) fun H3 e3 => ⟨a, ns.map vi, ((k : Nat) : Int), vi (g ns k), rfl, rfl, ex_t e3 hs, atI_vi (k := k) (by rw [List.getElem?_map, g_eq hk]; rfl), q H3 (e2.trans e3)⟩)
theorem find_at {α : Type} {f : α → Bool} {c : α} : ∀ {L : List α} {i : Nat}, L[i]? = some c → (L.take i).all (fun x => !f x) = true → f c = true → L.find? f = some c
  | x :: L, 0, h, _, hc => by
    cases Option.some.inj h
    rw [List.find?_cons, hc]
  | x :: L, i + 1, h, hn, hc => by
    rw [List.take_succ_cons, List.all_cons, Bool.and_eq_true, Bool.not_eq_true'] at hn
    rw [List.find?_cons, hn.1]
    exact find_at (L := L) (i := i) h hn.2 hc
theorem find_no {α : Type} {f : α → Bool} {L : List α} (hn : L.all (fun x => !f x) = true) : L.find? f = none := by
  rw [List.find?_eq_none]
  intro x hx hf
  have := List.all_eq_true.mp hn x hx
  rw [hf] at this
  cases this
theorem c_first_odd_cell_leads (T : Txt mg) (D : DfQ K mg "first_odd_cell_leads" "first_odd_cell" s_first_odd_lead ["signature", "one", "other", "images"]) (c_cells_in_order : Cl P w K mg base 2 "cells_in_order" (sp_order K)) (c_table_of : Cl P w K mg base 1 "table_of" (sp_table_of K)) (c_place_of_rowT : Cl P w K mg base 1 "place_of_row" (sp_place_T K)) (c_leads_on : Cl P w K mg base 2 "leads_on" (sp_leads_on K)) : Cl P w K mg base 3 "first_odd_cell_leads" (sp_first_odd_lead K) := by
  refine cl_ofQ (k := 2) D sc_first_odd_lead (fun vs H Q E h => ?_) (fun f cdv A outer s H vs Q E hr h => ?_)
  · obtain ⟨p, ⟨⟨u, v, w, a, rfl, _⟩, _⟩, _⟩ := h
    rfl
  · obtain ⟨⟨p, p2, F⟩, ⟨⟨u, v, w, a, rfl, hm, hw, ha⟩, ok, ok2, es, lf, low⟩, q⟩ := h
    refine ⟨_, (pss_cons (ps_for PassesOwn.never (by rfl) (pi_list (pe_cl c_cells_in_order hr (by first | decide | omega) (by rfl) (pa_cons (pv 0) (pa_cons (pe_ix ix_tup (pv 1) pe_int (fun _ _ => rfl)) pa_nil)))) (pg_tup (by rfl) (pgs_cons (pg_name (i := 4) sc_first_odd_lead.nd rfl (.inl rfl)) (pgs_cons (pg_name (i := 5) sc_first_odd_lead.nd rfl (.inl rfl)) pgs_nil)))
        (pss_cons (ps_set (i := 6) sc_first_odd_lead.nd rfl (.inl rfl) (pe_ix ix_tup (pe_cl c_table_of hr (by first | decide | omega) (by rfl) (pa_cons (pv 0) (pa_cons (pe_ix ix_tup (pv 1) pe_int (fun _ _ => rfl)) (pa_cons (pv 4) pa_nil)))) (pe_cl c_place_of_rowT hr (by first | decide | omega) (by rfl) (pa_cons (pe_ix ix_tup (pv 1) pe_int (fun _ _ => rfl)) (pa_cons (pv 5) pa_nil))) (fun _ _ => rfl)))
        (pss_one (ps_if (pt_not (pt_val (pe_cl c_leads_on hr (by first | decide | omega) (by rfl) (pa_cons (pe_lst (pa_cons (pe_tup (pa_cons (pv 5) (pa_cons (pv 6) (pa_cons (pe_cl c_table_of hr (by first | decide | omega) (by rfl) (pa_cons (pv 0) (pa_cons (pe_ix ix_tup (pv 2) pe_int (fun _ _ => rfl)) (pa_cons (pv 4) pa_nil)))) pa_nil)))) pa_nil)) (pa_cons (pe_ix ix_tup (pv 2) pe_int (fun _ _ => rfl)) (pa_cons (pv 3) pa_nil))))))
          (pss_one (ps_ret (pe_tup (pa_cons (pv 4) (pa_cons (pv 5) pa_nil)))))
          pss_nil))))
      (pss_one (ps_ret pe_non))), ?_⟩
    replace hm : MA K H u v p := hm
    replace hw : Mdl K H w p2.2.1 p2.2.2 := hw
    replace ha : SqL K H a (F.map vi) := ha
    replace es : p2.1 = p.1 := es
    replace lf : F.length = p.2.1 := lf
    replace low : ∀ y ∈ F, y < p2.2.1 := low
    replace q : ∀ r H', Ex H H' → OddV K H' r (fod p p2 F) → Q r H' := q
    obtain ⟨z, tv, rfl, hZ, hT⟩ := id hm.2
    obtain ⟨z2, tv2, rfl, hZ2, hT2⟩ := id hw
    have n6 := ok.2.n6
    have n26 := ok2.2.n6
    refine q_forLs (ea_cons (ev_var rfl) (ea_cons (ev_op (ev_var rfl) ev_c (rv_ixT (K := K) hZ (atI_vi (k := 0) rfl))) ea_nil) H (Ex.refl _) _ fun H1 e1 => ⟨p.1, p.2.1, u, rfl, hm.1.ex e1, ok.1, n6, fun b bs H2 e2 nb hb pw => ⟨b, rfl, ⟨_, sq_of hb⟩, ?_⟩⟩)
    have e02 := e1.trans e2
    replace pw : Paired (ArgV K H2) bs (ordc p.2.1 p.1) := pw
    refine qloops_list (K := K) (xs := bs) (fun i σ H' => Ex H2 H' ∧ ((ordc p.2.1 p.1).take i).all (fun c => !(!okC p2.2.1 F (lcOf p p2 c))) = true ∧ ∃ y4 y5 y6, σ = [some u, some (.ref z), some (.ref z2), some (.ref a), y4, y5, y6]) ⟨Ex.refl _, by rw [List.take_zero]; rfl, none, none, none, rfl⟩ (fun i σ' H' _ ⟨e, _⟩ => sq_of (e _ _ hb)) (fun i x σ' H3 hx ⟨e3, al, y4, y5, y6, hσ⟩ => ?_) (fun σ' H3 ⟨e3, al, y4, y5, y6, hσ⟩ => ?_)
    · subst hσ
      obtain ⟨c, hc, t, x1, rfl, ht, xa, rfl, hxa⟩ := paired_at pw hx
      obtain ⟨d, i2, hi2, hcd, p2', lr, rl, tb, pl, gd⟩ := lcOf_gd ok ok2 es lf (ordc_mem (List.mem_iff_getElem?.mpr ⟨i, hc⟩))
      have e03 := e02.trans e3
      have dm : (c.1, d.2) ∈ p.1 := by rw [hcd]; exact List.mem_iff_getElem?.mpr ⟨i2, hi2⟩
      refine ⟨t, _, rfl, ex_t e3 ht, rfl, _, _, rfl, _, _, rfl, rfl, ?_⟩
      show tSeq _ _ _ [some u, some (.ref z), some (.ref z2), some (.ref a), some (.str c.1), some (.ref xa), y6] H3
      refine q_asg (v := vi (g (tbOf p.1 p.2.2 c.1) (plc p.2.1 c.2))) (ev_ixNP (ep_call (p.1, p.2.1, p.2.2, c.1, d.2) (ea_cons (ev_var rfl) (ea_cons (ev_op (ev_var rfl) ev_c (rv_ixT (K := K) (ex_t e03 hZ) (atI_vi (k := 1) rfl))) (ea_cons (ev_var rfl) ea_nil))) (fun H4 e4 => ⟨⟨_, _, rfl, hm.1.ex (e03.trans e4), hT.ex (e03.trans e4)⟩, ok.2.len, dm⟩)) (fun H4 e4 => ev_callV (p.2.1, c.2) (ea_cons (ev_op (ev_var rfl) ev_c (rv_ixT (K := K) (ex_t (e03.trans e4) hZ) (atI_vi (k := 0) rfl))) (ea_cons (ev_var rfl) ea_nil)) (fun H5 e5 => ⟨⟨_, rfl, xa, rfl, ex_t (e3.trans (e4.trans e5)) hxa⟩, n6, by show c.2.length ≤ 2; omega, rl⟩) (fun _ _ z => z)) pl) fun H4 e4 => ?_
      have e04 := e03.trans e4
      refine s_when (b := !okC p2.2.1 F (lcOf p p2 c)) (et_not (et_val ?_)) (fun ho H5 e5 => ?_) (fun ho H5 e5 => ?_)
      · intro H5 e5 Q' q'
        refine do_cons (do_lst (do_cons (ep_lc (K := K) (c := lcOf p p2 c) (ev_var rfl) (ev_var rfl) (ep_call (p.1, p2.2.1, p2.2.2, c.1, d.2) (ea_cons (ev_var rfl) (ea_cons (ev_op (ev_var rfl) ev_c (rv_ixT (K := K) (ex_t (e04.trans e5) hZ2) (atI_vi (k := 1) rfl))) (ea_cons (ev_var rfl) ea_nil))) (fun H6 e6 => ⟨⟨_, _, rfl, hm.1.ex (e04.trans (e5.trans e6)), hT2.ex (e04.trans (e5.trans e6))⟩, by rw [← es]; exact ok2.2.len, dm⟩)) ⟨xa, rfl, ex_t (e3.trans (e4.trans e5)) hxa⟩ H5 (Ex.refl _) _ fun lv H6 e6 hlv => do_nil ⟨by show 1 ≤ sizeLine; decide, fun l nl => ?_⟩)))
        have e7 := Ex.new (H := H6) (o := .lst [lv]) nl
        have e57 := e6.trans e7
        refine do_cons (do_ev (v := vi p2.2.1) (ev_op (ev_var rfl) ev_c (rv_ixT (K := K) (ex_t (e04.trans (e5.trans e57)) hZ2) (atI_vi (k := 0) rfl))) fun H8 e8 => do_cons (do_ev (ev_var rfl) fun H9 e9 => do_nil ⟨([lcOf p p2 c], p2.2.1, F), ⟨⟨l, [lv], a, rfl, (e8.trans e9) _ _ upd_same, .cons (LcV.et (Dw.Ex.et (e7.trans (e8.trans e9))) hlv) .nil, ex_l (e04.trans (e5.trans (e57.trans (e8.trans e9)))) ha⟩, n26, low, fun c' hc' => by rw [List.mem_singleton.mp hc']; exact gd⟩, fun r H10 e10 hr => ?_⟩))
        rw [hr]
        refine Eq.mp (congrArg (fun b => Q' (.bl b) H10) ?_) (q' H10 (e57.trans (e8.trans (e9.trans e10))))
        show okC p2.2.1 F (lcOf p p2 c) = allOk p2.2.1 [lcOf p p2 c] F
        rw [allOk, List.all_cons, List.all_nil, Bool.and_true]
      · have fd : fod p p2 F = some c := find_at hc al ho
        refine s_retP (tv_tup (K := K) (xs := [.str c.1, .ref xa]) (ea_cons (ev_var rfl) (ea_cons (ev_var rfl) ea_nil)) (by show 2 ≤ 100000; decide)) fun v H6 e6 ⟨vb, hv, hvb⟩ => q _ H6 (e04.trans (e5.trans e6)) ?_
        rw [fd]
        exact ⟨vb, .ref xa, hv, hvb, xa, rfl, ex_t (e3.trans (e4.trans (e5.trans e6))) hxa⟩
      · refine ⟨e3.trans (e4.trans e5), ?_, _, _, _, rfl⟩
        rw [List.take_add_one, hc, List.all_append, al]
        show (true && ([c].all _)) = true
        rw [List.all_cons, List.all_nil, Bool.and_true, Bool.true_and, ho]
        rfl
    · subst hσ
      refine s_ret (v := .non) ev_c fun H4 e4 => q _ H4 (e02.trans (e3.trans e4)) ?_
      rw [show fod p p2 F = none from find_no (by rw [List.take_of_length_le (by rw [paired_len pw]; exact Nat.le_refl _)] at al; exact al)]
      rfl
end
end K76
end
section
namespace K76
open PySem PySem.Spec PyProof.Rows L2 Evl Dw M20
/-! ### more mathematics -/
/-- the first i numbers met -/
def met (n : Nat) (o : List Nat) (i : Nat) : List Bool := (List.range n).map fun k => decide (o.idxOf k < i)
theorem met_0 (n : Nat) (o : List Nat) : met n o 0 = List.replicate n false := by
  unfold met
  rw [show (fun k => decide (o.idxOf k < 0)) = fun _ => false from funext fun k => decide_eq_false (Nat.not_lt_zero _), List.map_const', List.length_range]
theorem met_at {n : Nat} {o : List Nat} (h : Ord n o) {i : Nat} (hi : i < n) : (met n o i)[g o i]? = some false := by
  unfold met
  rw [List.getElem?_map, List.getElem?_range (h.low i hi)]
  show some (decide (o.idxOf (g o i) < i)) = some false
  rw [idx_of h hi, decide_eq_false (Nat.lt_irrefl _)]
theorem idx_is {n : Nat} {o : List Nat} (h : Ord n o) {k i : Nat} (hk : k < n) (e : o.idxOf k = i) : g o i = k := by
  have := g_bk h hk
  rw [bk, g_map (by rw [h.len]; exact hk), e] at this
  exact this
theorem met_set {n : Nat} {o : List Nat} (h : Ord n o) {i : Nat} (hi : i < n) : (met n o i).set (g o i) true = met n o (i + 1) := by
  apply List.ext_getElem?
  intro k
  have hl : (met n o i).length = n := by simp [met]
  rw [List.getElem?_set, hl]
  by_cases hk : k < n
  · have e2 : (met n o (i + 1))[k]? = some (decide (o.idxOf k < i + 1)) := by
      unfold met
      rw [List.getElem?_map, List.getElem?_range hk]
      rfl
    have e1 : (met n o i)[k]? = some (decide (o.idxOf k < i)) := by
      unfold met
      rw [List.getElem?_map, List.getElem?_range hk]
      rfl
    rw [e2]
    by_cases e : g o i = k
    · rw [if_pos e, if_pos (by rw [e]; exact hk), ← e, idx_of h hi, decide_eq_true (Nat.lt_succ_self _)]
    · rw [if_neg e, e1]
      have ne : o.idxOf k ≠ i := fun z => e (idx_is h hk z)
      by_cases q : o.idxOf k < i
      · rw [decide_eq_true q, decide_eq_true (Nat.lt_succ_of_lt q)]
      · rw [decide_eq_false q, decide_eq_false (by omega)]
  · rw [List.getElem?_eq_none_iff.mpr (show (met n o (i + 1)).length ≤ k by simp [met]; omega)]
    have := h.low i hi
    rw [if_neg (by omega), List.getElem?_eq_none_iff.mpr (by rw [hl]; omega)]
/-- the first i numbers called back -/
def bks (n : Nat) (o : List Nat) (i : Nat) : List Nat := (List.range n).map fun k => if o.idxOf k < i then o.idxOf k else 0
theorem bks_0 (n : Nat) (o : List Nat) : bks n o 0 = List.replicate n 0 := by
  unfold bks
  rw [show (fun k => if o.idxOf k < 0 then o.idxOf k else 0) = fun _ => 0 from funext fun k => if_neg (Nat.not_lt_zero _), List.map_const', List.length_range]
theorem bks_len (n : Nat) (o : List Nat) (i : Nat) : (bks n o i).length = n := by simp [bks]
theorem bks_set {n : Nat} {o : List Nat} (h : Ord n o) {i : Nat} (hi : i < n) : (bks n o i).set (g o i) i = bks n o (i + 1) := by
  apply List.ext_getElem?
  intro k
  have hl : (bks n o i).length = n := bks_len n o i
  rw [List.getElem?_set, hl]
  by_cases hk : k < n
  · have e2 : (bks n o (i + 1))[k]? = some (if o.idxOf k < i + 1 then o.idxOf k else 0) := by
      unfold bks
      rw [List.getElem?_map, List.getElem?_range hk]
      rfl
    have e1 : (bks n o i)[k]? = some (if o.idxOf k < i then o.idxOf k else 0) := by
      unfold bks
      rw [List.getElem?_map, List.getElem?_range hk]
      rfl
    rw [e2]
    by_cases e : g o i = k
    · rw [if_pos e, if_pos (by rw [e]; exact hk), ← e, idx_of h hi, if_pos (Nat.lt_succ_self _)]
    · rw [if_neg e, e1]
      have ne : o.idxOf k ≠ i := fun z => e (idx_is h hk z)
      by_cases q : o.idxOf k < i
      · rw [if_pos q, if_pos (Nat.lt_succ_of_lt q)]
      · rw [if_neg q, if_neg (by omega)]
  · rw [List.getElem?_eq_none_iff.mpr (show (bks n o (i + 1)).length ≤ k by rw [bks_len]; omega)]
    have := h.low i hi
    rw [if_neg (by omega), List.getElem?_eq_none_iff.mpr (by rw [hl]; omega)]
theorem bks_all {n : Nat} {o : List Nat} (h : Ord n o) : bks n o n = bk o := by
  unfold bks bk
  rw [h.len]
  apply List.map_congr_left
  intro k hk
  have hk' := List.mem_range.mp hk
  rw [if_pos (by rw [← h.len]; exact List.idxOf_lt_length_of_mem (hits n o h k hk'))]
theorem flat_range {α : Type} (m : Nat) (hm : 0 < m) (f : Nat → Nat → α) : ∀ n, ((List.range n).flatMap fun i => (List.range m).map (f i)) = (List.range (n * m)).map fun s => f (s / m) (s % m)
  | 0 => by rw [Nat.zero_mul]; rfl
  | n + 1 => by
    rw [List.range_succ, List.flatMap_append, flat_range m hm f n, List.flatMap_singleton, Nat.add_mul, Nat.one_mul, List.range_add, List.map_append, List.map_map]
    congr 1
    apply List.map_congr_left
    intro k hk
    have hk' := List.mem_range.mp hk
    show f n k = f ((n * m + k) / m) ((n * m + k) % m)
    rw [Nat.add_comm (n * m) k, Nat.add_mul_div_right _ _ hm, Nat.div_eq_of_lt hk', Nat.zero_add, Nat.add_mul_mod_self_right, Nat.mod_eq_of_lt hk']
theorem vi_get {l : List Nat} {k : Nat} (h : k < l.length) : (l.map vi)[k]? = some (vi (g l k)) := by
  rw [List.getElem?_map, g_eq h]
  rfl
section
variable {P : Program} {w : World} {K : PySem.W.Frag} {mg : Str → Option Value} {base : Heap}
/-! ### orders -/
def sp_is_order (K : PySem.W.Frag) : Sp := spX (fun (p : Nat × List Nat) vs H => (∃ v, vs = [v, vi p.1] ∧ Nats K H v p.2) ∧ Ord p.1 p.2 ∧ p.1 ≤ 6) (fun _ v _ => v = .bl true)
theorem c_are_unlike_below (T : Txt mg) (D : Df K mg "are_unlike_below" s_are_unlike_below ["things", "size"]) (c_is_below : Cl P w K mg base 2 "is_below" sp_is_below) : Cl P w K mg base 3 "are_unlike_below" (sp_is_order K) := by
  refine cl_of (k := 2) D sc_are_unlike_below (fun vs H Q E h => ?_) (fun f cdv A outer s H vs Q E hr h => ?_)
  · obtain ⟨p, ⟨⟨v, rfl, _⟩, _⟩, _⟩ := h
    rfl
  · obtain ⟨⟨n, o⟩, ⟨⟨v, rfl, a, rfl, hS⟩, ord, n6⟩, q⟩ := h
    refine ⟨_, (pss_cons (ps_set (i := 2) sc_are_unlike_below.nd rfl (.inl rfl) (pe_op op_rep (pe_lst (pa_cons pe_bl pa_nil)) (pv 1)))
      (pss_cons (ps_for PassesOwn.never (by rfl) (pi_tup (pv 0)) (pg_name (i := 3) sc_are_unlike_below.nd rfl (.inl rfl))
        (pss_cons (ps_if (PW.pt (pw_or (pt_not (pt_val (pe_cl c_is_below hr (by first | decide | omega) (by rfl) (pa_cons (pv 3) (pa_cons (pv 1) pa_nil))))) (pw_or1 (pt_val (pe_ix ix_list (pv 2) (pv 3) (fun _ _ => rfl))))))
          (pss_one (ps_ret pe_bl))
          pss_nil)
        (pss_one (ps_asg pe_bl (pg_sub (pv 2) (pv 3) set_list)))))
      (pss_one (ps_ret pe_bl)))), ?_⟩
    have n6' : n ≤ 6 := n6
    have ln : o.length = n := ord.len
    have lo : (o.map vi).length = n := by rw [List.length_map, ln]
    refine q_asgL (el_rep (el_lst (ea_cons ev_c ea_nil) (by decide)) (ev_var rfl) (by show 1 * n ≤ _; omega) (by omega)) fun m H2 nm e2 hm => ?_
    rw [rep1] at hm
    have nH : H m = none := nm
    refine q_forT (ev_var rfl) (ex_t e2 hS) (fun i σ H' => Ex H H' ∧ H' m = some (.lst ((met n o i).map V.bl)) ∧ ∃ y, σ = [some (.ref a), some (vi n), some (.ref m), y]) (fun H3 e3 => ⟨e2.trans e3, by rw [met_0, List.map_replicate]; exact e3 _ _ hm, none, rfl⟩) (fun i σ H' _ ⟨e, _⟩ => ex_t e hS) (fun i x σ H3 hx ⟨e3, hm3, y, hσ⟩ => ?_) (fun σ H3 ⟨e3, _, y, hσ⟩ => ?_)
    · subst hσ
      have hi : i < n := by rw [← lo]; exact (List.getElem?_eq_some_iff.mp hx).1
      have ex : x = vi (g o i) := by
        rw [vi_get (by rw [ln]; exact hi)] at hx
        exact (Option.some.inj hx).symm
      subst ex
      have low : g o i < n := ord.low i hi
      have ml : ((met n o i).map V.bl).length = n := by simp [met]
      have at0 : ((met n o i).map V.bl)[g o i]? = some (.bl false) := by rw [List.getElem?_map, met_at ord hi]; rfl
      refine q_when (b := false) (et_is (et_or (et_not (et_val (ev_callV (v := .bl true) (((g o i : Nat) : Int), (n : Int)) (ea_cons (ev_var rfl) (ea_cons (ev_var rfl) ea_nil)) (fun _ _ => ⟨rfl, by show (0 : Int) ≤ ((g o i : Nat) : Int); omega, by show ((g o i : Nat) : Int) < (n : Int); omega⟩) (fun _ _ p => p)))) (fun _ => et_val (ev_op (ev_var rfl) (ev_var rfl) (rv_ixL (sq_of hm3) (atI_vi at0))))) rfl) (fun hb => by cases hb) (fun _ H4 e4 => ?_)
      refine s_setL (e4 _ _ hm3) ev_c (ev_var rfl) (ev_var rfl) (by rw [ml]; exact low) (fun H5 e5 => ⟨((e3.trans e4).trans e5).mut nH, ?_, _, rfl⟩)
      rw [upd_same, ← met_set ord hi, List.map_set]
    · subst hσ
      exact s_ret ev_c fun H4 e4 => q _ H4 (e3.trans e4) rfl
theorem c_is_order (T : Txt mg) (D : Df K mg "is_order" s_is_order ["thing", "size"]) (c_are_unlike_below : Cl P w K mg base 3 "are_unlike_below" (sp_is_order K)) : Cl P w K mg base 4 "is_order" (sp_is_order K) := by
  refine cl_of (k := 3) D sc_is_order (fun vs H Q E h => ?_) (fun f cdv A outer s H vs Q E hr h => ?_)
  · obtain ⟨p, ⟨⟨v, rfl, _⟩, _⟩, _⟩ := h
    rfl
  · obtain ⟨⟨n, o⟩, ⟨⟨v, rfl, a, rfl, hS⟩, ord, n6⟩, q⟩ := h
    refine ⟨_, (pss_one (ps_ret (pe_and (pe_callB call_isi (by rfl) T.z_isinstance (by decide +kernel) (pa_cons (pv 0) (pa_cons (pe_ty "tuple" (by rfl) T.z_tuple (by decide +kernel)) pa_nil))) (pe_and (pe_cmpR op_eq (pe_callB call_len_seq (by rfl) T.z_len PySem.boot_len (pa_cons (pv 0) pa_nil)) (pv 1) (nomark _)) (pe_one (pe_cl c_are_unlike_below hr (by first | decide | omega) (by rfl) (pa_cons (pv 0) (pa_cons (pv 1) pa_nil)))))))), ?_⟩
    have n6' : n ≤ 6 := n6
    have ln : o.length = n := ord.len
    have lo : (o.map vi).length = n := by rw [List.length_map, ln]
    refine s_ret (v := .bl (true && (decide (V.int ((o.map vi).length : Int) = vi n) && true))) (ev_andV (a := true) (ev_isi (ev_var rfl) ev_c (.ty _) (fun _ e => tyx_tup (ex_t e hS)) kit_tt) (fun _ => ev_andV (ev_op (ev_lenT (ev_var rfl) hS) (ev_var rfl) (rv_eq rfl)) (fun _ => ev_callV (v := .bl true) (n, o) (ea_cons (ev_var rfl) (ea_cons (ev_var rfl) ea_nil)) (fun H1 e1 => ⟨⟨_, rfl, a, rfl, ex_t e1 hS⟩, ord, n6⟩) (fun _ _ p => p)))) fun H1 e1 => q _ H1 e1 ?_
    show V.bl (true && (decide (V.int ((o.map vi).length : Int) = vi n) && true)) = V.bl true
    rw [lo, decide_eq_true rfl]
    rfl
def sp_turned_back (K : PySem.W.Frag) : Sp := spX (fun (p : Nat × List Nat) vs H => (∃ v, vs = [v] ∧ Nats K H v p.2) ∧ Ord p.1 p.2 ∧ p.1 ≤ 6) (fun p v H => Nats K H v (bk p.2))
theorem c_turned_back (T : Txt mg) (D : Df K mg "turned_back" s_turned_back ["order"]) : Cl P w K mg base 1 "turned_back" (sp_turned_back K) := by
  refine cl_of (k := 0) D sc_turned_back (fun vs H Q E h => ?_) (fun f cdv A outer s H vs Q E hr h => ?_)
  · obtain ⟨p, ⟨⟨v, rfl, _⟩, _⟩, _⟩ := h
    rfl
  · obtain ⟨⟨n, o⟩, ⟨⟨v, rfl, a, rfl, hS⟩, ord, n6⟩, q⟩ := h
    refine ⟨_, (pss_cons (ps_set (i := 1) sc_turned_back.nd rfl (.inl rfl) (pe_op op_rep (pe_lst (pa_cons pe_int pa_nil)) (pe_callB call_len_seq (by rfl) T.z_len PySem.boot_len (pa_cons (pv 0) pa_nil))))
      (pss_cons (ps_for PassesOwn.never (by rfl) (pi_enumT (by rfl) T.z_enumerate (pa_cons (pv 0) pa_nil)) (pg_tup (by rfl) (pgs_cons (pg_name (i := 2) sc_turned_back.nd rfl (.inl rfl)) (pgs_cons (pg_name (i := 3) sc_turned_back.nd rfl (.inl rfl)) pgs_nil)))
        (pss_one (ps_asg (pv 2) (pg_sub (pv 1) (pv 3) set_list))))
      (pss_one (ps_ret (pe_callTy call_tuple_of (by rfl) T.z_tuple (by decide +kernel) (pa_cons (pv 1) pa_nil)))))), ?_⟩
    have n6' : n ≤ 6 := n6
    have ln : o.length = n := ord.len
    have lo : (o.map vi).length = n := by rw [List.length_map, ln]
    have len : Ev (tCB (rLenS K) (tCons (tVar 0) tNil)) [some (.ref a), none, none, none] H (vi n) := by
      have := ev_lenT (σ := [some (.ref a), none, none, none]) (ta := tVar 0) (ev_var rfl) hS
      rw [lo] at this
      exact this
    refine q_asgL (el_rep (el_lst (ea_cons ev_c ea_nil) (by decide)) len (by show 1 * n ≤ _; omega) (by omega)) fun m H2 nm e2 hm => ?_
    rw [rep1] at hm
    refine q_enumT (ea_cons (ev_var rfl) ea_nil) (ex_t e2 hS) (fun i σ H' => Ex H H' ∧ H' m = some (.lst ((bks n o i).map vi)) ∧ ∃ y2 y3, σ = [some (.ref a), some (.ref m), y2, y3]) (fun H3 e3 => ⟨e2.trans e3, by rw [bks_0, List.map_replicate]; exact e3 _ _ hm, none, none, rfl⟩) (fun i σ H' _ ⟨e, _⟩ => ex_t e hS) (fun i x σ H3 H4 hx ⟨e3, hm3, y2, y3, hσ⟩ e4 => ?_) (fun σ H3 ⟨e3, hm3, y2, y3, hσ⟩ => ?_)
    · subst hσ
      have hi : i < n := by rw [← lo]; exact (List.getElem?_eq_some_iff.mp hx).1
      have ex : x = vi (g o i) := by
        rw [vi_get (by rw [ln]; exact hi)] at hx
        exact (Option.some.inj hx).symm
      subst ex
      have low : g o i < n := ord.low i hi
      refine s_setL (e4 _ _ hm3) (ev_var rfl) (ev_var rfl) (ev_var rfl) (by rw [List.length_map, bks_len]; exact low) (fun H5 e5 => ⟨((e3.trans e4).trans e5).mut nm, ?_, _, _, rfl⟩)
      rw [upd_same, ← bks_set ord hi, List.map_set]
    · subst hσ
      rw [lo, bks_all ord] at hm3
      exact s_retP (ep_nats (K := K) (eu_tupL (ev_var rfl) (sq_of hm3)) rfl) fun v H4 e4 p => q _ H4 (e3.trans e4) p
/-! ### tables renamed -/
def sp_renamed_table (K : PySem.W.Frag) : Sp := spX (fun (p : Nat × Nat × List Nat × List Nat) vs H => (∃ v u, vs = [vi p.1, vi p.2.1, v, u] ∧ Nats K H v p.2.2.1 ∧ Nats K H u p.2.2.2) ∧ Tab p.1 p.2.1 p.2.2.1 ∧ Ord p.1 p.2.2.2 ∧ 1 ≤ p.1 ∧ p.1 ≤ 6 ∧ p.2.1 ≤ 2)
  (fun p v H => Nats K H v (ren p.1 p.2.1 p.2.2.2 p.2.2.1))
theorem c_renamed_table (T : Txt mg) (D : Df K mg "renamed_table" s_renamed_table ["size", "places", "table", "order"]) (c_turned_back : Cl P w K mg base 1 "turned_back" (sp_turned_back K)) : Cl P w K mg base 2 "renamed_table" (sp_renamed_table K) := by
  refine cl_of (k := 1) D sc_renamed_table (fun vs H Q E h => ?_) (fun f cdv A outer s H vs Q E hr h => ?_)
  · obtain ⟨p, ⟨⟨v, u, rfl, _⟩, _⟩, _⟩ := h
    rfl
  · obtain ⟨⟨n, p, t, o⟩, ⟨⟨v, u, rfl, hV, hU⟩, tab, ord, n1, n6, p2⟩, q⟩ := h
    refine ⟨_, (pss_cons (ps_set (i := 4) sc_renamed_table.nd rfl (.inr rfl) (pe_cl c_turned_back hr (by first | decide | omega) (by rfl) (pa_cons (pv 3) pa_nil)))
      (pss_cons (ps_if (pt_cmpR op_eq (pv 1) pe_int (nomark _))
        (pss_one (ps_ret (pe_tup (pa_cons (pe_ix ix_tup (pv 3) (pe_ix ix_tup (pv 2) pe_int (fun _ _ => rfl)) (fun _ _ => rfl)) pa_nil))))
        pss_nil)
      (pss_cons (ps_if (pt_cmpR op_eq (pv 1) pe_int (nomark _))
        (pss_one (ps_ret (pe_callTy call_tuple_of (by rfl) T.z_tuple (by decide +kernel) (pa_cons (pe_lc (own := [("number", 5)]) (g := (gName 5)) (by rfl) sc_renamed_table.nd (pi_tup (pv 4)) (blkOk_by (own := [("number", 5)]) (N := ["size", "places", "table", "order", "back", "number", "one", "other"]) (sc := (defScope s_renamed_table)) (by decide +kernel)) (fun _ _ _ _ _ => (pg_name (i := 5) sc_renamed_table.nd rfl (.inl rfl))) (fun _ _ _ _ _ => pts_nil) (fun _ _ _ _ _ => (pe_ix (ix_tupK K) (pv 3) (pe_ix (ix_tupK K) (pv 2) (pv 5) (fun _ _ => rfl)) (fun _ _ => rfl)))) pa_nil))))
        pss_nil)
      (pss_one (ps_ret (pe_callTy call_tuple_of (by rfl) T.z_tuple (by decide +kernel) (pa_cons (pe_lc2 (own := [("one", 6), ("other", 7)]) (g := (gName 6)) (g1 := (gName 7)) (vs1 := [7]) (by rfl) sc_renamed_table.nd (pi_tup (pv 4)) (blkOk_by (own := [("one", 6), ("other", 7)]) (N := ["size", "places", "table", "order", "back", "number", "one", "other"]) (sc := (defScope s_renamed_table)) (by decide +kernel)) (by decide) (fun _ _ _ _ _ => (pg_name (i := 6) sc_renamed_table.nd rfl (.inl rfl))) (fun _ _ _ _ _ => pts_nil) (fun _ _ _ _ _ => (pi_tupK K (pv 4))) (fun _ _ _ _ _ => (pg_name (i := 7) sc_renamed_table.nd rfl (.inl rfl))) (fun _ _ _ _ _ => pts_nil) (fun _ _ _ _ _ => (pe_ix (ix_tupK K) (pv 3) (pe_ix (ix_tupK K) (pv 2) (pe_op op_add (pe_op op_mul (pv 6) (pv 0)) (pv 7)) (fun _ _ => rfl)) (fun _ _ => rfl)))) pa_nil))))))), ?_⟩
    replace tab : Tab n p t := tab
    replace ord : Ord n o := ord
    replace n1 : 1 ≤ n := n1
    replace n6 : n ≤ 6 := n6
    replace p2 : p ≤ 2 := p2
    obtain ⟨a, rfl, hA⟩ := id hV
    obtain ⟨b, rfl, hB⟩ := id hU
    have low : ∀ k, k < n ^ p → g t k < n := tab.low
    have pick : ∀ {te : TE} {σ : L2.St} {H1 : Hp} {k : Nat}, Ex H H1 → σ[2]? = some (some (.ref a)) → σ[3]? = some (some (.ref b)) → k < n ^ p → Ev te σ H1 (vi k) → Ev (tOp (rIxT K) (tVar 3) (tOp (rIxT K) (tVar 2) te)) σ H1 (vi (g o (g t k))) := by
      intro te σ H1 k e h2 h3 hk hte
      exact ev_op (ev_var h3) (ev_op (ev_var h2) hte (rv_ixT (ex_t e hA) (atI_vi (vi_get (by rw [tab.len]; exact hk))))) (rv_ixT (ex_t e hB) (atI_vi (vi_get (by rw [ord.len]; exact low k hk))))
    refine q_asgP (ep_call (n, o) (ea_cons (ev_var rfl) ea_nil) (fun H1 e1 => ⟨⟨_, rfl, hU.ex e1⟩, ord, n6⟩)) fun v H1 e1 hv => ?_
    obtain ⟨c, rfl, hC⟩ := hv
    replace hC : SqT K H1 c ((bk o).map vi) := hC
    have bl : (bk o).length = n := by rw [bk_len, ord.len]
    have bm : ((bk o).map vi).length = n := by rw [List.length_map, bl]
    refine q_when (et_test (ev_op (ev_var rfl) ev_c (rv_eq rfl))) (fun hb H2 e2 => ?_) (fun hb H2 e2 => ?_)
    · have p0 : p = 0 := by
        have z : (p : Int) = 0 := V.int.inj (of_decide_eq_true hb)
        omega
      subst p0
      refine s_retP (ep_nats (K := K) (ns := ren n 0 o t) (eu_tup (ea_cons (pick (k := 0) (e1.trans e2) rfl rfl (by simp) ev_c) ea_nil) (by show 1 ≤ 100000; decide)) rfl) fun v H3 e3 hv => q _ H3 ((e1.trans e2).trans e3) hv
    · have p0 : p ≠ 0 := fun z => by
        subst z
        exact absurd rfl (of_decide_eq_false hb)
      refine q_when (et_test (ev_op (ev_var rfl) ev_c (rv_eq rfl))) (fun hb H3 e3 => ?_) (fun hb H3 e3 => ?_)
      · have p1 : p = 1 := by
          have z : (p : Int) = 1 := V.int.inj (of_decide_eq_true hb)
          omega
        subst p1
        have e03 : Ex H H3 := (e1.trans e2).trans e3
        refine s_retP (ep_nats (K := K) (ns := ren n 1 o t) (eu_tupN (el_lcT (K := K) (ev_var rfl) (ex_t (e2.trans e3) hC) (fun i => vi (g o (g t (g (bk o) i)))) (by omega) (fun _ => rfl) (fun i x H4 e4 hx => ?_))) ?_) fun v H4 e4 hv => q _ H4 (e03.trans e4) hv
        · have hi : i < n := by rw [← bm]; exact (List.getElem?_eq_some_iff.mp hx).1
          rw [vi_get (by rw [bl]; exact hi)] at hx
          have ex := Option.some.inj hx
          subst ex
          exact pick (e03.trans e4) rfl rfl (by rw [Nat.pow_one]; exact bk_low ord hi) (ev_var rfl)
        · rw [bm]
          unfold ren
          rw [Nat.pow_one, List.map_map]
          rfl
      · have p2' : p = 2 := by
          have : p ≠ 1 := fun z => by
            subst z
            exact absurd rfl (of_decide_eq_false hb)
          omega
        subst p2'
        have e03 : Ex H H3 := (e1.trans e2).trans e3
        refine s_retP (ep_nats (K := K) (ns := ren n 2 o t) (eu_tupN (el_lc2T (K := K) (ev_var rfl) (ex_t (e2.trans e3) hC) (fun x H4 e4 => ev_var rfl) (ex_t (e2.trans e3) hC) (fun i k => vi (g o (g t (g (bk o) i * n + g (bk o) k)))) (by omega) (by omega) (fun _ => rfl) (fun _ _ => rfl) (fun i x k y H4 e4 hx hy => ?_))) ?_) fun v H4 e4 hv => q _ H4 (e03.trans e4) hv
        · have hi : i < n := by rw [← bm]; exact (List.getElem?_eq_some_iff.mp hx).1
          have hk : k < n := by rw [← bm]; exact (List.getElem?_eq_some_iff.mp hy).1
          rw [vi_get (by rw [bl]; exact hi)] at hx
          rw [vi_get (by rw [bl]; exact hk)] at hy
          have ex := Option.some.inj hx
          have ey := Option.some.inj hy
          subst ex
          subst ey
          have bi := bk_low ord hi
          have bk' := bk_low ord hk
          have sum : Ev (tOp (rI0 fun i j => .int (i + j)) (tOp (rI CMul fun i j => .int (i * j)) (tVar 6) (tVar 0)) (tVar 7)) [some (vi n), some (vi 2), some (.ref a), some (.ref b), some (.ref c), none, some (vi (g (bk o) i)), some (vi (g (bk o) k))] H4 (vi (g (bk o) i * n + g (bk o) k)) := by
            have := ev_op (r := rI0 fun i j => .int (i + j)) (H := H4) (σ := [some (vi n), some (vi 2), some (.ref a), some (.ref b), some (.ref c), none, some (vi (g (bk o) i)), some (vi (g (bk o) k))]) (ev_op (r := rI CMul fun i j => .int (i * j)) (ta := tVar 6) (tb := tVar 0) (ev_var rfl) (ev_var rfl) (rv_I (Or.inr ⟨by omega, by omega⟩))) (tb := tVar 7) (ev_var rfl) rv_I0
            refine ev_is this ?_
            show V.int (((g (bk o) i : Nat) : Int) * (n : Int) + ((g (bk o) k : Nat) : Int)) = V.int ((g (bk o) i * n + g (bk o) k : Nat) : Int)
            rw [Int.natCast_add, Int.natCast_mul]
          exact pick (e03.trans e4) rfl rfl (by rw [Nat.pow_two]; exact mul_lt bi bk') sum
        · rw [bm, flat_range n n1]
          unfold ren
          rw [Nat.pow_two, List.map_map]
          rfl
end
end K76
end
section
namespace K76
open PySem PySem.Spec PyProof.Rows L2 Evl RZ Dw M20
/-- all tables renamed -/
def rens (n : Nat) (o : List Nat) (sg : List (Str × Nat)) (ts : List (List Nat)) : List (List Nat) := List.zipWith (fun p t => ren n p.2 o t) sg ts
theorem rens_len {n : Nat} {o : List Nat} {sg : List (Str × Nat)} {ts : List (List Nat)} (h : ts.length = sg.length) : (rens n o sg ts).length = sg.length := by
  unfold rens
  rw [List.length_zipWith, h, Nat.min_self]
theorem rens_at {n : Nat} {o : List Nat} {sg : List (Str × Nat)} {ts : List (List Nat)} {i : Nat} (h1 : i < sg.length) (h2 : i < ts.length) : (rens n o sg ts)[i]? = some (ren n sg[i].2 o ts[i]) := by
  unfold rens
  rw [List.getElem?_zipWith, List.getElem?_eq_getElem h1, List.getElem?_eq_getElem h2]
section
variable {P : Program} {w : World} {K : PySem.W.Frag} {mg : Str → Option Value} {base : Heap}
def sp_renamed_tables (K : PySem.W.Frag) : Sp := spX (fun (p : List (Str × Nat) × Nat × List (List Nat) × List Nat) vs H => (∃ u v x, vs = [u, vi p.2.1, v, x] ∧ Sig K H u p.1 ∧ Tabs K H v p.2.2.1 ∧ Nats K H x p.2.2.2) ∧ SigOk p.1 ∧ MdlOk p.1 p.2.1 p.2.2.1 ∧ Ord p.2.1 p.2.2.2)
  (fun p v H => Tabs K H v (rens p.2.1 p.2.2.2 p.1 p.2.2.1))
theorem c_renamed_tables (T : Txt mg) (D : Df K mg "renamed_tables" s_renamed_tables ["signature", "size", "tables", "order"]) (c_renamed_table : Cl P w K mg base 2 "renamed_table" (sp_renamed_table K)) : Cl P w K mg base 3 "renamed_tables" (sp_renamed_tables K) := by
  refine cl_of (k := 2) D sc_renamed_tables (fun vs H Q E h => ?_) (fun f cdv A outer s H vs Q E hr h => ?_)
  · obtain ⟨p, ⟨⟨u, v, x, rfl, _⟩, _⟩, _⟩ := h
    rfl
  · obtain ⟨⟨sg, n, ts, o⟩, ⟨⟨u, v, x, rfl, hG, hT, hO⟩, sok, mok, ord⟩, q⟩ := h
    refine ⟨_, (pss_cons (ps_set (i := 4) sc_renamed_tables.nd rfl (.inl rfl) (pe_lst pa_nil))
      (pss_cons (ps_for PassesOwn.never (by rfl) (pi_zipA (by rfl) T.z_zip (pa_cons (pv 0) (pa_cons (pv 2) pa_nil))) (pg_tup (by rfl) (pgs_cons (pg_tup (by rfl) (pgs_cons (pg_name (i := 5) sc_renamed_tables.nd rfl (.inl rfl)) (pgs_cons (pg_name (i := 6) sc_renamed_tables.nd rfl (.inl rfl)) pgs_nil))) (pgs_cons (pg_name (i := 7) sc_renamed_tables.nd rfl (.inl rfl)) pgs_nil)))
        (pss_one (ps_expr (pe_bm PySem.F.plainAttrs_list PySem.F.slot_list_append PySem.F.type_list_append mt_append (pv 4) (pa_cons (pe_cl c_renamed_table hr (by first | decide | omega) (by rfl) (pa_cons (pv 1) (pa_cons (pv 6) (pa_cons (pv 7) (pa_cons (pv 3) pa_nil))))) pa_nil)))))
      (pss_one (ps_ret (pe_callTy call_tuple_of (by rfl) T.z_tuple (by decide +kernel) (pa_cons (pv 4) pa_nil)))))), ?_⟩
    replace sok : SigOk sg := sok
    replace mok : MdlOk sg n ts := mok
    replace ord : Ord n o := ord
    obtain ⟨a, us, rfl, hS, hP⟩ := id hG
    obtain ⟨b, tvs, rfl, hB, hR⟩ := id hT
    replace hP : Paired (Deed K H) us sg := hP
    replace hR : Paired (Nats K H) tvs ts := hR
    have lS : us.length = sg.length := paired_len hP
    have lT : tvs.length = ts.length := paired_len hR
    have lM : ts.length = sg.length := mok.len
    refine q_asgL (el_lst ea_nil (Nat.zero_le _)) fun m H1 nm e1 hm => ?_
    refine q_zipT (ea_cons (ev_var rfl) (ea_cons (ev_var rfl) ea_nil)) (ex_t e1 hS) (ex_t e1 hB) (by rw [lS, lT, lM]) (fun i σ H' => Ex H H' ∧ (∃ ws, H' m = some (.lst ws) ∧ Paired (Nats K H') ws ((rens n o sg ts).take i)) ∧ ∃ y5 y6 y7, σ = [some (.ref a), some (vi n), some (.ref b), some x, some (.ref m), y5, y6, y7])
      (fun H2 e2 => ⟨e1.trans e2, ⟨[], e2 _ _ hm, .nil⟩, none, none, none, rfl⟩) (fun i σ H' _ ⟨e, _⟩ => ⟨ex_t e hS, ex_t e hB⟩) (fun i d tv p σ H2 hd ht ⟨e2, ⟨ws, hws, pws⟩, y5, y6, y7, hσ⟩ np => ?_) (fun σ H2 ⟨e2, ⟨ws, hws, pws⟩, y5, y6, y7, hσ⟩ => ?_)
    · subst hσ
      have hi : i < sg.length := by rw [← lS]; exact (List.getElem?_eq_some_iff.mp hd).1
      have hi2 : i < ts.length := by rw [lM]; exact hi
      obtain ⟨d', ed', c, hc, dc⟩ := paired_get hP (List.getElem?_eq_getElem hi)
      have : d' = d := Option.some.inj (ed'.symm.trans hd)
      subst this
      subst hc
      obtain ⟨t', et', nt⟩ := paired_get hR (List.getElem?_eq_getElem hi2)
      have : t' = tv := Option.some.inj (et'.symm.trans ht)
      subst this
      have e3 : Ex H2 (upd H2 p (.tup [.ref c, t'])) := Ex.new np
      have e03 : Ex H (upd H2 p (.tup [.ref c, t'])) := e2.trans e3
      -- (name, places), table
      refine ⟨p, _, rfl, st_of upd_same, rfl, _, _, rfl, ⟨c, _, rfl, ex_t e03 dc, rfl, _, _, rfl, _, _, rfl, rfl, ?_⟩⟩
      refine ⟨_, _, rfl, rfl, ?_⟩
      refine s_appP (e3 _ _ hws) (ev_var rfl) (ep_call (n, sg[i].2, ts[i], o) (ea_cons (ev_var rfl) (ea_cons (ev_var rfl) (ea_cons (ev_var rfl) (ea_cons (ev_var rfl) ea_nil)))) (fun H4 e4 => ⟨⟨_, _, rfl, nt.ex (e03.trans e4), hO.ex (e03.trans e4)⟩, mok.tab i hi hi2, ord, mok.n1, mok.n6, sok.pl _ (List.getElem_mem hi)⟩)) ?_ (fun v H4 e4 hv => ?_)
      · have l1 := paired_len pws
        rw [List.length_take, rens_len lM] at l1
        have := sok.l4
        omega
      · have e04 : Ex H H4 := e03.trans e4
        have nH : H m = none := nm
        have hm4 : H4 m = some (.lst ws) := e4 _ _ (e3 _ _ hws)
        refine ⟨e04.mut nH, ⟨ws ++ [v], upd_same, ?_⟩, _, _, _, rfl⟩
        have et : ET K H4 (upd H4 m (.lst (ws ++ [v]))) := ET.refl.upd hm4
        rw [List.take_add_one, rens_at hi hi2]
        exact paired_snoc (Nats.et et hv) (paired_imp (fun _ _ z => Nats.et (ET.trans (Dw.Ex.et (e3.trans e4)) et) z) pws)
    · subst hσ
      have full : (rens n o sg ts).take us.length = rens n o sg ts := List.take_of_length_le (by rw [rens_len lM, lS]; exact Nat.le_refl _)
      rw [full] at pws
      refine eu_tupL (K := K) (ev_var rfl) (sq_of hws) H2 (Ex.refl _) _ fun p H3 np e3 hp => q _ H3 (e2.trans e3) ⟨p, ws, rfl, st_of hp, paired_imp (fun _ _ z => z.ex e3) pws⟩
def sp_renamed (K : PySem.W.Frag) : Sp := spX (fun (p : List (Str × Nat) × Nat × List (List Nat) × List Nat) vs H => (∃ u v x, vs = [u, v, x] ∧ Sig K H u p.1 ∧ Mdl K H v p.2.1 p.2.2.1 ∧ Nats K H x p.2.2.2) ∧ SigOk p.1 ∧ MdlOk p.1 p.2.1 p.2.2.1 ∧ Ord p.2.1 p.2.2.2)
  (fun p v H => Mdl K H v p.2.1 (rens p.2.1 p.2.2.2 p.1 p.2.2.1))
theorem c_renamed (T : Txt mg) (D : Df K mg "renamed" s_renamed ["signature", "model", "order"]) (c_need_model : Cl P w K mg base 7 "need_model" (sp_need_model K)) (c_is_order : Cl P w K mg base 4 "is_order" (sp_is_order K)) (c_renamed_tables : Cl P w K mg base 3 "renamed_tables" (sp_renamed_tables K)) : Cl P w K mg base 8 "renamed" (sp_renamed K) := by
  refine cl_of (k := 7) D sc_renamed (fun vs H Q E h => ?_) (fun f cdv A outer s H vs Q E hr h => ?_)
  · obtain ⟨p, ⟨⟨u, v, x, rfl, _⟩, _⟩, _⟩ := h
    rfl
  · obtain ⟨⟨sg, n, ts, o⟩, ⟨⟨u, v, x, rfl, hG, hM, hO⟩, sok, mok, ord⟩, q⟩ := h
    refine ⟨_, (pss_cons (ps_expr (pe_cl c_need_model hr (by first | decide | omega) (by rfl) (pa_cons (pv 0) (pa_cons (pv 1) pa_nil))))
      (pss_cons (ps_asg (pv 1) (pg_tup (by rfl) (pgs_cons (pg_name (i := 3) sc_renamed.nd rfl (.inl rfl)) (pgs_cons (pg_name (i := 4) sc_renamed.nd rfl (.inl rfl)) pgs_nil))))
      (pss_cons (ps_if (pt_not (pt_val (pe_cl c_is_order hr (by first | decide | omega) (by rfl) (pa_cons (pv 2) (pa_cons (pv 3) pa_nil)))))
        (pss_one ps_never)
        pss_nil)
      (pss_one (ps_ret (pe_tup (pa_cons (pv 3) (pa_cons (pe_cl c_renamed_tables hr (by first | decide | omega) (by rfl) (pa_cons (pv 0) (pa_cons (pv 3) (pa_cons (pv 4) (pa_cons (pv 2) pa_nil))))) pa_nil)))))))), ?_⟩
    replace sok : SigOk sg := sok
    replace mok : MdlOk sg n ts := mok
    replace ord : Ord n o := ord
    obtain ⟨b, tv, rfl, hB, hT⟩ := id hM
    replace hT : Tabs K H tv ts := hT
    refine q_drop (ev_callV (v := .non) (sg, n, ts) (ea_cons (ev_var rfl) (ea_cons (ev_var rfl) ea_nil)) (fun H1 e1 => ⟨⟨_, _, rfl, hG.ex e1, hM.ex e1⟩, sok, mok⟩) (fun _ _ p => p)) fun H1 e1 => ?_
    refine ⟨.ref b, rfl, b, _, rfl, ex_t e1 hB, rfl, _, _, rfl, _, _, rfl, rfl, ?_⟩
    refine q_when (b := false) (et_is (et_not (et_val (ev_callV (v := .bl true) (n, o) (ea_cons (ev_var rfl) (ea_cons (ev_var rfl) ea_nil)) (fun H2 e2 => ⟨⟨_, rfl, hO.ex (e1.trans e2)⟩, ord, mok.n6⟩) (fun _ _ p => p)))) rfl) (fun hb => by cases hb) (fun _ H2 e2 => ?_)
    have e02 : Ex H H2 := e1.trans e2
    refine s_retP (ep_tup (n := 2) (eap_cons (P := fun v _ => v = vi n) (ep_ev (ev_var rfl) (fun _ _ => rfl)) (eap_cons (ep_call (sg, n, ts, o) (ea_cons (ev_var rfl) (ea_cons (ev_var rfl) (ea_cons (ev_var rfl) (ea_cons (ev_var rfl) ea_nil)))) (fun H3 e3 => ⟨⟨_, _, _, rfl, hG.ex (e02.trans e3), hT.ex (e02.trans e3), hO.ex (e02.trans e3)⟩, sok, mok, ord⟩)) eap_nil (fun v H3 H4 e p => Tabs.ex e p)) (fun v _ _ _ p => p))
      (fun vs H3 ⟨v1, r1, h1, _, v2, r2, h2, _, h3⟩ => by subst h1 h2 h3; rfl) (by decide) (fun vs H3 H4 e ⟨v1, r1, h1, p1, v2, r2, h2, p2, h3⟩ => ⟨v1, r1, h1, p1, v2, r2, h2, Tabs.ex e p2, h3⟩)) fun v H3 e3 ⟨p, vs, hv, hp, v1, r1, h1, p1, v2, r2, h2, p2, h3⟩ => ?_
    subst hv h1 h2 h3 p1
    exact q _ H3 (e02.trans e3) ⟨p, v2, rfl, st_of hp, p2⟩
end
end K76
end
section
namespace K76
open PySem PySem.Spec PyProof.Rows L2 Evl RZ Dw M20 M25 CL LD
def isLst : PyData → Bool
  | .list _ => true
  | _ => false
def listOf : PyData → List PyData
  | .list ds => ds
  | _ => []
def natOf : PyData → Nat
  | .int i => i.toNat
  | _ => 0
def natsOf (d : PyData) : List Nat := (listOf d).map natOf
def formB (n1 n2 : Nat) (d : PyData) : Bool := isLst d && (decide ((listOf d).length = n1) && (listOf d).all (belowB n2))
def cellD (c : Str × List Nat) : PyData := .tuple [.str "cell", .str c.1, dN c.2]
def leadW (p p2 : MArg) (d : PyData) : PyData := if formB p.2.1 p2.2.1 d = true then (match fod p p2 (natsOf d) with
  | none => .none
  | some c => cellD c) else .tuple [.str "form"]
section
variable {P : Program} {w : World} {K : PySem.W.Frag} {mg : Str → Option Value} {base : Heap} {σ : L2.St} {H : Hp} {ta tb : TE} {p c : Addr} {v : V} {d : PyData}
theorem ev_isLst {ta tb : TE} (ha : Ev ta σ H v) (hc : Ev tb σ H (.ty "list")) (h : Dz K p c H v d) : Ev (tCB (rIsi K) (tCons ta (tCons tb tNil))) σ H (.bl (isLst d)) := by
  cases h with
  | non => exact ev_isi (b := false) ha hc (.ty _) (fun _ _ => tyx_non) (kit_ty (by decide +kernel))
  | bl b => exact ev_isi (b := false) ha hc (.ty _) (fun _ _ => tyx_bl b) (kit_ty (by decide +kernel))
  | int i => exact ev_isi (b := false) ha hc (.ty _) (fun _ _ => tyx_int i) (kit_ty (by decide +kernel))
  | str z => exact ev_isi (b := false) ha hc (.ty _) (fun _ _ => tyx_str z) (kit_ty (by decide +kernel))
  | lst h _ _ _ => exact ev_isi (b := true) ha hc (.ty _) (fun _ e => .base (.lst (e _ _ h))) (kit_ty (by decide +kernel))
  | tup h _ => exact ev_isi (b := false) ha hc (.ty _) (fun _ e => tyx_tup (ex_t e h)) (kit_ty (by decide +kernel))
theorem do_ifX {b : Bool} {Q : VK} {tt : TT} {ta tb : TE} (h : EvT tt σ H b) (h1 : b = true → ∀ H1, Ex H H1 → ta σ H1 Q) (h2 : b = false → ∀ H1, Ex H H1 → tb σ H1 Q) : tIf tt ta tb σ H Q := by
  refine h H (Ex.refl _) _ fun H1 e1 => ?_
  cases b with
  | true => exact h1 rfl H1 e1
  | false => exact h2 rfl H1 e1
theorem lst_of (h : Dz K p c H v d) (e : isLst d = true) : ∃ a xs ds, v = .ref a ∧ d = .list ds ∧ H a = some (.lst xs) ∧ DzAll K p c H xs ds ∧ a ≠ p ∧ a ≠ c := by
  cases h with
  | lst h hp hc r => exact ⟨_, _, _, rfl, rfl, h, r, hp, hc⟩
  | _ => cases e
theorem below_nat {n : Nat} {e : PyData} (h : Dz K p c H v e) (b : belowB n e = true) : v = vi (natOf e) ∧ natOf e < n := by
  cases h with
  | int i =>
    rw [belowB, Bool.and_eq_true, decide_eq_true_eq, decide_eq_true_eq] at b
    refine ⟨?_, ?_⟩
    · show V.int i = V.int ((i.toNat : Nat) : Int)
      rw [Int.toNat_of_nonneg b.1]
    · show i.toNat < n
      omega
  | _ => cases b
theorem below_all {n : Nat} : ∀ {vs : List V} {ds : List PyData}, DzAll K p c H vs ds → ds.all (belowB n) = true → vs = (ds.map natOf).map vi ∧ ∀ y ∈ ds.map natOf, y < n
  | _, _, .nil, _ => ⟨rfl, fun y hy => by cases hy⟩
  | _, _, .cons a b, h => by
    rw [List.all_cons, Bool.and_eq_true] at h
    obtain ⟨h1, h2⟩ := below_nat a h.1
    obtain ⟨h3, h4⟩ := below_all b h.2
    refine ⟨by rw [List.map_cons, List.map_cons, h1, h3], fun y hy => ?_⟩
    rw [List.map_cons] at hy
    rcases List.mem_cons.mp hy with e | e
    · rw [e]; exact h2
    · exact h4 y e
theorem form_nats {n1 n2 : Nat} (h : Dz K p c H v d) (b : formB n1 n2 d = true) : ∃ a, v = .ref a ∧ H a = some (.lst ((natsOf d).map vi)) ∧ (natsOf d).length = n1 ∧ ∀ y ∈ natsOf d, y < n2 := by
  rw [formB, Bool.and_eq_true, Bool.and_eq_true, decide_eq_true_eq] at b
  obtain ⟨a, xs, ds, rfl, rfl, ha, hd, _, _⟩ := lst_of h b.1
  obtain ⟨h1, h2⟩ := below_all hd b.2.2
  refine ⟨a, rfl, by rw [ha, h1]; rfl, ?_, h2⟩
  show (ds.map natOf).length = n1
  rw [List.length_map]
  exact b.2.1
def sp_row_any (K : PySem.W.Frag) : Sp := spX (fun (z : (Addr × Addr) × List PyData × Nat × Nat) vs H => (∃ a xs, vs = [.ref a, vi z.2.2.1, vi z.2.2.2] ∧ SqT K H a xs ∧ DzAll K z.1.1 z.1.2 H xs z.2.1) ∧ z.2.1.length ≤ 1000) (fun z v _ => v = .bl (decide (z.2.1.length = z.2.2.1) && z.2.1.all (belowB z.2.2.2)))
theorem c_row_any (T : Txt mg) (D : Df K mg "is_row" s_is_row ["thing", "many", "size"]) (c_below_any : Cl P w K mg base 2 "is_below" (sp_below_any K)) : Cl P w K mg base 3 "is_row" (sp_row_any K) := by
  refine cl_of (k := 2) D sc_is_row (fun vs H Q E h => ?_) (fun f cdv A outer s H vs Q E hr h => ?_)
  · obtain ⟨z, ⟨⟨a, xs, rfl, _⟩, _⟩, _⟩ := h
    rfl
  · obtain ⟨⟨⟨p, c⟩, ds, m, n⟩, ⟨⟨a, xs, rfl, ha, hd⟩, few⟩, q⟩ := h
    have c_is_below := c_below_any
    refine ⟨_, (pss_one (ps_ret (pe_and (pe_callB call_isi (by rfl) T.z_isinstance (by decide +kernel) (pa_cons (pv 0) (pa_cons (pe_ty "tuple" (by rfl) T.z_tuple (by decide +kernel)) pa_nil))) (pe_and (pe_cmpR op_eq (pe_callB call_len_seq (by rfl) T.z_len PySem.boot_len (pa_cons (pv 0) pa_nil)) (pv 1) (nomark _)) (pe_one (pe_callB (cr_all rfl) (by rfl) T.z_all (by decide +kernel) (pa_cons (pe_lc (own := [("number", 3)]) (g := (gName 3)) (by rfl) sc_is_row.nd (pi_tup (pv 0)) (blkOk_by (own := [("number", 3)]) (N := ["thing", "many", "size", "number"]) (sc := (defScope s_is_row)) (by decide +kernel)) (fun _ _ _ _ _ => (pg_name (i := 3) sc_is_row.nd rfl (.inl rfl))) (fun _ _ _ _ _ => pts_nil) (fun _ _ _ _ _ => (pe_cl c_is_below hr (by first | decide | omega) (by rfl) (pa_cons (pv 3) (pa_cons (pv 2) pa_nil))))) pa_nil))))))), ?_⟩
    replace hd : DzAll K p c H xs ds := hd
    replace few : ds.length ≤ 1000 := few
    have lx := DzAll.len hd
    refine s_ret (v := .bl (decide (ds.length = m) && ds.all (belowB n))) (ev_is (ev_andV (a := true) (b := decide (ds.length = m) && ds.all (belowB n)) (ev_isi (ev_var rfl) ev_c (.ty _) (fun _ e => tyx_tup (ex_t e ha)) kit_tt) (fun _ => ev_andV (a := decide (ds.length = m)) (b := ds.all (belowB n)) (ev_is (ev_op (ev_lenT (ev_var rfl) ha) (ev_var rfl) (rv_eq rfl)) ?_) (fun _ => ev_is (ev_all (bs := ds.map (belowB n)) ?_) ?_))) (by rw [Bool.true_and])) fun H1 e1 => q _ H1 e1 rfl
    · congr 1
      rw [decide_eq_decide, lx]
      constructor
      · intro z
        have y : (ds.length : Int) = (m : Int) := V.int.inj z
        exact Int.ofNat.inj y
      · intro z
        rw [show ds.length = m from z]
    · have z := el_lcT (K := K) (tl := tVar 0) (te := tCall (sp_below_any K) [] E0 (tCons (tVar 3) (tCons (tVar 2) tNil))) (σ := [some (.ref a), some (vi m), some (vi n), none]) (j := 3) (vs := [3]) (ev_var rfl) ha (fun i => V.bl (belowB n (ds.getD i .none))) (by rw [lx]; omega) (fun _ => rfl) (fun i x H1 e1 hx => by
        obtain ⟨e, he, hz⟩ := hd.get hx
        refine ev_callV ((p, c), ds.getD i .none, ((n : Nat) : Int)) (ea_cons (ev_var rfl) (ea_cons (ev_var rfl) ea_nil)) (fun H2 e2 => ⟨x, rfl, ?_⟩) (fun _ _ z => z)
        show Dz K p c H2 x (ds.getD i .none)
        rw [List.getD_eq_getElem?_getD, he]
        exact hz.ex (e1.trans e2))
      have e : (List.range xs.length).map (fun i => V.bl (belowB n (ds.getD i .none))) = (ds.map (belowB n)).map V.bl := by
        have h1 : (List.range ds.length).map (fun i => V.bl (belowB n (ds.getD i .none))) = (((List.range ds.length).map fun i => ds.getD i PyData.none).map (belowB n)).map V.bl := by
          rw [List.map_map, List.map_map]
          rfl
        rw [lx, h1, Dw.range_getD]
      rw [e] at z
      exact z
    · rw [List.all_map]
      rfl
def sp_form (K : PySem.W.Frag) : Sp := spX (fun (z : (Addr × Addr) × PyData × Nat × Nat) vs H => (∃ a b v r1 r2, vs = [.ref a, .ref b, v] ∧ SqT K H a [vi z.2.2.1, r1] ∧ SqT K H b [vi z.2.2.2, r2] ∧ Dz K z.1.1 z.1.2 H v z.2.1) ∧ (listOf z.2.1).length ≤ 1000) (fun z v _ => v = .bl (formB z.2.2.1 z.2.2.2 z.2.1))
theorem c_has_lead_form (T : Txt mg) (D : Df K mg "has_lead_form" s_has_lead_form ["one", "other", "thing"]) (c_row_any : Cl P w K mg base 3 "is_row" (sp_row_any K)) : Cl P w K mg base 4 "has_lead_form" (sp_form K) := by
  refine cl_of (k := 3) D sc_has_lead_form (fun vs H Q E h => ?_) (fun f cdv A outer s H vs Q E hr h => ?_)
  · obtain ⟨z, ⟨⟨a, b, v, r1, r2, rfl, _⟩, _⟩, _⟩ := h
    rfl
  · obtain ⟨⟨⟨p, c⟩, d, n1, n2⟩, ⟨⟨a, b, v, r1, r2, rfl, ha, hb, hv⟩, few⟩, q⟩ := h
    have c_is_row := c_row_any
    refine ⟨_, (pss_one (ps_ret (pe_and (pe_callB call_isi (by rfl) T.z_isinstance (by decide +kernel) (pa_cons (pv 2) (pa_cons (pe_ty "list" (by rfl) T.z_list (by decide +kernel)) pa_nil))) (pe_one (pe_cl c_is_row hr (by first | decide | omega) (by rfl) (pa_cons (pe_callTy call_tuple_of (by rfl) T.z_tuple (by decide +kernel) (pa_cons (pv 2) pa_nil)) (pa_cons (pe_ix ix_tup (pv 0) pe_int (fun _ _ => rfl)) (pa_cons (pe_ix ix_tup (pv 1) pe_int (fun _ _ => rfl)) pa_nil)))))))), ?_⟩
    replace ha : SqT K H a [vi n1, r1] := ha
    replace hb : SqT K H b [vi n2, r2] := hb
    replace hv : Dz K p c H v d := hv
    replace few : (listOf d).length ≤ 1000 := few
    refine s_ret (v := .bl (formB n1 n2 d)) (ev_andV (a := isLst d) (b := decide ((listOf d).length = n1) && (listOf d).all (belowB n2)) (ev_isLst (K := K) (ev_var rfl) ev_c hv) fun e => ?_) fun H1 e1 => q _ H1 e1 rfl
    obtain ⟨x, xs, ds, rfl, rfl, hx, hd, _, _⟩ := lst_of hv e
    intro H1 e1 Q' q'
    refine do_cons (eu_tupL (K := K) (ev_var rfl) (sq_of hx) H1 e1 _ fun r H2 nr e2 hr => do_cons (do_ev (v := vi n1) (ev_op (ev_var rfl) ev_c (rv_ixT (K := K) (ex_t (e1.trans e2) ha) (atI_vi (k := 0) rfl))) fun H3 e3 => do_cons (do_ev (v := vi n2) (ev_op (ev_var rfl) ev_c (rv_ixT (K := K) (ex_t (e1.trans (e2.trans e3)) hb) (atI_vi (k := 0) rfl))) fun H4 e4 => do_nil ⟨((p, c), ds, n1, n2), ⟨⟨r, xs, rfl, ex_t (e3.trans e4) (st_of hr), DzAll.ex (e1.trans (e2.trans (e3.trans e4))) hd⟩, few⟩, fun u H5 e5 hu => ?_⟩)))
    rw [hu]
    exact q' H5 (e2.trans (e3.trans (e4.trans e5)))
/-! ### what is wrong with a thing as a lead -/
def sp_lead_wrong (K : PySem.W.Frag) : Sp := spX (fun (z : (Addr × Addr) × MArg × MArg × PyData) vs H => (∃ u v w x, vs = [u, v, w, x] ∧ MA K H u v z.2.1 ∧ Mdl K H w z.2.2.1.2.1 z.2.2.1.2.2 ∧ Dz K z.1.1 z.1.2 H x z.2.2.2) ∧ MOk z.2.1 ∧ MOk z.2.2.1 ∧ z.2.2.1.1 = z.2.1.1 ∧ (listOf z.2.2.2).length ≤ 1000) (fun z v H => Dp K H v (leadW z.2.1 z.2.2.1 z.2.2.2))
theorem c_lead_wrong (T : Txt mg) (D : Df K mg "lead_wrong" s_lead_wrong ["signature", "one", "other", "thing"]) (c_has_lead_form : Cl P w K mg base 4 "has_lead_form" (sp_form K)) (c_first_odd_cell_leads : Cl P w K mg base 3 "first_odd_cell_leads" (sp_first_odd_lead K)) : Cl P w K mg base 5 "lead_wrong" (sp_lead_wrong K) := by
  refine cl_of (k := 4) D sc_lead_wrong (fun vs H Q E h => ?_) (fun f cdv A outer s H vs Q E hr h => ?_)
  · obtain ⟨z, ⟨⟨u, v, w, x, rfl, _⟩, _⟩, _⟩ := h
    rfl
  · obtain ⟨⟨⟨p0, c0⟩, p, p2, d⟩, ⟨⟨u, v, w, x, rfl, hm, hw, hx⟩, ok, ok2, es, few⟩, q⟩ := h
    refine ⟨_, (pss_cons (ps_if (pt_not (pt_val (pe_cl c_has_lead_form hr (by first | decide | omega) (by rfl) (pa_cons (pv 1) (pa_cons (pv 2) (pa_cons (pv 3) pa_nil))))))
        (pss_one (ps_ret (pe_tup (pa_cons pe_str pa_nil))))
        pss_nil)
      (pss_cons (ps_set (i := 4) sc_lead_wrong.nd rfl (.inl rfl) (pe_cl c_first_odd_cell_leads hr (by first | decide | omega) (by rfl) (pa_cons (pv 0) (pa_cons (pv 1) (pa_cons (pv 2) (pa_cons (pv 3) pa_nil))))))
      (pss_one (ps_ret (pe_ifExp (pt_cmpR op_isN (pv 4) pe_non (nomark _)) pe_non (pe_tup (pa_cons pe_str (pa_cons (pe_ix ix_tup (pv 4) pe_int (fun _ _ => rfl)) (pa_cons (pe_ix ix_tup (pv 4) pe_int (fun _ _ => rfl)) pa_nil))))))))), ?_⟩
    replace hm : MA K H u v p := hm
    replace hw : Mdl K H w p2.2.1 p2.2.2 := hw
    replace hx : Dz K p0 c0 H x d := hx
    replace es : p2.1 = p.1 := es
    replace few : (listOf d).length ≤ 1000 := few
    replace q : ∀ r H', Ex H H' → Dp K H' r (leadW p p2 d) → Q r H' := q
    obtain ⟨z, tv, rfl, hZ, hT⟩ := id hm.2
    obtain ⟨z2, tv2, rfl, hZ2, hT2⟩ := id hw
    refine q_when (b := !formB p.2.1 p2.2.1 d) (et_not (et_val (ev_callV (v := .bl (formB p.2.1 p2.2.1 d)) ((p0, c0), d, p.2.1, p2.2.1) (ea_cons (ev_var rfl) (ea_cons (ev_var rfl) (ea_cons (ev_var rfl) ea_nil))) (fun H1 e1 => ⟨⟨z, z2, x, _, _, rfl, ex_t e1 hZ, ex_t e1 hZ2, hx.ex e1⟩, few⟩) (fun _ _ z => z)))) (fun hb H1 e1 => ?_) (fun hb H1 e1 => ?_)
    · refine s_retP (tv_tup (K := K) (xs := [.str "form"]) (ea_cons ev_c ea_nil) (by show 1 ≤ 100000; decide)) fun r H2 e2 ⟨t, hr, ht⟩ => q _ H2 (e1.trans e2) ?_
      rw [leadW, if_neg (by rw [Bool.not_eq_true'] at hb; rw [hb]; decide), hr]
      exact .tup ht (.cons (.str _) .nil)
    · rw [Bool.not_eq_false'] at hb
      obtain ⟨a, rfl, ha, lf, low⟩ := form_nats hx hb
      rw [leadW, if_pos hb] at q
      refine q_asgP (ep_call (p, p2, natsOf d) (ea_cons (ev_var rfl) (ea_cons (ev_var rfl) (ea_cons (ev_var rfl) (ea_cons (ev_var rfl) ea_nil)))) (fun H2 e2 => ⟨⟨_, _, _, a, rfl, ⟨hm.1.ex (e1.trans e2), hm.2.ex (e1.trans e2)⟩, hw.ex (e1.trans e2), sq_of ((e1.trans e2) _ _ ha)⟩, ok, ok2, es, lf, low⟩)) fun r H2 e2 hr => ?_
      replace hr : OddV K H2 r (fod p p2 (natsOf d)) := hr
      cases ho : fod p p2 (natsOf d) with
      | none =>
        rw [ho] at hr q
        have hr2 : r = .non := hr
        subst hr2
        refine s_ret (ev_if (b := true) ?_ (fun _ => ev_c) (fun hb => by cases hb)) fun H8 e8 => q _ H8 (e1.trans (e2.trans e8)) .non
        exact fun H7 e7 Q q => ⟨_, rfl, rfl, _, rfl, q H7 (Ex.refl H7)⟩
      | some cc =>
        rw [ho] at hr q
        obtain ⟨t, y, rfl, ht, hy⟩ := hr
        refine do_ret (do_ifX (b := false) (fun H8 e8 Q8 q8 => ⟨_, rfl, rfl, _, rfl, q8 H8 (Ex.refl H8)⟩) (fun hb => by cases hb) (fun _ H8 e8 => ?_))
        refine eu_tup (vs := [.str "cell", .str cc.1, y]) (ea_cons ev_c (ea_cons (ev_op (ev_var rfl) ev_c (rv_ixT (K := K) (ex_t e8 ht) (atI_vi (k := 0) rfl))) (ea_cons (ev_op (ev_var rfl) ev_c (rv_ixT (K := K) (ex_t e8 ht) (atI_vi (k := 1) rfl))) ea_nil))) (by show 3 ≤ 100000; decide) H8 (Ex.refl _) _ fun r9 H9 _ e9 hr9 => q _ H9 (e1.trans (e2.trans (e8.trans e9))) (.tup (st_of hr9) (.cons (.str _) (.cons (.str _) (.cons (Nats.dp (hy.ex (e8.trans e9))) .nil))))
def sp_lead_judged (K : PySem.W.Frag) : Sp := sp_lead_wrong K
theorem c_lead_judged (T : Txt mg) (D : Df K mg "lead_judged" s_lead_judged ["signature", "one", "other", "thing"]) (c_need_two_models : Cl P w K mg base 8 "need_two_models" (sp_need_two K)) (c_lead_wrong : Cl P w K mg base 5 "lead_wrong" (sp_lead_wrong K)) : Cl P w K mg base 9 "lead_judged" (sp_lead_judged K) := by
  refine cl_of (k := 8) D sc_lead_judged (fun vs H Q E h => ?_) (fun f cdv A outer s H vs Q E hr h => ?_)
  · obtain ⟨z, ⟨⟨u, v, w, x, rfl, _⟩, _⟩, _⟩ := h
    rfl
  · obtain ⟨⟨⟨p0, c0⟩, p, p2, d⟩, ⟨⟨u, v, w, x, rfl, hm, hw, hx⟩, ok, ok2, es, few⟩, q⟩ := h
    refine ⟨_, (pss_cons (ps_expr (pe_cl c_need_two_models hr (by first | decide | omega) (by rfl) (pa_cons (pv 0) (pa_cons (pv 1) (pa_cons (pv 2) pa_nil)))))
      (pss_one (ps_ret (pe_cl c_lead_wrong hr (by first | decide | omega) (by rfl) (pa_cons (pv 0) (pa_cons (pv 1) (pa_cons (pv 2) (pa_cons (pv 3) pa_nil)))))))), ?_⟩
    replace hm : MA K H u v p := hm
    replace hw : Mdl K H w p2.2.1 p2.2.2 := hw
    replace hx : Dz K p0 c0 H x d := hx
    refine q_drop (v := .non) (ev_callV (p, p2) (ea_cons (ev_var rfl) (ea_cons (ev_var rfl) (ea_cons (ev_var rfl) ea_nil))) (fun H1 e1 => ⟨⟨_, _, _, rfl, hm.ex e1, hw.ex e1⟩, ok, ok2, es⟩) (fun _ _ p => p)) fun H1 e1 => ?_
    exact s_retP (ep_call ((p0, c0), p, p2, d) (ea_cons (ev_var rfl) (ea_cons (ev_var rfl) (ea_cons (ev_var rfl) (ea_cons (ev_var rfl) ea_nil)))) (fun H2 e2 => ⟨⟨_, _, _, _, rfl, hm.ex (e1.trans e2), hw.ex (e1.trans e2), hx.ex (e1.trans e2)⟩, ok, ok2, es, few⟩)) fun r H2 e2 hr => q _ H2 (e1.trans e2) hr
end
end K76
end
section
namespace K76
open PySem PySem.Spec PyProof.Rows L2 Evl RZ Dw M20 M25 CL LD JN
section
variable {P : Program} {w : World} {K : PySem.W.Frag} {mg : Str → Option Value} {base : Heap}
def sp_with_arg (K : PySem.W.Frag) : Sp := spX (fun (p : List Nat × Nat × Nat) vs H => (∃ u, vs = [u, vi p.2.1, vi p.2.2] ∧ Nats K H u p.1) ∧ p.2.1 < p.1.length ∧ p.1.length ≤ 100) (fun p v H => Nats K H v (p.1.set p.2.1 p.2.2))
theorem c_with_arg (T : Txt mg) (D : Df K mg "with_arg" s_with_arg ["args", "at", "other"]) : Cl P w K mg base 1 "with_arg" (sp_with_arg K) := by
  refine cl_of (k := 0) D sc_with_arg (fun vs H Q E h => ?_) (fun f cdv A outer s H vs Q E hr h => ?_)
  · obtain ⟨p, ⟨⟨u, rfl, _⟩, _⟩, _⟩ := h
    rfl
  · obtain ⟨⟨as, k, o⟩, ⟨⟨u, rfl, hu⟩, hk, few⟩, q⟩ := h
    refine ⟨_, (pss_one (ps_ret (pe_op op_catA (pe_op op_catA (pe_slice sl_tupA (pv 0) po_none (po_some (pv 1))) (pe_tup (pa_cons (pv 2) pa_nil))) (pe_slice sl_tupA (pv 0) (po_some (pe_op op_add (pv 1) pe_int)) po_none)))), ?_⟩
    replace hu : Nats K H u as := hu
    replace hk : k < as.length := hk
    replace few : as.length ≤ 100 := few
    refine s_retP (P := fun v H' => Nats K H' v (as.set k o)) (tv_nats (tv_is (tv_cat (tv_cat (tv_sl (tv_evV (ev_var rfl) hu) eo_none (eo_some (i := ((k : Nat) : Int)) (ev_var rfl))) (tv_tup (xs := [vi o]) (ea_cons (ev_var rfl) ea_nil) (by show 1 ≤ 100000; decide)) (by rw [cut_to', List.length_take, List.length_map]; show _ + 1 ≤ _; omega)) (tv_sl (tv_evV (ev_var rfl) hu) (eo_some (i := ((k + 1 : Nat) : Int)) (ev_addM (b := 1) (ev_var rfl) ev_c)) eo_none) (by rw [cut_to', cut_from', List.length_append, List.length_take, List.length_drop, List.length_map]; show _ + 1 + _ ≤ _; omega)) (by
        rw [cut_to', cut_from', List.set_eq_take_append_cons_drop, if_pos hk, List.map_append, List.map_cons, List.map_take, List.map_drop, List.append_assoc]; rfl))) fun v H1 e1 hv => q _ H1 e1 hv
def sp_all_partings : Sp := fun vs H Q _ => ∃ n : Nat, vs = [vi n] ∧ n ≤ 6 ∧ ∀ a as H', Ex H H' → LLs H H' a as (prts n) → Q (.ref a) H'
theorem c_all_partings (T : Txt mg) (D : Df K mg "all_partings" s_all_partings ["size"]) : Cl P w K mg base 1 "all_partings" sp_all_partings := by
  refine cl_of (k := 0) D sc_all_partings (fun vs H Q E h => ?_) (fun f cdv A outer s H vs Q E hr h => ?_)
  · obtain ⟨n, rfl, _⟩ := h
    rfl
  · obtain ⟨n, rfl, n6, q⟩ := h
    refine ⟨_, (pss_cons (ps_set (i := 1) sc_all_partings.nd rfl (.inl rfl) (pe_lst (pa_cons (pe_lst pa_nil) pa_nil)))
      (pss_cons (ps_for PassesOwn.never (by rfl) (pi_range1 (by rfl) T.z_range (pa_cons (pv 0) pa_nil)) (pg_name (i := 2) sc_all_partings.nd rfl (.inr rfl))
        (pss_one (ps_setLc2 (i := 1) (own := [("row", 3), ("least", 4)]) (g := (gName 3)) (g1 := (gName 4)) (vs1 := [4]) (by rfl) sc_all_partings.nd rfl rfl (sw_true rfl rfl rfl (by decide +kernel)) (pi_list (pv 1)) (blkOk_by (own := [("row", 3), ("least", 4)]) (N := ["size", "rows", "number", "row", "least"]) (sc := (defScope s_all_partings)) (by decide +kernel)) (by decide) (fun _ _ _ _ _ => (pg_name (i := 3) sc_all_partings.nd rfl (.inl rfl))) (fun _ _ _ _ _ => pts_nil) (fun _ _ _ _ _ => (pi_listK K (pe_op op_cat (pe_callB (cr_sortedSetK w rfl) (by rfl) T.z_sorted (by decide +kernel) (pa_cons (pe_callTy (cr_setIK K w rfl) (by rfl) T.z_set (by decide +kernel) (pa_cons (pv 3) pa_nil)) pa_nil)) (pe_lst (pa_cons (pv 2) pa_nil))))) (fun _ _ _ _ _ => (pg_name (i := 4) sc_all_partings.nd rfl (.inl rfl))) (fun _ _ _ _ _ => pts_nil) (fun _ _ _ _ _ => (pe_op op_cat (pv 3) (pe_lst (pa_cons (pv 4) pa_nil)))))))
      (pss_one (ps_ret (pv 1))))), ?_⟩
    refine do_set (do_lst (do_cons (do_lst (do_nil ⟨Nat.zero_le _, fun r nr => do_nil ⟨by show 1 ≤ sizeLine; decide, fun f0 nf0 => ?_⟩⟩))))
    have e3 : Ex H (upd (upd H r (.lst [])) f0 (.lst [.ref r])) := (Ex.new nr).trans (Ex.new nf0)
    have rf : r ≠ f0 := fun z => by rw [z, upd_same] at nf0; cases nf0
    have ll1 : LLs H (upd (upd H r (.lst [])) f0 (.lst [.ref r])) f0 [r] (prts 0) := ⟨upd_same, by
      have := nf0
      rw [upd_ne (Ne.symm rf)] at this
      exact this, .cons ⟨by rw [upd_ne rf, upd_same]; rfl, nr⟩ .nil, List.pairwise_singleton _ _, fun z => rf (List.mem_singleton.mp z).symm⟩
    generalize upd (upd H r (.lst [])) f0 (.lst [.ref r]) = H3 at *
    show tSeq _ _ _ [some (vi n), some (.ref f0), none, none, none] H3
    refine q_forR1 (n := ((n : Nat) : Int)) (ea_cons (ev_var rfl) ea_nil) ⟨by omega, by omega⟩ (fun i σ H' => Ex H H' ∧ ∃ b as y2, LLs H H' b as (prts i) ∧ σ = [some (vi n), some (.ref b), y2, none, none])
      (fun H4 e4 => ⟨e3.trans e4, f0, [r], none, ll1.ex e4, rfl⟩) (fun i σ H4 hi ⟨e4, b, as, y2, ll, hσ⟩ => ?_) (fun σ H4 ⟨e4, b, as, y2, ll, hσ⟩ => ?_)
    · subst hσ
      have hi' : i < n := by omega
      have lp := prts_few i (by omega)
      have la := ll.len
      refine do_asg (do_lc2NewL (K := K) (a := b) (xs := as.map V.ref) (L := prts i) (u := fun ns x => ns ++ [x]) (inn := fun r => ups i r ++ [i]) (m := 7) (ev_var rfl) (sq_of ll.at_) (by rw [List.length_map, la]) (fun k x ns H5 e5 hx hns => ?_) (by rw [List.length_map]; omega) (fun ns _ => ?_) (by decide) (fun _ => by rfl) (fun _ _ => by rfl) (fun k x ns z H5 e5 hx hns hz => ?_) (fun b2 as2 H5 e5 l2 => ?_))
      · rw [List.getElem?_map] at hx
        cases hb : as[k]? with
        | none => rw [hb] at hx; cases hx
        | some bb =>
        rw [hb] at hx
        cases Option.some.inj hx
        obtain ⟨ms, hms, qq, _⟩ := paired_at ll.each hb
        rw [hms] at hns
        cases Option.some.inj hns
        have can := prts_can.mp (List.mem_iff_getElem?.mpr ⟨k, hms⟩)
        show EvL _ _ H5 ((ups i ns ++ [i]).map vi)
        rw [List.map_append]
        refine el_cat (el_sortSetV (K := K) (w := w) (ms := ups i ns) (ev_var rfl) (sq_of (e5 _ _ qq)) (by rw [can.len]; omega) i (by omega) can.low (ups_up i ns).1 (fun x => ups_mem can.low x)) (el_lst (ea_cons (ev_var rfl) ea_nil) (by show 1 ≤ 100000; decide)) ?_
        have : (ups i ns).length ≤ i := by
          have := List.length_filter_le (fun k => decide (k ∈ ns)) (List.range i)
          rw [List.length_range] at this
          exact this
        rw [List.length_map]
        show _ + 1 ≤ _
        omega
      · have := List.length_filter_le (fun k => decide (k ∈ ns)) (List.range i)
        rw [List.length_range] at this
        show (List.filter _ _ ++ [i]).length ≤ 7
        rw [List.length_append]
        show _ + 1 ≤ 7
        omega
      · rw [List.getElem?_map] at hx
        cases hb : as[k]? with
        | none => rw [hb] at hx; cases hx
        | some bb =>
        rw [hb] at hx
        cases Option.some.inj hx
        obtain ⟨ms, hms, qq, _⟩ := paired_at ll.each hb
        rw [hms] at hns
        cases Option.some.inj hns
        have can := prts_can.mp (List.mem_iff_getElem?.mpr ⟨k, hms⟩)
        show EvL _ _ H5 ((ns ++ [z]).map vi)
        rw [List.map_append]
        intro H8 e8 Q' q'
        refine do_op (do_ev (v := .ref bb) (ev_var rfl) fun H9 e9 => do_evL (el_lst (ea_cons (ev_var rfl) ea_nil) (by show 1 ≤ 100000; decide)) fun r2 H10 nr2 e10 hr2 => ?_)
        exact ⟨bb, r2, ns.map vi, [vi z], rfl, rfl, (e5.trans (e8.trans (e9.trans e10))) _ _ qq, hr2, by rw [List.length_map]; exact sz_of (by show ns.length + 1 ≤ 100000; rw [can.len]; omega), fun l nl => q' l _ (fresh_back (e9.trans e10) nl) ((e9.trans e10).trans (Ex.new nl)) upd_same⟩
      · exact ⟨e4.trans e5, b2, as2, _, l2.low e4, rfl⟩
    · subst hσ
      have en : ((n : Nat) : Int).toNat = n := by omega
      exact s_ret (v := .ref b) (ev_var rfl) fun H5 e5 => q b as H5 (e4.trans e5) (by have := ll.ex e5; rw [en] at this; exact this)
end
end K76
end
section
namespace K76
open PySem PySem.Spec PyProof.Rows L2 Evl RZ Dw M20 M25 CL LD JN
/-! ### what goes with the deeds -/
theorem cell_facts {p : MArg} (ok : MOk p) {cl : Str × List Nat × Nat} (mem : cl ∈ cwm p) : ∃ d t, (cl.1, d) ∈ p.1 ∧ tbOf p.1 p.2.2 cl.1 = t ∧ Tab p.2.1 d t ∧ d ≤ 2 ∧ cl.2.1 ∈ rows p.2.1 d ∧ cl.2.2 = g t (plc p.2.1 cl.2.1) := by
  obtain ⟨i, d, t, j, r, h1, h2, h3, h4, h5, h6⟩ := cws_mem.mp mem
  obtain ⟨il, et1, tb⟩ := tbOf_sig ok ok rfl h1
  have e2 : p.2.2[i] = t := by
    rw [List.getElem?_eq_getElem il] at h2
    exact Option.some.inj h2
  have dm := List.mem_iff_getElem?.mpr ⟨i, h1⟩
  have d2 := ok.1.pl _ dm
  rw [e2] at et1 tb
  refine ⟨d.2, t, by rw [h5]; exact dm, by rw [h5]; exact et1, tb, d2, by rw [h6]; exact List.mem_iff_getElem?.mpr ⟨j, h3⟩, ?_⟩
  rw [h6, (rows_plc' d2 ok.2.n1 h3).1]
  have jl := (List.getElem?_eq_some_iff.mp h4).1
  rw [g_eq jl] at h4
  exact (Option.some.inj h4).symm
theorem lcs_full {p p2 : MArg} (ok : MOk p) {i : Nat} {d : Str × Nat} {t : List Nat} (h1 : p.1[i]? = some d) (h2 : p.2.2[i]? = some t) : ∀ r ∈ rows p.2.1 d.2, (r, g t (plc p.2.1 r), tbOf p.1 p2.2.2 d.1) ∈ lcs p p2 := fun r hr => by
  have d2 := ok.1.pl _ (List.mem_iff_getElem?.mpr ⟨i, h1⟩)
  obtain ⟨j, hj⟩ := List.mem_iff_getElem?.mp hr
  obtain ⟨il, et1, tb⟩ := tbOf_sig ok ok rfl h1
  have e2 : p.2.2[i] = t := by
    rw [List.getElem?_eq_getElem il] at h2
    exact Option.some.inj h2
  rw [e2] at tb
  have ej := rows_plc' d2 ok.2.n1 hj
  refine List.mem_map.mpr ⟨(d.1, r, g t (plc p.2.1 r)), cws_mem.mpr ⟨i, d, t, j, r, h1, h2, hj, ?_, rfl, rfl⟩, rfl⟩
  rw [ej.1]
  exact g_eq (by rw [tb.len]; exact ej.2)
section
variable {P : Program} {w : World} {K : PySem.W.Frag} {mg : Str → Option Value} {base : Heap}
/-- the tables by the names of the deeds -/
def TbD (K : PySem.W.Frag) (H : Hp) (d : Addr) (p : MArg) : Prop := ∃ kv : List (Key × V), H d = some (.dK kv) ∧ ∀ x ∈ p.1, ∃ u, valV kv (.inr x.1) = some u ∧ Nats K H u (tbOf p.1 p.2.2 x.1)
theorem TbD.ex {H H' : Hp} {d : Addr} {p : MArg} (e : Ex H H') (h : TbD K H d p) : TbD K H' d p := let ⟨kv, q, a⟩ := h; ⟨kv, e _ _ q, fun x hx => let ⟨u, b, c⟩ := a x hx; ⟨u, b, c.ex e⟩⟩
def sp_goes (K : PySem.W.Frag) : Sp := spX (fun (q : MArg × List Nat) vs H => (∃ u v a, vs = [u, v, .ref a] ∧ MA K H u v q.1 ∧ SqL K H a (q.2.map vi)) ∧ MOk q.1 ∧ q.2.length = q.1.2.1 ∧ ∀ k ∈ q.2, k < q.1.2.1) (fun q v _ => v = .bl (gwd q.1.2.1 (lcs q.1 q.1) q.2))
theorem c_goes_with_deeds (T : Txt mg) (D : Df K mg "goes_with_deeds" s_goes_with_deeds ["signature", "model", "lots"]) (c_table_of : Cl P w K mg base 1 "table_of" (sp_table_of K)) (c_cells_with_worths : Cl P w K mg base 2 "cells_with_worths" (sp_cells K)) (c_place_of_rowT : Cl P w K mg base 1 "place_of_row" (sp_place_T K)) (c_with_arg : Cl P w K mg base 1 "with_arg" (sp_with_arg K)) : Cl P w K mg base 3 "goes_with_deeds" (sp_goes K) := by
  refine cl_of (k := 2) D sc_goes_with_deeds (fun vs H Q E h => ?_) (fun f cdv A outer s H vs Q E hr h => ?_)
  · obtain ⟨p, ⟨⟨u, v, a, rfl, _⟩, _⟩, _⟩ := h
    rfl
  · obtain ⟨⟨p, L⟩, ⟨⟨u, v, a, rfl, hm, ha⟩, ok, len, low⟩, q⟩ := h
    refine ⟨_, (pss_cons (ps_setDc (i := 3) (own := [("name", 4), ("places", 10)]) (g := (gTup _ 2 (gCons (gName 4) (gCons (gName 10) gNil)))) (by rfl) sc_goes_with_deeds.nd rfl rfl (sw_trueD rfl rfl rfl (by decide +kernel)) (pi_tup (pv 0)) (blkOk_by (own := [("name", 4), ("places", 10)]) (N := ["signature", "model", "lots", "tables", "name", "args", "worth", "at", "arg", "place", "places"]) (sc := defScope s_goes_with_deeds) (by decide +kernel)) (fun _ _ _ _ _ => (pg_tup (by rfl) (pgs_cons (pg_name (i := 4) sc_goes_with_deeds.nd rfl (.inl rfl)) (pgs_cons (pg_name (i := 10) sc_goes_with_deeds.nd rfl (.inl rfl)) pgs_nil)))) (fun _ _ _ _ _ => pts_nil) (fun _ _ _ _ _ => (pv 4)) (fun _ _ _ _ _ => (pe_cl c_table_of hr (by first | decide | omega) (by rfl) (pa_cons (pv 0) (pa_cons (pe_ix (ix_tupK K) (pv 1) pe_int (fun _ _ => rfl)) (pa_cons (pv 4) pa_nil))))))
      (pss_cons (ps_for PassesOwn.never (by rfl) (pi_list (pe_cl c_cells_with_worths hr (by first | decide | omega) (by rfl) (pa_cons (pv 0) (pa_cons (pv 1) pa_nil)))) (pg_tup (by rfl) (pgs_cons (pg_name (i := 4) sc_goes_with_deeds.nd rfl (.inl rfl)) (pgs_cons (pg_name (i := 5) sc_goes_with_deeds.nd rfl (.inl rfl)) (pgs_cons (pg_name (i := 6) sc_goes_with_deeds.nd rfl (.inl rfl)) pgs_nil))))
        (pss_one (ps_for PassesOwn.never (by rfl) (pi_enumT (by rfl) T.z_enumerate (pa_cons (pv 5) pa_nil)) (pg_tup (by rfl) (pgs_cons (pg_name (i := 7) sc_goes_with_deeds.nd rfl (.inl rfl)) (pgs_cons (pg_name (i := 8) sc_goes_with_deeds.nd rfl (.inl rfl)) pgs_nil)))
          (pss_cons (ps_set (i := 9) sc_goes_with_deeds.nd rfl (.inl rfl) (pe_cl c_place_of_rowT hr (by first | decide | omega) (by rfl) (pa_cons (pe_ix ix_tup (pv 1) pe_int (fun _ _ => rfl)) (pa_cons (pe_cl c_with_arg hr (by first | decide | omega) (by rfl) (pa_cons (pv 5) (pa_cons (pv 7) (pa_cons (pe_ix ix_list (pv 2) (pv 8) (fun _ _ => rfl)) pa_nil)))) pa_nil))))
          (pss_one (ps_if (pt_cmpR op_ne (pe_ix ix_list (pv 2) (pv 6) (fun _ _ => rfl)) (pe_ix ix_list (pv 2) (pe_ix ix_tup (pe_dget (hu_of hr) (pv 3) (pv 4) (fun _ _ => rfl)) (pv 9) (fun _ _ => rfl)) (fun _ _ => rfl)) (nomark _))
            (pss_one (ps_ret pe_bl))
            pss_nil))))))
      (pss_one (ps_ret pe_bl)))), ?_⟩
    replace hm : MA K H u v p := hm
    replace ha : SqL K H a (L.map vi) := ha
    replace ok : MOk p := ok
    replace len : L.length = p.2.1 := len
    replace low : ∀ k ∈ L, k < p.2.1 := low
    have n6 := ok.2.n6
    obtain ⟨z, tv, rfl, hZ, hT⟩ := id hm.2
    obtain ⟨sa, ps, rfl, hS, prs⟩ := id hm.1
    have lps := paired_len prs
    have l4 := ok.1.l4
    refine do_set (do_dcW (walk_tup (K := K) (a := sa) (xs := ps)) (fun R r => (ev_var rfl) H (Ex.refl _) _ fun H1 e1 => ⟨sa, rfl, ⟨_, ex_t e1 hS⟩, r H1 e1⟩)
      (fun D j H' => H D = none ∧ Ex H H' ∧ ∃ kv : List (Key × V), H' D = some (.dK kv) ∧ kv.length ≤ j ∧ ∀ i x, i < j → p.1[i]? = some x → ∃ u, valV kv (.inr x.1) = some u ∧ Nats K H' u (tbOf p.1 p.2.2 x.1))
      (fun D H1 e1 nD => ⟨fresh_back e1 nD, e1.trans (Ex.new nD), [], upd_same, Nat.le_refl _, fun i x h => absurd h (Nat.not_lt_zero _)⟩) (fun D j H1 _ h => ex_t h.2.1 hS) (fun D j x H1 H2 hj hP y => ?_) (fun D H1 hP => ?_))
    · obtain ⟨nD, e1, kv, hkv, lkv, vals⟩ := hP
      obtain ⟨rfl, hx⟩ := y
      obtain ⟨dd, ed, b, rfl, hb⟩ := paired_at prs hx
      have dm := List.mem_iff_getElem?.mpr ⟨j, ed⟩
      refine ⟨b, _, rfl, ex_t e1 hb, rfl, _, _, rfl, _, _, rfl, rfl, rfl, do_yes ?_⟩
      refine do_ev (ev_var rfl) fun H3 e3 => do_evP (ep_call (p.1, p.2.1, p.2.2, dd.1, dd.2) (ea_cons (ev_var rfl) (ea_cons (ev_op (ev_var rfl) ev_c (rv_ixT (K := K) (ex_t (e1.trans e3) hZ) (atI_vi (k := 1) rfl))) (ea_cons (ev_var rfl) ea_nil))) (fun H4 e4 => ⟨⟨_, _, rfl, hm.1.ex ((e1.trans e3).trans e4), hT.ex ((e1.trans e3).trans e4)⟩, ok.2.len, dm⟩)) fun r H4 e4 hr => ?_
      have hk4 := (e3.trans e4) _ _ hkv
      refine ⟨kv, .inr dd.1, rfl, hk4, sz_lt (by omega), nD, (e1.trans (e3.trans e4)).mut nD, _, upd_same, Nat.le_trans (put_len _ _ _) (by omega), fun i x hi hx2 => ?_⟩
      have et : ET K H4 (upd H4 D (.dK (putK kv (.inr dd.1) r))) := et_updD ET.refl hk4
      rw [valV_put]
      by_cases en : x.1 = dd.1
      · rw [if_pos (by rw [en])]
        refine ⟨r, rfl, ?_⟩
        rw [en]
        exact Nats.et et hr
      · rw [if_neg (fun zz => en (Sum.inr.inj zz))]
        have ij : i < j := by
          rcases Nat.lt_or_ge i j with zz | zz
          · exact zz
          · have : i = j := by omega
            subst this
            rw [ed] at hx2
            cases Option.some.inj hx2
            exact absurd rfl en
        obtain ⟨u1, v1, n1⟩ := vals i x ij hx2
        exact ⟨u1, v1, Nats.et et (n1.ex (e3.trans e4))⟩
    · obtain ⟨nD, e1, kv, hkv, lkv, vals⟩ := hP
      have tb : TbD K H1 D p := ⟨kv, hkv, fun x hx => by
        obtain ⟨i, hi⟩ := List.mem_iff_getElem?.mp hx
        exact vals i x (by rw [lps]; exact (List.getElem?_eq_some_iff.mp hi).1) hi⟩
      refine q_forLs (do_evP (ep_callF p (ea_cons (ev_var rfl) (ea_cons (ev_var rfl) ea_nil)) (fun H2 e2 => ⟨⟨_, _, rfl, hm.1.ex (e1.trans e2), hm.2.ex (e1.trans e2)⟩, ok.1, ok.2⟩)) fun cv H2 e2 ⟨⟨c, cs, hc, hl, pc⟩, _⟩ => ⟨c, hc, ⟨cs, sq_of hl⟩, ?_⟩)
      replace pc : Paired (CellV K H2) cs (cwm p) := pc
      have e02 := e1.trans e2
      replace tb := tb.ex e2
      refine qloops_list (K := K) (xs := cs) (fun i σ H' => Ex H2 H' ∧ (((cwm p).take i).all fun c => goC p.2.1 L (c.2.1, c.2.2, tbOf p.1 p.2.2 c.1)) = true ∧ ∃ y4 y5 y6 y7 y8 y9, σ = [some (.ref sa), some (.ref z), some (.ref a), some (.ref D), y4, y5, y6, y7, y8, y9, none]) ⟨Ex.refl _, by rw [List.take_zero]; rfl, none, none, none, none, none, none, rfl⟩ (fun i σ' H' _ ⟨e, _⟩ => sq_of (e _ _ hl)) (fun i x σ' H3 hx ⟨e3, al, y4, y5, y6, y7, y8, y9, hσ⟩ => ?_) (fun σ' H3 ⟨e3, al, y4, y5, y6, y7, y8, y9, hσ⟩ => ?_)
      · subst hσ
        obtain ⟨cl, hcl, b, xa, rfl, hb, xaa, rfl, hxa⟩ := paired_at pc hx
        have mem := List.mem_iff_getElem?.mpr ⟨i, hcl⟩
        obtain ⟨d, t, dm, et, ht, d2, hr, hw⟩ := cell_facts ok mem
        obtain ⟨lr, rl⟩ := rows_of hr
        obtain ⟨kvx, hkvx, allx⟩ := tb.ex e3
        obtain ⟨tu, htu, hnu⟩ := allx _ dm
        replace htu : valV kvx (.inr cl.1) = some tu := htu
        replace hnu : Nats K H3 tu (tbOf p.1 p.2.2 cl.1) := hnu
        have e03 := e02.trans e3
        rw [et] at hnu
        obtain ⟨ta, rfl, hta⟩ := hnu
        refine ⟨b, _, rfl, ex_t e3 hb, rfl, _, _, rfl, _, _, rfl, _, _, rfl, rfl, ?_⟩
        refine s_enumT (ea_cons (ev_var rfl) ea_nil) (ex_t e3 hxa) (fun j σ H' => Ex H3 H' ∧ (∀ k, k < j → goA p.2.1 L (cl.2.1, cl.2.2, t) k = true) ∧ ∃ y7 y8 y9, σ = [some (.ref sa), some (.ref z), some (.ref a), some (.ref D), some (.str cl.1), some (.ref xaa), some (vi cl.2.2), y7, y8, y9, none]) (fun H4 e4 => ⟨e4, fun k h => absurd h (Nat.not_lt_zero k), _, _, _, rfl⟩) (fun j σ H' _ ⟨e, _⟩ => ex_t (e3.trans e) hxa) (fun j y σ H4 H5 hy ⟨e4, go, z7, z8, z9, hσ⟩ e5 => ?_) (fun σ H4 ⟨e4, go, z7, z8, z9, hσ⟩ => ?_)
        · subst hσ
          have hj : j < cl.2.1.length := by simpa using (List.getElem?_eq_some_iff.mp hy).1
          have ey : y = vi (g cl.2.1 j) := by
            rw [List.getElem?_map, g_eq hj] at hy
            exact (Option.some.inj hy).symm
          subst ey
          have gj : g cl.2.1 j < p.2.1 := rl _ (M25.g_mem hj)
          have gl : g L (g cl.2.1 j) < p.2.1 := low _ (M25.g_mem (by rw [len]; exact gj))
          have e35 := e4.trans e5
          have hr2 : cl.2.1.set j (g L (g cl.2.1 j)) ∈ rows p.2.1 d := mem_rows (by rw [List.length_set, lr]) fun k hk => by
            rcases List.mem_or_eq_of_mem_set hk with zz | zz
            · exact rl k zz
            · rw [zz]; exact gl
          obtain ⟨lr2, rl2⟩ := rows_of hr2
          have wl := ok_low d2 ht hr
          have wl2 := ok_low d2 ht hr2
          rw [← hw] at wl
          have pl2 : plc p.2.1 (cl.2.1.set j (g L (g cl.2.1 j))) < t.length := by
            have := plc_low rl2 (by rw [lr2]; exact d2)
            rw [lr2] at this
            rw [ht.len]
            exact this
          refine q_asg (v := vi (plc p.2.1 (cl.2.1.set j (g L (g cl.2.1 j))))) (ev_ep ((ep_callP (p.2.1, cl.2.1.set j (g L (g cl.2.1 j))) (eap_cons (P := fun v _ => v = vi p.2.1) (R := fun vs H' => ∃ y r, vs = y :: r ∧ Nats K H' y (cl.2.1.set j (g L (g cl.2.1 j))) ∧ r = []) (ep_ev (ev_op (ev_var rfl) ev_c (rv_ixT (K := K) (ex_t (e03.trans e35) hZ) (atI_vi (k := 0) rfl))) fun _ _ => rfl) (eap_cons (P := fun v H' => Nats K H' v (cl.2.1.set j (g L (g cl.2.1 j)))) (R := fun vs _ => vs = []) (ep_call (cl.2.1, j, g L (g cl.2.1 j)) (ea_cons (ev_var rfl) (ea_cons (ev_var rfl) (ea_cons (ev_op (ev_var rfl) (ev_var rfl) (rv_ixL (K := K) (ex_l (e03.trans e35) ha) (atI_vi (k := g cl.2.1 j) (v := vi (g L (g cl.2.1 j))) (by rw [List.getElem?_map, g_eq (by rw [len]; exact gj)]; rfl)))) ea_nil))) (fun H6 e6 => ⟨⟨_, rfl, xaa, rfl, ex_t ((e3.trans e35).trans e6) hxa⟩, hj, by show cl.2.1.length ≤ 100; omega⟩)) (eap_ev ea_nil fun _ _ => rfl) (fun v _ _ e h => h.ex e)) (fun v _ _ _ h => h)) (fun vs H6 e6 ⟨v, r, hvs, hv, y, r2, hr, hy, hr2⟩ => ⟨⟨y, by rw [hvs, hv, hr, hr2], hy⟩, n6, by rw [lr2]; exact d2, rl2⟩)).imp fun _ _ _ z => z)) fun H6 e6 => ?_
          have e36 := e35.trans e6
          refine s_when (b := !decide (vi (g L cl.2.2) = vi (g L (g t (plc p.2.1 (cl.2.1.set j (g L (g cl.2.1 j)))))))) (et_test (ev_op (ev_op (ev_var rfl) (ev_var rfl) (rv_ixL (K := K) (ex_l (e03.trans e36) ha) (atI_vi (k := cl.2.2) (v := vi (g L cl.2.2)) (by rw [List.getElem?_map, g_eq (by rw [len]; exact wl)]; rfl)))) (ev_op (ev_var rfl) (ev_op (ev_dget (ev_var rfl) (ev_var rfl) (e36 _ _ hkvx) htu) (ev_var rfl) (rv_ixT (K := K) (ex_t e36 hta) (atI_vi (k := plc p.2.1 (cl.2.1.set j (g L (g cl.2.1 j)))) (v := vi (g t (plc p.2.1 (cl.2.1.set j (g L (g cl.2.1 j)))))) (by rw [List.getElem?_map, g_eq pl2]; rfl)))) (rv_ixL (K := K) (ex_l (e03.trans e36) ha) (atI_vi (k := g t (plc p.2.1 (cl.2.1.set j (g L (g cl.2.1 j))))) (v := vi (g L (g t (plc p.2.1 (cl.2.1.set j (g L (g cl.2.1 j))))))) (by rw [List.getElem?_map, g_eq (by rw [len]; exact wl2)]; rfl)))) (rv_ne rfl))) (fun ho H7 e7 => s_ret ev_c fun H8 e8 => q _ H8 (((e03.trans e36).trans e7).trans e8) ?_) (fun ho H7 e7 => ⟨e36.trans e7, fun k hk => ?_, _, _, _, rfl⟩)
          · show V.bl false = V.bl (gwd p.2.1 (lcs p p) L)
            cases hg : gwd p.2.1 (lcs p p) L with
            | false => rfl
            | true =>
              have h1 := List.all_eq_true.mp hg (cl.2.1, cl.2.2, tbOf p.1 p.2.2 cl.1) (List.mem_map.mpr ⟨cl, mem, rfl⟩)
              have h2 := of_decide_eq_true (List.all_eq_true.mp h1 j (List.mem_range.mpr hj))
              rw [et] at h2
              replace h2 : g L cl.2.2 = g L (g t (plc p.2.1 (cl.2.1.set j (g L (g cl.2.1 j))))) := h2
              rw [h2, decide_eq_true rfl] at ho
              cases ho
          · by_cases kj : k < j
            · exact go k kj
            · have : k = j := by omega
              subst this
              rw [Bool.not_eq_false'] at ho
              exact decide_eq_true (Int.ofNat.inj (V.int.inj (of_decide_eq_true ho)))
        · subst hσ
          refine ⟨e3.trans e4, ?_, _, _, _, _, _, _, rfl⟩
          rw [List.take_add_one, hcl, List.all_append, al]
          show (true && ([cl].all _)) = true
          rw [List.all_cons, List.all_nil, Bool.and_true, Bool.true_and, et]
          refine List.all_eq_true.mpr fun k hk => go k ?_
          have := List.mem_range.mp hk
          rw [List.length_map]
          exact this
      · subst hσ
        have full : (cwm p).take cs.length = cwm p := List.take_of_length_le (by rw [paired_len pc]; exact Nat.le_refl _)
        rw [full] at al
        refine s_ret ev_c fun H4 e4 => q _ H4 ((e02.trans e3).trans e4) ?_
        show V.bl true = V.bl (gwd p.2.1 (lcs p p) L)
        have : gwd p.2.1 (lcs p p) L = true := by
          refine List.all_eq_true.mpr fun c hc => ?_
          obtain ⟨cl, hcl, rfl⟩ := List.mem_map.mp hc
          exact List.all_eq_true.mp al cl hcl
        rw [this]
/-! ### joins -/
theorem jns_low {n : Nat} {cs : List LC} {L : List Nat} (h : L ∈ jns n cs) : L.length = n ∧ ∀ k ∈ L, k < n := ⟨(jns_iff.mp h).1.len, (jns_iff.mp h).1.low⟩
theorem jns_few {n : Nat} {cs : List LC} (h : n ≤ 6) : (jns n cs).length ≤ 203 := Nat.le_trans (List.length_filter_le _ _) (prts_few n h)
def jn (p : MArg) : List (List Nat) := jns p.2.1 (lcs p p)
def sp_joins (K : PySem.W.Frag) : Sp := fun vs H Q _ => ∃ (p : MArg) (u v : V), vs = [u, v] ∧ MA K H u v p ∧ MOk p ∧ ∀ a as H', Ex H H' → LLs H H' a as (jn p) → Q (.ref a) H'
theorem c_joins_of (T : Txt mg) (D : Df K mg "joins_of" s_joins_of ["signature", "model"]) (c_all_partings : Cl P w K mg base 1 "all_partings" sp_all_partings) (c_goes_with_deeds : Cl P w K mg base 3 "goes_with_deeds" (sp_goes K)) : Cl P w K mg base 4 "joins_of" (sp_joins K) := by
  refine cl_of (k := 3) D sc_joins_of (fun vs H Q E h => ?_) (fun f cdv A outer s H vs Q E hr h => ?_)
  · obtain ⟨p, u, v, rfl, _⟩ := h
    rfl
  · obtain ⟨p, u, v, rfl, hm, ok, q⟩ := h
    refine ⟨_, (pss_one (ps_ret (pe_lc (own := [("lots", 2)]) (g := (gName 2)) (by rfl) sc_joins_of.nd (pi_list (pe_cl c_all_partings hr (by first | decide | omega) (by rfl) (pa_cons (pe_ix ix_tup (pv 1) pe_int (fun _ _ => rfl)) pa_nil))) (blkOk_by (own := [("lots", 2)]) (N := ["signature", "model", "lots"]) (sc := (defScope s_joins_of)) (by decide +kernel)) (fun _ _ _ _ _ => (pg_name (i := 2) sc_joins_of.nd rfl (.inl rfl))) (fun _ _ _ _ _ => (pts_one (pt_val (pe_cl c_goes_with_deeds hr (by first | decide | omega) (by rfl) (pa_cons (pv 0) (pa_cons (pv 1) (pa_cons (pv 2) pa_nil))))))) (fun _ _ _ _ _ => (pv 2))))), ?_⟩
    obtain ⟨z, tv, rfl, hZ, hT⟩ := id hm.2
    have n6 := ok.2.n6
    refine do_ret (lc_src (ea_cons (ev_op (ev_var rfl) ev_c (rv_ixT (K := K) hZ (atI_vi (k := 0) rfl))) ea_nil H (Ex.refl _) _ fun H2 e2 => ⟨p.2.1, rfl, n6, fun a as H3 e3 ll => ?_⟩))
    have e03 := e2.trans e3
    have ll1 := ll.low e2
    refine do_lcFit (K := K) (f := gwd p.2.1 (lcs p p)) (ev_c) ll1 e03 (by have := prts_few p.2.1 n6; omega) (fun _ => rfl) (fun _ => rfl) (fun b ns H4 e4 hns hb => et_val (ev_callV (v := .bl (gwd p.2.1 (lcs p p) ns)) (p, ns) (ea_cons (ev_var rfl) (ea_cons (ev_var rfl) (ea_cons (ev_var rfl) ea_nil))) (fun H5 e5 => ⟨⟨_, _, _, rfl, hm.ex ((e03.trans e4).trans e5), sq_of (e5 _ _ hb)⟩, ok, (prts_can.mp hns).len, (prts_can.mp hns).low⟩) (fun _ _ p => p))) (fun l bs H4 e4 sl l2 => q l bs H4 (e03.trans e4) l2)
theorem c_joins (T : Txt mg) (D : Df K mg "joins" s_joins ["signature", "model"]) (c_need_model : Cl P w K mg base 7 "need_model" (sp_need_model K)) (c_joins_of : Cl P w K mg base 4 "joins_of" (sp_joins K)) : Cl P w K mg base 8 "joins" (sp_joins K) := by
  refine cl_of (k := 7) D sc_joins (fun vs H Q E h => ?_) (fun f cdv A outer s H vs Q E hr h => ?_)
  · obtain ⟨p, u, v, rfl, _⟩ := h
    rfl
  · obtain ⟨p, u, v, rfl, hm, ok, q⟩ := h
    refine ⟨_, (pss_cons (ps_expr (pe_cl c_need_model hr (by first | decide | omega) (by rfl) (pa_cons (pv 0) (pa_cons (pv 1) pa_nil))))
      (pss_one (ps_ret (pe_cl c_joins_of hr (by first | decide | omega) (by rfl) (pa_cons (pv 0) (pa_cons (pv 1) pa_nil)))))), ?_⟩
    refine q_drop (v := .non) (ev_callV p (ea_cons (ev_var rfl) (ea_cons (ev_var rfl) ea_nil)) (fun H1 e1 => ⟨⟨_, _, rfl, hm.1.ex e1, hm.2.ex e1⟩, ok.1, ok.2⟩) (fun _ _ p => p)) fun H1 e1 => ?_
    exact do_ret (ea_cons (ev_var rfl) (ea_cons (ev_var rfl) ea_nil) H1 (Ex.refl _) _ fun H2 e2 => ⟨p, u, v, rfl, hm.ex (e1.trans e2), ok, fun a as H3 e3 ll => q a as H3 ((e1.trans e2).trans e3) (ll.low (e1.trans e2))⟩)
end
end K76
end
section
namespace K76
open PySem PySem.Spec PyProof.Rows L2 Evl RZ Dw M20 M25 CL LD JN
theorem ev_gtN {σ : L2.St} {H : Hp} {ta tb : TE} {m n : Nat} (ha : Ev ta σ H (vi m)) (hb : Ev tb σ H (vi n)) : Ev (tOp (rI0 fun i j => .bl (decide (j < i))) ta tb) σ H (.bl (decide (n < m))) :=
  ev_op ha hb fun H1 _ _ q => ⟨_, _, rfl, rfl, by
    have e : decide (((n : Nat) : Int) < ((m : Nat) : Int)) = decide (n < m) := by
      apply Bool.eq_iff_iff.mpr
      rw [decide_eq_true_iff, decide_eq_true_iff]
      omega
    have := q H1 (Ex.refl H1)
    rw [← e] at this
    exact this⟩
section
variable {P : Program} {w : World} {K : PySem.W.Frag} {mg : Str → Option Value} {base : Heap}
def sp_is_join (K : PySem.W.Frag) : Sp := spX (fun (q : MArg × List Nat) vs H => (∃ u v a, vs = [u, v, .ref a] ∧ MA K H u v q.1 ∧ H a = some (.lst (q.2.map vi))) ∧ MOk q.1 ∧ q.2 ∈ jn q.1) (fun _ v _ => v = .bl true)
theorem c_is_join (T : Txt mg) (D : Df K mg "is_join" s_is_join ["signature", "model", "thing"]) (c_is_row : Cl P w K mg base 3 "is_row" (sp_is_row K)) (c_goes_with_deeds : Cl P w K mg base 3 "goes_with_deeds" (sp_goes K)) : Cl P w K mg base 4 "is_join" (sp_is_join K) := by
  refine cl_of (k := 3) D sc_is_join (fun vs H Q E h => ?_) (fun f cdv A outer s H vs Q E hr h => ?_)
  · obtain ⟨p, ⟨⟨u, v, a, rfl, _⟩, _⟩, _⟩ := h
    rfl
  · obtain ⟨⟨p, L⟩, ⟨⟨u, v, a, rfl, hm, ha⟩, ok, jm⟩, q⟩ := h
    refine ⟨_, (pss_cons (ps_if (PW.pt (pw_or (pt_not (pt_val (pe_callB call_isi (by rfl) T.z_isinstance (by decide +kernel) (pa_cons (pv 2) (pa_cons (pe_ty "list" (by rfl) T.z_list (by decide +kernel)) pa_nil))))) (pw_or1 (pt_not (pt_val (pe_cl c_is_row hr (by first | decide | omega) (by rfl) (pa_cons (pe_callTy call_tuple_of (by rfl) T.z_tuple (by decide +kernel) (pa_cons (pv 2) pa_nil)) (pa_cons (pe_ix ix_tup (pv 1) pe_int (fun _ _ => rfl)) (pa_cons (pe_ix ix_tup (pv 1) pe_int (fun _ _ => rfl)) pa_nil)))))))))
        (pss_one (ps_ret pe_bl))
        pss_nil)
      (pss_cons (ps_for PassesOwn.never (by rfl) (pi_enum (by rfl) T.z_enumerate (pa_cons (pv 2) pa_nil)) (pg_tup (by rfl) (pgs_cons (pg_name (i := 3) sc_is_join.nd rfl (.inl rfl)) (pgs_cons (pg_name (i := 4) sc_is_join.nd rfl (.inl rfl)) pgs_nil)))
        (pss_one (ps_if (PW.pt (pw_or (pt_cmpR op_gt (pv 4) (pv 3) (nomark _)) (pw_or1 (pt_cmpR op_ne (pe_ix ix_list (pv 2) (pv 4) (fun _ _ => rfl)) (pv 4) (nomark _)))))
          (pss_one (ps_ret pe_bl))
          pss_nil)))
      (pss_one (ps_ret (pe_cl c_goes_with_deeds hr (by first | decide | omega) (by rfl) (pa_cons (pv 0) (pa_cons (pv 1) (pa_cons (pv 2) pa_nil)))))))), ?_⟩
    replace hm : MA K H u v p := hm
    replace ha : H a = some (.lst (L.map vi)) := ha
    replace ok : MOk p := ok
    replace jm : L ∈ jn p := jm
    obtain ⟨can, gw⟩ := jns_iff.mp jm
    have len := can.len
    have low := can.low
    have n6 := ok.2.n6
    obtain ⟨z, tv, rfl, hZ, hT⟩ := id hm.2
    have ixe : ∀ H1, Ex H H1 → Ev (tOp (rIxT K) (tVar 1) (tC (.int 0))) [some u, some (.ref z), some (.ref a), none, none] H1 (vi p.2.1) := fun H1 e1 => ev_op (ev_var rfl) ev_c (rv_ixT (K := K) (ex_t e1 hZ) (atI_vi (k := 0) rfl))
    refine q_when (b := false) (et_is (et_or (et_not (et_val (ev_isi (ev_var rfl) ev_c (.ty _) (fun _ e => .base (.lst (e _ _ ha))) kit_ll))) (fun _ => et_not (et_val (b := true) (ev_ep ((ep_callP (p.2.1, L) (eap_cons (P := fun v H' => Nats K H' v L) (R := fun vs _ => vs = [vi p.2.1, vi p.2.1]) (ep_nats (eu_tupL (K := K) (ev_var rfl) (sq_of ha)) rfl) (eap_ev (ea_cons (ixe _ (Ex.refl _)) (ea_cons (ixe _ (Ex.refl _)) ea_nil)) (fun _ _ => rfl)) (fun v H1 H2 e h => h.ex e)) (fun vs H1 e1 ⟨x, r, hvs, hx, hr⟩ => ⟨⟨x, by rw [hvs, hr]; show _ = [x, vi L.length, vi p.2.1]; rw [len], hx⟩, low, by show L.length ≤ 1000; omega⟩)).imp fun _ _ _ z => z))))) rfl) (fun hb => by cases hb) (fun _ H1 e1 => ?_)
    refine q_enumL (K := K) (ea_cons (ev_var rfl) ea_nil) (sq_of (e1 _ _ ha)) (fun i σ H' => Ex H H' ∧ ∃ z3 z4, σ = [some u, some (.ref z), some (.ref a), z3, z4]) (fun H4 e4 => ⟨e1.trans e4, _, _, rfl⟩) (fun i σ H' _ ⟨e, _⟩ => sq_of (e _ _ ha)) (fun i x σ H4 H5 hx ⟨e4, z3, z4, hσ⟩ e5 => ?_) (fun σ H4 ⟨e4, z3, z4, hσ⟩ => ?_)
    · subst hσ
      have hi : i < L.length := by simpa using (List.getElem?_eq_some_iff.mp hx).1
      have ey : x = vi (g L i) := by
        rw [List.getElem?_map, g_eq hi] at hx
        exact (Option.some.inj hx).symm
      subst ey
      have le := can.le i (by rw [← len]; exact hi)
      have fx := can.fix i (by rw [← len]; exact hi)
      have gl := low _ (M25.g_mem hi)
      refine s_when (b := false) (et_is (et_or (a := false) (b := false) (et_is (et_test (ev_gtN (m := g L i) (n := i) (ev_var rfl) (ev_var rfl))) (by rw [decide_eq_false (by omega)])) (fun _ => et_is (et_test (ev_op (ev_op (ev_var rfl) (ev_var rfl) (rv_ixL (K := K) (sq_of ((e4.trans e5) _ _ ha)) (atI_vi (k := g L i) (v := vi (g L i)) (by rw [List.getElem?_map, g_eq (by rw [len]; exact gl), fx]; rfl)))) (ev_var rfl) (rv_ne rfl))) (by rw [decide_eq_true rfl]; rfl))) rfl) (fun hb => by cases hb) (fun _ H6 e6 => ⟨(e4.trans e5).trans e6, _, _, rfl⟩)
    · subst hσ
      exact s_ret (v := .bl true) (ev_callV (v := .bl true) (p, L) (ea_cons (ev_var rfl) (ea_cons (ev_var rfl) (ea_cons (ev_var rfl) ea_nil))) (fun H2 e2 => ⟨⟨_, _, _, rfl, hm.ex (e4.trans e2), sq_of ((e4.trans e2) _ _ ha)⟩, ok, len, low⟩) (fun _ _ zz => by rw [zz]; exact congrArg V.bl gw)) fun H2 e2 => q _ H2 (e4.trans e2) rfl
def quo (p : MArg) (L : List Nat) : List (List Nat) := (p.1.zip p.2.2).map fun x => quoT p.2.1 L x.1.2 x.2
def sp_quotient (K : PySem.W.Frag) : Sp := spX (fun (q : MArg × List Nat) vs H => (∃ u v a, vs = [u, v, .ref a] ∧ MA K H u v q.1 ∧ H a = some (.lst (q.2.map vi))) ∧ MOk q.1 ∧ q.2 ∈ jn q.1) (fun q v H => Mdl K H v (ups q.1.2.1 q.2).length (quo q.1 q.2))
theorem ups_len (n : Nat) (L : List Nat) : (ups n L).length ≤ n := by
  have := List.length_filter_le (fun k => decide (k ∈ L)) (List.range n)
  rw [List.length_range] at this
  exact this
theorem c_quotient (T : Txt mg) (D : Df K mg "quotient" s_quotient ["signature", "model", "join"]) (c_need_model : Cl P w K mg base 7 "need_model" (sp_need_model K)) (c_is_join : Cl P w K mg base 4 "is_join" (sp_is_join K)) (c_rows_below : Cl P w K mg base 1 "rows_below" (sp_rows_below K)) (c_place_of_row : Cl P w K mg base 1 "place_of_row" (sp_place_of_row K)) : Cl P w K mg base 8 "quotient" (sp_quotient K) := by
  refine cl_of (k := 7) D sc_quotient (fun vs H Q E h => ?_) (fun f cdv A outer s H vs Q E hr h => ?_)
  · obtain ⟨p, ⟨⟨u, v, a, rfl, _⟩, _⟩, _⟩ := h
    rfl
  · obtain ⟨⟨⟨sg, n, ts⟩, L⟩, ⟨⟨u, v, x, rfl, hm0, hx⟩, ok, jm⟩, q⟩ := h
    refine ⟨_, (pss_cons (ps_expr (pe_cl c_need_model hr (by first | decide | omega) (by rfl) (pa_cons (pv 0) (pa_cons (pv 1) pa_nil))))
      (pss_cons (ps_if (pt_not (pt_val (pe_cl c_is_join hr (by first | decide | omega) (by rfl) (pa_cons (pv 0) (pa_cons (pv 1) (pa_cons (pv 2) pa_nil))))))
        (pss_one ps_never)
        pss_nil)
      (pss_cons (ps_set (i := 3) sc_quotient.nd rfl (.inr rfl) (pe_callB (cr_sortedSet rfl) (by rfl) T.z_sorted (by decide +kernel) (pa_cons (pe_callTy (cr_setI rfl) (by rfl) T.z_set (by decide +kernel) (pa_cons (pv 2) pa_nil)) pa_nil)))
      (pss_cons (ps_set (i := 4) sc_quotient.nd rfl (.inl rfl) (pe_lst pa_nil))
      (pss_cons (ps_for PassesOwn.never (by rfl) (pi_zipA (by rfl) T.z_zip (pa_cons (pv 0) (pa_cons (pe_ix ix_tup (pv 1) pe_int (fun _ _ => rfl)) pa_nil))) (pg_tup (by rfl) (pgs_cons (pg_tup (by rfl) (pgs_cons (pg_name (i := 5) sc_quotient.nd rfl (.inl rfl)) (pgs_cons (pg_name (i := 6) sc_quotient.nd rfl (.inl rfl)) pgs_nil))) (pgs_cons (pg_name (i := 7) sc_quotient.nd rfl (.inl rfl)) pgs_nil)))
        (pss_cons (ps_set (i := 8) sc_quotient.nd rfl (.inl rfl) (pe_lst pa_nil))
        (pss_cons (ps_for PassesOwn.never (by rfl) (pi_list (pe_cl c_rows_below hr (by first | decide | omega) (by rfl) (pa_cons (pe_callB call_len_seq (by rfl) T.z_len PySem.boot_len (pa_cons (pv 3) pa_nil)) (pa_cons (pv 6) pa_nil)))) (pg_name (i := 9) sc_quotient.nd rfl (.inl rfl))
          (pss_cons (ps_set (i := 10) sc_quotient.nd rfl (.inl rfl) (pe_ix ix_tup (pv 7) (pe_cl c_place_of_row hr (by first | decide | omega) (by rfl) (pa_cons (pe_ix ix_tup (pv 1) pe_int (fun _ _ => rfl)) (pa_cons (pe_lc (own := [("arg", 11)]) (g := (gName 11)) (by rfl) sc_quotient.nd (pi_tup (pv 9)) (blkOk_by (own := [("arg", 11)]) (N := ["signature", "model", "join", "least", "tables", "name", "places", "table", "row", "args", "worth", "arg"]) (sc := (defScope s_quotient)) (by decide +kernel)) (fun _ _ _ _ _ => (pg_name (i := 11) sc_quotient.nd rfl (.inl rfl))) (fun _ _ _ _ _ => pts_nil) (fun _ _ _ _ _ => (pe_ix (ix_listK K) (pv 3) (pv 11) (fun _ _ => rfl)))) pa_nil))) (fun _ _ => rfl)))
          (pss_one (ps_expr (pe_bm PySem.F.plainAttrs_list PySem.F.slot_list_append PySem.F.type_list_append mt_append (pv 8) (pa_cons (pe_bm PySem.F.plainAttrs_list PySem.F.slot_list_index PySem.F.type_list_index mt_index (pv 3) (pa_cons (pe_ix ix_list (pv 2) (pv 10) (fun _ _ => rfl)) pa_nil)) pa_nil))))))
        (pss_one (ps_expr (pe_bm PySem.F.plainAttrs_list PySem.F.slot_list_append PySem.F.type_list_append mt_append (pv 4) (pa_cons (pe_callTy call_tuple_of (by rfl) T.z_tuple (by decide +kernel) (pa_cons (pv 8) pa_nil)) pa_nil)))))))
      (pss_one (ps_ret (pe_tup (pa_cons (pe_callB call_len_seq (by rfl) T.z_len PySem.boot_len (pa_cons (pv 3) pa_nil)) (pa_cons (pe_callTy call_tuple_of (by rfl) T.z_tuple (by decide +kernel) (pa_cons (pv 4) pa_nil)) pa_nil)))))))))), ?_⟩
    replace hx : H x = some (.lst (L.map vi)) := hx
    replace ok : MOk (sg, n, ts) := ok
    replace jm : L ∈ jn (sg, n, ts) := jm
    replace hm0 : MA K H u v (sg, n, ts) := hm0
    obtain ⟨can, gw⟩ := jns_iff.mp jm
    replace can : Can n L := can
    have len := can.len
    have low := can.low
    have sok : SigOk sg := ok.1
    have mok : MdlOk sg n ts := ok.2
    have n6 : n ≤ 6 := mok.n6
    obtain ⟨hG, hM⟩ := id hm0
    obtain ⟨a, us, rfl, hS, hP⟩ := id hG
    obtain ⟨z, tv, rfl, hZ, hT⟩ := id hM
    obtain ⟨b, tvs, rfl, hB, hR⟩ := id hT
    replace hZ : SqT K H z [vi n, .ref b] := hZ
    replace hP : Paired (Deed K H) us sg := hP
    replace hR : Paired (Nats K H) tvs ts := hR
    have lS : us.length = sg.length := paired_len hP
    have lT : tvs.length = ts.length := paired_len hR
    have lM : ts.length = sg.length := mok.len
    have l4 := sok.l4
    refine q_drop (v := .non) (ev_callV (sg, n, ts) (ea_cons (ev_var rfl) (ea_cons (ev_var rfl) ea_nil)) (fun H1 e1 => ⟨⟨_, _, rfl, hm0.1.ex e1, hm0.2.ex e1⟩, ok.1, ok.2⟩) (fun _ _ p => p)) fun Ha ea => ?_
    refine q_when (b := false) (et_is (et_not (et_val (ev_callV (v := .bl true) ((sg, n, ts), L) (ea_cons (ev_var rfl) (ea_cons (ev_var rfl) (ea_cons (ev_var rfl) ea_nil))) (fun H1 e1 => ⟨⟨_, _, _, rfl, hm0.ex (ea.trans e1), (ea.trans e1) _ _ hx⟩, ok, jm⟩) (fun _ _ zz => zz)))) rfl) (fun hb => by cases hb) (fun _ Hb eb => ?_)
    have eab := ea.trans eb
    refine q_asgL (el_sortSetV (K := K) (w := w) (ms := ups n L) (ev_var rfl) (sq_of (eab _ _ hx)) (by rw [len]; omega) n (by omega) low (ups_up n L).1 (fun k => ups_mem low k)) fun ls Hc nls ec hls => ?_
    have eac := eab.trans ec
    have lU := ups_len n L
    refine q_asgL (el_lst ea_nil (Nat.zero_le _)) fun m H1 nm ed hm => ?_
    have e1 := eac.trans ed
    have hls1 := ed _ _ hls
    have nmH : H m = none := fresh_back eac nm
    refine q_zipT (ea_cons (ev_var rfl) (ea_cons (ev_op (ev_var rfl) ev_c (rv_ixT (K := K) (ex_t e1 hZ) (atI_vi (k := 1) rfl))) ea_nil)) (ex_t e1 hS) (ex_t e1 hB) (by rw [lS, lT, lM]) (fun i σ H' => Ex H H' ∧ H' ls = some (.lst ((ups n L).map vi)) ∧ (∃ ws, H' m = some (.lst ws) ∧ Paired (Nats K H') ws (((sg.zip ts).take i).map fun x => quoT n L x.1.2 x.2)) ∧ ∃ y5 y6 y7 y8 y9 y10, σ = [some (.ref a), some (.ref z), some (.ref x), some (.ref ls), some (.ref m), y5, y6, y7, y8, y9, y10, none])
      (fun H2 e2 => ⟨e1.trans e2, e2 _ _ hls1, ⟨[], e2 _ _ hm, .nil⟩, none, none, none, none, none, none, rfl⟩) (fun i σ H' _ ⟨e, _⟩ => ⟨ex_t e hS, ex_t e hB⟩) (fun i d tv p σ H2 hd ht ⟨e2, hls2, ⟨ws, hws, pws⟩, y5, y6, y7, y8, y9, y10, hσ⟩ np => ?_) (fun σ H2 ⟨e2, hls2, ⟨ws, hws, pws⟩, y5, y6, y7, y8, y9, y10, hσ⟩ => ?_)
    · subst hσ
      have hi : i < sg.length := by rw [← lS]; exact (List.getElem?_eq_some_iff.mp hd).1
      have hi2 : i < ts.length := by rw [lM]; exact hi
      obtain ⟨d', ed', c, hc, dc⟩ := paired_get hP (List.getElem?_eq_getElem hi)
      have : d' = d := Option.some.inj (ed'.symm.trans hd)
      subst this
      subst hc
      obtain ⟨t', et', r, hr', nt⟩ := paired_get hR (List.getElem?_eq_getElem hi2)
      have : t' = tv := Option.some.inj (et'.symm.trans ht)
      subst this
      subst hr'
      have e3 : Ex H2 (upd H2 p (.tup [.ref c, .ref r])) := Ex.new np
      have e03 : Ex H (upd H2 p (.tup [.ref c, .ref r])) := e2.trans e3
      have p2 : sg[i].2 ≤ 2 := sok.pl _ (List.getElem_mem hi)
      have tab : Tab n sg[i].2 ts[i] := mok.tab i hi hi2
      have hzip : (sg.zip ts)[i]? = some (sg[i], ts[i]) := List.getElem?_zip_eq_some.mpr ⟨List.getElem?_eq_getElem hi, List.getElem?_eq_getElem hi2⟩
      refine ⟨p, _, rfl, st_of upd_same, rfl, _, _, rfl, ⟨c, _, rfl, ex_t e03 dc, rfl, _, _, rfl, _, _, rfl, rfl, ?_⟩⟩
      refine ⟨_, _, rfl, rfl, ?_⟩
      refine q_asgL (el_lst ea_nil (Nat.zero_le _)) fun ro H4 nro e4 hro => ?_
      have e04 := e03.trans e4
      have hls4 := (e3.trans e4) _ _ hls2
      have nroH : H ro = none := fresh_back e03 nro
      have rom : m ≠ ro := fun zz => by rw [← zz, e3 _ _ hws] at nro; cases nro
      have rol : ls ≠ ro := fun zz => by rw [← zz, e3 _ _ hls2] at nro; cases nro
      have lsm : ls ≠ m := fun zz => by rw [zz, hws] at hls2; rw [← zz, hls] at nm; cases nm
      refine q_forLs (do_evP (ep_callF ((ups n L).length, sg[i].2) (ea_cons (ev_lenL (K := K) (ev_var rfl) hls4) (ea_cons (ev_var rfl) ea_nil)) (fun _ _ => ⟨rfl, by show (ups n L).length ≤ 6; omega, p2⟩)) fun rv H5 e5 ⟨⟨ra, rvs, hra, hrl, prs⟩, nra⟩ => ⟨ra, hra, ⟨rvs, sq_of hrl⟩, ?_⟩)
      replace prs : Paired (Nats K H5) rvs (rows (ups n L).length sg[i].2) := prs
      have e05 := e04.trans e5
      have rar : ra ≠ ro := fun zz => by have := nra _ hra; rw [zz, hro] at this; cases this
      have ram : ra ≠ m := fun zz => by have := nra _ hra; rw [zz, (e3.trans e4) _ _ hws] at this; cases this
      have lrv := paired_len prs
      rw [rows_len'] at lrv
      have big : (ups n L).length ^ sg[i].2 ≤ 36 := pow_36 (by omega) p2
      refine qloops_list (K := K) (xs := rvs) (fun j σ H' => Ex H H' ∧ H' ls = some (.lst ((ups n L).map vi)) ∧ H' ra = some (.lst rvs) ∧ Paired (Nats K H') rvs (rows (ups n L).length sg[i].2) ∧ H' m = some (.lst ws) ∧ Paired (Nats K H') ws (((sg.zip ts).take i).map fun x => quoT n L x.1.2 x.2) ∧ H' ro = some (.lst (((quoT n L sg[i].2 ts[i]).take j).map vi)) ∧ ∃ y9 y10, σ = [some (.ref a), some (.ref z), some (.ref x), some (.ref ls), some (.ref m), some (.str sg[i].1), some (vi sg[i].2), some (.ref r), some (.ref ro), y9, y10, none])
        ⟨e05, e5 _ _ hls4, hrl, prs, ((e3.trans e4).trans e5) _ _ hws, paired_imp (fun _ _ zz => zz.ex ((e3.trans e4).trans e5)) pws, e5 _ _ hro, _, _, rfl⟩ (fun j σ' H' _ ⟨_, _, hr, _⟩ => sq_of hr) (fun j rv2 σ' H6 hx2 ⟨e6, hls6, hr6, pr6, hm6, pw6, hro6, y9', y10', hσ⟩ => ?_) (fun σ' H6 ⟨e6, hls6, hr6, pr6, hm6, pw6, hro6, y9', y10', hσ⟩ => ?_)
      · subst hσ
        obtain ⟨row, hrow, xa, rfl, hxa⟩ := paired_at pr6 hx2
        have rmem := List.mem_iff_getElem?.mpr ⟨j, hrow⟩
        obtain ⟨lr, rl⟩ := rows_of rmem
        have mr : row.map (g (ups n L)) ∈ rows n sg[i].2 := map_rows rmem fun k hk => U_low can hk
        obtain ⟨lm, lw⟩ := rows_of mr
        have wl : g ts[i] (plc n (row.map (g (ups n L)))) < n := ok_low p2 tab mr
        have pl : plc n (row.map (g (ups n L))) < ts[i].length := by
          have := plc_low lw (by rw [lm]; exact p2)
          rw [lm] at this
          rw [tab.len]
          exact this
        have hj : j < rvs.length := (List.getElem?_eq_some_iff.mp hx2).1
        have lpt : (quoT n L sg[i].2 ts[i]).length = (ups n L).length ^ sg[i].2 := by unfold quoT; rw [List.length_map, rows_len']
        have hpt : (quoT n L sg[i].2 ts[i])[j]? = some ((ups n L).idxOf (g L (g ts[i] (plc n (row.map (g (ups n L))))))) := by
          unfold quoT
          rw [List.getElem?_map, hrow]
          rfl
        have place : Ev (tCall (sp_place_of_row K) [] E0 (tCons (tOp (rIxT K) (tVar 1) (tC (.int 0))) (tCons (tLc (iTup K (tVar 9)) (gName 11) tYes (tOp (rIxL K) (tVar 3) (tVar 11)) [11]) tNil))) [some (.ref a), some (.ref z), some (.ref x), some (.ref ls), some (.ref m), some (.str sg[i].1), some (vi sg[i].2), some (.ref r), some (.ref ro), some (.ref xa), y10', none] H6 (vi (plc n (row.map (g (ups n L))))) := fun H7 e7 Q' q' =>
          do_cons (do_ev (ev_op (ev_var rfl) ev_c (rv_ixT (K := K) (ex_t (e6.trans e7) hZ) (atI_vi (k := 0) rfl))) fun H8 e8 => do_cons (el_getS (K := K) (row := row) (S := ups n L) (i := 9) (j := 11) (k := 3) (fun _ => rfl) rfl (fun _ => rfl) (fun _ => rfl) (ex_t (e7.trans e8) hxa) (sq_of ((e7.trans e8) _ _ hls6)) rl (by omega) H8 (Ex.refl _) _ fun l H9 nl e9 hl => do_nil ⟨(n, row.map (g (ups n L))), ⟨⟨l, rfl, hl⟩, n6, by rw [lm]; exact p2, lw⟩, fun v H10 e10 hv => by rw [hv]; exact q' H10 ((e8.trans e9).trans e10)⟩))
        refine q_asg (v := vi (g ts[i] (plc n (row.map (g (ups n L)))))) (ev_op (ev_var rfl) place (rv_ixT (K := K) (ex_t e6 nt) (atI_vi (k := plc n (row.map (g (ups n L)))) (by rw [List.getElem?_map, g_eq pl]; rfl)))) fun H6b e6b => ?_
        refine s_app (v := vi ((ups n L).idxOf (g L (g ts[i] (plc n (row.map (g (ups n L)))))))) (e6b _ _ hro6) (ev_var rfl) (ev_lindex (K := K) (S := ups n L) (ev_var rfl) (e6b _ _ hls6) (ev_op (ev_var rfl) (ev_var rfl) (rv_ixL (K := K) (sq_of ((e6.trans e6b) _ _ hx)) (atI_vi (k := g ts[i] (plc n (row.map (g (ups n L))))) (v := vi (g L (g ts[i] (plc n (row.map (g (ups n L))))))) (by rw [List.getElem?_map, g_eq (by rw [len]; exact wl)]; rfl)))) (U_mem can wl)) (by rw [List.length_map, List.length_take]; omega) fun H7 e7 => ?_
        have e67 := e6b.trans e7
        have et : ET K H7 (upd H7 ro (.lst (((quoT n L sg[i].2 ts[i]).take j).map vi ++ [vi ((ups n L).idxOf (g L (g ts[i] (plc n (row.map (g (ups n L)))))))]))) := ET.refl.upd (e67 _ _ hro6)
        refine ⟨(e6.trans e67).mut nroH, by rw [upd_ne rol]; exact e67 _ _ hls6, by rw [upd_ne rar]; exact e67 _ _ hr6, paired_imp (fun _ _ zz => (zz.ex e67).et et) pr6, by rw [upd_ne rom]; exact e67 _ _ hm6, paired_imp (fun _ _ zz => (zz.ex e67).et et) pw6, ?_, _, _, rfl⟩
        rw [upd_same, List.take_add_one, hpt, List.map_append]
        rfl
      · subst hσ
        have full : (quoT n L sg[i].2 ts[i]).take rvs.length = quoT n L sg[i].2 ts[i] := List.take_of_length_le (by unfold quoT; rw [List.length_map, rows_len', lrv]; exact Nat.le_refl _)
        rw [full] at hro6
        refine s_appU hm6 (ev_var rfl) (eu_tupL (K := K) (ev_var rfl) (sq_of hro6)) (by have l1 := paired_len pws; rw [List.length_map, List.length_take, List.length_zip] at l1; omega) fun r2 H7 nr2 e7 hr2 => ?_
        have et : ET K H7 (upd H7 m (.lst (ws ++ [.ref r2]))) := ET.refl.upd (e7 _ _ hm6)
        refine ⟨(e6.trans e7).mut nmH, by rw [upd_ne lsm]; exact e7 _ _ hls6, ⟨ws ++ [.ref r2], upd_same, ?_⟩, _, _, _, _, _, _, rfl⟩
        rw [List.take_add_one, hzip, List.map_append]
        exact paired_snoc' (R := Nats K (upd H7 m (.lst (ws ++ [.ref r2])))) (x := .ref r2) (y := quoT n L sg[i].2 ts[i]) ⟨r2, rfl, et _ _ (st_of hr2)⟩ (paired_imp (fun _ _ zz => (zz.ex e7).et et) pw6)
    · subst hσ
      have full : (sg.zip ts).take us.length = sg.zip ts := List.take_of_length_le (by rw [List.length_zip]; omega)
      rw [full] at pws
      refine do_ret (do_tup (do_cons (do_ev (ev_lenL (K := K) (ev_var rfl) hls2) fun H3 e3 => do_cons (do_evU (eu_tupL (K := K) (ev_var rfl) (sq_of (e3 _ _ hws))) fun r H4 nr e4 hr4 => ⟨by show 2 ≤ sizeLine; decide, fun r2 nr2 => ?_⟩))))
      have e24 := (e3.trans e4).trans (Ex.new (o := .tup [vi (ups n L).length, .ref r]) nr2)
      exact q _ _ (e2.trans e24) ⟨r2, .ref r, rfl, st_of upd_same, r, ws, rfl, st_of (Ex.new nr2 _ _ hr4), paired_imp (fun _ _ zz => Nats.ex e24 zz) pws⟩
end
end K76
end
section
namespace K76
open PySem PySem.Spec PyProof.Rows L2 Evl RZ Dw M20 M25 CL LD JN
theorem dz_nats {K : PySem.W.Frag} {H : Hp} {p c : Addr} : ∀ F : List Nat, DzAll K p c H (F.map vi) (F.map fun n => .int ((n : Nat) : Int))
  | [] => .nil
  | x :: F => .cons (.int _) (dz_nats F)
section
variable {H0 H H' : Hp} {a p c : Addr} {as : List Addr} {L : List (List Nat)} {t : Nat}
theorem lls_pur (pu : Pur H0 p c t) (h : LLs H0 H a as L) : a ≠ p ∧ a ≠ c ∧ ∀ b ∈ as, b ≠ p ∧ b ≠ c := by
  have ne : ∀ b, H0 b = none → b ≠ p ∧ b ≠ c := fun b hb => pu.fresh hb
  exact ⟨(ne _ h.new).1, (ne _ h.new).2, fun b hb => ne b (let ⟨_, _, _, z⟩ := h.some hb; z)⟩
theorem lls_offP (pu : Pur H0 p c t) (h : LLs H0 H a as L) (o : Off H H' p c) : LLs H0 H' a as L := by
  obtain ⟨h1, h2, h3⟩ := lls_pur pu h
  refine ⟨o _ _ h1 h2 h.at_, h.new, ?_, h.nd, h.ne⟩
  have : ∀ {as : List Addr} {L : List (List Nat)}, (∀ b ∈ as, b ≠ p ∧ b ≠ c) → Paired (fun b ns => H b = some (.lst (ns.map vi)) ∧ H0 b = none) as L → Paired (fun b ns => H' b = some (.lst (ns.map vi)) ∧ H0 b = none) as L := fun {as L} hn pr => by
    induction pr with
    | nil => exact .nil
    | cons q r ih => exact .cons ⟨o _ _ (hn _ (List.mem_cons_self ..)).1 (hn _ (List.mem_cons_self ..)).2 q.1, q.2⟩ (ih fun b hb => hn b (List.mem_cons_of_mem _ hb))
  exact this h3 h.each
end
theorem fods_eq {p p2 : MArg} (ok : MOk p) (ok2 : MOk p2) (es : p2.1 = p.1) (F : List Nat) : allOk p2.2.1 (lcs p p2) F = (fod p p2 F).isNone := by
  rw [Bool.eq_iff_iff, Option.isNone_iff_eq_none]
  unfold fod allOk
  rw [List.find?_eq_none, List.all_eq_true]
  constructor
  · intro h c hc
    have mem := ordc_mem hc
    obtain ⟨i, d, hi, hcd, hr⟩ := sig_at ok mem
    obtain ⟨il, e1, tb⟩ := tbOf_sig ok ok rfl hi
    have p2' := ok.1.pl d (List.mem_iff_getElem?.mpr ⟨i, hi⟩)
    obtain ⟨j, hj⟩ := List.mem_iff_getElem?.mp hr
    obtain ⟨pe, jl⟩ := rows_plc' p2' ok.2.n1 hj
    have z := h (lcOf p p2 c) (List.mem_map.mpr ⟨(c.1, c.2, g p.2.2[i] j), cws_mem.mpr ⟨i, d, p.2.2[i], j, c.2, hi, List.getElem?_eq_getElem il, hj, g_eq (by rw [tb.len]; exact jl), hcd, rfl⟩, by
      unfold lcOf
      rw [hcd, e1, pe]⟩)
    rw [z]
    decide
  · intro h c hc
    obtain ⟨c0, hc0, rfl⟩ := List.mem_map.mp hc
    obtain ⟨i, d, t, j, r, h1, h2, h3, h4, h5, h6⟩ := cws_mem.mp hc0
    have p2' := ok.1.pl d (List.mem_iff_getElem?.mpr ⟨i, h1⟩)
    obtain ⟨pe, jl⟩ := rows_plc' p2' ok.2.n1 h3
    obtain ⟨il, e1, tb⟩ := tbOf_sig ok ok rfl h1
    have et : p.2.2[i] = t := Option.some.inj ((List.getElem?_eq_getElem il).symm.trans h2)
    have mem : (d.1, r) ∈ ordc p.2.1 p.1 := by
      unfold ordc
      have ma : (d.1, r) ∈ allc p.2.1 p.1 := by
        unfold allc
        exact List.mem_flatMap.mpr ⟨d, List.mem_iff_getElem?.mpr ⟨i, h1⟩, List.mem_map.mpr ⟨r, List.mem_iff_getElem?.mpr ⟨j, h3⟩, rfl⟩⟩
      have nl : need r ≤ p.2.1 := need_le (rows_of (List.mem_iff_getElem?.mpr ⟨j, h3⟩)).2
      exact List.mem_flatMap.mpr ⟨need r, List.mem_range.mpr (by omega), List.mem_filter.mpr ⟨ma, decide_eq_true rfl⟩⟩
    have z := h _ mem
    have e : lcOf p p2 (d.1, r) = (c0.2.1, c0.2.2, tbOf p.1 p2.2.2 c0.1) := by
      unfold lcOf
      rw [h5, h6, pe, e1, et]
      have : g t j = c0.2.2 := by
        show t.getD j 0 = c0.2.2
        rw [List.getD_eq_getElem?_getD, h4]
        rfl
      rw [this]
    rw [← e]
    simpa using z
theorem form_row {p p2 : MArg} {F : List Nat} (l : F.length = p.2.1) (lo : ∀ y ∈ F, y < p2.2.1) : formB p.2.1 p2.2.1 (dL F) = true ∧ natsOf (dL F) = F := by
  have e : listOf (dL F) = F.map fun n => .int ((n : Nat) : Int) := rfl
  refine ⟨?_, ?_⟩
  · rw [formB, e, List.length_map, decide_eq_true l, List.all_map]
    have : F.all (belowB (p2.2.1 : Int) ∘ fun n => PyData.int ((n : Nat) : Int)) = true := by
      rw [List.all_eq_true]
      intro y hy
      have := lo y hy
      show (decide ((0 : Int) ≤ (y : Int)) && decide ((y : Int) < (p2.2.1 : Int))) = true
      rw [decide_eq_true (by omega), decide_eq_true (by omega)]
      rfl
    rw [this]
    rfl
  · unfold natsOf
    rw [e, List.map_map]
    have : (natOf ∘ fun n => PyData.int ((n : Nat) : Int)) = id := by
      funext n
      show (n : Int).toNat = n
      omega
    rw [this, List.map_id]
theorem ev_fits {K : PySem.W.Frag} {σ : L2.St} {H : Hp} {ta : TA} {p p2 : MArg} {u v w : V} {b : Addr} {F : List Nat} {E0 : XK} (h : EvA ta σ H [u, v, w, .ref b]) (hm : MA K H u v p) (hw : Mdl K H w p2.2.1 p2.2.2) (ok : MOk p) (ok2 : MOk p2) (es : p2.1 = p.1) (hb : H b = some (.lst (F.map vi))) (l : F.length = p.2.1) (lo : ∀ y ∈ F, y < p2.2.1) (no : fod p p2 F = none) : Ev (tCall (sp_lead_wrong K) [] E0 ta) σ H .non := by
  have m6 := ok.2.n6
  obtain ⟨f1, f2⟩ := form_row (p := p) (p2 := p2) l lo
  refine ev_ep ((ep_call ((b + 1, b + 1), p, p2, dL F) h (fun H2 e2 => ⟨⟨_, _, _, _, rfl, hm.ex e2, hw.ex e2, .lst (e2 _ _ hb) (Nat.ne_of_lt (Nat.lt_succ_self _)) (Nat.ne_of_lt (Nat.lt_succ_self _)) (dz_nats F)⟩, ok, ok2, es, ?_⟩)).imp fun r H2 e2 hr => ?_)
  · replace hr : Dp K H2 r (leadW p p2 (dL F)) := hr
    rw [leadW, if_pos f1, f2, no] at hr
    cases hr
    rfl
  · show (F.map fun n => PyData.int ((n : Nat) : Int)).length ≤ 1000
    rw [List.length_map]
    omega
/-- the facts of a lead -/
structure Lead (p p2 : MArg) (F : List Nat) : Prop where
  ok : MOk p
  ok2 : MOk p2
  es : p2.1 = p.1
  len : F.length = p.2.1
  low : ∀ y ∈ F, y < p2.2.1
  no : fod p p2 F = none
/-- what image tells: a new list, a new list, a tuple -/
def ImgV (K : PySem.W.Frag) (H0 H : Hp) (t j c : Addr) (o : V) (n2 : Nat) (F : List Nat) : Prop := SqT K H t [.ref j, .ref c, o] ∧ H j = some (.lst ((ker F).map vi)) ∧ H c = some (.lst ((ups n2 F).map vi)) ∧ Nats K H o (onto n2 F (ups F.length (ker F))) ∧ H0 j = none ∧ H0 c = none ∧ H0 t = none ∧ j ≠ c
def sp_image (K : PySem.W.Frag) : Sp := fun vs H Q _ => ∃ (p p2 : MArg) (F : List Nat) (u v w : V) (a : Addr), vs = [u, v, w, .ref a] ∧ MA K H u v p ∧ Mdl K H w p2.2.1 p2.2.2 ∧ H a = some (.lst (F.map vi)) ∧ Lead p p2 F ∧ ∀ t j c o H', Ex H H' → ImgV K H H' t j c o p2.2.1 F → Q (.ref t) H'
section
variable {P : Program} {w : World} {K : PySem.W.Frag} {mg : Str → Option Value} {base : Heap}
theorem c_image (T : Txt mg) (D : Df K mg "image" s_image ["signature", "one", "other", "lead"]) (c_need_two_models : Cl P w K mg base 8 "need_two_models" (sp_need_two K)) (c_lead_wrong : Cl P w K mg base 5 "lead_wrong" (sp_lead_wrong K)) : Cl P w K mg base 9 "image" (sp_image K) := by
  refine cl_of (k := 8) D sc_image (fun vs H Q E h => ?_) (fun f cdv A outer s H vs Q E hr h => ?_)
  · obtain ⟨p, p2, F, u, v, w, a, rfl, _⟩ := h
    rfl
  · obtain ⟨p, p2, F, u, v, ww, a, rfl, hm, hw, ha, ld, q⟩ := h
    refine ⟨_, (pss_cons (ps_expr (pe_cl c_need_two_models hr (by first | decide | omega) (by rfl) (pa_cons (pv 0) (pa_cons (pv 1) (pa_cons (pv 2) pa_nil)))))
      (pss_cons (ps_if (pt_cmpR op_notN (pe_cl c_lead_wrong hr (by first | decide | omega) (by rfl) (pa_cons (pv 0) (pa_cons (pv 1) (pa_cons (pv 2) (pa_cons (pv 3) pa_nil))))) pe_non (nomark _))
        (pss_one ps_never)
        pss_nil)
      (pss_cons (ps_setLc (i := 4) (own := [("called", 7)]) (g := (gName 7)) (by rfl) sc_image.nd rfl rfl (sw_true rfl rfl rfl (by decide +kernel)) (pi_list (pv 3)) (blkOk_by (own := [("called", 7)]) (N := ["signature", "one", "other", "lead", "join", "closed", "onto", "called", "number"]) (sc := (defScope s_image)) (by decide +kernel)) (fun _ _ _ _ _ => (pg_name (i := 7) sc_image.nd rfl (.inl rfl))) (fun _ _ _ _ _ => pts_nil) (fun _ _ _ _ _ => (pe_bmK K PySem.F.plainAttrs_list PySem.F.slot_list_index PySem.F.type_list_index (mt_indexK K) (pv 3) (pa_cons (pv 7) pa_nil))))
      (pss_cons (ps_set (i := 5) sc_image.nd rfl (.inr rfl) (pe_callB (cr_sortedSet rfl) (by rfl) T.z_sorted (by decide +kernel) (pa_cons (pe_callTy (cr_setI rfl) (by rfl) T.z_set (by decide +kernel) (pa_cons (pv 3) pa_nil)) pa_nil)))
      (pss_cons (ps_setLc (i := 6) (own := [("number", 8)]) (g := (gName 8)) (by rfl) sc_image.nd rfl rfl (sw_true rfl rfl rfl (by decide +kernel)) (pi_list (pe_callB (cr_sortedSet rfl) (by rfl) T.z_sorted (by decide +kernel) (pa_cons (pe_callTy (cr_setI rfl) (by rfl) T.z_set (by decide +kernel) (pa_cons (pv 4) pa_nil)) pa_nil))) (blkOk_by (own := [("number", 8)]) (N := ["signature", "one", "other", "lead", "join", "closed", "onto", "called", "number"]) (sc := (defScope s_image)) (by decide +kernel)) (fun _ _ _ _ _ => (pg_name (i := 8) sc_image.nd rfl (.inl rfl))) (fun _ _ _ _ _ => pts_nil) (fun _ _ _ _ _ => (pe_bmK K PySem.F.plainAttrs_list PySem.F.slot_list_index PySem.F.type_list_index (mt_indexK K) (pv 5) (pa_cons (pe_ix (ix_listK K) (pv 3) (pv 8) (fun _ _ => rfl)) pa_nil))))
      (pss_one (ps_ret (pe_tup (pa_cons (pv 4) (pa_cons (pv 5) (pa_cons (pe_callTy call_tuple_of (by rfl) T.z_tuple (by decide +kernel) (pa_cons (pv 6) pa_nil)) pa_nil))))))))))), ?_⟩
    have n6 := ld.ok.2.n6
    have n26 := ld.ok2.2.n6
    have len := ld.len
    refine q_drop (v := .non) (ev_callV (p, p2) (ea_cons (ev_var rfl) (ea_cons (ev_var rfl) (ea_cons (ev_var rfl) ea_nil))) (fun H1 e1 => ⟨⟨_, _, _, rfl, hm.ex e1, hw.ex e1⟩, ld.ok, ld.ok2, ld.es⟩) (fun _ _ p => p)) fun H1 e1 => ?_
    refine q_when (b := false) (et_is (et_test (ev_op (ev_fits (K := K) (p := p) (p2 := p2) (ea_cons (ev_var rfl) (ea_cons (ev_var rfl) (ea_cons (ev_var rfl) (ea_cons (ev_var rfl) ea_nil)))) (hm.ex e1) (hw.ex e1) ld.ok ld.ok2 ld.es (e1 _ _ ha) len ld.low ld.no) ev_c (fun H1 _ _ q => ⟨rfl, q H1 (Ex.refl H1)⟩))) rfl) (fun hb => by cases hb) (fun _ H2 e2 => ?_)
    have e02 := e1.trans e2
    refine do_set (do_evL (el_rowM (K := K) (row := F) (u := fun y => F.idxOf y) (ev_var rfl) (e02 _ _ ha) (by omega) (fun _ => rfl) (fun k hk H3 e3 => ev_lindex (K := K) (S := F) (ev_var rfl) ((e02.trans e3) _ _ ha) (ev_var rfl) hk)) fun j H3 nj e3 hj => ?_)
    replace hj : H3 j = some (.lst ((ker F).map vi)) := hj
    have e03 := e02.trans e3
    have can := ker_can F
    refine q_asgL (el_sortSetV (K := K) (w := w) (ms := ups p2.2.1 F) (ev_var rfl) (sq_of (e03 _ _ ha)) (by omega) p2.2.1 (by omega) ld.low (ups_up _ _).1 (fun k => ups_mem ld.low k)) fun c H4 nc e4 hc => ?_
    have e04 := e03.trans e4
    have hj4 := e4 _ _ hj
    have lU := ups_len F.length (ker F)
    refine do_set (do_evL (el_rowN (K := K) (row := ups F.length (ker F)) (u := fun l => (ups p2.2.1 F).idxOf (g F l)) (el_sortSetV (K := K) (w := w) (ms := ups F.length (ker F)) (ev_var rfl) (sq_of hj4) (by rw [can.len]; omega) F.length (by omega) can.low (ups_up _ _).1 (fun k => ups_mem can.low k)) (by omega) (fun _ => rfl) (fun k hk H5 e5 => ev_lindex (K := K) (S := ups p2.2.1 F) (ev_var rfl) (e5 _ _ hc) (ev_op (ev_var rfl) (ev_var rfl) (rv_ixL (K := K) (sq_of ((e04.trans e5) _ _ ha)) (atI_vi (k := k) (v := vi (g F k)) (by rw [List.getElem?_map, g_eq ((ups_up _ _).2 k hk)]; rfl)))) (C_mem ld.low ((ups_up _ _).2 k hk)))) fun o H5 no e5 ho => ?_)
    replace ho : H5 o = some (.lst ((onto p2.2.1 F (ups F.length (ker F))).map vi)) := ho
    have e05 := e04.trans e5
    refine do_ret (do_tup (do_cons (do_ev (ev_var rfl) fun H6 e6 => do_cons (do_ev (ev_var rfl) fun H7 e7 => do_cons (do_evU (eu_tupL (K := K) (ev_var rfl) (sq_of ((e6.trans e7) _ _ ho))) fun r H8 nr e8 hr8 => do_nil ⟨by show 3 ≤ sizeLine; decide, fun t nt => ?_⟩)))))
    have e59 := ((e6.trans e7).trans e8).trans (Ex.new (o := .tup [.ref j, .ref c, .ref r]) nt)
    have e09 := e05.trans e59
    exact q t j c (.ref r) _ e09 ⟨st_of upd_same, e59 _ _ (e5 _ _ hj4), e59 _ _ (e5 _ _ hc), ⟨r, rfl, st_of (Ex.new nt _ _ hr8)⟩, fresh_back e02 nj, fresh_back e03 nc, fresh_back (e05.trans ((e6.trans e7).trans e8)) nt, fun z => by rw [← z, hj] at nc; cases nc⟩
end
end K76
end
section
namespace K76
open PySem PySem.Spec PyProof.Rows L2 Evl RZ Dw M20 M25 CL LD JN
section
variable {P : Program} {w : World} {K : PySem.W.Frag} {mg : Str → Option Value} {base : Heap}
theorem c_signature (T : Txt mg) (D : Df K mg "_law_signature" s_signature ["_law_purse_here"]) (c_pick : Cl P w K mg base 2 "_law_pick" (sp_pick K)) : Cl P w K mg base 3 "_law_signature" (sp_signature K) := by
  refine cl_of (k := 2) D sc_signature (fun vs H Q E h => ?_) (fun f cdv A outer s H vs Q E hr h => ?_)
  · obtain ⟨p, c, t, rfl, _⟩ := h
    rfl
  · obtain ⟨p, c, t, rfl, pu, t1, q⟩ := h
    refine ⟨_, (pss_cons (ps_set (i := 1) sc_signature.nd rfl (.inl rfl) (pe_lst (pa_cons (pe_tup (pa_cons (pe_tup (pa_cons pe_str (pa_cons pe_int pa_nil))) pa_nil)) (pa_cons (pe_tup (pa_cons (pe_tup (pa_cons pe_str (pa_cons pe_int pa_nil))) pa_nil)) (pa_cons (pe_tup (pa_cons (pe_tup (pa_cons pe_str (pa_cons pe_int pa_nil))) (pa_cons (pe_tup (pa_cons pe_str (pa_cons pe_int pa_nil))) pa_nil))) (pa_cons (pe_tup (pa_cons (pe_tup (pa_cons pe_str (pa_cons pe_int pa_nil))) (pa_cons (pe_tup (pa_cons pe_str (pa_cons pe_int pa_nil))) pa_nil))) (pa_cons (pe_tup (pa_cons (pe_tup (pa_cons pe_str (pa_cons pe_int pa_nil))) (pa_cons (pe_tup (pa_cons pe_str (pa_cons pe_int pa_nil))) (pa_cons (pe_tup (pa_cons pe_str (pa_cons pe_int pa_nil))) pa_nil)))) pa_nil)))))))
      (pss_one (ps_ret (pe_cl c_pick hr (by first | decide | omega) (by rfl) (pa_cons (pv 0) (pa_cons (pe_op op_cat (pv 1) (pe_lst (pa_cons (pe_tup (pa_cons (pe_tup (pa_cons pe_str (pa_cons pe_int pa_nil))) (pa_cons (pe_tup (pa_cons pe_str (pa_cons pe_int pa_nil))) pa_nil))) (pa_cons (pe_tup (pa_cons (pe_tup (pa_cons pe_str (pa_cons pe_int pa_nil))) (pa_cons (pe_tup (pa_cons pe_str (pa_cons pe_int pa_nil))) pa_nil))) (pa_cons (pe_tup (pa_cons (pe_tup (pa_cons pe_str (pa_cons pe_int pa_nil))) (pa_cons (pe_tup (pa_cons pe_str (pa_cons pe_int pa_nil))) (pa_cons (pe_tup (pa_cons pe_str (pa_cons pe_int pa_nil))) pa_nil)))) pa_nil))))) pa_nil)))))), ?_⟩
    refine q_asgP (ep_lstR (st_sg (K := K)) (eas_cons (st_sg (K := K)) (ep_sgT (K := K) (sg := [("f", 2)]) (eds_cons eds_nil) (by decide) (by decide +kernel)) (eas_cons (st_sg (K := K)) (ep_sgT (K := K) (sg := [("g", 1)]) (eds_cons eds_nil) (by decide) (by decide +kernel)) (eas_cons (st_sg (K := K)) (ep_sgT (K := K) (sg := [("g", 1), ("h", 1)]) (eds_cons (eds_cons eds_nil)) (by decide) (by decide +kernel)) (eas_cons (st_sg (K := K)) (ep_sgT (K := K) (sg := [("c", 0), ("f", 2)]) (eds_cons (eds_cons eds_nil)) (by decide) (by decide +kernel)) (eas_cons (st_sg (K := K)) (ep_sgT (K := K) (sg := [("g", 1), ("c", 0), ("d", 0)]) (eds_cons (eds_cons (eds_cons eds_nil))) (by decide) (by decide +kernel)) eas_nil))))) (by decide) pu) fun v1 H1 e1 hv1 => ?_
    have pu1 := pu.ex e1
    have e01 := e1
    refine do_ret (do_pickR (K := K) (R := SgV K) (n := 8) (ev_var rfl) pu1 (by omega) (ep_catR (n1 := 5) (n2 := 3) (st_sg (K := K)) (ep_ev (ev_var rfl) fun _ e => LsR.ex (st_sg (K := K)) e hv1) (ep_lstR (st_sg (K := K)) (eas_cons (st_sg (K := K)) (ep_sgT (K := K) (sg := [("f", 2), ("g", 1)]) (eds_cons (eds_cons eds_nil)) (by decide) (by decide +kernel)) (eas_cons (st_sg (K := K)) (ep_sgT (K := K) (sg := [("c", 0), ("d", 0)]) (eds_cons (eds_cons eds_nil)) (by decide) (by decide +kernel)) (eas_cons (st_sg (K := K)) (ep_sgT (K := K) (sg := [("f", 2), ("c", 0), ("g", 1)]) (eds_cons (eds_cons (eds_cons eds_nil))) (by decide) (by decide +kernel)) eas_nil))) (by decide) pu1) (by decide) pu1) (by decide) (by decide) (fun v H2 H' pu2 o2 h => h.et (o2.et pu2)) fun v H' o pu' ⟨sg, hs, so⟩ => q v sg H' ((Off.of_ex e01).trans o) pu' hs so)
end
/-! ### joins and leads -/
theorem cell_at {p : MArg} (ok : MOk p) {cl : Str × List Nat × Nat} (mem : cl ∈ cwm p) : ∃ (i : Nat) (d : Str × Nat) (t : List Nat), p.1[i]? = some d ∧ p.2.2[i]? = some t ∧ cl.1 = d.1 ∧ Tab p.2.1 d.2 t ∧ d.2 ≤ 2 ∧ cl.2.1 ∈ rows p.2.1 d.2 ∧ cl.2.2 = g t (plc p.2.1 cl.2.1) := by
  obtain ⟨i, d, t, j, r, h1, h2, h3, h4, h5, h6⟩ := cws_mem.mp mem
  obtain ⟨il, et1, tb⟩ := tbOf_sig ok ok rfl h1
  have e2 : p.2.2[i] = t := by
    rw [List.getElem?_eq_getElem il] at h2
    exact Option.some.inj h2
  have d2 := ok.1.pl _ (List.mem_iff_getElem?.mpr ⟨i, h1⟩)
  rw [e2] at tb
  refine ⟨i, d, t, h1, h2, h5, tb, d2, by rw [h6]; exact List.mem_iff_getElem?.mpr ⟨j, h3⟩, ?_⟩
  rw [h6, (rows_plc' d2 ok.2.n1 h3).1]
  have jl := (List.getElem?_eq_some_iff.mp h4).1
  rw [g_eq jl] at h4
  exact (Option.some.inj h4).symm
theorem tb_at {p p2 : MArg} (ok : MOk p) (ok2 : MOk p2) (es : p2.1 = p.1) {i : Nat} {d : Str × Nat} (h1 : p.1[i]? = some d) {t2 : List Nat} (h2 : p2.2.2[i]? = some t2) : tbOf p.1 p2.2.2 d.1 = t2 ∧ Tab p2.2.1 d.2 t2 := by
  obtain ⟨il, et1, tb⟩ := tbOf_sig ok ok2 es h1
  have e2 : p2.2.2[i] = t2 := by
    rw [List.getElem?_eq_getElem il] at h2
    exact Option.some.inj h2
  rw [e2] at et1 tb
  exact ⟨et1, tb⟩
theorem lead_of {p p2 : MArg} {F : List Nat} (ok : MOk p) (ok2 : MOk p2) (es : p2.1 = p.1) (len : F.length = p.2.1) (low : ∀ y ∈ F, y < p2.2.1)
    (h : ∀ (i : Nat) (d : Str × Nat) (t t2 : List Nat), p.1[i]? = some d → p.2.2[i]? = some t → p2.2.2[i]? = some t2 → Tab p.2.1 d.2 t → d.2 ≤ 2 → ∀ r ∈ rows p.2.1 d.2, g F (g t (plc p.2.1 r)) = g t2 (plc p2.2.1 (r.map (g F)))) : Lead p p2 F := by
  refine ⟨ok, ok2, es, len, low, ?_⟩
  have a : allOk p2.2.1 (lcs p p2) F = true := by
    refine List.all_eq_true.mpr fun c hc => ?_
    obtain ⟨cl, mem, rfl⟩ := List.mem_map.mp hc
    obtain ⟨i, d, t, h1, h2, en, tb, d2, hr, hw⟩ := cell_at ok mem
    have il : i < p2.2.2.length := by rw [ok2.2.len, es]; exact (List.getElem?_eq_some_iff.mp h1).1
    have h3 := List.getElem?_eq_getElem il
    obtain ⟨et, _⟩ := tb_at ok ok2 es h1 h3
    refine decide_eq_true ?_
    show g F cl.2.2 = g (tbOf p.1 p2.2.2 cl.1) (plc p2.2.1 (cl.2.1.map (g F)))
    rw [en, et, hw]
    exact h i d t _ h1 h2 h3 tb d2 _ hr
  rw [fods_eq ok ok2 es] at a
  exact Option.isNone_iff_eq_none.mp a
theorem Lead.hom {p p2 : MArg} {F : List Nat} (l : Lead p p2 F) {i : Nat} {d : Str × Nat} {t t2 : List Nat} (h1 : p.1[i]? = some d) (h2 : p.2.2[i]? = some t) (h3 : p2.2.2[i]? = some t2) : ∀ r ∈ rows p.2.1 d.2, g F (g t (plc p.2.1 r)) = g t2 (plc p2.2.1 (r.map (g F))) := fun r hr => by
  have a := fods_eq l.ok l.ok2 l.es F
  rw [l.no] at a
  have m := lcs_full (p2 := p2) l.ok h1 h2 r hr
  have z := of_decide_eq_true (List.all_eq_true.mp a _ m)
  rw [(tb_at l.ok l.ok2 l.es h1 h3).1] at z
  exact z
theorem Lead.t2 {p p2 : MArg} {F : List Nat} (l : Lead p p2 F) {i : Nat} {d : Str × Nat} (h1 : p.1[i]? = some d) : ∃ t2, p2.2.2[i]? = some t2 := ⟨_, List.getElem?_eq_getElem (by rw [l.ok2.2.len, l.es]; exact (List.getElem?_eq_some_iff.mp h1).1)⟩
/-- its join is a join -/
theorem Lead.join {p p2 : MArg} {F : List Nat} (l : Lead p p2 F) : ker F ∈ jn p := by
  refine jns_iff.mpr ⟨?_, ?_⟩
  · rw [← l.len]
    exact ker_can F
  · refine ker_go (n2 := p2.2.1) l.len fun c hc => ?_
    obtain ⟨cl, mem, rfl⟩ := List.mem_map.mp hc
    obtain ⟨i, d, t, h1, h2, en, tb, d2, hr, hw⟩ := cell_at l.ok mem
    obtain ⟨t2, h3⟩ := l.t2 h1
    exact ⟨d.2, t, t2, d2, tb, hr, hw, by show tbOf p.1 p.2.2 cl.1 = t; rw [en]; exact (tb_at l.ok l.ok rfl h1 h2).1, l.hom h1 h2 h3⟩
/-- those met are closed -/
theorem Lead.closed {p p2 : MArg} {F : List Nat} (l : Lead p p2 F) : ups p2.2.1 F ∈ clsd p2 := by
  refine clsd_mem.mpr ⟨ups_up _ _, closed_iff.mpr fun c hc ha => ?_⟩
  obtain ⟨i, d, t2, h1, h3, en, tb2, d2, hr, hw⟩ := cell_at l.ok2 hc
  have h1' : p.1[i]? = some d := by rw [← l.es]; exact h1
  have il : i < p.2.2.length := by rw [l.ok.2.len]; exact (List.getElem?_eq_some_iff.mp h1').1
  have h2 := List.getElem?_eq_getElem il
  have tb := (tb_at l.ok l.ok rfl h1' h2).2
  obtain ⟨lr, rl⟩ := rows_of hr
  have mF : ∀ x ∈ c.2.1, x ∈ F := fun x hx => (ups_mem l.low x).mp (ha x hx)
  have ma : c.2.1.map (fun x => F.idxOf x) ∈ rows p.2.1 d.2 := mem_rows (by rw [List.length_map, lr]) fun k hk => by
    obtain ⟨x, hx, rfl⟩ := List.mem_map.mp hk
    rw [← l.len]
    exact List.idxOf_lt_length_of_mem (mF x hx)
  have z := l.hom h1' h2 h3 _ ma
  have e : (c.2.1.map fun x => F.idxOf x).map (g F) = c.2.1 := by
    rw [List.map_map]
    have : ∀ x ∈ c.2.1, (g F ∘ fun x => F.idxOf x) x = id x := fun x hx => g_ix (mF x hx)
    rw [List.map_congr_left this, List.map_id]
  rw [e, ← hw] at z
  refine (ups_mem l.low _).mpr ?_
  rw [← z]
  exact M25.g_mem (by rw [l.len]; exact ok_low d2 tb ma)
theorem quo_at {p : MArg} {L : List Nat} {i : Nat} {d : Str × Nat} {t : List Nat} (h1 : p.1[i]? = some d) (h2 : p.2.2[i]? = some t) : (quo p L)[i]? = some (quoT p.2.1 L d.2 t) := by
  unfold quo
  rw [List.getElem?_map, (List.getElem?_zip_eq_some (z := (d, t))).mpr ⟨h1, h2⟩]
  rfl
theorem prt_at {p : MArg} {S : List Nat} {i : Nat} {d : Str × Nat} {t : List Nat} (h1 : p.1[i]? = some d) (h2 : p.2.2[i]? = some t) : (prt p S)[i]? = some (ptT p.2.1 S d.2 t) := by
  unfold prt
  rw [List.getElem?_map, (List.getElem?_zip_eq_some (z := (d, t))).mpr ⟨h1, h2⟩]
  rfl
theorem quo_len {p : MArg} (ok : MOk p) (L : List Nat) : (quo p L).length = p.1.length := by
  unfold quo
  rw [List.length_map, List.length_zip, ok.2.len]
  omega
theorem prt_len' {p : MArg} (ok : MOk p) (S : List Nat) : (prt p S).length = p.1.length := by
  unfold prt
  rw [List.length_map, List.length_zip, ok.2.len]
  omega
def qarg (p : MArg) (L : List Nat) : MArg := (p.1, (ups p.2.1 L).length, quo p L)
def parg (p : MArg) (S : List Nat) : MArg := (p.1, S.length, prt p S)
theorem qarg_ok {p : MArg} (ok : MOk p) {L : List Nat} (h : L ∈ jn p) : MOk (qarg p L) := by
  obtain ⟨can, gw⟩ := jns_iff.mp h
  have n1 := ok.2.n1
  refine ⟨ok.1, ?_, ?_, quo_len ok L, fun i h1 h2 => ?_⟩
  · exact List.length_pos_of_mem (U_mem can (i := 0) n1)
  · exact Nat.le_trans (ups_len _ _) ok.2.n6
  · have il : i < p.2.2.length := by rw [ok.2.len]; exact h1
    have e1 := List.getElem?_eq_getElem h1
    have e2 := List.getElem?_eq_getElem il
    have e3 := quo_at (p := p) (L := L) e1 e2
    replace h2 : i < (quo p L).length := h2
    rw [List.getElem?_eq_getElem h2] at e3
    show Tab _ _ (quo p L)[i]
    rw [Option.some.inj e3]
    exact quo_tab (ok.1.pl _ (List.getElem_mem h1)) can (ok.2.tab i h1 il)
theorem cl_in {p : MArg} (ok : MOk p) {S : List Nat} (h : S ∈ clsd p) {i : Nat} {d : Str × Nat} {t : List Nat} (h1 : p.1[i]? = some d) (h2 : p.2.2[i]? = some t) {r : List Nat} (hr : r ∈ rows S.length d.2) : g t (plc p.2.1 (r.map (g S))) ∈ S := by
  obtain ⟨up, cl⟩ := clsd_mem.mp h
  obtain ⟨i1, e1⟩ := List.getElem?_eq_some_iff.mp h1
  obtain ⟨i2, e2⟩ := List.getElem?_eq_some_iff.mp h2
  have := (cell_in ok cl up.2 i1 i2 (r := r) (by rw [e1]; exact hr)).2.2.2
  rw [e2] at this
  exact this
theorem parg_ok {p : MArg} (ok : MOk p) {S : List Nat} (h : S ∈ clsd p) (ne : S ≠ []) : MOk (parg p S) := by
  obtain ⟨up, cl⟩ := clsd_mem.mp h
  have n6 := ok.2.n6
  have s1 : 0 < S.length := List.length_pos_iff.mpr ne
  refine ⟨ok.1, s1, ?_, prt_len' ok S, fun i h1 h2 => ?_⟩
  · have := upFew up
    show S.length ≤ 6
    omega
  · have il : i < p.2.2.length := by rw [ok.2.len]; exact h1
    have e1 := List.getElem?_eq_getElem h1
    have e2 := List.getElem?_eq_getElem il
    have e3 := prt_at (p := p) (S := S) e1 e2
    replace h2 : i < (prt p S).length := h2
    rw [List.getElem?_eq_getElem h2] at e3
    have p2 := ok.1.pl _ (List.getElem_mem h1)
    show Tab _ _ (prt p S)[i]
    rw [Option.some.inj e3]
    refine ⟨by unfold ptT; rw [List.length_map, rows_len']; rfl, fun k hk => ?_⟩
    obtain ⟨r, hr, rfl⟩ := rows_plc p2 s1 hk
    have hr' := List.mem_iff_getElem?.mpr ⟨_, hr⟩
    unfold ptT
    rw [tab_at p2 hr']
    exact List.idxOf_lt_length_of_mem (cl_in ok h e1 e2 hr')
/-- the quotient by the join, renamed, is the part -/
theorem Lead.same {p p2 : MArg} {F : List Nat} (l : Lead p p2 F) : rens (ups p.2.1 (ker F)).length (onto p2.2.1 F (ups p.2.1 (ker F))) p.1 (quo p (ker F)) = prt p2 (ups p2.2.1 F) := by
  have lq := quo_len l.ok (ker F)
  have lp := prt_len' l.ok2 (ups p2.2.1 F)
  rw [l.es] at lp
  refine List.ext_getElem? fun i => ?_
  by_cases h : i < p.1.length
  · have h1 := List.getElem?_eq_getElem h
    have il : i < p.2.2.length := by rw [l.ok.2.len]; exact h
    have h2 := List.getElem?_eq_getElem il
    obtain ⟨t2, h3⟩ := l.t2 h1
    have e := quo_at (p := p) (L := ker F) h1 h2
    rw [rens_at h (by rw [lq]; exact h), prt_at (by rw [l.es]; exact h1) h3]
    rw [List.getElem?_eq_getElem (by rw [lq]; exact h)] at e
    rw [Option.some.inj e]
    exact congrArg some (quo_part (l.ok.1.pl _ (List.getElem_mem h)) l.len l.ok.2.n1 l.low (l.ok.2.tab i h il) (l.hom h1 h2 h3))
  · rw [List.getElem?_eq_none_iff.mpr (by rw [rens_len lq]; omega), List.getElem?_eq_none_iff.mpr (by omega)]
theorem lead_toQ {p : MArg} (ok : MOk p) {L : List Nat} (h : L ∈ jn p) : Lead p (qarg p L) (toQ p.2.1 L) := by
  obtain ⟨can, gw⟩ := jns_iff.mp h
  refine lead_of ok (qarg_ok ok h) rfl (toQ_len can) (toQ_low can) fun i d t t2 h1 h2 h3 tb d2 r hr => ?_
  have e := quo_at (p := p) (L := L) h1 h2
  have h3' : (quo p L)[i]? = some t2 := h3
  rw [e] at h3'
  rw [← Option.some.inj h3']
  refine toQ_hom d2 can tb gw (fun r hr => ?_) hr
  have := lcs_full (p2 := p) ok h1 h2 r hr
  rw [(tb_at ok ok rfl h1 h2).1] at this
  exact this
theorem lead_S {p : MArg} (ok : MOk p) {S : List Nat} (h : S ∈ clsd p) (ne : S ≠ []) : Lead (parg p S) p S := by
  obtain ⟨up, cl⟩ := clsd_mem.mp h
  refine lead_of (parg_ok ok h ne) ok rfl rfl up.2 fun i d t t2 h1 h2 h3 tb d2 r hr => ?_
  have e := prt_at (p := p) (S := S) h1 h3
  have h2' : (prt p S)[i]? = some t := h2
  rw [e] at h2'
  rw [← Option.some.inj h2']
  exact S_hom d2 hr (cl_in ok h h1 h3 hr)
end K76
end
section
namespace K76
open PySem PySem.Spec PyProof.Rows L2 Evl RZ Dw M20 M25 CL LD JN
section
variable {K : PySem.W.Frag} {σ : L2.St} {H H0 : Hp} {ta tb te : TE}
theorem ev_neSameB {x y : V} {d : PyData} {k W : Nat} (ha : Ev ta σ H x) (hb : Ev tb σ H y) (hx : ∀ H1, Ex H H1 → Dp K H1 x d) (hy : ∀ H1, Ex H H1 → Dp K H1 y d) (g : Gd k W d) (hk : k ≤ 60) : Ev (tOp (rNeD K) ta tb) σ H (.bl false) := fun H1 e Q q =>
  do_op (do_ev (ha.mono e) fun H2 e2 => do_ev (hb.mono (e.trans e2)) fun H3 e3 => ⟨d, d, hx _ (e.trans (e2.trans e3)), hy _ (e.trans (e2.trans e3)), g.shaped hk, g.shaped hk, by
    rw [SeqAt.eqv_refl _ g.lay]
    exact q H3 (e2.trans e3)⟩)
theorem ev_eqSame {P R : V → Hp → Prop} {d : PyData} {k W : Nat} (ha : EvP ta σ H P) (hb : EvP tb σ H R) (st : ∀ v H1 H2, Ex H1 H2 → P v H1 → P v H2) (dp : ∀ v H1, P v H1 → Dp K H1 v d) (dr : ∀ v H1, R v H1 → Dp K H1 v d) (g : Gd k W d) (hk : k ≤ 60) : Ev (tOp (rEqD K) ta tb) σ H (.bl true) := fun H1 e Q q =>
  ha H1 e _ fun v H2 e2 hv => hb H2 (e.trans e2) _ fun u H3 e3 hu => ⟨d, d, dp _ _ (st _ _ _ e3 hv), dr _ _ hu, g.shaped hk, g.shaped hk, by
    rw [SeqAt.eqv_refl _ g.lay]
    exact q H3 (e2.trans e3)⟩
/-- a new list is among new lists -/
theorem ev_niL {be j : Addr} {as : List Addr} {L : List (List Nat)} {o : List Nat} (ha : Ev ta σ H (.ref j)) (hb : Ev tb σ H (.ref be)) (hj : H j = some (.lst (o.map vi))) (ll : LLs H0 H be as L) (gos : ∀ o ∈ L, (∀ k ∈ o, k ≤ 1000) ∧ o.length ≤ 36) (l : L.length ≤ 720) (m : o ∈ L) : Ev (tOp (rNotInD K) ta tb) σ H (.bl false) := fun H1 e Q q =>
  do_op (do_ev (ha.mono e) fun H2 e2 => do_ev (hb.mono (e.trans e2)) fun H3 e3 => ⟨dL o, L.map dL, dp_ln ((e.trans (e2.trans e3)) _ _ hj), (ll.ex (e.trans (e2.trans e3))).dp, (gd_dL (gos o m).1 (gos o m).2).shaped (by decide), (gd_lls gos l).shaped (by decide), by
    have : (L.map dL).any (fun z => PyData.eqv z (dL o)) = true := List.any_eq_true.mpr ⟨dL o, List.mem_map.mpr ⟨o, m, rfl⟩, by rw [eqv_dL]; exact decide_eq_true rfl⟩
    rw [this]
    exact q H3 (e2.trans e3)⟩)
theorem el_noneR {ta : TA} {tt : TT} {te : TE} {n j : Nat} {vs : List Nat} (h : EvA ta σ H [vi n]) (hn : n ≤ 40000) (hwp : ∀ x, wipe ((wipe σ vs).set j (some x)) vs = wipe σ vs) (ht : ∀ (i : Nat) (H1 : Hp), Ex H H1 → i < n → EvT tt ((wipe σ vs).set j (some (vi i))) H1 false) : EvL (tLc (iRng1 ta) (gName j) tt te vs) σ H [] := fun H1 e1 Q q => by
  refine w_rng h hn H1 e1 _ fun H2 e2 Dl nD => ?_
  have nD1 : H1 Dl = none := fresh_back e2 nD
  refine lc_it (walk_range (n := n)) (fun i H' => Ex H1 H' ∧ H' Dl = some (.lst [])) ⟨e2.trans (Ex.new nD), upd_same⟩ (fun _ _ _ _ => trivial) (fun i x H3 H4 hi ⟨e3, hl⟩ y => ?_) (fun H3 ⟨e3, hl⟩ => q Dl H3 nD1 e3 hl)
  obtain ⟨rfl, hxi⟩ := y
  have e0 : x = vi i := hxi.trans (by show V.int _ = V.int _; rw [Int.zero_add])
  subst e0
  exact ⟨hwp _, ht i H4 (e1.trans e3) hi H4 (Ex.refl _) _ fun H5 e5 => ifF ⟨e3.trans e5, e5 _ _ hl⟩⟩
theorem el_to {xs ys : List V} (h : EvL te σ H xs) (e : xs = ys) : EvL te σ H ys := e ▸ h
theorem ev_m1 : Ev (tUn (rU fun i => .int (-i)) (tC (.int 1))) σ H (.int (-1)) := fun H1 e Q q => ⟨1, rfl, q H1 (Ex.refl _)⟩
/-- a list without its last -/
theorem el_dl {a : Addr} {xs : List V} {v : V} (h : Ev te σ H (.ref a)) (hx : H a = some (.lst (xs ++ [v]))) : EvL (tSl (rSlL K) te tNoPart (tPart (tUn (rU fun i => .int (-i)) (tC (.int 1))))) σ H xs :=
  el_to (el_sl (K := K) (a := a) (xs := xs ++ [v]) h eo_none (eo_some (i := -1) ev_m1) (sq_of hx)) (by rw [(cut_last (by simp)).1, List.dropLast_concat])
theorem ep_three {t1 t2 t3 : TE} {A B C : List Nat} (h1 : EvL t1 σ H (A.map vi)) (h2 : EvL t2 σ H (B.map vi)) (h3 : EvP t3 σ H (fun v H' => Nats K H' v C)) : EvP (tTup (tCons t1 (tCons t2 (tCons t3 tNil)))) σ H (fun v H' => Dp K H' v (.tuple [dL A, dL B, dN C])) := fun H1 e1 Q q =>
  do_tup (do_cons (h1 H1 e1 _ fun p1 H2 n1 e2 g1 => do_cons (h2 H2 (e1.trans e2) _ fun p2 H3 n2 e3 g2 => do_cons (h3 H3 ((e1.trans e2).trans e3) _ fun v H4 e4 hv => do_nil ⟨by show 3 ≤ sizeLine; decide, fun t nt => q _ _ (((e2.trans e3).trans e4).trans (Ex.new nt)) (.tup (st_of upd_same) (.cons (dp_ln (((e3.trans e4).trans (Ex.new nt)) _ _ g1)) (.cons (dp_ln ((e4.trans (Ex.new nt)) _ _ g2)) (.cons (Nats.dp (hv.ex (Ex.new nt))) .nil))))⟩))))
/-- what image tells, as data -/
def dImg (n2 : Nat) (F : List Nat) : PyData := .tuple [dL (ker F), dL (ups n2 F), dN (onto n2 F (ups F.length (ker F)))]
theorem ImgV.dp {H1 : Hp} {t j c : Addr} {o : V} {n2 : Nat} {F : List Nat} (h : ImgV K H0 H t j c o n2 F) (e : Ex H H1) : Dp K H1 (.ref t) (dImg n2 F) :=
  let ⟨a, b, d, f, _⟩ := h
  .tup (ex_t e a) (.cons (dp_ln (e _ _ b)) (.cons (dp_ln (e _ _ d)) (.cons (Nats.dp (f.ex e)) .nil)))
theorem ImgV.ex {H1 : Hp} {t j c : Addr} {o : V} {n2 : Nat} {F : List Nat} (e : Ex H H1) (h : ImgV K H0 H t j c o n2 F) : ImgV K H0 H1 t j c o n2 F := let ⟨a, b, d, f, r⟩ := h; ⟨ex_t e a, e _ _ b, e _ _ d, f.ex e, r⟩
theorem ep_image {E0 : XK} {ta : TA} {p p2 : MArg} {F : List Nat} {u v w : V} {a : Addr} (h : EvA ta σ H [u, v, w, .ref a]) (hm : MA K H u v p) (hw : Mdl K H w p2.2.1 p2.2.2) (ha : H a = some (.lst (F.map vi))) (l : Lead p p2 F) : EvP (tCall (sp_image K) [] E0 ta) σ H (fun v H' => ∃ H0 t j c o, Ex H H0 ∧ v = .ref t ∧ ImgV K H0 H' t j c o p2.2.1 F) := fun H1 e1 Q q =>
  h H1 e1 _ fun H2 e2 => ⟨p, p2, F, u, v, w, a, rfl, hm.ex (e1.trans e2), hw.ex (e1.trans e2), (e1.trans e2) _ _ ha, l, fun t j c o H3 e3 iv => q _ H3 (e2.trans e3) ⟨_, t, j, c, o, e1.trans e2, rfl, iv⟩⟩
theorem gd_img {n2 : Nat} {F : List Nat} (l : F.length ≤ 6) (n6 : n2 ≤ 6) (low : ∀ y ∈ F, y < n2) : Gd 2 2000 (dImg n2 F) := by
  have can := ker_can F
  have lu := ups_len n2 F
  have lu2 := ups_len F.length (ker F)
  have ord := onto_ord low
  refine (gd_tup (k := 1) (W := 396) (L := 3) (fun x hx => ?_) (by show 3 ≤ 3; decide)).mono (by decide) (by decide)
  rcases List.mem_cons.mp hx with rfl | hx
  · exact gd_dL (fun k hk => by have := can.low k hk; omega) (by rw [can.len]; omega)
  · rcases List.mem_cons.mp hx with rfl | hx
    · exact gd_dL (fun k hk => by have := (ups_up n2 F).2 k hk; omega) (by omega)
    · rw [List.mem_singleton.mp hx]
      refine gd_nats (fun k hk => ?_) (by rw [ord.len]; omega)
      obtain ⟨i, hi, rfl⟩ := mem_g hk
      have := ord.low i (by rw [← ord.len]; exact hi)
      omega
end
section
variable {P : Program} {w : World} {K : PySem.W.Frag} {mg : Str → Option Value} {base : Heap}
def sp_right (K : PySem.W.Frag) : Sp := spX (fun (q : MArg × MArg × List Nat) vs H => (∃ u v w a be bl, vs = [u, v, w, .ref a, .ref be, .ref bl] ∧ MA K H u v q.1 ∧ Mdl K H w q.2.1.2.1 q.2.1.2.2 ∧ H a = some (.lst (q.2.2.map vi)) ∧ (∃ H0 as, LLs H0 H be as (jn q.1)) ∧ ∃ H0 as, LLs H0 H bl as (clsd q.2.1)) ∧ Lead q.1 q.2.1 q.2.2) (fun _ v _ => v = .bl true)
theorem mdl_gd {p : MArg} (ok : MOk p) : Gd 3 3178 (dM p.2.1 p.2.2) := by
  have n6 := ok.2.n6
  refine gd_mdl (by omega) (fun tb htb => ?_) (by rw [ok.2.len]; exact ok.1.l4)
  obtain ⟨i, hi⟩ := List.mem_iff_getElem?.mp htb
  obtain ⟨il, e⟩ := List.getElem?_eq_some_iff.mp hi
  have i2 : i < p.1.length := by have := ok.2.len; omega
  have t := ok.2.tab i i2 il
  have p2' := ok.1.pl _ (List.getElem_mem i2)
  have b := pow_36 n6 p2'
  rw [e] at t
  refine ⟨fun k hk => ?_, by rw [t.len]; exact b⟩
  obtain ⟨j, hj⟩ := List.mem_iff_getElem?.mp hk
  obtain ⟨jl, ej⟩ := List.getElem?_eq_some_iff.mp hj
  have := t.low j (by rw [← t.len]; exact jl)
  have eg : g tb j = k := Option.some.inj ((g_eq jl).symm.trans hj)
  omega
theorem jn_gd {p : MArg} (ok : MOk p) : ∀ o ∈ jn p, (∀ k ∈ o, k ≤ 1000) ∧ o.length ≤ 36 := fun o ho => by
  have n6 := ok.2.n6
  obtain ⟨a, b⟩ := jns_low ho
  exact ⟨fun k hk => by have := b k hk; omega, by omega⟩
theorem clsd_gd {p : MArg} (ok : MOk p) : ∀ o ∈ clsd p, (∀ k ∈ o, k ≤ 1000) ∧ o.length ≤ 36 := fun o ho => by
  have n6 := ok.2.n6
  have g := upGd (clsd_mem.mp ho).1 n6
  exact ⟨g.1, g.2⟩
theorem clsd_few {p : MArg} (ok : MOk p) : (clsd p).length ≤ 720 := by
  have a := List.length_filter_le (fun S => closed (cwm p) S) (srtO (sub p.2.1))
  have b := sub_few ok.2.n6
  rw [srt_len] at a
  show (List.filter _ _).length ≤ 720
  omega
theorem c_right (T : Txt mg) (D : Df K mg "_law_right" s_right ["_law_signature_here", "_law_one", "_law_other", "_law_lead", "_law_every", "_law_lists_here"]) (c_image : Cl P w K mg base 9 "image" (sp_image K)) (c_renamed : Cl P w K mg base 8 "renamed" (sp_renamed K)) (c_quotient : Cl P w K mg base 8 "quotient" (sp_quotient K)) (c_part : Cl P w K mg base 8 "part" (sp_part K)) : Cl P w K mg base 10 "_law_right" (sp_right K) := by
  refine cl_of (k := 9) D sc_right (fun vs H Q E h => ?_) (fun f cdv A outer s H vs Q E hr h => ?_)
  · obtain ⟨q, ⟨⟨u, v, w, a, be, bl, rfl, _⟩, _⟩, _⟩ := h
    rfl
  · obtain ⟨⟨p, p2, F⟩, ⟨⟨u, v, ww, a, be, bl, rfl, hm, hw, ha, ⟨Hb, ab, lb⟩, ⟨Hl, al, ll⟩⟩, ld⟩, q⟩ := h
    refine ⟨_, (pss_cons (ps_set (i := 6) sc_right.nd rfl (.inl rfl) (pe_callTy call_list_of (by rfl) T.z_list (by decide +kernel) (pa_cons (pv 3) pa_nil)))
      (pss_cons (ps_set (i := 7) sc_right.nd rfl (.inl rfl) (pe_cl c_image hr (by first | decide | omega) (by rfl) (pa_cons (pv 0) (pa_cons (pv 1) (pa_cons (pv 2) (pa_cons (pv 3) pa_nil))))))
      (pss_cons (ps_if (PW.pt (pw_or (pt_cmpR (op_neD hr.units) (pv 3) (pv 6) (nomark _)) (pw_or (pt_not (pt_val (pe_callB call_isi (by rfl) T.z_isinstance (by decide +kernel) (pa_cons (pv 7) (pa_cons (pe_ty "tuple" (by rfl) T.z_tuple (by decide +kernel)) pa_nil))))) (pw_or1 (pt_cmpR op_ne (pe_callB call_len_seq (by rfl) T.z_len PySem.boot_len (pa_cons (pv 7) pa_nil)) pe_int (nomark _))))))
        (pss_one (ps_ret pe_bl))
        pss_nil)
      (pss_cons (ps_asg (pv 7) (pg_tup (by rfl) (pgs_cons (pg_name (i := 8) sc_right.nd rfl (.inr rfl)) (pgs_cons (pg_name (i := 9) sc_right.nd rfl (.inr rfl)) (pgs_cons (pg_name (i := 10) sc_right.nd rfl (.inl rfl)) pgs_nil)))))
      (pss_cons (ps_if (PW.pt (pw_or (pt_cmpR (op_notInD hr.units65) (pv 8) (pv 4) (by rfl)) (pw_or (pt_cmpR (op_notInD hr.units65) (pv 9) (pv 5) (by rfl)) (pw_or1 (pt_cmpR (op_neD hr.units) (pv 9) (pe_callB (cr_sortedSet rfl) (by rfl) T.z_sorted (by decide +kernel) (pa_cons (pe_callTy (cr_setI rfl) (by rfl) T.z_set (by decide +kernel) (pa_cons (pv 3) pa_nil)) pa_nil)) (nomark _))))))
        (pss_one (ps_ret pe_bl))
        pss_nil)
      (pss_cons (ps_for PassesOwn.never (by rfl) (pi_range1 (by rfl) T.z_range (pa_cons (pe_ix ix_tup (pv 1) pe_int (fun _ _ => rfl)) pa_nil)) (pg_name (i := 11) sc_right.nd rfl (.inr rfl))
        (pss_one (ps_if (pt_cmpR (op_neD hr.units) (pe_lc (own := [("_law_b", 13)]) (g := (gName 13)) (by rfl) sc_right.nd (pi_range1 (by rfl) T.z_range (pa_cons (pe_ix ix_tup (pv 1) pe_int (fun _ _ => rfl)) pa_nil)) (blkOk_by (own := [("_law_b", 13)]) (N := ["_law_signature_here", "_law_one", "_law_other", "_law_lead", "_law_every", "_law_lists_here", "_law_kept", "_law_told_here", "_law_join", "_law_closed", "_law_onto", "_law_a", "_law_least", "_law_b", "_law_place", "_law_lot"]) (sc := (defScope s_right)) (by decide +kernel)) (fun _ _ _ _ _ => (pg_name (i := 13) sc_right.nd rfl (.inl rfl))) (fun _ _ _ _ _ => (pts_one (pt_cmpR op_ne (pe_cmpR op_eq (pe_ix (ix_listK K) (pv 3) (pv 11) (fun _ _ => rfl)) (pe_ix (ix_listK K) (pv 3) (pv 13) (fun _ _ => rfl)) (nomark _)) (pe_cmpR op_eq (pe_ix (ix_listK K) (pv 8) (pv 11) (fun _ _ => rfl)) (pe_ix (ix_listK K) (pv 8) (pv 13) (fun _ _ => rfl)) (nomark _)) (nomark _)))) (fun _ _ _ _ _ => (pv 13))) (pe_lst pa_nil) (nomark _))
          (pss_one (ps_ret pe_bl))
          pss_nil)))
      (pss_cons (ps_set (i := 12) sc_right.nd rfl (.inl rfl) (pe_callB (cr_sortedSet rfl) (by rfl) T.z_sorted (by decide +kernel) (pa_cons (pe_callTy (cr_setI rfl) (by rfl) T.z_set (by decide +kernel) (pa_cons (pv 8) pa_nil)) pa_nil)))
      (pss_cons (ps_if (pt_not (pt_val (pe_callB call_isi (by rfl) T.z_isinstance (by decide +kernel) (pa_cons (pv 10) (pa_cons (pe_ty "tuple" (by rfl) T.z_tuple (by decide +kernel)) pa_nil)))))
        (pss_one (ps_ret pe_bl))
        pss_nil)
      (pss_cons (ps_if (pt_cmpR (op_neD hr.units) (pe_lc (own := [("_law_place", 14)]) (g := (gName 14)) (by rfl) sc_right.nd (pi_tup (pv 10)) (blkOk_by (own := [("_law_place", 14)]) (N := ["_law_signature_here", "_law_one", "_law_other", "_law_lead", "_law_every", "_law_lists_here", "_law_kept", "_law_told_here", "_law_join", "_law_closed", "_law_onto", "_law_a", "_law_least", "_law_b", "_law_place", "_law_lot"]) (sc := (defScope s_right)) (by decide +kernel)) (fun _ _ _ _ _ => (pg_name (i := 14) sc_right.nd rfl (.inl rfl))) (fun _ _ _ _ _ => pts_nil) (fun _ _ _ _ _ => (pe_ix (ix_listK K) (pv 9) (pv 14) (fun _ _ => rfl)))) (pe_lc (own := [("_law_lot", 15)]) (g := (gName 15)) (by rfl) sc_right.nd (pi_list (pv 12)) (blkOk_by (own := [("_law_lot", 15)]) (N := ["_law_signature_here", "_law_one", "_law_other", "_law_lead", "_law_every", "_law_lists_here", "_law_kept", "_law_told_here", "_law_join", "_law_closed", "_law_onto", "_law_a", "_law_least", "_law_b", "_law_place", "_law_lot"]) (sc := (defScope s_right)) (by decide +kernel)) (fun _ _ _ _ _ => (pg_name (i := 15) sc_right.nd rfl (.inl rfl))) (fun _ _ _ _ _ => pts_nil) (fun _ _ _ _ _ => (pe_ix (ix_listK K) (pv 3) (pv 15) (fun _ _ => rfl)))) (nomark _))
        (pss_one (ps_ret pe_bl))
        pss_nil)
      (pss_cons (ps_if (pt_cmpR (op_neD hr.units) (pe_cl c_renamed hr (by first | decide | omega) (by rfl) (pa_cons (pv 0) (pa_cons (pe_cl c_quotient hr (by first | decide | omega) (by rfl) (pa_cons (pv 0) (pa_cons (pv 1) (pa_cons (pv 8) pa_nil)))) (pa_cons (pv 10) pa_nil)))) (pe_cl c_part hr (by first | decide | omega) (by rfl) (pa_cons (pv 0) (pa_cons (pv 2) (pa_cons (pv 9) pa_nil)))) (nomark _))
        (pss_one (ps_ret pe_bl))
        pss_nil)
      (pss_cons (ps_expr (pe_bm PySem.F.plainAttrs_list PySem.F.slot_list_append PySem.F.type_list_append mt_append (pv 8) (pa_cons pe_int pa_nil)))
      (pss_cons (ps_expr (pe_bm PySem.F.plainAttrs_list PySem.F.slot_list_append PySem.F.type_list_append mt_append (pv 9) (pa_cons pe_int pa_nil)))
      (pss_one (ps_ret (pe_cmpR (op_eqD hr.units) (pe_cl c_image hr (by first | decide | omega) (by rfl) (pa_cons (pv 0) (pa_cons (pv 1) (pa_cons (pv 2) (pa_cons (pv 3) pa_nil))))) (pe_tup (pa_cons (pe_slice sl_list (pv 8) po_none (po_some (pe_un un_neg pe_int))) (pa_cons (pe_slice sl_list (pv 9) po_none (po_some (pe_un un_neg pe_int))) (pa_cons (pv 10) pa_nil)))) (nomark _)))))))))))))))), ?_⟩
    replace hm : MA K H u v p := hm
    replace hw : Mdl K H ww p2.2.1 p2.2.2 := hw
    replace ha : H a = some (.lst (F.map vi)) := ha
    replace lb : LLs Hb H be ab (jn p) := lb
    replace ll : LLs Hl H bl al (clsd p2) := ll
    replace ld : Lead p p2 F := ld
    have n6 := ld.ok.2.n6
    have n26 := ld.ok2.2.n6
    have len := ld.len
    have low := ld.low
    have can := ker_can F
    have fF : (∀ k ∈ F, k ≤ 1000) ∧ F.length ≤ 36 := ⟨fun k hk => by have := low k hk; omega, by omega⟩
    have jm := ld.join
    have cm := ld.closed
    obtain ⟨z, tv, rfl, hZ, hT⟩ := id hm.2
    have ixe : ∀ (σ : L2.St) H1, σ[1]? = some (some (.ref z)) → Ex H H1 → Ev (tOp (rIxT K) (tVar 1) (tC (.int 0))) σ H1 (vi p.2.1) := fun σ H1 hs e1 => ev_op (ev_var hs) ev_c (rv_ixT (K := K) (ex_t e1 hZ) (atI_vi (k := 0) rfl))
    refine q_asgL (el_list' (K := K) (ev_var rfl) ha) fun kp H1 nkp e1 hkp => ?_
    refine do_set (do_evP (ep_image (K := K) (ea_cons (ev_var rfl) (ea_cons (ev_var rfl) (ea_cons (ev_var rfl) (ea_cons (ev_var rfl) ea_nil)))) (hm.ex e1) (hw.ex e1) (e1 _ _ ha) ld) fun tl H2 e2 ⟨H0, t, j, c, o, e10, etl, iv⟩ => ?_)
    subst etl
    obtain ⟨ht, hj, hc, ho, nj0, nc0, nt0, jc⟩ := iv
    obtain ⟨oa, rfl, hoa⟩ := id ho
    have e02 := e1.trans e2
    have nj : H j = none := fresh_back (e1.trans e10) nj0
    have nc : H c = none := fresh_back (e1.trans e10) nc0
    refine q_when (b := false) (et_is (et_or (a := false) (b := false) (et_test (ev_neSameB (K := K) (ev_var rfl) (ev_var rfl) (fun H' e' => dp_ln ((e02.trans e') _ _ ha)) (fun H' e' => dp_ln ((e2.trans e') _ _ hkp)) (gd_dL fF.1 fF.2) (by decide))) (fun _ => et_is (et_or (a := false) (b := false) (et_is (et_not (et_val (ev_isi (ev_var rfl) ev_c (.ty _) (fun _ e => tyx_tup (ex_t e ht)) kit_tt))) rfl) (fun _ => et_is (et_test (ev_op (ev_lenT (ev_var rfl) ht) ev_c (rv_ne rfl))) rfl)) rfl)) rfl) (fun hb => by cases hb) (fun _ H3 e3 => ?_)
    have e03 := e02.trans e3
    refine ⟨.ref t, rfl, t, _, rfl, ex_t e3 ht, rfl, _, _, rfl, _, _, rfl, _, _, rfl, rfl, ?_⟩
    have hj3 := e3 _ _ hj
    have hc3 := e3 _ _ hc
    have hoa3 := ex_t e3 hoa
    refine q_when (b := false) (et_is (et_or (a := false) (b := false) (et_test (ev_niL (K := K) (ev_var rfl) (ev_var rfl) hj3 (lb.ex e03) (jn_gd ld.ok) (Nat.le_trans (jns_few n6) (by decide)) jm)) (fun _ => et_is (et_or (a := false) (b := false) (et_test (ev_niL (K := K) (ev_var rfl) (ev_var rfl) hc3 (ll.ex e03) (clsd_gd ld.ok2) (clsd_few ld.ok2) cm)) (fun _ => et_is (et_test (ev_neLN (K := K) (xs := ups p2.2.1 F) (ys := ups p2.2.1 F) (ev_var rfl) (sq_of hc3) (el_sortSetV (K := K) (w := w) (ms := ups p2.2.1 F) (ev_var rfl) (sq_of (e03 _ _ ha)) (by omega) p2.2.1 (by omega) low (ups_up _ _).1 (fun k => ups_mem low k)) (clsd_gd ld.ok2 _ cm).1 (clsd_gd ld.ok2 _ cm).1 (clsd_gd ld.ok2 _ cm).2 (clsd_gd ld.ok2 _ cm).2)) (by rw [decide_eq_true rfl]; rfl))) rfl)) rfl) (fun hb => by cases hb) (fun _ H4 e4 => ?_)
    have e04 := e03.trans e4
    have hj4 := e4 _ _ hj3
    have hc4 := e4 _ _ hc3
    have hoa4 := ex_t e4 hoa3
    refine q_forR1 (n := ((p.2.1 : Nat) : Int)) (ea_cons (ixe _ _ rfl e04) ea_nil) ⟨by omega, by omega⟩ (fun i σ H' => Ex H4 H' ∧ ∃ y11, σ = [some u, some (.ref z), some ww, some (.ref a), some (.ref be), some (.ref bl), some (.ref kp), some (.ref t), some (.ref j), some (.ref c), some (.ref oa), y11, none, none, none, none])
      (fun H5 e5 => ⟨e5, _, rfl⟩) (fun i σ H5 hi ⟨e5, y11, hσ⟩ => ?_) (fun σ H5 ⟨e5, y11, hσ⟩ => ?_)
    · subst hσ
      have hi' : i < p.2.1 := by omega
      have e05 := e04.trans e5
      have gF : ∀ (k : Nat) (σ : L2.St) (H6 : Hp) (te : TE), k < p.2.1 → Ex H5 H6 → σ[3]? = some (some (.ref a)) → Ev te σ H6 (vi k) → Ev (tOp (rIxL K) (tVar 3) te) σ H6 (vi (g F k)) := fun k σ H6 te hk e6 hs hte => ev_op (ev_var hs) hte (rv_ixL (K := K) (sq_of ((e05.trans e6) _ _ ha)) (atI_vi (k := k) (v := vi (g F k)) (by rw [List.getElem?_map, g_eq (by rw [len]; exact hk)]; rfl)))
      have gJ : ∀ (k : Nat) (σ : L2.St) (H6 : Hp) (te : TE), k < p.2.1 → Ex H5 H6 → σ[8]? = some (some (.ref j)) → Ev te σ H6 (vi k) → Ev (tOp (rIxL K) (tVar 8) te) σ H6 (vi (g (ker F) k)) := fun k σ H6 te hk e6 hs hte => ev_op (ev_var hs) hte (rv_ixL (K := K) (sq_of ((e5.trans e6) _ _ hj4)) (atI_vi (k := k) (v := vi (g (ker F) k)) (by rw [List.getElem?_map, g_eq (by rw [can.len, len]; exact hk)]; rfl)))
      refine s_when (b := false) (et_test (ev_neI (K := K) (ns := []) (el_noneR (n := p.2.1) (ea_cons (ixe _ _ rfl e05) ea_nil) (by omega) (fun _ => rfl) (fun k H6 e6 hk => et_is (et_test (ev_op (ev_op (gF i _ H6 _ hi' e6 rfl (ev_var rfl)) (gF k _ H6 _ hk e6 rfl (ev_var rfl)) (rv_eq rfl)) (ev_op (gJ i _ H6 _ hi' e6 rfl (ev_var rfl)) (gJ k _ H6 _ hk e6 rfl (ev_var rfl)) (rv_eq rfl)) (rv_ne rfl))) ?_)) (el_lst ea_nil (Nat.zero_le _)) (fun k hk => by cases hk) (by decide))) (fun hb => by cases hb) (fun _ H6 e6 => ⟨e5.trans e6, _, rfl⟩)
      have ks := ker_same (F := F) (i := i) (j := k) (by rw [len]; exact hi') (by rw [len]; exact hk)
      have : decide (vi (g F i) = vi (g F k)) = decide (vi (g (ker F) i) = vi (g (ker F) k)) := by
        apply Bool.eq_iff_iff.mpr
        rw [decide_eq_true_iff, decide_eq_true_iff]
        constructor
        · intro zz
          rw [ks.mpr (Int.ofNat.inj (V.int.inj zz))]
        · intro zz
          rw [ks.mp (Int.ofNat.inj (V.int.inj zz))]
      rw [this, decide_eq_true rfl]
      rfl
    · subst hσ
      have e05 := e04.trans e5
      have hj5 := e5 _ _ hj4
      have hc5 := e5 _ _ hc4
      have hoa5 := ex_t e5 hoa4
      have lU := ups_len F.length (ker F)
      have uF := ups_up F.length (ker F)
      refine q_asgL (el_sortSetV (K := K) (w := w) (ms := ups F.length (ker F)) (ev_var rfl) (sq_of hj5) (by rw [can.len]; omega) F.length (by omega) can.low uF.1 (fun k => ups_mem can.low k)) fun ls H6 nls e6 hls => ?_
      have e06 := e05.trans e6
      refine q_when (b := false) (et_is (et_not (et_val (ev_isi (ev_var rfl) ev_c (.ty _) (fun _ e => tyx_tup (ex_t (e6.trans e) hoa5)) kit_tt))) rfl) (fun hb => by cases hb) (fun _ H7 e7 => ?_)
      have e57 := e6.trans e7
      have e07 := e05.trans e57
      have ord := onto_ord (n2 := p2.2.1) low
      have oC : (onto p2.2.1 F (ups F.length (ker F))).map (g (ups p2.2.1 F)) = (ups F.length (ker F)).map (g F) := by
        unfold onto
        rw [List.map_map]
        refine List.map_congr_left fun k hk => ?_
        exact g_ix (C_mem low (uF.2 k hk))
      have oL : ∀ k ∈ onto p2.2.1 F (ups F.length (ker F)), k < (ups p2.2.1 F).length := fun k hk => by
        obtain ⟨i, hi, rfl⟩ := mem_g hk
        rw [← same_len low]
        exact ord.low i (by rw [← ord.len]; exact hi)
      refine q_when (b := false) (et_test (ev_neI (K := K) (ns := (ups F.length (ker F)).map (g F)) (by
        have zz := el_getS (K := K) (σ := [some u, some (.ref z), some ww, some (.ref a), some (.ref be), some (.ref bl), some (.ref kp), some (.ref t), some (.ref j), some (.ref c), some (.ref oa), y11, some (.ref ls), none, none, none]) (H := H7) (row := onto p2.2.1 F (ups F.length (ker F))) (S := ups p2.2.1 F) (i := 10) (j := 14) (k := 9) (fun _ => rfl) rfl (fun _ => rfl) (fun _ => rfl) (ex_t e57 hoa5) (sq_of (e57 _ _ hc5)) oL (by rw [ord.len]; omega)
        rw [oC] at zz
        exact zz) (el_rowM (K := K) (row := ups F.length (ker F)) (u := g F) (ev_var rfl) (e7 _ _ hls) (by omega) (fun _ => rfl) (fun k hk H8 e8 => ev_op (ev_var rfl) (ev_var rfl) (rv_ixL (K := K) (sq_of ((e07.trans e8) _ _ ha)) (atI_vi (k := k) (v := vi (g F k)) (by rw [List.getElem?_map, g_eq (uF.2 k hk)]; rfl))))) (fun k hk => by
          obtain ⟨x, hx, rfl⟩ := List.mem_map.mp hk
          have := low _ (M25.g_mem (uF.2 x hx))
          omega) (by rw [List.length_map]; omega))) (fun hb => by cases hb) (fun _ H8 e8 => ?_)
      have e58 := e57.trans e8
      have e08 := e05.trans e58
      have qok := qarg_ok ld.ok jm
      have hSg : Sig K H u p.1 := hm.1
      have hSg2 : Sig K H u p2.1 := by rw [ld.es]; exact hm.1
      have Cne : ups p2.2.1 F ≠ [] := fun zz => by
        have := C_mem low (i := 0) (by rw [len]; exact ld.ok.2.n1)
        rw [zz] at this
        cases this
      have pok := parg_ok ld.ok2 cm Cne
      have sm := ld.same
      rw [← len] at sm
      have slen := same_len low
      have ordq : Ord (ups p.2.1 (ker F)).length (onto p2.2.1 F (ups F.length (ker F))) := by rw [← len]; exact ord
      refine q_when (b := false) (et_test (ev_neSame (K := K) (P := fun v H' => Mdl K H' v (ups p2.2.1 F).length (prt p2 (ups p2.2.1 F))) (R := fun v H' => Mdl K H' v (ups p2.2.1 F).length (prt p2 (ups p2.2.1 F))) (d := dM (ups p2.2.1 F).length (prt p2 (ups p2.2.1 F)))
        ((ep_callP (p.1, (ups p.2.1 (ker F)).length, quo p (ker F), onto p2.2.1 F (ups F.length (ker F))) (eap_cons (P := fun v _ => v = u) (R := fun vs H' => ∃ y r, vs = y :: r ∧ Mdl K H' y (ups p.2.1 (ker F)).length (quo p (ker F)) ∧ r = [.ref oa]) (ep_ev (ev_var rfl) fun _ _ => rfl) (eap_cons (P := fun v H' => Mdl K H' v (ups p.2.1 (ker F)).length (quo p (ker F))) (R := fun vs _ => vs = [.ref oa]) (ep_call (p, ker F) (ea_cons (ev_var rfl) (ea_cons (ev_var rfl) (ea_cons (ev_var rfl) ea_nil))) (fun H9 e9 => ⟨⟨_, _, _, rfl, hm.ex (e08.trans e9), (e58.trans e9) _ _ hj5⟩, ld.ok, jm⟩)) (eap_ev (ea_cons (ev_var rfl) ea_nil) fun _ _ => rfl) (fun v _ _ e h => h.ex e)) (fun v _ _ _ h => h)) (fun vs H9 e9 ⟨v, r, hvs, hv, y, r2, hr, hy, hr2⟩ => ⟨⟨u, y, .ref oa, by rw [hvs, hv, hr, hr2], hSg.ex (e08.trans e9), hy, ⟨oa, rfl, ex_t (e58.trans e9) hoa5⟩⟩, ld.ok.1, qok.2, ordq⟩)).imp fun v H9 _ hv => by
          have hv : Mdl K H9 v (ups p.2.1 (ker F)).length (rens (ups p.2.1 (ker F)).length (onto p2.2.1 F (ups F.length (ker F))) p.1 (quo p (ker F))) := hv
          rw [← len, sm, slen] at hv
          exact hv)
        (ep_call (p2, ups p2.2.1 F) (ea_cons (ev_var rfl) (ea_cons (ev_var rfl) (ea_cons (ev_var rfl) ea_nil))) (fun H9 e9 => ⟨⟨_, _, _, rfl, ⟨hSg2.ex (e08.trans e9), hw.ex (e08.trans e9)⟩, (e58.trans e9) _ _ hc5⟩, ld.ok2, (clsd_mem.mp cm).1, (clsd_mem.mp cm).2, Cne⟩))
        (fun v H1 H2 e h => h.ex e) (fun v H1 h => h.dp) (fun v H1 h => h.dp) (mdl_gd pok) (by decide))) (fun hb => by cases hb) (fun _ H9 e9 => ?_)
      have e59 := e58.trans e9
      have e09 := e05.trans e59
      refine q_appP' (P := fun v _ => v = vi 9) (e59 _ _ hj5) (ev_var rfl) (ep_ev ev_c fun _ _ => rfl) (by rw [List.length_map, can.len]; omega) fun v1 H10 e10' hv1 => ?_
      subst hv1
      have e5a := e59.trans e10'
      have x1 : Ex H (upd H10 j (.lst ((ker F).map vi ++ [vi 9]))) := (e05.trans e5a).mut nj
      have hcA : (upd H10 j (.lst ((ker F).map vi ++ [vi 9]))) c = some (.lst ((ups p2.2.1 F).map vi)) := by rw [upd_ne (Ne.symm jc)]; exact e5a _ _ hc5
      have hjA : (upd H10 j (.lst ((ker F).map vi ++ [vi 9]))) j = some (.lst ((ker F).map vi ++ [vi 9])) := upd_same
      have etA : ET K H10 (upd H10 j (.lst ((ker F).map vi ++ [vi 9]))) := ET.refl.upd (e5a _ _ hj5)
      have hoaA := etA _ _ (ex_t e5a hoa5)
      generalize upd H10 j (.lst ((ker F).map vi ++ [vi 9])) = HA at *
      refine q_appP' (P := fun v _ => v = vi 9) hcA (ev_var rfl) (ep_ev ev_c fun _ _ => rfl) (by rw [List.length_map]; have := ups_len p2.2.1 F; omega) fun v2 H11 e11 hv2 => ?_
      subst hv2
      have x2 : Ex H (upd H11 c (.lst ((ups p2.2.1 F).map vi ++ [vi 9]))) := (x1.trans e11).mut nc
      have hcB : (upd H11 c (.lst ((ups p2.2.1 F).map vi ++ [vi 9]))) c = some (.lst ((ups p2.2.1 F).map vi ++ [vi 9])) := upd_same
      have hjB : (upd H11 c (.lst ((ups p2.2.1 F).map vi ++ [vi 9]))) j = some (.lst ((ker F).map vi ++ [vi 9])) := by rw [upd_ne jc]; exact e11 _ _ hjA
      have etB : ET K H11 (upd H11 c (.lst ((ups p2.2.1 F).map vi ++ [vi 9]))) := ET.refl.upd (e11 _ _ hcA)
      have hoaB := etB _ _ (ex_t e11 hoaA)
      generalize upd H11 c (.lst ((ups p2.2.1 F).map vi ++ [vi 9])) = HB at *
      refine s_ret (v := .bl true) (ev_eqSame (K := K) (P := fun v H' => ∃ H0 t j c o, Ex HB H0 ∧ v = .ref t ∧ ImgV K H0 H' t j c o p2.2.1 F) (R := fun v H' => Dp K H' v (dImg p2.2.1 F)) (d := dImg p2.2.1 F) (ep_image (K := K) (ea_cons (ev_var rfl) (ea_cons (ev_var rfl) (ea_cons (ev_var rfl) (ea_cons (ev_var rfl) ea_nil)))) (hm.ex x2) (hw.ex x2) (x2 _ _ ha) ld) (ep_three (K := K) (el_dl (K := K) (ev_var rfl) hjB) (el_dl (K := K) (ev_var rfl) hcB) (ep_ev (ev_var rfl) fun H' e' => ⟨oa, rfl, ex_t e' hoaB⟩)) (fun v H1 H2 e ⟨H0, t, j, c, o, a0, b0, iv⟩ => ⟨H0, t, j, c, o, a0, b0, iv.ex e⟩) (fun v H1 ⟨H0, t, j, c, o, a0, b0, iv⟩ => by rw [b0]; exact iv.dp (Ex.refl _)) (fun v H1 h => h) (gd_img (by omega) n26 low) (by decide)) fun H12 e12 => q _ H12 (x2.trans e12) rfl
end
end K76
end
section
namespace K76
open PySem PySem.Spec PyProof.Rows L2 Evl RZ Dw M20 M25 CL LD JN
theorem rg0 (n : Nat) : rgV 0 (n : Int) = (List.range n).map vi := by
  unfold rgV
  rw [Int.sub_zero, Int.toNat_natCast]
  apply List.map_congr_left
  intro k _
  show V.int (0 + (k : Int)) = V.int (k : Int)
  rw [Int.zero_add]
theorem el_lrg {σ : L2.St} {H : Hp} {te : TE} {n : Nat} (h : Ev te σ H (vi n)) (hn : n ≤ 1000) : EvL (tLstRg (tRg1 te)) σ H ((List.range n).map vi) := fun H1 e Q q =>
  h H1 e _ fun H2 e2 => ⟨(n : Int), rfl, ⟨by omega, by omega, by omega, by omega, by omega⟩, fun r nr => by
    rw [rg0]
    exact q r _ (fresh_back e2 nr) (e2.trans (Ex.new nr)) upd_same⟩
section
variable {K : PySem.W.Frag} {σ : L2.St} {H H0 : Hp} {te ta tb : TE}
/-- the first two of what image tells -/
theorem ep_img2 {n2 : Nat} {F : List Nat} {G : Hp} (h : EvP te σ H (fun v H' => ∃ H0 t j c o, Ex G H0 ∧ v = .ref t ∧ ImgV K H0 H' t j c o n2 F)) : EvP (tSl (rSlA K) te tNoPart (tPart (tC (.int 2)))) σ H (fun v H' => Dp K H' v (.tuple [dL (ker F), dL (ups n2 F)])) := fun H1 e Q q =>
  h H1 e _ fun v H2 e2 ⟨H0, t, j, c, o, _, ev, iv⟩ => by
    subst ev
    obtain ⟨a, b, d, _⟩ := iv
    refine ⟨2, rfl, t, _, rfl, a, fun z => absurd z.2 (by show ¬ (HT.sIx 3 3 (some 2) = 3); decide), fun _ p np => q _ _ (e2.trans (Ex.new np)) ?_⟩
    exact .tup (st_of upd_same) (.cons (dp_ln (Ex.new np _ _ b)) (.cons (dp_ln (Ex.new np _ _ d)) .nil))
theorem ep_two {A B : List Nat} (h1 : EvP ta σ H (fun v H' => LN H' v A)) (h2 : EvP tb σ H (fun v H' => LN H' v B)) : EvP (tTup (tCons ta (tCons tb tNil))) σ H (fun v H' => Dp K H' v (.tuple [dL A, dL B])) := fun H1 e1 Q q =>
  do_tup (do_cons (h1 H1 e1 _ fun v1 H2 e2 ⟨p1, ev1, g1⟩ => do_cons (h2 H2 (e1.trans e2) _ fun v2 H3 e3 ⟨p2, ev2, g2⟩ => do_nil ⟨by show 2 ≤ sizeLine; decide, fun t nt => by
    subst ev1
    subst ev2
    exact q _ _ ((e2.trans e3).trans (Ex.new nt)) (.tup (st_of upd_same) (.cons (dp_ln ((e3.trans (Ex.new nt)) _ _ g1)) (.cons (dp_ln (Ex.new nt _ _ g2)) .nil)))⟩)))
theorem ev_fitsL {t1 t2 t3 t4 : TE} {p p2 : MArg} {u v w : V} {F : List Nat} {E0 : XK} (h1 : Ev t1 σ H u) (h2 : Ev t2 σ H v) (h3 : Ev t3 σ H w) (h4 : EvL t4 σ H (F.map vi)) (hm : MA K H u v p) (hw : Mdl K H w p2.2.1 p2.2.2) (l : Lead p p2 F) : Ev (tCall (sp_lead_wrong K) [] E0 (tCons t1 (tCons t2 (tCons t3 (tCons t4 tNil))))) σ H .non := fun H1 e1 Q q =>
  do_cons (h1 H1 e1 _ fun H2 e2 => do_cons (h2 H2 (e1.trans e2) _ fun H3 e3 => do_cons (h3 H3 ((e1.trans e2).trans e3) _ fun H4 e4 => do_cons (h4 H4 (((e1.trans e2).trans e3).trans e4) _ fun b H5 nb e5 hb => do_nil ⟨((b + 1, b + 1), p, p2, dL F), ⟨⟨_, _, _, _, rfl, hm.ex ((((e1.trans e2).trans e3).trans e4).trans e5), hw.ex ((((e1.trans e2).trans e3).trans e4).trans e5), .lst hb (Nat.ne_of_lt (Nat.lt_succ_self _)) (Nat.ne_of_lt (Nat.lt_succ_self _)) (dz_nats F)⟩, l.ok, l.ok2, l.es, by
    show (F.map fun n => PyData.int ((n : Nat) : Int)).length ≤ 1000
    rw [List.length_map]
    have := l.len
    have := l.ok.2.n6
    omega⟩, fun r H6 e6 hr => by
    obtain ⟨f1, f2⟩ := form_row (p := p) (p2 := p2) l.len l.low
    replace hr : Dp K H6 r (leadW p p2 (dL F)) := hr
    rw [leadW, if_pos f1, f2, l.no] at hr
    cases hr
    exact q H6 ((((e2.trans e3).trans e4).trans e5).trans e6)⟩))))
theorem ep_imageL {t1 t2 t3 t4 : TE} {p p2 : MArg} {u v w : V} {F : List Nat} {E0 : XK} (h1 : Ev t1 σ H u) (h2 : Ev t2 σ H v) (h3 : Ev t3 σ H w) (h4 : EvL t4 σ H (F.map vi)) (hm : MA K H u v p) (hw : Mdl K H w p2.2.1 p2.2.2) (l : Lead p p2 F) : EvP (tCall (sp_image K) [] E0 (tCons t1 (tCons t2 (tCons t3 (tCons t4 tNil))))) σ H (fun v H' => ∃ H0 t j c o, Ex H H0 ∧ v = .ref t ∧ ImgV K H0 H' t j c o p2.2.1 F) := fun H1 e1 Q q =>
  do_cons (h1 H1 e1 _ fun H2 e2 => do_cons (h2 H2 (e1.trans e2) _ fun H3 e3 => do_cons (h3 H3 ((e1.trans e2).trans e3) _ fun H4 e4 => do_cons (h4 H4 (((e1.trans e2).trans e3).trans e4) _ fun b H5 nb e5 hb => do_nil ⟨p, p2, F, u, v, w, b, rfl, hm.ex ((((e1.trans e2).trans e3).trans e4).trans e5), hw.ex ((((e1.trans e2).trans e3).trans e4).trans e5), hb, l, fun t j c o H6 e6 iv => q _ H6 ((((e2.trans e3).trans e4).trans e5).trans e6) ⟨_, t, j, c, o, (((e1.trans e2).trans e3).trans e4).trans e5, rfl, iv⟩⟩))))
theorem ep_LN {A : List Nat} (h : EvL te σ H (A.map vi)) : EvP te σ H (fun v H' => LN H' v A) := fun H1 e Q q => h H1 e _ fun p H2 _ e2 hp => q _ H2 e2 ⟨p, rfl, hp⟩
theorem gd_two {A B : List Nat} (a : (∀ k ∈ A, k ≤ 1000) ∧ A.length ≤ 36) (b : (∀ k ∈ B, k ≤ 1000) ∧ B.length ≤ 36) : Gd 2 2000 (.tuple [dL A, dL B]) := by
  refine (gd_tup (k := 1) (W := 396) (L := 2) (fun x hx => ?_) (by show 2 ≤ 2; decide)).mono (by decide) (by decide)
  rcases List.mem_cons.mp hx with rfl | hx
  · exact gd_dL a.1 a.2
  · rw [List.mem_singleton.mp hx]
    exact gd_dL b.1 b.2
end
section
variable {P : Program} {w : World} {K : PySem.W.Frag} {mg : Str → Option Value} {base : Heap}
def sp_of_one (K : PySem.W.Frag) : Sp := spX (fun (p : MArg) vs H => (∃ u v, vs = [u, v] ∧ MA K H u v p) ∧ MOk p) (fun _ v _ => v = .bl true)
theorem c_of_one (T : Txt mg) (D : Df K mg "_law_of_one" s_of_one ["_law_signature_here", "_law_model_here"]) (c_joins : Cl P w K mg base 8 "joins" (sp_joins K)) (c_quotient : Cl P w K mg base 8 "quotient" (sp_quotient K)) (c_lead_judged : Cl P w K mg base 9 "lead_judged" (sp_lead_judged K)) (c_image : Cl P w K mg base 9 "image" (sp_image K)) (c_closed_lists : Cl P w K mg base 8 "closed_lists" (sp_closed_lists K)) (c_part : Cl P w K mg base 8 "part" (sp_part K)) : Cl P w K mg base 10 "_law_of_one" (sp_of_one K) := by
  refine cl_of (k := 9) D sc_of_one (fun vs H Q E h => ?_) (fun f cdv A outer s H vs Q E hr h => ?_)
  · obtain ⟨q, ⟨⟨u, v, rfl, _⟩, _⟩, _⟩ := h
    rfl
  · obtain ⟨p, ⟨⟨u, v, rfl, hm⟩, ok⟩, q⟩ := h
    refine ⟨_, (pss_cons (ps_for PassesOwn.never (by rfl) (pi_list (pe_cl c_joins hr (by first | decide | omega) (by rfl) (pa_cons (pv 0) (pa_cons (pv 1) pa_nil)))) (pg_name (i := 2) sc_of_one.nd rfl (.inl rfl))
        (pss_cons (ps_set (i := 3) sc_of_one.nd rfl (.inr rfl) (pe_callB (cr_sortedSet rfl) (by rfl) T.z_sorted (by decide +kernel) (pa_cons (pe_callTy (cr_setI rfl) (by rfl) T.z_set (by decide +kernel) (pa_cons (pv 2) pa_nil)) pa_nil)))
        (pss_cons (ps_set (i := 4) sc_of_one.nd rfl (.inl rfl) (pe_cl c_quotient hr (by first | decide | omega) (by rfl) (pa_cons (pv 0) (pa_cons (pv 1) (pa_cons (pv 2) pa_nil)))))
        (pss_cons (ps_setLc (i := 5) (own := [("_law_lot", 7)]) (g := (gName 7)) (by rfl) sc_of_one.nd rfl rfl (sw_true rfl rfl rfl (by decide +kernel)) (pi_list (pv 2)) (blkOk_by (own := [("_law_lot", 7)]) (N := ["_law_signature_here", "_law_model_here", "_law_join", "_law_least", "_law_less", "_law_lead", "_law_closed", "_law_lot"]) (sc := (defScope s_of_one)) (by decide +kernel)) (fun _ _ _ _ _ => (pg_name (i := 7) sc_of_one.nd rfl (.inl rfl))) (fun _ _ _ _ _ => pts_nil) (fun _ _ _ _ _ => (pe_bmK K PySem.F.plainAttrs_list PySem.F.slot_list_index PySem.F.type_list_index (mt_indexK K) (pv 3) (pa_cons (pv 7) pa_nil))))
        (pss_cons (ps_if (pt_cmpR op_notN (pe_cl c_lead_judged hr (by first | decide | omega) (by rfl) (pa_cons (pv 0) (pa_cons (pv 1) (pa_cons (pv 4) (pa_cons (pv 5) pa_nil))))) pe_non (nomark _))
          (pss_one (ps_ret pe_bl))
          pss_nil)
        (pss_one (ps_if (pt_cmpR (op_neD hr.units) (pe_slice sl_tupA (pe_cl c_image hr (by first | decide | omega) (by rfl) (pa_cons (pv 0) (pa_cons (pv 1) (pa_cons (pv 4) (pa_cons (pv 5) pa_nil))))) po_none (po_some pe_int)) (pe_tup (pa_cons (pv 2) (pa_cons (pe_listRg rfl (by rfl) T.z_list (prg_1 (by rfl) T.z_range (pe_callB call_len_seq (by rfl) T.z_len PySem.boot_len (pa_cons (pv 3) pa_nil)))) pa_nil))) (nomark _))
          (pss_one (ps_ret pe_bl))
          pss_nil)))))))
      (pss_cons (ps_for PassesOwn.never (by rfl) (pi_list (pe_cl c_closed_lists hr (by first | decide | omega) (by rfl) (pa_cons (pv 0) (pa_cons (pv 1) pa_nil)))) (pg_name (i := 6) sc_of_one.nd rfl (.inl rfl))
        (pss_one (ps_if (pt_cmpR (op_neD hr.units) (pv 6) (pe_lst pa_nil) (nomark _))
          (pss_cons (ps_set (i := 4) sc_of_one.nd rfl (.inl rfl) (pe_cl c_part hr (by first | decide | omega) (by rfl) (pa_cons (pv 0) (pa_cons (pv 1) (pa_cons (pv 6) pa_nil)))))
          (pss_cons (ps_if (pt_cmpR op_notN (pe_cl c_lead_judged hr (by first | decide | omega) (by rfl) (pa_cons (pv 0) (pa_cons (pv 4) (pa_cons (pv 1) (pa_cons (pe_callTy call_list_of (by rfl) T.z_list (by decide +kernel) (pa_cons (pv 6) pa_nil)) pa_nil))))) pe_non (nomark _))
            (pss_one (ps_ret pe_bl))
            pss_nil)
          (pss_one (ps_if (pt_cmpR (op_neD hr.units) (pe_slice sl_tupA (pe_cl c_image hr (by first | decide | omega) (by rfl) (pa_cons (pv 0) (pa_cons (pv 4) (pa_cons (pv 1) (pa_cons (pe_callTy call_list_of (by rfl) T.z_list (by decide +kernel) (pa_cons (pv 6) pa_nil)) pa_nil))))) po_none (po_some pe_int)) (pe_tup (pa_cons (pe_listRg rfl (by rfl) T.z_list (prg_1 (by rfl) T.z_range (pe_callB call_len_seq (by rfl) T.z_len PySem.boot_len (pa_cons (pv 6) pa_nil)))) (pa_cons (pv 6) pa_nil))) (nomark _))
            (pss_one (ps_ret pe_bl))
            pss_nil))))
          pss_nil)))
      (pss_one (ps_ret pe_bl)))), ?_⟩
    replace hm : MA K H u v p := hm
    replace ok : MOk p := ok
    have n6 := ok.2.n6
    refine q_forLs (ea_cons (ev_var rfl) (ea_cons (ev_var rfl) ea_nil) H (Ex.refl _) _ fun H2 e2 => ⟨p, u, v, rfl, hm.ex e2, ok, fun a as H3 e3 ll => ⟨a, rfl, ⟨_, sq_of ll.at_⟩, ?_⟩⟩)
    have e03 := e2.trans e3
    refine qloops_list (K := K) (xs := as.map V.ref) (fun k σ H' => Ex H3 H' ∧ ∃ y2 y3 y4 y5, σ = [some u, some v, y2, y3, y4, y5, none, none]) ⟨Ex.refl _, _, _, _, _, rfl⟩ (fun k σ' H' _ ⟨e, _⟩ => sq_of (e _ _ ll.at_)) (fun k x σ' H4 hx ⟨e4, y2, y3, y4, y5, hσ⟩ => ?_) (fun σ' H4 ⟨e4, y2, y3, y4, y5, hσ⟩ => ?_)
    · subst hσ
      rw [List.getElem?_map] at hx
      cases hbk : as[k]? with
      | none => rw [hbk] at hx; cases hx
      | some bb =>
      rw [hbk] at hx
      cases Option.some.inj hx
      obtain ⟨L, hL, hb, _⟩ := paired_at ll.each hbk
      have jm : L ∈ jn p := List.mem_iff_getElem?.mpr ⟨k, hL⟩
      obtain ⟨can, gw⟩ := jns_iff.mp jm
      have len := can.len
      have low := can.low
      have e04 := e03.trans e4
      have hb4 := e4 _ _ hb
      have lU := ups_len p.2.1 L
      refine q_asgL (el_sortSetV (K := K) (w := w) (ms := ups p.2.1 L) (ev_var rfl) (sq_of hb4) (by rw [len]; omega) p.2.1 (by omega) low (ups_up _ _).1 (fun k => ups_mem low k)) fun ls H5 nls e5 hls => ?_
      have e05 := e04.trans e5
      refine q_asgP (P := fun v H' => Mdl K H' v (ups p.2.1 L).length (quo p L)) (ep_call (p, L) (ea_cons (ev_var rfl) (ea_cons (ev_var rfl) (ea_cons (ev_var rfl) ea_nil))) (fun H6 e6 => ⟨⟨_, _, _, rfl, hm.ex (e05.trans e6), (e5.trans e6) _ _ hb4⟩, ok, jm⟩)) fun lv H6 e6 hlv => ?_
      have e06 := e05.trans e6
      have e56 := e5.trans e6
      refine do_set (do_evL (el_rowM (K := K) (row := L) (u := fun l => (ups p.2.1 L).idxOf l) (ev_var rfl) (e56 _ _ hb4) (by rw [len]; omega) (fun _ => rfl) (fun k hk H7 e7 => ev_lindex (K := K) (S := ups p.2.1 L) (ev_var rfl) ((e6.trans e7) _ _ hls) (ev_var rfl) ((ups_mem low k).mpr hk))) fun ld H7 nld e7 hld => ?_)
      replace hld : H7 ld = some (.lst ((toQ p.2.1 L).map vi)) := hld
      have e07 := e06.trans e7
      have hlv7 := hlv.ex e7
      have lead := lead_toQ ok jm
      refine q_when (b := false) (et_is (et_test (ev_op (ev_fits (K := K) (p := p) (p2 := qarg p L) (ea_cons (ev_var rfl) (ea_cons (ev_var rfl) (ea_cons (ev_var rfl) (ea_cons (ev_var rfl) ea_nil)))) (hm.ex e07) hlv7 ok lead.ok2 rfl hld lead.len lead.low lead.no) ev_c (fun H1 _ _ q => ⟨rfl, q H1 (Ex.refl H1)⟩))) rfl) (fun hb => by cases hb) (fun _ H8 e8 => ?_)
      have e08 := e07.trans e8
      have kr := toQ_ker can
      have ur := toQ_ups can
      have gA : (∀ k ∈ L, k ≤ 1000) ∧ L.length ≤ 36 := jn_gd ok L jm
      have gB : (∀ k ∈ List.range (ups p.2.1 L).length, k ≤ 1000) ∧ (List.range (ups p.2.1 L).length).length ≤ 36 := ⟨fun k hk => by have := List.mem_range.mp hk; omega, by rw [List.length_range]; omega⟩
      have im := ep_img2 (K := K) (ep_image (K := K) (E0 := E0) (ta := tCons (tVar 0) (tCons (tVar 1) (tCons (tVar 4) (tCons (tVar 5) tNil)))) (σ := [some u, some v, some (.ref bb), some (.ref ls), some lv, some (.ref ld), none, none]) (p := p) (p2 := qarg p L) (ea_cons (ev_var rfl) (ea_cons (ev_var rfl) (ea_cons (ev_var rfl) (ea_cons (ev_var rfl) ea_nil)))) (hm.ex e08) (hlv7.ex e8) (e8 _ _ hld) lead)
      replace im := im.imp (fun v H9 _ (h : Dp K H9 v (.tuple [dL (ker (toQ p.2.1 L)), dL (ups (ups p.2.1 L).length (toQ p.2.1 L))])) => by rw [kr, ur] at h; exact h)
      refine s_when (b := false) (et_test (ev_neSame (K := K) (R := fun v H' => Dp K H' v (.tuple [dL L, dL (List.range (ups p.2.1 L).length)])) im (ep_two (K := K) (ep_ev (ev_var rfl) fun H' e' => ⟨bb, rfl, ((e56.trans (e7.trans e8)).trans e') _ _ hb4⟩) (ep_LN (el_lrg (ev_is (ev_lenL (K := K) (ev_var rfl) ((e6.trans (e7.trans e8)) _ _ hls)) rfl) (by omega)))) (fun v H1 H2 e h => dpEx e h) (fun v H1 h => h) (fun v H1 h => h) (gd_two gA gB) (by decide))) (fun hb => by cases hb) (fun _ H9 e9 => ⟨((e4.trans e56).trans (e7.trans e8)).trans e9, _, _, _, _, rfl⟩)
    · subst hσ
      have e04 := e03.trans e4
      refine q_forLs (ea_cons (ev_var rfl) (ea_cons (ev_var rfl) ea_nil) H4 (Ex.refl _) _ fun H5 e5 => ⟨p, u, v, rfl, hm.ex (e04.trans e5), ok, fun a2 as2 H6 e6 l2 => ⟨a2, rfl, ⟨_, sq_of l2.at_⟩, ?_⟩⟩)
      have e06 := (e04.trans e5).trans e6
      refine qloops_list (K := K) (xs := as2.map V.ref) (fun k σ H' => Ex H6 H' ∧ ∃ y4 y6, σ = [some u, some v, y2, y3, y4, y5, y6, none]) ⟨Ex.refl _, _, _, rfl⟩ (fun k σ' H' _ ⟨e, _⟩ => sq_of (e _ _ l2.at_)) (fun k x σ' H7 hx ⟨e7, y4b, y6, hσ⟩ => ?_) (fun σ' H7 ⟨e7, y4b, y6, hσ⟩ => ?_)
      · subst hσ
        rw [List.getElem?_map] at hx
        cases hbk : as2[k]? with
        | none => rw [hbk] at hx; cases hx
        | some bb =>
        rw [hbk] at hx
        cases Option.some.inj hx
        obtain ⟨S, hS, hb, _⟩ := paired_at l2.each hbk
        have cm : S ∈ clsd p := List.mem_iff_getElem?.mpr ⟨k, hS⟩
        have up := (clsd_mem.mp cm).1
        have e07 := e06.trans e7
        have hb7 := e7 _ _ hb
        have gS := clsd_gd ok S cm
        refine s_when (b := !decide (S = [])) (et_test (ev_neLN (K := K) (xs := S) (ys := []) (ev_var rfl) (sq_of hb7) (el_lst ea_nil (Nat.zero_le _)) gS.1 (fun k hk => by cases hk) gS.2 (by decide))) (fun hne H8 e8 => ?_) (fun _ H8 e8 => ⟨e7.trans e8, _, _, rfl⟩)
        have ne : S ≠ [] := fun zz => by rw [zz, decide_eq_true rfl] at hne; cases hne
        have e08 := e07.trans e8
        have hb8 := e8 _ _ hb7
        refine q_asgP (P := fun v H' => Mdl K H' v S.length (prt p S)) (ep_call (p, S) (ea_cons (ev_var rfl) (ea_cons (ev_var rfl) (ea_cons (ev_var rfl) ea_nil))) (fun H9 e9 => ⟨⟨_, _, _, rfl, hm.ex (e08.trans e9), e9 _ _ hb8⟩, ok, up, (clsd_mem.mp cm).2, ne⟩)) fun lv H9 e9 hlv => ?_
        have e09 := e08.trans e9
        have hb9 := e9 _ _ hb8
        have lead := lead_S ok cm ne
        have hmp : MA K H9 u lv (parg p S) := ⟨hm.1.ex e09, hlv⟩
        refine q_when (b := false) (et_is (et_test (ev_op (ev_fitsL (K := K) (p := parg p S) (p2 := p) (ev_var rfl) (ev_var rfl) (ev_var rfl) (el_list' (K := K) (ev_var rfl) hb9) hmp (hm.2.ex e09) lead) ev_c (fun H1 _ _ q => ⟨rfl, q H1 (Ex.refl H1)⟩))) rfl) (fun hb => by cases hb) (fun _ H10 e10 => ?_)
        have hb10 := e10 _ _ hb9
        have kr := S_ker up
        have ur := up_self up
        have gB : (∀ k ∈ List.range S.length, k ≤ 1000) ∧ (List.range S.length).length ≤ 36 := ⟨fun k hk => by have := List.mem_range.mp hk; have := gS.2; omega, by rw [List.length_range]; exact gS.2⟩
        have im := ep_img2 (K := K) (ep_imageL (K := K) (E0 := E0) (t1 := tVar 0) (t2 := tVar 4) (t3 := tVar 1) (t4 := tCB (rLstO K) (tCons (tVar 6) tNil)) (σ := [some u, some v, y2, y3, some lv, y5, some (.ref bb), none]) (p := parg p S) (p2 := p) (ev_var rfl) (ev_var rfl) (ev_var rfl) (el_list' (K := K) (ev_var rfl) hb10) (hmp.ex e10) (hm.2.ex (e09.trans e10)) lead)
        replace im := im.imp (fun v H9 _ (h : Dp K H9 v (.tuple [dL (ker S), dL (ups p.2.1 S)])) => by rw [kr, ur] at h; exact h)
        refine s_when (b := false) (et_test (ev_neSame (K := K) (R := fun v H' => Dp K H' v (.tuple [dL (List.range S.length), dL S])) im (ep_two (K := K) (ep_LN (el_lrg (ev_is (ev_lenL (K := K) (ev_var rfl) hb10) rfl) (by have := gS.2; omega))) (ep_ev (ev_var rfl) fun H' e' => ⟨bb, rfl, e' _ _ hb10⟩)) (fun v H1 H2 e h => dpEx e h) (fun v H1 h => h) (fun v H1 h => h) (gd_two gB gS) (by decide))) (fun hb => by cases hb) (fun _ H11 e11 => ⟨(((e7.trans e8).trans e9).trans e10).trans e11, _, _, rfl⟩)
      · subst hσ
        exact s_ret ev_c fun H8 e8 => q _ H8 ((e06.trans e7).trans e8) rfl
end
end K76
end
section
namespace K76
open PySem PySem.Spec PyProof.Rows L2 Evl RZ Dw M20 M25 CL LD JN
section
variable {K : PySem.W.Frag} {σ : L2.St} {H H0 : Hp} {te ta tb : TE}
theorem cutV_mem {xs : List V} {lo hi : Option Int} {x : V} (h : x ∈ cutV xs lo hi) : x ∈ xs := by
  unfold cutV at h
  first
    | exact List.mem_of_mem_drop (List.mem_of_mem_take h)
    | exact List.mem_of_mem_take (List.mem_of_mem_drop h)
theorem cutV_len {xs : List V} {lo hi : Option Int} : (cutV xs lo hi).length ≤ xs.length := by
  unfold cutV
  rw [List.length_take, List.length_drop]
  omega
theorem el_slL {tl th : TO} {xs : List V} {lo hi : Option Int} (h : EvL te σ H xs) (h1 : EvO tl σ H lo) (h2 : EvO th σ H hi) : EvL (tSl (rSlL K) te tl th) σ H (cutV xs lo hi) := fun H1 e Q q =>
  (h H1 e _ fun p H2 np e2 hp => (el_sl (K := K) (te := tC (.ref p)) (σ := σ) (H := H2) (a := p) (xs := xs) ev_c (fun H3 f3 => h1 H3 ((e.trans e2).trans f3)) (fun H3 f3 => h2 H3 ((e.trans e2).trans f3)) (sq_of hp)) H2 (Ex.refl _) Q fun p3 H3 np3 e3 hp3 => q p3 H3 (fresh_back e2 np3) (e2.trans e3) hp3)
/-- a join, where it stands -/
def JV (L : List (List Nat)) (p c : Addr) (v : V) (H : Hp) : Prop := ∃ b o, v = .ref b ∧ H b = some (.lst (o.map vi)) ∧ o ∈ L ∧ b ≠ p ∧ b ≠ c
theorem JV.ex {L : List (List Nat)} {p c : Addr} : ∀ v H H', Ex H H' → JV L p c v H → JV L p c v H' := fun _ _ _ e ⟨b, o, q, h, r⟩ => ⟨b, o, q, e _ _ h, r⟩
theorem JV.off {L : List (List Nat)} {p c : Addr} {t : Nat} : ∀ v H H', Pur H p c t → Off H H' p c → JV L p c v H → JV L p c v H' := fun _ _ _ _ o ⟨b, x, q, h, m, bp, bc⟩ => ⟨b, x, q, o _ _ bp bc h, m, bp, bc⟩
theorem lls_ls {L : List (List Nat)} {as : List Addr} {a p c : Addr} {t : Nat} (pu : Pur H0 p c t) (h : LLs H0 H a as L) : LsR (JV L p c) p c L.length (.ref a) H := by
  obtain ⟨ap, ac, all⟩ := lls_pur pu h
  refine ⟨a, as.map V.ref, rfl, h.at_, ap, ac, by rw [List.length_map, h.len], fun x hx => ?_⟩
  obtain ⟨b, hb, rfl⟩ := List.mem_map.mp hx
  obtain ⟨o, m, hq, _⟩ := h.some hb
  exact ⟨b, o, rfl, hq, m, (all b hb).1, (all b hb).2⟩
end
theorem op_neDK {X : Cx} (K : PySem.W.Frag) (hu : X.A.units + 64 < cLine) (h : X.K = K := by rfl) : OpR X (compareOp .NotEq) (rNeD K) := by
  subst h
  exact op_neD hu
theorem ev_mN {σ : L2.St} {H : Hp} (n : Int) : Ev (tUn (rU fun i => .int (-i)) (tC (.int n))) σ H (.int (-n)) := fun H1 e Q q => ⟨n, rfl, q H1 (Ex.refl _)⟩
theorem jn_ne {p : MArg} (ok : MOk p) : 1 ≤ (jn p).length := by
  have gk : ∀ k, k < p.2.1 → g (List.range p.2.1) k = k := fun k hk => by
    have := M20.g_map (f := id) hk
    rw [List.map_id] at this
    exact this
  refine List.length_pos_of_mem (a := List.range p.2.1) (jns_iff.mpr ⟨⟨List.length_range, fun i h => by rw [gk i h]; exact Nat.le_refl _, fun i h => by rw [gk i h, gk i h]⟩, ?_⟩)
  refine List.all_eq_true.mpr fun c hc => List.all_eq_true.mpr fun j hj => ?_
  obtain ⟨cl, mem, rfl⟩ := List.mem_map.mp hc
  obtain ⟨d, t, dm, et, ht, d2, hr, hw⟩ := cell_facts ok mem
  have hj' : j < cl.2.1.length := List.mem_range.mp hj
  refine decide_eq_true ?_
  show g _ cl.2.2 = g _ (g (tbOf p.1 p.2.2 cl.1) (plc p.2.1 (cl.2.1.set j (g _ (g cl.2.1 j)))))
  rw [gk _ ((rows_of hr).2 _ (M25.g_mem hj')), set_same hj', et, hw]
theorem clsd_ne {p : MArg} (ok : MOk p) : 1 ≤ ((clsd p).filter fun S => !decide (S = [])).length := by
  have n1 := ok.2.n1
  refine List.length_pos_of_mem (a := List.range p.2.1) (List.mem_filter.mpr ⟨clsd_mem.mpr ⟨⟨List.pairwise_lt_range, fun k hk => List.mem_range.mp hk⟩, closed_iff.mpr fun c hc _ => List.mem_range.mpr (ok.cells c hc).2.2⟩, ?_⟩)
  have : List.range p.2.1 ≠ [] := fun z => by
    have := congrArg List.length z
    rw [List.length_range] at this
    simp at this
    omega
  rw [decide_eq_false this]
  rfl
theorem lvl_few {p p2 : MArg} (n1 : p.2.1 ≤ 4) (n2 : p2.2.1 ≤ 4) : ∀ k, k ≤ p.2.1 → (lvl p2.2.1 (lcs p p2) k).length ≤ 256 := fun k hk => by
  rw [lvl_eq]
  have a := List.length_filter_le (allOk p2.2.1 ((lcs p p2).filter fun c => decide (grt c < k))) (rows p2.2.1 k)
  rw [rows_len'] at a
  have h1 : p2.2.1 ^ k ≤ 4 ^ k := Nat.pow_le_pow_left n2 k
  have h2 : 4 ^ k ≤ 4 ^ 4 := Nat.pow_le_pow_right (by decide) (by omega)
  have h3 : 4 ^ 4 = 256 := by decide
  omega
theorem lvl_lead {p p2 : MArg} (ok : MOk p) (ok2 : MOk p2) (es : p2.1 = p.1) {F : List Nat} (h : F ∈ lvl p2.2.1 (lcs p p2) p.2.1) : Lead p p2 F := by
  rw [leads_eq (lcs_grt ok)] at h
  obtain ⟨hr, ha⟩ := List.mem_filter.mp h
  obtain ⟨l, lo⟩ := rows_of hr
  refine ⟨ok, ok2, es, l, lo, ?_⟩
  rw [fods_eq ok ok2 es] at ha
  exact Option.isNone_iff_eq_none.mp ha
section
variable {P : Program} {w : World} {K : PySem.W.Frag} {mg : Str → Option Value} {base : Heap}
/-- between two turns -/
def Turn (a p c : Addr) (i : Nat) (σ : L2.St) (H : Hp) : Prop := (∃ t, Pur H p c t ∧ t ≤ 3000 * i) ∧ ∃ y2 y3 y4 y5 y6 y7 y8 y9 y10 y11, σ = [some (.ref a), some (.ref p), y2, y3, y4, y5, y6, y7, y8, y9, y10, y11, none]
theorem law_ok (T : Txt mg) (c_purse : Cl P w K mg base 1 "_law_purse" (sp_purse K)) (c_draw : Cl P w K mg base 1 "_law_draw" sp_draw) (c_pick : Cl P w K mg base 2 "_law_pick" (sp_pick K)) (c_signature : Cl P w K mg base 3 "_law_signature" (sp_signature K)) (c_model : Cl P w K mg base 3 "_law_model" (sp_model K))
    (c_joins : Cl P w K mg base 8 "joins" (sp_joins K)) (c_quotient : Cl P w K mg base 8 "quotient" (sp_quotient K)) (c_closed_lists : Cl P w K mg base 8 "closed_lists" (sp_closed_lists K)) (c_part : Cl P w K mg base 8 "part" (sp_part K)) (c_leads : Cl P w K mg base 9 "leads" (sp_leads K)) (c_right : Cl P w K mg base 10 "_law_right" (sp_right K)) (c_of_one : Cl P w K mg base 10 "_law_of_one" (sp_of_one K))
    (room : Room 11 callerA) (s : Shared) (H : Hp) (fa : Addr) (cdv : Value) (a : Addr) (ns : List Int) (len : ns.length ≤ 63) (seq : SqL K H a (ns.map V.int)) :
    ∃ t, PSs (cxOf CX0 P w K mg base ["_law_script", "_law_purse_here", "_law_time", "_law_signature_here", "_law_one", "_law_other", "_law_way_here", "_law_every", "_law_full", "_law_lists_here", "_law_told_here", "_law_lead", "_law_some"] "law" (defScope s_law) fa cdv callerA [] s H E0).nox (defBody s_law) t ∧ t { nx := fun _ _ => False, rt := fun v _ => v = .bl true } (start ["_law_script", "_law_purse_here", "_law_time", "_law_signature_here", "_law_one", "_law_other", "_law_way_here", "_law_every", "_law_full", "_law_lists_here", "_law_told_here", "_law_lead", "_law_some"] [.ref a]) H := by
  have hr : Room 10 (callerA.deeper (envOfC "law" (defScope s_law) s.heap.objs.size fa cdv)) := room.deeper _
  refine ⟨_, (pss_cons (ps_set (i := 1) sc_law.nd rfl (.inl rfl) (pe_cl c_purse hr (by first | decide | omega) (by rfl) (pa_cons (pv 0) pa_nil)))
      (pss_cons (ps_for PassesOwn.never (by rfl) (pi_range1 (by rfl) T.z_range (pa_cons pe_int pa_nil)) (pg_name (i := 2) sc_law.nd rfl (.inl rfl))
        (pss_cons (ps_set (i := 3) sc_law.nd rfl (.inl rfl) (pe_cl c_signature hr (by first | decide | omega) (by rfl) (pa_cons (pv 1) pa_nil)))
        (pss_cons (ps_set (i := 4) sc_law.nd rfl (.inl rfl) (pe_cl c_model hr (by first | decide | omega) (by rfl) (pa_cons (pv 1) (pa_cons (pv 3) (pa_cons (pe_op op_add pe_int (pe_cl c_draw hr (by first | decide | omega) (by rfl) (pa_cons (pv 1) (pa_cons pe_int pa_nil)))) pa_nil)))))
        (pss_cons (ps_set (i := 5) sc_law.nd rfl (.inl rfl) (pe_cl c_model hr (by first | decide | omega) (by rfl) (pa_cons (pv 1) (pa_cons (pv 3) (pa_cons (pe_op op_add pe_int (pe_cl c_draw hr (by first | decide | omega) (by rfl) (pa_cons (pv 1) (pa_cons pe_int pa_nil)))) pa_nil)))))
        (pss_cons (ps_set (i := 6) sc_law.nd rfl (.inl rfl) (pe_cl c_draw hr (by first | decide | omega) (by rfl) (pa_cons (pv 1) (pa_cons pe_int pa_nil))))
        (pss_cons (ps_set (i := 7) sc_law.nd rfl (.inl rfl) (pe_cl c_joins hr (by first | decide | omega) (by rfl) (pa_cons (pv 3) (pa_cons (pv 4) pa_nil))))
        (pss_cut (ps_if (pt_cmpR op_eq (pv 6) pe_int (nomark _))
          (pss_one (ps_set (i := 5) sc_law.nd rfl (.inl rfl) (pe_cl c_quotient hr (by first | decide | omega) (by rfl) (pa_cons (pv 3) (pa_cons (pv 4) (pa_cons (pe_cl c_pick hr (by first | decide | omega) (by rfl) (pa_cons (pv 1) (pa_cons (pv 7) pa_nil))) pa_nil))))))
          pss_nil)
        (pss_cut (ps_if (pt_cmpR op_eq (pv 6) pe_int (nomark _))
          (pss_cons (ps_setLc (i := 8) (own := [("_law_some", 12)]) (g := (gName 12)) (by rfl) sc_law.nd rfl rfl (sw_true rfl rfl rfl (by decide +kernel)) (pi_list (pe_cl c_closed_lists hr (by first | decide | omega) (by rfl) (pa_cons (pv 3) (pa_cons (pv 5) pa_nil)))) (blkOk_by (own := [("_law_some", 12)]) (N := ["_law_script", "_law_purse_here", "_law_time", "_law_signature_here", "_law_one", "_law_other", "_law_way_here", "_law_every", "_law_full", "_law_lists_here", "_law_told_here", "_law_lead", "_law_some"]) (sc := (defScope s_law)) (by decide +kernel)) (fun _ _ _ _ _ => (pg_name (i := 12) sc_law.nd rfl (.inl rfl))) (fun _ _ _ _ _ => (pts_one (pt_cmpR (op_neDK K hr.units) (pv 12) (pe_lst pa_nil) (nomark _)))) (fun _ _ _ _ _ => (pv 12)))
          (pss_cons (ps_set (i := 4) sc_law.nd rfl (.inl rfl) (pe_cl c_part hr (by first | decide | omega) (by rfl) (pa_cons (pv 3) (pa_cons (pv 5) (pa_cons (pe_cl c_pick hr (by first | decide | omega) (by rfl) (pa_cons (pv 1) (pa_cons (pv 8) pa_nil))) pa_nil)))))
          (pss_one (ps_set (i := 7) sc_law.nd rfl (.inl rfl) (pe_cl c_joins hr (by first | decide | omega) (by rfl) (pa_cons (pv 3) (pa_cons (pv 4) pa_nil)))))))
          pss_nil)
        (pss_cons (ps_set (i := 9) sc_law.nd rfl (.inl rfl) (pe_cl c_closed_lists hr (by first | decide | omega) (by rfl) (pa_cons (pv 3) (pa_cons (pv 5) pa_nil))))
        (pss_cons (ps_set (i := 10) sc_law.nd rfl (.inl rfl) (pe_cl c_leads hr (by first | decide | omega) (by rfl) (pa_cons (pv 3) (pa_cons (pv 4) (pa_cons (pv 5) pa_nil)))))
        (pss_cons (ps_for PassesOwn.never (by rfl) (pi_list (pe_op op_cat (pe_slice sl_list (pv 10) po_none (po_some pe_int)) (pe_slice sl_list (pe_slice sl_list (pv 10) (po_some pe_int) po_none) (po_some (pe_un un_neg pe_int)) po_none))) (pg_name (i := 11) sc_law.nd rfl (.inl rfl))
          (pss_one (ps_if (pt_not (pt_val (pe_cl c_right hr (by first | decide | omega) (by rfl) (pa_cons (pv 3) (pa_cons (pv 4) (pa_cons (pv 5) (pa_cons (pv 11) (pa_cons (pv 7) (pa_cons (pv 9) pa_nil)))))))))
            (pss_one (ps_ret pe_bl))
            pss_nil)))
        (pss_one (ps_if (pt_not (pt_val (pe_cl c_of_one hr (by first | decide | omega) (by rfl) (pa_cons (pv 3) (pa_cons (pv 4) pa_nil)))))
          (pss_one (ps_ret pe_bl))
          pss_nil)))))))))))))
      (pss_one (ps_ret pe_bl)))), ?_⟩
  refine do_set (ea_cons (ev_var rfl) ea_nil H (Ex.refl H) _ fun H0 e0 => ⟨a, ns, rfl, ex_l e0 seq, len, fun p c H1 e1 np nc pu => ?_⟩)
  refine q_forR1 (n := ((3 : Nat) : Int)) (ea_cons ev_c ea_nil) ⟨by decide, by decide⟩ (Turn a p c) (fun H2 e2 => ⟨⟨0, pu.ex e2, Nat.zero_le _⟩, none, none, none, none, none, none, none, none, none, none, rfl⟩) (fun i σ H2 hi tn => ?_) (fun σ H2 tn => ?_)
  · obtain ⟨⟨t, pu2, lt⟩, y2, y3, y4, y5, y6, y7, y8, y9, y10, y11, hσ⟩ := tn
    subst hσ
    have i3 : i < 3 := by omega
    -- the signature
    refine do_set (ea_cons (ev_var rfl) ea_nil H2 (Ex.refl H2) _ fun H3 e3 => ⟨p, c, t, rfl, pu2.ex e3, by omega, fun sv sg H4 o4 pu4 hG4 sok => ?_⟩)
    show tSeq _ _ _ [some (.ref a), some (.ref p), some (vi i), some sv, y4, y5, y6, y7, y8, y9, y10, y11, none] H4
    have add1 : ∀ k : Nat, V.int ((1 : Int) + ((k : Nat) : Int)) = vi (k + 1) := fun k => by
      show V.int _ = V.int (((k + 1 : Nat)) : Int)
      rw [Int.natCast_add, Int.add_comm]
      rfl
    -- the one
    refine do_set (do_cons (do_ev (v := .ref p) (ev_var rfl) fun H5 e5 => do_cons (do_ev (v := sv) (ev_var rfl) fun H6 e6 => do_cons (do_op (do_ev ev_c fun H7 e7 => do_draw (n := 4) (ev_var rfl) ev_c (pu4.ex (e5.trans (e6.trans e7))) (by omega) (by decide) (by decide) fun k1 H8 hk1 o8 pu8 => ⟨1, (k1 : Int), rfl, rfl, do_nil ?_⟩)))))
    have o48 : Off H4 H8 p c := (Off.of_ex (e5.trans (e6.trans e7))).trans o8
    have hG8 : Sig K H8 sv sg := hG4.et (o48.et pu4)
    show sp_model K [V.ref p, sv, V.int ((1 : Int) + ((k1 : Nat) : Int))] H8 _ _
    rw [add1 k1]
    refine ⟨p, c, _, k1 + 1, sv, sg, rfl, pu8, by omega, by omega, by omega, hG8, sok, fun v1 ts1 t9 H9 o9 pu9 l9 hM9 mok1 => ?_⟩
    have hG9 : Sig K H9 sv sg := hG8.et (o9.et pu8)
    show tSeq _ _ _ [some (.ref a), some (.ref p), some (vi i), some sv, some v1, y5, y6, y7, y8, y9, y10, y11, none] H9
    clear o48 o8 hG8
    -- the other
    refine do_set (do_cons (do_ev (v := .ref p) (ev_var rfl) fun H5 e5 => do_cons (do_ev (v := sv) (ev_var rfl) fun H6 e6 => do_cons (do_op (do_ev ev_c fun H7 e7 => do_draw (n := 4) (ev_var rfl) ev_c (pu9.ex (e5.trans (e6.trans e7))) (by omega) (by decide) (by decide) fun k2 H10 hk2 o10 pu10 => ⟨1, (k2 : Int), rfl, rfl, do_nil ?_⟩)))))
    have o910 : Off H9 H10 p c := (Off.of_ex (e5.trans (e6.trans e7))).trans o10
    have hG10 : Sig K H10 sv sg := hG9.et (o910.et pu9)
    have hM10 := hM9.et (o910.et pu9)
    show sp_model K [V.ref p, sv, V.int ((1 : Int) + ((k2 : Nat) : Int))] H10 _ _
    rw [add1 k2]
    refine ⟨p, c, _, k2 + 1, sv, sg, rfl, pu10, by omega, by omega, by omega, hG10, sok, fun v2 ts2 t11 H11 o11 pu11 l11 hM11 mok2 => ?_⟩
    have hG11 : Sig K H11 sv sg := hG10.et (o11.et pu10)
    have hN11 := hM10.et (o11.et pu10)
    show tSeq _ _ _ [some (.ref a), some (.ref p), some (vi i), some sv, some v1, some v2, y6, y7, y8, y9, y10, y11, none] H11
    clear hG10 hM10 o910 o10
    -- the way
    refine do_set (do_draw (n := 4) (ev_var rfl) ev_c pu11 (by omega) (by decide) (by decide) fun k3 H12 hk3 o12 pu12 => ?_)
    have hG12 := hG11.et (o12.et pu11)
    have hN12 := hN11.et (o12.et pu11)
    have hM12 := hM11.et (o12.et pu11)
    show tSeq _ _ _ [some (.ref a), some (.ref p), some (vi i), some sv, some v1, some v2, some (vi k3), y7, y8, y9, y10, y11, none] H12
    obtain ⟨q, hq⟩ : ∃ q : MArg, q = (sg, k1 + 1, ts1) := ⟨_, rfl⟩
    have ok : MOk q := by rw [hq]; exact ⟨sok, mok1⟩
    have hm12 : MA K H12 sv v1 q := by rw [hq]; exact ⟨hG12, hN12⟩
    have qs : q.1 = sg := by rw [hq]
    have n14 : q.2.1 ≤ 4 := by rw [hq]; show k1 + 1 ≤ 4; omega
    -- every join
    refine do_set (ea_cons (ev_var rfl) (ea_cons (ev_var rfl) ea_nil) H12 (Ex.refl _) _ fun H13 e13 => ⟨q, sv, v1, rfl, hm12.ex e13, ok, fun be ab H14 e14 lb => ?_⟩)
    show tCut _ _ _ [some (.ref a), some (.ref p), some (vi i), some sv, some v1, some v2, some (vi k3), some (.ref be), y8, y9, y10, y11, none] H14
    have pu13 := pu12.ex e13
    have pu14 := pu13.ex e14
    have e124 := e13.trans e14
    have n6 := ok.2.n6
    have jf := jns_few (cs := lcs q q) n6
    replace jf : (jn q).length ≤ 203 := jf
    refine q_cut (M := fun σ H' => ∃ w2 m2 us2, m2 ≤ 4 ∧ Mdl K H' w2 m2 us2 ∧ MdlOk sg m2 us2 ∧ Off H14 H' p c ∧ (∃ t', Pur H' p c t' ∧ t' ≤ t11 + 2) ∧ σ = [some (.ref a), some (.ref p), some (vi i), some sv, some v1, some w2, some (vi k3), some (.ref be), y8, y9, y10, y11, none]) ?_ (fun σ H15 ⟨w2, m2, us2, m24, hM15, mok15, o15, ⟨t15, pu15, l15⟩, hσ⟩ => ?_)
    · refine do_if (et_test (ev_op (ev_var rfl) ev_c (rv_eq rfl)) H14 (Ex.refl _) _ fun I0 f0 => ?_)
      split
      · refine do_asg (do_cons (do_ev (v := sv) (ev_var rfl) fun I1 f1 => do_cons (do_ev (v := v1) (ev_var rfl) fun I2 f2 => do_cons (do_pickR (K := K) (R := JV (jn q) p c) (n := (jn q).length) (ev_var rfl) (pu14.ex ((f0.trans f1).trans f2)) (by omega) (ep_ev (ev_var rfl) fun H' e' => LsR.ex JV.ex (((f0.trans f1).trans f2).trans e') (lls_ls pu13 lb)) (jn_ne ok) (by omega) JV.off fun v I3 o3 pu3 hj => do_nil ?_))))
        obtain ⟨bb, L, ev, hb, jm, _⟩ := hj
        subst ev
        have oA : Off H14 I3 p c := (Off.of_ex ((f0.trans f1).trans f2)).trans o3
        have hmI : MA K I3 sv v1 q := ⟨(hm12.1.ex e124).et (oA.et pu14), (hm12.2.ex e124).et (oA.et pu14)⟩
        have qok := qarg_ok ok jm
        exact ⟨(q, L), ⟨⟨_, _, _, rfl, hmI, hb⟩, ok, jm⟩, fun r I4 f4 hr => ⟨r, _, _, Nat.le_trans (ups_len _ _) n14, hr, by have := qok.2; rw [← qs]; exact this, oA.trans (.of_ex f4), ⟨_, pu3.ex f4, by omega⟩, rfl⟩⟩
      · exact ⟨v2, k2 + 1, ts2, by omega, hM12.ex (e124.trans f0), mok2, .of_ex f0, ⟨_, pu14.ex f0, by omega⟩, rfl⟩
    · subst hσ
      have et15 : ET K H14 H15 := o15.et pu14
      have hm15 : MA K H15 sv v1 q := ⟨(hm12.1.ex e124).et et15, (hm12.2.ex e124).et et15⟩
      have lb15 : LLs H13 H15 be ab (jn q) := lls_offP pu13 lb o15
      have ok2 : MOk (sg, m2, us2) := ⟨sok, mok15⟩
      have hm2 : MA K H15 sv w2 (sg, m2, us2) := ⟨hm15.1 |> fun z => by rw [← qs]; exact z, hM15⟩
      have hS15 : Sig K H15 sv sg := hm2.1
      have m2n : 1 ≤ m2 := mok15.n1
      show tCut _ _ _ [some (.ref a), some (.ref p), some (vi i), some sv, some v1, some w2, some (vi k3), some (.ref be), y8, y9, y10, y11, none] H15
      refine q_cut (M := fun σ H' => ∃ w1 m1 us1 be' ab' HB y8', m1 ≤ 4 ∧ Mdl K H' w1 m1 us1 ∧ MdlOk sg m1 us1 ∧ Off H15 H' p c ∧ (∃ t', Pur H' p c t' ∧ t' ≤ t11 + 3) ∧ LLs HB H' be' ab' (jn (sg, m1, us1)) ∧ σ = [some (.ref a), some (.ref p), some (vi i), some sv, some w1, some w2, some (vi k3), some (.ref be'), y8', y9, y10, y11, none]) ?_ (fun σ H16 ⟨w1, m1, us1, be', ab', HB, y8', m14, hM16, mok16, o16, ⟨t16, pu16, l16⟩, lb16, hσ⟩ => ?_)
      · refine do_if (et_test (ev_op (ev_var rfl) ev_c (rv_eq rfl)) H15 (Ex.refl _) _ fun I0 f0 => ?_)
        split
        · refine do_set (lc_src (ea_cons (ev_var rfl) (ea_cons (ev_var rfl) ea_nil) I0 (Ex.refl _) _ fun I1 f1 => ⟨(sg, m2, us2), sv, w2, rfl, hm2.ex (f0.trans f1), ok2, fun af asf I2 f2 lf => ?_⟩))
          have f01 := f0.trans f1
          have puI1 := pu15.ex f01
          have cf := clsd_few ok2
          refine do_lcFit (K := K) (f := fun S => !decide (S = [])) ev_c lf f2 (by omega) (fun _ => rfl) (fun _ => rfl) (fun b ns I3 f3 hns hb => et_test (ev_neLN (K := K) (xs := ns) (ys := []) (ev_var rfl) (sq_of hb) (el_lst ea_nil (Nat.zero_le _)) (clsd_gd ok2 ns hns).1 (fun k hk => by cases hk) (clsd_gd ok2 ns hns).2 (by decide))) (fun l bs I3 f3 sl l2 => ?_)
          have f02 := f01.trans f2
          have f03 := f02.trans f3
          show tSeq _ _ _ [some (.ref a), some (.ref p), some (vi i), some sv, some v1, some w2, some (vi k3), some (.ref be), some (.ref l), y9, y10, y11, none] I3
          have cfl := List.length_filter_le (fun S => !decide (S = [])) (clsd (sg, m2, us2))
          refine do_set (do_cons (do_ev (v := sv) (ev_var rfl) fun I4 f4 => do_cons (do_ev (v := w2) (ev_var rfl) fun I5 f5 => do_cons (do_pickR (K := K) (R := JV ((clsd (sg, m2, us2)).filter fun S => !decide (S = [])) p c) (n := ((clsd (sg, m2, us2)).filter fun S => !decide (S = [])).length) (ev_var rfl) (pu15.ex ((f03.trans f4).trans f5)) (by omega) (ep_ev (ev_var rfl) fun H' e' => LsR.ex JV.ex ((f4.trans f5).trans e') (lls_ls puI1 l2)) (clsd_ne ok2) (by omega) JV.off fun v I6 o6 pu6 hj => do_nil ?_))))
          obtain ⟨bb, S, ev, hb, sm, _⟩ := hj
          subst ev
          obtain ⟨cm, hne⟩ := List.mem_filter.mp sm
          have ne : S ≠ [] := fun zz => by
            rw [zz, decide_eq_true rfl] at hne
            cases hne
          have oA : Off H15 I6 p c := (Off.of_ex ((f03.trans f4).trans f5)).trans o6
          have hmI : MA K I6 sv w2 (sg, m2, us2) := ⟨hm2.1.et (oA.et pu15), hm2.2.et (oA.et pu15)⟩
          have pok := parg_ok ok2 cm ne
          have up := (clsd_mem.mp cm).1
          have uf := upFew up
          refine ⟨((sg, m2, us2), S), ⟨⟨_, _, _, rfl, hmI, hb⟩, ok2, up, (clsd_mem.mp cm).2, ne⟩, fun r I7 f7 hr => ?_⟩
          replace hr : Mdl K I7 r S.length (prt (sg, m2, us2) S) := hr
          show tAsg _ _ _ [some (.ref a), some (.ref p), some (vi i), some sv, some r, some w2, some (vi k3), some (.ref be), some (.ref l), y9, y10, y11, none] I7
          refine do_asg (ea_cons (ev_var rfl) (ea_cons (ev_var rfl) ea_nil) I7 (Ex.refl _) _ fun I8 f8 => ⟨parg (sg, m2, us2) S, sv, r, rfl, ⟨hmI.1.ex (f7.trans f8), hr.ex f8⟩, pok, fun b2 as2 I9 f9 l3 => ?_⟩)
          exact ⟨r, S.length, prt (sg, m2, us2) S, b2, as2, I8, _, by have : S.length ≤ m2 := uf; omega, hr.ex (f8.trans f9), pok.2, oA.trans (.of_ex ((f7.trans f8).trans f9)), ⟨_, pu6.ex ((f7.trans f8).trans f9), by omega⟩, l3, rfl⟩
        · exact ⟨v1, k1 + 1, ts1, be, ab, H13, _, by omega, by have := hm15.2.ex f0; rw [hq] at this; exact this, mok1, .of_ex f0, ⟨_, pu15.ex f0, by omega⟩, by rw [← hq]; exact lb15.ex f0, rfl⟩
      · subst hσ
        have et16 : ET K H15 H16 := o16.et pu15
        have hS16 : Sig K H16 sv sg := hS15.et et16
        have hw16 : Mdl K H16 w2 m2 us2 := hM15.et et16
        have ok1 : MOk (sg, m1, us1) := ⟨sok, mok16⟩
        have hm1 : MA K H16 sv w1 (sg, m1, us1) := ⟨hS16, hM16⟩
        show tSeq _ _ _ [some (.ref a), some (.ref p), some (vi i), some sv, some w1, some w2, some (vi k3), some (.ref be'), y8', y9, y10, y11, none] H16
        refine do_set (ea_cons (ev_var rfl) (ea_cons (ev_var rfl) ea_nil) H16 (Ex.refl _) _ fun H17 e17 => ⟨(sg, m2, us2), sv, w2, rfl, ⟨hS16.ex e17, hw16.ex e17⟩, ok2, fun bl al H18 e18 ll => ?_⟩)
        have e168 := e17.trans e18
        show tSeq _ _ _ [some (.ref a), some (.ref p), some (vi i), some sv, some w1, some w2, some (vi k3), some (.ref be'), y8', some (.ref bl), y10, y11, none] H18
        refine do_set (ea_cons (ev_var rfl) (ea_cons (ev_var rfl) (ea_cons (ev_var rfl) ea_nil)) H18 (Ex.refl _) _ fun H19 e19 => ⟨(sg, m1, us1), (sg, m2, us2), sv, w1, w2, rfl, hm1.ex (e168.trans e19), hw16.ex (e168.trans e19), ok1, ok2, rfl, fun k hk => Nat.le_trans (lvl_few (p := (sg, m1, us1)) (p2 := (sg, m2, us2)) m14 m24 k (Nat.le_of_lt hk)) (by decide), fun td ad H20 e20 lt20 => ?_⟩)
        have e160 := (e168.trans e19).trans e20
        show tSeq _ _ _ [some (.ref a), some (.ref p), some (vi i), some sv, some w1, some w2, some (vi k3), some (.ref be'), y8', some (.ref bl), some (.ref td), y11, none] H20
        have fl := lvl_few (p := (sg, m1, us1)) (p2 := (sg, m2, us2)) m14 m24 m1 (Nat.le_refl _)
        have ladd := lt20.len
        have c1 := @cutV_len (ad.map V.ref) none (some 20)
        have c2 := @cutV_len (ad.map V.ref) (some 20) none
        have c3 := @cutV_len (cutV (ad.map V.ref) (some 20) none) (some (-20)) none
        rw [List.length_map] at c1 c2
        refine q_forLs (do_evL (el_cat (el_sl (K := K) (a := td) (xs := ad.map V.ref) (ev_var rfl) eo_none (eo_some (i := 20) ev_c) (sq_of lt20.at_)) (el_slL (K := K) (el_sl (K := K) (a := td) (xs := ad.map V.ref) (ev_var rfl) (eo_some (i := 20) ev_c) eo_none (sq_of lt20.at_)) (eo_some (i := -20) (ev_mN 20)) eo_none) (by
          have fl' : (lvl m2 (lcs (sg, m1, us1) (sg, m2, us2)) m1).length ≤ 256 := fl
          have ladd' : ad.length = (lvl m2 (lcs (sg, m1, us1) (sg, m2, us2)) m1).length := ladd
          omega)) fun l H21 nl e21 hl => ⟨l, rfl, ⟨_, sq_of hl⟩, ?_⟩)
        have e161 := e160.trans e21
        refine qloops_list (K := K) (xs := cutV (ad.map V.ref) none (some 20) ++ cutV (cutV (ad.map V.ref) (some 20) none) (some (-20)) none) (fun k σ H' => Ex H21 H' ∧ ∃ y11, σ = [some (.ref a), some (.ref p), some (vi i), some sv, some w1, some w2, some (vi k3), some (.ref be'), y8', some (.ref bl), some (.ref td), y11, none]) ⟨Ex.refl _, _, rfl⟩ (fun k σ' H' _ ⟨e, _⟩ => sq_of (e _ _ hl)) (fun k x σ' H22 hx ⟨e22, z11, hσ⟩ => ?_) (fun σ' H22 ⟨e22, z11, hσ⟩ => ?_)
        · subst hσ
          have xm : x ∈ ad.map V.ref := by
            rcases List.mem_append.mp (List.mem_iff_getElem?.mpr ⟨k, hx⟩) with zz | zz
            · exact cutV_mem zz
            · exact cutV_mem (cutV_mem zz)
          obtain ⟨bb, hbm, rfl⟩ := List.mem_map.mp xm
          obtain ⟨F, hF, hb, _⟩ := lt20.some hbm
          have lead := lvl_lead (p := (sg, m1, us1)) (p2 := (sg, m2, us2)) ok1 ok2 rfl hF
          have e162 := e161.trans e22
          refine s_when (b := false) (et_is (et_not (et_val (ev_callV (v := .bl true) ((sg, m1, us1), (sg, m2, us2), F) (ea_cons (ev_var rfl) (ea_cons (ev_var rfl) (ea_cons (ev_var rfl) (ea_cons (ev_var rfl) (ea_cons (ev_var rfl) (ea_cons (ev_var rfl) ea_nil)))))) (fun H' e' => ⟨⟨_, _, _, _, _, _, rfl, hm1.ex (e162.trans e'), hw16.ex (e162.trans e'), ((e21.trans e22).trans e') _ _ hb, ⟨_, _, lb16.ex (e162.trans e')⟩, ⟨_, _, ll.ex ((((e19.trans e20).trans e21).trans e22).trans e')⟩⟩, lead⟩) (fun _ _ zz => zz)))) rfl) (fun hb => by cases hb) (fun _ H23 e23 => ⟨e22.trans e23, _, rfl⟩)
        · subst hσ
          have e162 := e161.trans e22
          refine s_when (b := false) (et_is (et_not (et_val (ev_callV (v := .bl true) (sg, m1, us1) (ea_cons (ev_var rfl) (ea_cons (ev_var rfl) ea_nil)) (fun H' e' => ⟨⟨_, _, rfl, hm1.ex (e162.trans e')⟩, ok1⟩) (fun _ _ zz => zz)))) rfl) (fun hb => by cases hb) (fun _ H23 e23 => ⟨⟨_, pu16.ex (e162.trans e23), by omega⟩, _, _, _, _, _, _, _, _, _, _, rfl⟩)
  · obtain ⟨_, y2, y3, y4, y5, y6, y7, y8, y9, y10, y11, hσ⟩ := tn
    subst hσ
    exact s_ret ev_c fun _ _ => rfl
end
end K76
end
section
namespace K76
open PySem PySem.Spec PyProof.Rows L2 Evl RZ Dw M20
section
variable {K : PySem.W.Frag} {h : Heap} {mg : Str → Option Value}
/-- a def by what the top has written -/
structure Wr (K : PySem.W.Frag) (x : Str) (st : Stmt) (f : Addr) : Prop where
  ex : ∃ (fd : FuncData), Fun K x x st f fd
  at_ : PySem.W.nsIn K mainGlobals x = some (some (.ref f))
theorem wr_mk {x : Str} {st : Stmt} {f : Addr} {od an : Option Addr} {sl : Array (Option Value)} {oc kV dc pm cd ct : Value} (a1 : PySem.W.nsIn K mainGlobals x = some (some (.ref f)))
    (l1 : K.lookup f = some ⟨oc, od, .func (PySem.W.fnOf x x (defArgs st) (defBody st) (defScope st) .none kV dc pm an cd ct), sl⟩) (c1 : PySem.W.codeIn K cd x = true) (k1 : PySem.W.keepIn K (.ref f) = true) : Wr K x st f := ⟨⟨_, fun_mk l1 c1 k1⟩, a1⟩
theorem Wr.df {x : Str} {st : Stmt} {f : Addr} {ps : List Str} (W : Wr K x st f) (X : K.In h) (G : h.Ns mainGlobals mg) (b : ∀ fd, Fun K x x st f fd → Binds K fd ps []) : Df K mg x st ps := by
  obtain ⟨fd, F⟩ := W.ex
  exact ⟨f, fd, F, PySem.W.mg_of X G W.at_, b fd F⟩
/-- a def by another name -/
structure WrQ (K : PySem.W.Frag) (x y : Str) (st : Stmt) (f : Addr) : Prop where
  ex : ∃ (fd : FuncData), Fun K y y st f fd
  at_ : PySem.W.nsIn K mainGlobals x = some (some (.ref f))
theorem wrq_mk {x y : Str} {st : Stmt} {f : Addr} {od an : Option Addr} {sl : Array (Option Value)} {oc kV dc pm cd ct : Value} (a1 : PySem.W.nsIn K mainGlobals x = some (some (.ref f)))
    (l1 : K.lookup f = some ⟨oc, od, .func (PySem.W.fnOf y y (defArgs st) (defBody st) (defScope st) .none kV dc pm an cd ct), sl⟩) (c1 : PySem.W.codeIn K cd y = true) (k1 : PySem.W.keepIn K (.ref f) = true) : WrQ K x y st f := ⟨⟨_, fun_mk l1 c1 k1⟩, a1⟩
theorem WrQ.df {x y : Str} {st : Stmt} {f : Addr} {ps : List Str} (W : WrQ K x y st f) (X : K.In h) (G : h.Ns mainGlobals mg) (b : ∀ fd, Fun K y y st f fd → Binds K fd ps []) : DfQ K mg x y st ps := by
  obtain ⟨fd, F⟩ := W.ex
  exact ⟨f, fd, F, PySem.W.mg_of X G W.at_, b fd F⟩
end

theorem all_mk {P : Program} {w : World} {K : PySem.W.Frag} {h : Heap} {mg : Str → Option Value} {fa : Addr} (X : K.In h) (G : h.Ns mainGlobals mg) (hfa : mg "law" = some (.ref fa)) (room : Room 11 callerA)
    {fl : Addr} {f0 : Addr} {f1 : Addr} {f2 : Addr} {f3 : Addr} {f4 : Addr} {f5 : Addr} {f6 : Addr} {f7 : Addr} {f8 : Addr} {f9 : Addr} {f10 : Addr} {f11 : Addr} {f12 : Addr} {f13 : Addr} {f14 : Addr} {f15 : Addr} {f16 : Addr} {f17 : Addr} {f18 : Addr} {f19 : Addr} {f20 : Addr} {f21 : Addr} {f22 : Addr} {f23 : Addr} {f24 : Addr} {f25 : Addr} {f26 : Addr} {f27 : Addr} {f28 : Addr} {f29 : Addr} {f30 : Addr} {f31 : Addr} {f32 : Addr} {f33 : Addr} {f34 : Addr} {f35 : Addr} {f36 : Addr} {f37 : Addr} {f38 : Addr} {f39 : Addr} {f40 : Addr} {f41 : Addr} {f42 : Addr} {f43 : Addr} {f44 : Addr} {f45 : Addr} {f46 : Addr} {f47 : Addr} {f48 : Addr} {f49 : Addr} {f50 : Addr} {f51 : Addr} {f52 : Addr} {f53 : Addr} {f54 : Addr} {f55 : Addr} {f56 : Addr} {f57 : Addr} {f58 : Addr}
    {t_NAME_LETTERS : Tok} {t_MOST_NAME : Tok} {t_MOST_DEEDS : Tok} {t_MOST_PLACES : Tok} {t_MOST_SIZE : Tok}
    (w0 : Wr K "_law_purse" s_purse f0)
    (w1 : Wr K "_law_draw" s_draw f1)
    (w2 : Wr K "_law_pick" s_pick f2)
    (w3 : Wr K "_law_signature" s_signature f3)
    (w4 : Wr K "_law_ways" s_ways f4)
    (w5 : Wr K "_law_table" s_table f5)
    (w6 : Wr K "_law_model" s_mdl f6)
    (w7 : Wr K "is_name" s_is_name f7)
    (w8 : Wr K "is_whole" s_is_whole f8)
    (w9 : Wr K "is_below" s_is_below f9)
    (w10 : Wr K "is_deed" s_is_deed f10)
    (w11 : Wr K "signature_wrong" s_signature_wrong f11)
    (w12 : Wr K "need_signature" s_need_signature f12)
    (w13 : Wr K "is_size" s_is_size f13)
    (w14 : Wr K "power" s_power f14)
    (w15 : WrQ K "first_odd_cell_models" "first_odd_cell" s_first_odd_cell f15)
    (w16 : Wr K "model_wrong" s_model_wrong f16)
    (w17 : Wr K "need_model" s_need_model f17)
    (w18 : Wr K "all_partings" s_all_partings f18)
    (w19 : Wr K "table_of" s_table_of f19)
    (w20 : Wr K "rows_below" s_rows_below f20)
    (w21 : Wr K "cells_with_worths" s_cells_with_worths f21)
    (w22 : Wr K "place_of_row" s_place_of_row f22)
    (w23 : Wr K "with_arg" s_with_arg f23)
    (w24 : Wr K "goes_with_deeds" s_goes_with_deeds f24)
    (w25 : Wr K "joins_of" s_joins_of f25)
    (w26 : Wr K "joins" s_joins f26)
    (w27 : Wr K "is_row" s_is_row f27)
    (w28 : Wr K "is_join" s_is_join f28)
    (w29 : Wr K "place_of_row" s_place_of_row f29)
    (w30 : Wr K "quotient" s_quotient f30)
    (w31 : Wr K "rising_lists" s_rising_lists f31)
    (w32 : Wr K "is_among" s_is_among f32)
    (w33 : Wr K "has_worths" s_has_worths f33)
    (w34 : Wr K "closed_lists" s_closed_lists f34)
    (w35 : Wr K "is_closed" s_is_closed f35)
    (w36 : Wr K "part_of" s_part_of f36)
    (w37 : Wr K "part" s_part f37)
    (w38 : Wr K "need_two_models" s_need_two_models f38)
    (w39 : Wr K "cells_by_greatest" s_cells_by_greatest f39)
    (w40 : Wr K "leads_on" s_leads_on f40)
    (w41 : Wr K "leads" s_leads f41)
    (w42 : Wr K "is_whole" s_is_whole f42)
    (w43 : Wr K "is_below" s_is_below f43)
    (w44 : Wr K "is_row" s_is_row f44)
    (w45 : Wr K "has_lead_form" s_has_lead_form f45)
    (w46 : Wr K "cells_in_order" s_cells_in_order f46)
    (w47 : WrQ K "first_odd_cell_leads" "first_odd_cell" s_first_odd_lead f47)
    (w48 : Wr K "lead_wrong" s_lead_wrong f48)
    (w49 : Wr K "image" s_image f49)
    (w50 : Wr K "are_unlike_below" s_are_unlike_below f50)
    (w51 : Wr K "is_order" s_is_order f51)
    (w52 : Wr K "turned_back" s_turned_back f52)
    (w53 : Wr K "renamed_table" s_renamed_table f53)
    (w54 : Wr K "renamed_tables" s_renamed_tables f54)
    (w55 : Wr K "renamed" s_renamed f55)
    (w56 : Wr K "_law_right" s_right f56)
    (w57 : Wr K "lead_judged" s_lead_judged f57)
    (w58 : Wr K "_law_of_one" s_of_one f58)
    (wl : Wr K "law" s_law fl)
    (z_abs : PySem.W.nsIn K mainGlobals "abs" = some none)
    (z_all : PySem.W.nsIn K mainGlobals "all" = some none)
    (z_bool : PySem.W.nsIn K mainGlobals "bool" = some none)
    (z_enumerate : PySem.W.nsIn K mainGlobals "enumerate" = some none)
    (z_int : PySem.W.nsIn K mainGlobals "int" = some none)
    (z_isinstance : PySem.W.nsIn K mainGlobals "isinstance" = some none)
    (z_len : PySem.W.nsIn K mainGlobals "len" = some none)
    (z_list : PySem.W.nsIn K mainGlobals "list" = some none)
    (z_max : PySem.W.nsIn K mainGlobals "max" = some none)
    (z_min : PySem.W.nsIn K mainGlobals "min" = some none)
    (z_range : PySem.W.nsIn K mainGlobals "range" = some none)
    (z_set : PySem.W.nsIn K mainGlobals "set" = some none)
    (z_sorted : PySem.W.nsIn K mainGlobals "sorted" = some none)
    (z_str : PySem.W.nsIn K mainGlobals "str" = some none)
    (z_sum : PySem.W.nsIn K mainGlobals "sum" = some none)
    (z_tuple : PySem.W.nsIn K mainGlobals "tuple" = some none)
    (z_zip : PySem.W.nsIn K mainGlobals "zip" = some none)
    (z_repr : PySem.W.nsIn K mainGlobals "repr" = some none)
    (k_NAME_LETTERS : PySem.W.nsIn K mainGlobals "NAME_LETTERS" = some (some (.str "abcdefghijklmnopqrst" t_NAME_LETTERS)))
    (k_MOST_NAME : PySem.W.nsIn K mainGlobals "MOST_NAME" = some (some (.int 4 t_MOST_NAME)))
    (k_MOST_DEEDS : PySem.W.nsIn K mainGlobals "MOST_DEEDS" = some (some (.int 4 t_MOST_DEEDS)))
    (k_MOST_PLACES : PySem.W.nsIn K mainGlobals "MOST_PLACES" = some (some (.int 2 t_MOST_PLACES)))
    (k_MOST_SIZE : PySem.W.nsIn K mainGlobals "MOST_SIZE" = some (some (.int 6 t_MOST_SIZE))) :
    ∃ (fd : FuncData) (st : Stmt) (N : List Str), Fun K "law" "law" st fa fd ∧ FnScope N ["_law_script"] (defScope st) ∧ (∀ (s : Shared) (u : Value), BindsTo s fd ⟨[u], []⟩ [("_law_script", u)]) ∧
      ∀ (base : Heap) (s : Shared) (H : Hp) (cdv : Value) (a : Addr) (ns : List Int), K.In base → base.Ns mainGlobals mg → ns.length ≤ 63 → SqL K H a (ns.map V.int) →
        ∃ t, PSs (cxOf CX0 P w K mg base N "law" (defScope st) fa cdv callerA [] s H E0).nox (defBody st) t ∧ t { nx := fun _ _ => False, rt := fun v _ => v = .bl true } (L2.start N [.ref a]) H := by
  have e := hfa.symm.trans (PySem.W.mg_of X G wl.at_)
  cases e
  have T : Txt mg := {
    z_abs := PySem.W.mg_none_of X G z_abs
    z_all := PySem.W.mg_none_of X G z_all
    z_bool := PySem.W.mg_none_of X G z_bool
    z_enumerate := PySem.W.mg_none_of X G z_enumerate
    z_int := PySem.W.mg_none_of X G z_int
    z_isinstance := PySem.W.mg_none_of X G z_isinstance
    z_len := PySem.W.mg_none_of X G z_len
    z_list := PySem.W.mg_none_of X G z_list
    z_max := PySem.W.mg_none_of X G z_max
    z_min := PySem.W.mg_none_of X G z_min
    z_range := PySem.W.mg_none_of X G z_range
    z_set := PySem.W.mg_none_of X G z_set
    z_sorted := PySem.W.mg_none_of X G z_sorted
    z_str := PySem.W.mg_none_of X G z_str
    z_sum := PySem.W.mg_none_of X G z_sum
    z_tuple := PySem.W.mg_none_of X G z_tuple
    z_zip := PySem.W.mg_none_of X G z_zip
    z_repr := PySem.W.mg_none_of X G z_repr
    c_NAME_LETTERS := ⟨_, PySem.W.mg_of X G k_NAME_LETTERS⟩
    c_MOST_NAME := ⟨_, PySem.W.mg_of X G k_MOST_NAME⟩
    c_MOST_DEEDS := ⟨_, PySem.W.mg_of X G k_MOST_DEEDS⟩
    c_MOST_PLACES := ⟨_, PySem.W.mg_of X G k_MOST_PLACES⟩
    c_MOST_SIZE := ⟨_, PySem.W.mg_of X G k_MOST_SIZE⟩ }
  have D0 : Df K mg "_law_purse" s_purse ["_law_script"] := w0.df X G fun fd F => by
    obtain ⟨oc, od, kV, doc, pm, an, cdv, ct, osl, e, _⟩ := F.ex
    subst e
    exact F.binds fun _ _ _ _ _ _ us hl => match us, hl with | [_], _ => rfl
  have D1 : Df K mg "_law_draw" s_draw ["_law_purse_here", "_law_out_of"] := w1.df X G fun fd F => by
    obtain ⟨oc, od, kV, doc, pm, an, cdv, ct, osl, e, _⟩ := F.ex
    subst e
    exact F.binds fun _ _ _ _ _ _ us hl => match us, hl with | [_, _], _ => rfl
  have D2 : Df K mg "_law_pick" s_pick ["_law_purse_here", "_law_some"] := w2.df X G fun fd F => by
    obtain ⟨oc, od, kV, doc, pm, an, cdv, ct, osl, e, _⟩ := F.ex
    subst e
    exact F.binds fun _ _ _ _ _ _ us hl => match us, hl with | [_, _], _ => rfl
  have D3 : Df K mg "_law_signature" s_signature ["_law_purse_here"] := w3.df X G fun fd F => by
    obtain ⟨oc, od, kV, doc, pm, an, cdv, ct, osl, e, _⟩ := F.ex
    subst e
    exact F.binds fun _ _ _ _ _ _ us hl => match us, hl with | [_], _ => rfl
  have D4 : Df K mg "_law_ways" s_ways ["_law_many", "_law_size"] := w4.df X G fun fd F => by
    obtain ⟨oc, od, kV, doc, pm, an, cdv, ct, osl, e, _⟩ := F.ex
    subst e
    exact F.binds fun _ _ _ _ _ _ us hl => match us, hl with | [_, _], _ => rfl
  have D5 : Df K mg "_law_table" s_table ["_law_purse_here", "_law_many", "_law_size"] := w5.df X G fun fd F => by
    obtain ⟨oc, od, kV, doc, pm, an, cdv, ct, osl, e, _⟩ := F.ex
    subst e
    exact F.binds fun _ _ _ _ _ _ us hl => match us, hl with | [_, _, _], _ => rfl
  have D6 : Df K mg "_law_model" s_mdl ["_law_purse_here", "_law_signature_here", "_law_size"] := w6.df X G fun fd F => by
    obtain ⟨oc, od, kV, doc, pm, an, cdv, ct, osl, e, _⟩ := F.ex
    subst e
    exact F.binds fun _ _ _ _ _ _ us hl => match us, hl with | [_, _, _], _ => rfl
  have D7 : Df K mg "is_name" s_is_name ["thing"] := w7.df X G fun fd F => by
    obtain ⟨oc, od, kV, doc, pm, an, cdv, ct, osl, e, _⟩ := F.ex
    subst e
    exact F.binds fun _ _ _ _ _ _ us hl => match us, hl with | [_], _ => rfl
  have D8 : Df K mg "is_whole" s_is_whole ["thing"] := w8.df X G fun fd F => by
    obtain ⟨oc, od, kV, doc, pm, an, cdv, ct, osl, e, _⟩ := F.ex
    subst e
    exact F.binds fun _ _ _ _ _ _ us hl => match us, hl with | [_], _ => rfl
  have D9 : Df K mg "is_below" s_is_below ["thing", "size"] := w9.df X G fun fd F => by
    obtain ⟨oc, od, kV, doc, pm, an, cdv, ct, osl, e, _⟩ := F.ex
    subst e
    exact F.binds fun _ _ _ _ _ _ us hl => match us, hl with | [_, _], _ => rfl
  have D10 : Df K mg "is_deed" s_is_deed ["thing"] := w10.df X G fun fd F => by
    obtain ⟨oc, od, kV, doc, pm, an, cdv, ct, osl, e, _⟩ := F.ex
    subst e
    exact F.binds fun _ _ _ _ _ _ us hl => match us, hl with | [_], _ => rfl
  have D11 : Df K mg "signature_wrong" s_signature_wrong ["thing"] := w11.df X G fun fd F => by
    obtain ⟨oc, od, kV, doc, pm, an, cdv, ct, osl, e, _⟩ := F.ex
    subst e
    exact F.binds fun _ _ _ _ _ _ us hl => match us, hl with | [_], _ => rfl
  have D12 : Df K mg "need_signature" s_need_signature ["signature"] := w12.df X G fun fd F => by
    obtain ⟨oc, od, kV, doc, pm, an, cdv, ct, osl, e, _⟩ := F.ex
    subst e
    exact F.binds fun _ _ _ _ _ _ us hl => match us, hl with | [_], _ => rfl
  have D13 : Df K mg "is_size" s_is_size ["thing"] := w13.df X G fun fd F => by
    obtain ⟨oc, od, kV, doc, pm, an, cdv, ct, osl, e, _⟩ := F.ex
    subst e
    exact F.binds fun _ _ _ _ _ _ us hl => match us, hl with | [_], _ => rfl
  have D14 : Df K mg "power" s_power ["base", "many"] := w14.df X G fun fd F => by
    obtain ⟨oc, od, kV, doc, pm, an, cdv, ct, osl, e, _⟩ := F.ex
    subst e
    exact F.binds fun _ _ _ _ _ _ us hl => match us, hl with | [_, _], _ => rfl
  have D15 : DfQ K mg "first_odd_cell_models" "first_odd_cell" s_first_odd_cell ["size", "tables"] := w15.df X G fun fd F => by
    obtain ⟨oc, od, kV, doc, pm, an, cdv, ct, osl, e, _⟩ := F.ex
    subst e
    exact F.binds fun _ _ _ _ _ _ us hl => match us, hl with | [_, _], _ => rfl
  have D16 : Df K mg "model_wrong" s_model_wrong ["signature", "thing"] := w16.df X G fun fd F => by
    obtain ⟨oc, od, kV, doc, pm, an, cdv, ct, osl, e, _⟩ := F.ex
    subst e
    exact F.binds fun _ _ _ _ _ _ us hl => match us, hl with | [_, _], _ => rfl
  have D17 : Df K mg "need_model" s_need_model ["signature", "model"] := w17.df X G fun fd F => by
    obtain ⟨oc, od, kV, doc, pm, an, cdv, ct, osl, e, _⟩ := F.ex
    subst e
    exact F.binds fun _ _ _ _ _ _ us hl => match us, hl with | [_, _], _ => rfl
  have D18 : Df K mg "all_partings" s_all_partings ["size"] := w18.df X G fun fd F => by
    obtain ⟨oc, od, kV, doc, pm, an, cdv, ct, osl, e, _⟩ := F.ex
    subst e
    exact F.binds fun _ _ _ _ _ _ us hl => match us, hl with | [_], _ => rfl
  have D19 : Df K mg "table_of" s_table_of ["signature", "tables", "name"] := w19.df X G fun fd F => by
    obtain ⟨oc, od, kV, doc, pm, an, cdv, ct, osl, e, _⟩ := F.ex
    subst e
    exact F.binds fun _ _ _ _ _ _ us hl => match us, hl with | [_, _, _], _ => rfl
  have D20 : Df K mg "rows_below" s_rows_below ["size", "many"] := w20.df X G fun fd F => by
    obtain ⟨oc, od, kV, doc, pm, an, cdv, ct, osl, e, _⟩ := F.ex
    subst e
    exact F.binds fun _ _ _ _ _ _ us hl => match us, hl with | [_, _], _ => rfl
  have D21 : Df K mg "cells_with_worths" s_cells_with_worths ["signature", "model"] := w21.df X G fun fd F => by
    obtain ⟨oc, od, kV, doc, pm, an, cdv, ct, osl, e, _⟩ := F.ex
    subst e
    exact F.binds fun _ _ _ _ _ _ us hl => match us, hl with | [_, _], _ => rfl
  have D22 : Df K mg "place_of_row" s_place_of_row ["size", "row"] := w22.df X G fun fd F => by
    obtain ⟨oc, od, kV, doc, pm, an, cdv, ct, osl, e, _⟩ := F.ex
    subst e
    exact F.binds fun _ _ _ _ _ _ us hl => match us, hl with | [_, _], _ => rfl
  have D23 : Df K mg "with_arg" s_with_arg ["args", "at", "other"] := w23.df X G fun fd F => by
    obtain ⟨oc, od, kV, doc, pm, an, cdv, ct, osl, e, _⟩ := F.ex
    subst e
    exact F.binds fun _ _ _ _ _ _ us hl => match us, hl with | [_, _, _], _ => rfl
  have D24 : Df K mg "goes_with_deeds" s_goes_with_deeds ["signature", "model", "lots"] := w24.df X G fun fd F => by
    obtain ⟨oc, od, kV, doc, pm, an, cdv, ct, osl, e, _⟩ := F.ex
    subst e
    exact F.binds fun _ _ _ _ _ _ us hl => match us, hl with | [_, _, _], _ => rfl
  have D25 : Df K mg "joins_of" s_joins_of ["signature", "model"] := w25.df X G fun fd F => by
    obtain ⟨oc, od, kV, doc, pm, an, cdv, ct, osl, e, _⟩ := F.ex
    subst e
    exact F.binds fun _ _ _ _ _ _ us hl => match us, hl with | [_, _], _ => rfl
  have D26 : Df K mg "joins" s_joins ["signature", "model"] := w26.df X G fun fd F => by
    obtain ⟨oc, od, kV, doc, pm, an, cdv, ct, osl, e, _⟩ := F.ex
    subst e
    exact F.binds fun _ _ _ _ _ _ us hl => match us, hl with | [_, _], _ => rfl
  have D27 : Df K mg "is_row" s_is_row ["thing", "many", "size"] := w27.df X G fun fd F => by
    obtain ⟨oc, od, kV, doc, pm, an, cdv, ct, osl, e, _⟩ := F.ex
    subst e
    exact F.binds fun _ _ _ _ _ _ us hl => match us, hl with | [_, _, _], _ => rfl
  have D28 : Df K mg "is_join" s_is_join ["signature", "model", "thing"] := w28.df X G fun fd F => by
    obtain ⟨oc, od, kV, doc, pm, an, cdv, ct, osl, e, _⟩ := F.ex
    subst e
    exact F.binds fun _ _ _ _ _ _ us hl => match us, hl with | [_, _, _], _ => rfl
  have D29 : Df K mg "place_of_row" s_place_of_row ["size", "row"] := w29.df X G fun fd F => by
    obtain ⟨oc, od, kV, doc, pm, an, cdv, ct, osl, e, _⟩ := F.ex
    subst e
    exact F.binds fun _ _ _ _ _ _ us hl => match us, hl with | [_, _], _ => rfl
  have D30 : Df K mg "quotient" s_quotient ["signature", "model", "join"] := w30.df X G fun fd F => by
    obtain ⟨oc, od, kV, doc, pm, an, cdv, ct, osl, e, _⟩ := F.ex
    subst e
    exact F.binds fun _ _ _ _ _ _ us hl => match us, hl with | [_, _, _], _ => rfl
  have D31 : Df K mg "rising_lists" s_rising_lists ["size"] := w31.df X G fun fd F => by
    obtain ⟨oc, od, kV, doc, pm, an, cdv, ct, osl, e, _⟩ := F.ex
    subst e
    exact F.binds fun _ _ _ _ _ _ us hl => match us, hl with | [_], _ => rfl
  have D32 : Df K mg "is_among" s_is_among ["args", "numbers"] := w32.df X G fun fd F => by
    obtain ⟨oc, od, kV, doc, pm, an, cdv, ct, osl, e, _⟩ := F.ex
    subst e
    exact F.binds fun _ _ _ _ _ _ us hl => match us, hl with | [_, _], _ => rfl
  have D33 : Df K mg "has_worths" s_has_worths ["signature", "model", "numbers"] := w33.df X G fun fd F => by
    obtain ⟨oc, od, kV, doc, pm, an, cdv, ct, osl, e, _⟩ := F.ex
    subst e
    exact F.binds fun _ _ _ _ _ _ us hl => match us, hl with | [_, _, _], _ => rfl
  have D34 : Df K mg "closed_lists" s_closed_lists ["signature", "model"] := w34.df X G fun fd F => by
    obtain ⟨oc, od, kV, doc, pm, an, cdv, ct, osl, e, _⟩ := F.ex
    subst e
    exact F.binds fun _ _ _ _ _ _ us hl => match us, hl with | [_, _], _ => rfl
  have D35 : Df K mg "is_closed" s_is_closed ["signature", "model", "thing"] := w35.df X G fun fd F => by
    obtain ⟨oc, od, kV, doc, pm, an, cdv, ct, osl, e, _⟩ := F.ex
    subst e
    exact F.binds fun _ _ _ _ _ _ us hl => match us, hl with | [_, _, _], _ => rfl
  have D36 : Df K mg "part_of" s_part_of ["signature", "model", "closed"] := w36.df X G fun fd F => by
    obtain ⟨oc, od, kV, doc, pm, an, cdv, ct, osl, e, _⟩ := F.ex
    subst e
    exact F.binds fun _ _ _ _ _ _ us hl => match us, hl with | [_, _, _], _ => rfl
  have D37 : Df K mg "part" s_part ["signature", "model", "closed"] := w37.df X G fun fd F => by
    obtain ⟨oc, od, kV, doc, pm, an, cdv, ct, osl, e, _⟩ := F.ex
    subst e
    exact F.binds fun _ _ _ _ _ _ us hl => match us, hl with | [_, _, _], _ => rfl
  have D38 : Df K mg "need_two_models" s_need_two_models ["signature", "one", "other"] := w38.df X G fun fd F => by
    obtain ⟨oc, od, kV, doc, pm, an, cdv, ct, osl, e, _⟩ := F.ex
    subst e
    exact F.binds fun _ _ _ _ _ _ us hl => match us, hl with | [_, _, _], _ => rfl
  have D39 : Df K mg "cells_by_greatest" s_cells_by_greatest ["signature", "one", "other"] := w39.df X G fun fd F => by
    obtain ⟨oc, od, kV, doc, pm, an, cdv, ct, osl, e, _⟩ := F.ex
    subst e
    exact F.binds fun _ _ _ _ _ _ us hl => match us, hl with | [_, _, _], _ => rfl
  have D40 : Df K mg "leads_on" s_leads_on ["cells", "size", "images"] := w40.df X G fun fd F => by
    obtain ⟨oc, od, kV, doc, pm, an, cdv, ct, osl, e, _⟩ := F.ex
    subst e
    exact F.binds fun _ _ _ _ _ _ us hl => match us, hl with | [_, _, _], _ => rfl
  have D41 : Df K mg "leads" s_leads ["signature", "one", "other"] := w41.df X G fun fd F => by
    obtain ⟨oc, od, kV, doc, pm, an, cdv, ct, osl, e, _⟩ := F.ex
    subst e
    exact F.binds fun _ _ _ _ _ _ us hl => match us, hl with | [_, _, _], _ => rfl
  have D42 : Df K mg "is_whole" s_is_whole ["thing"] := w42.df X G fun fd F => by
    obtain ⟨oc, od, kV, doc, pm, an, cdv, ct, osl, e, _⟩ := F.ex
    subst e
    exact F.binds fun _ _ _ _ _ _ us hl => match us, hl with | [_], _ => rfl
  have D43 : Df K mg "is_below" s_is_below ["thing", "size"] := w43.df X G fun fd F => by
    obtain ⟨oc, od, kV, doc, pm, an, cdv, ct, osl, e, _⟩ := F.ex
    subst e
    exact F.binds fun _ _ _ _ _ _ us hl => match us, hl with | [_, _], _ => rfl
  have D44 : Df K mg "is_row" s_is_row ["thing", "many", "size"] := w44.df X G fun fd F => by
    obtain ⟨oc, od, kV, doc, pm, an, cdv, ct, osl, e, _⟩ := F.ex
    subst e
    exact F.binds fun _ _ _ _ _ _ us hl => match us, hl with | [_, _, _], _ => rfl
  have D45 : Df K mg "has_lead_form" s_has_lead_form ["one", "other", "thing"] := w45.df X G fun fd F => by
    obtain ⟨oc, od, kV, doc, pm, an, cdv, ct, osl, e, _⟩ := F.ex
    subst e
    exact F.binds fun _ _ _ _ _ _ us hl => match us, hl with | [_, _, _], _ => rfl
  have D46 : Df K mg "cells_in_order" s_cells_in_order ["signature", "size"] := w46.df X G fun fd F => by
    obtain ⟨oc, od, kV, doc, pm, an, cdv, ct, osl, e, _⟩ := F.ex
    subst e
    exact F.binds fun _ _ _ _ _ _ us hl => match us, hl with | [_, _], _ => rfl
  have D47 : DfQ K mg "first_odd_cell_leads" "first_odd_cell" s_first_odd_lead ["signature", "one", "other", "images"] := w47.df X G fun fd F => by
    obtain ⟨oc, od, kV, doc, pm, an, cdv, ct, osl, e, _⟩ := F.ex
    subst e
    exact F.binds fun _ _ _ _ _ _ us hl => match us, hl with | [_, _, _, _], _ => rfl
  have D48 : Df K mg "lead_wrong" s_lead_wrong ["signature", "one", "other", "thing"] := w48.df X G fun fd F => by
    obtain ⟨oc, od, kV, doc, pm, an, cdv, ct, osl, e, _⟩ := F.ex
    subst e
    exact F.binds fun _ _ _ _ _ _ us hl => match us, hl with | [_, _, _, _], _ => rfl
  have D49 : Df K mg "image" s_image ["signature", "one", "other", "lead"] := w49.df X G fun fd F => by
    obtain ⟨oc, od, kV, doc, pm, an, cdv, ct, osl, e, _⟩ := F.ex
    subst e
    exact F.binds fun _ _ _ _ _ _ us hl => match us, hl with | [_, _, _, _], _ => rfl
  have D50 : Df K mg "are_unlike_below" s_are_unlike_below ["things", "size"] := w50.df X G fun fd F => by
    obtain ⟨oc, od, kV, doc, pm, an, cdv, ct, osl, e, _⟩ := F.ex
    subst e
    exact F.binds fun _ _ _ _ _ _ us hl => match us, hl with | [_, _], _ => rfl
  have D51 : Df K mg "is_order" s_is_order ["thing", "size"] := w51.df X G fun fd F => by
    obtain ⟨oc, od, kV, doc, pm, an, cdv, ct, osl, e, _⟩ := F.ex
    subst e
    exact F.binds fun _ _ _ _ _ _ us hl => match us, hl with | [_, _], _ => rfl
  have D52 : Df K mg "turned_back" s_turned_back ["order"] := w52.df X G fun fd F => by
    obtain ⟨oc, od, kV, doc, pm, an, cdv, ct, osl, e, _⟩ := F.ex
    subst e
    exact F.binds fun _ _ _ _ _ _ us hl => match us, hl with | [_], _ => rfl
  have D53 : Df K mg "renamed_table" s_renamed_table ["size", "places", "table", "order"] := w53.df X G fun fd F => by
    obtain ⟨oc, od, kV, doc, pm, an, cdv, ct, osl, e, _⟩ := F.ex
    subst e
    exact F.binds fun _ _ _ _ _ _ us hl => match us, hl with | [_, _, _, _], _ => rfl
  have D54 : Df K mg "renamed_tables" s_renamed_tables ["signature", "size", "tables", "order"] := w54.df X G fun fd F => by
    obtain ⟨oc, od, kV, doc, pm, an, cdv, ct, osl, e, _⟩ := F.ex
    subst e
    exact F.binds fun _ _ _ _ _ _ us hl => match us, hl with | [_, _, _, _], _ => rfl
  have D55 : Df K mg "renamed" s_renamed ["signature", "model", "order"] := w55.df X G fun fd F => by
    obtain ⟨oc, od, kV, doc, pm, an, cdv, ct, osl, e, _⟩ := F.ex
    subst e
    exact F.binds fun _ _ _ _ _ _ us hl => match us, hl with | [_, _, _], _ => rfl
  have D56 : Df K mg "_law_right" s_right ["_law_signature_here", "_law_one", "_law_other", "_law_lead", "_law_every", "_law_lists_here"] := w56.df X G fun fd F => by
    obtain ⟨oc, od, kV, doc, pm, an, cdv, ct, osl, e, _⟩ := F.ex
    subst e
    exact F.binds fun _ _ _ _ _ _ us hl => match us, hl with | [_, _, _, _, _, _], _ => rfl
  have D57 : Df K mg "lead_judged" s_lead_judged ["signature", "one", "other", "thing"] := w57.df X G fun fd F => by
    obtain ⟨oc, od, kV, doc, pm, an, cdv, ct, osl, e, _⟩ := F.ex
    subst e
    exact F.binds fun _ _ _ _ _ _ us hl => match us, hl with | [_, _, _, _], _ => rfl
  have D58 : Df K mg "_law_of_one" s_of_one ["_law_signature_here", "_law_model_here"] := w58.df X G fun fd F => by
    obtain ⟨oc, od, kV, doc, pm, an, cdv, ct, osl, e, _⟩ := F.ex
    subst e
    exact F.binds fun _ _ _ _ _ _ us hl => match us, hl with | [_, _], _ => rfl
  obtain ⟨fd, F⟩ := wl.ex
  refine ⟨fd, s_law, ["_law_script", "_law_purse_here", "_law_time", "_law_signature_here", "_law_one", "_law_other", "_law_way_here", "_law_every", "_law_full", "_law_lists_here", "_law_told_here", "_law_lead", "_law_some"], F, sc_law, fun s u => ?_, fun base s H cdv a ns inB nsB len seq => ?_⟩
  · obtain ⟨oc, od, kV, doc, pm, an, cdv, ct, osl, e, _⟩ := F.ex
    subst e
    exact .of_eq rfl
  · have c_purse := c_purse (P := P) (w := w) (base := base) T D0 
    have c_draw := c_draw (P := P) (w := w) (base := base) T D1 
    have c_pick := c_pick (P := P) (w := w) (base := base) T D2 c_draw
    have c_signature := c_signature (P := P) (w := w) (base := base) T D3 c_pick
    have c_ways := c_ways (P := P) (w := w) (base := base) T D4 
    have c_table := c_table (P := P) (w := w) (base := base) T D5 c_draw c_ways
    have c_model := c_model (P := P) (w := w) (base := base) T D6 c_table
    have c_is_name := c_is_name (P := P) (w := w) (base := base) T D7 
    have c_is_whole := c_is_whole (P := P) (w := w) (base := base) T D8 
    have c_is_below := c_is_below (P := P) (w := w) (base := base) T D9 c_is_whole
    have c_is_deed := c_is_deed (P := P) (w := w) (base := base) T D10 c_is_name c_is_below
    have c_signature_wrong := c_signature_wrong (P := P) (w := w) (base := base) T D11 c_is_deed
    have c_need_signature := c_need_signature (P := P) (w := w) (base := base) T D12 c_signature_wrong
    have c_is_size := c_is_size (P := P) (w := w) (base := base) T D13 c_is_whole
    have c_power := c_power (P := P) (w := w) (base := base) T D14 
    have c_first_odd_cell_models := c_first_odd_cell_models (P := P) (w := w) (base := base) T D15 c_is_below
    have c_model_wrong := c_model_wrong (P := P) (w := w) (base := base) T D16 c_need_signature c_is_size c_power c_first_odd_cell_models
    have c_need_model := c_need_model (P := P) (w := w) (base := base) T D17 c_model_wrong
    have c_all_partings := c_all_partings (P := P) (w := w) (base := base) T D18 
    have c_table_of := c_table_of (P := P) (w := w) (base := base) T D19 
    have c_rows_below := c_rows_below (P := P) (w := w) (base := base) T D20 
    have c_cells_with_worths := c_cells_with_worths (P := P) (w := w) (base := base) T D21 c_rows_below
    have c_place_of_rowT := c_place_of_rowT (P := P) (w := w) (base := base) T D22 
    have c_with_arg := c_with_arg (P := P) (w := w) (base := base) T D23 
    have c_goes_with_deeds := c_goes_with_deeds (P := P) (w := w) (base := base) T D24 c_table_of c_cells_with_worths c_place_of_rowT c_with_arg
    have c_joins_of := c_joins_of (P := P) (w := w) (base := base) T D25 c_all_partings c_goes_with_deeds
    have c_joins := c_joins (P := P) (w := w) (base := base) T D26 c_need_model c_joins_of
    have c_is_row := c_is_row (P := P) (w := w) (base := base) T D27 c_is_below
    have c_is_join := c_is_join (P := P) (w := w) (base := base) T D28 c_is_row c_goes_with_deeds
    have c_place_of_row := c_place_of_row (P := P) (w := w) (base := base) T D29 
    have c_quotient := c_quotient (P := P) (w := w) (base := base) T D30 c_need_model c_is_join c_rows_below c_place_of_row
    have c_rising_lists := c_rising_lists (P := P) (w := w) (base := base) T D31 
    have c_is_among := c_is_among (P := P) (w := w) (base := base) T D32 
    have c_has_worths := c_has_worths (P := P) (w := w) (base := base) T D33 c_cells_with_worths c_is_among
    have c_closed_lists := c_closed_lists (P := P) (w := w) (base := base) T D34 c_need_model c_rising_lists c_has_worths
    have c_is_closed := c_is_closed (P := P) (w := w) (base := base) T D35 c_is_row c_has_worths
    have c_part_of := c_part_of (P := P) (w := w) (base := base) T D36 c_rows_below c_place_of_row
    have c_part := c_part (P := P) (w := w) (base := base) T D37 c_need_model c_is_closed c_part_of
    have c_need_two_models := c_need_two_models (P := P) (w := w) (base := base) T D38 c_need_model
    have c_cells_by_greatest := c_cells_by_greatest (P := P) (w := w) (base := base) T D39 c_cells_with_worths c_table_of
    have c_leads_on := c_leads_on (P := P) (w := w) (base := base) T D40 c_place_of_row
    have c_leads := c_leads (P := P) (w := w) (base := base) T D41 c_need_two_models c_cells_by_greatest c_leads_on
    have c_whole_any := c_whole_any (P := P) (w := w) (base := base) T D42 
    have c_below_any := c_below_any (P := P) (w := w) (base := base) T D43 c_whole_any
    have c_row_any := c_row_any (P := P) (w := w) (base := base) T D44 c_below_any
    have c_has_lead_form := c_has_lead_form (P := P) (w := w) (base := base) T D45 c_row_any
    have c_cells_in_order := c_cells_in_order (P := P) (w := w) (base := base) T D46 c_rows_below
    have c_first_odd_cell_leads := c_first_odd_cell_leads (P := P) (w := w) (base := base) T D47 c_cells_in_order c_table_of c_place_of_rowT c_leads_on
    have c_lead_wrong := c_lead_wrong (P := P) (w := w) (base := base) T D48 c_has_lead_form c_first_odd_cell_leads
    have c_image := c_image (P := P) (w := w) (base := base) T D49 c_need_two_models c_lead_wrong
    have c_are_unlike_below := c_are_unlike_below (P := P) (w := w) (base := base) T D50 c_is_below
    have c_is_order := c_is_order (P := P) (w := w) (base := base) T D51 c_are_unlike_below
    have c_turned_back := c_turned_back (P := P) (w := w) (base := base) T D52 
    have c_renamed_table := c_renamed_table (P := P) (w := w) (base := base) T D53 c_turned_back
    have c_renamed_tables := c_renamed_tables (P := P) (w := w) (base := base) T D54 c_renamed_table
    have c_renamed := c_renamed (P := P) (w := w) (base := base) T D55 c_need_model c_is_order c_renamed_tables
    have c_right := c_right (P := P) (w := w) (base := base) T D56 c_image c_renamed c_quotient c_part
    have c_lead_judged := c_lead_judged (P := P) (w := w) (base := base) T D57 c_need_two_models c_lead_wrong
    have c_of_one := c_of_one (P := P) (w := w) (base := base) T D58 c_joins c_quotient c_lead_judged c_image c_closed_lists c_part
    exact law_ok T c_purse c_draw c_pick c_signature c_model c_joins c_quotient c_closed_lists c_part c_leads c_right c_of_one room s H fa cdv a ns len seq
end K76
end
open PySem PySem.W PyProof.Rows
set_option maxHeartbeats 0 in
theorem PySem.Challenge.cw_deedworlds_k76_whole_leads_are_quotients_holds : PySem.Challenge.rw_deedworlds_k76_whole_leads_are_quotients.Holds := by
  w_on; o_law; k_head; (case hw => w_witness2)
  k_fill
  refine Dw.walkG (l := PySem.Challenge.rw_deedworlds_k76_whole_leads_are_quotients) (n := 63) (k := 10) (x := "_law_script") rfl (by decide) rfl ⟨rfl, by decide, by decide⟩ (fun w h Y => PySem.W.kIn_of Y) ?F
  case F =>
    intro w mg fa h KX G hmg
    refine' K76.all_mk KX G hmg ⟨rfl, by decide, by decide⟩ (K76.wr_mk ?a0 ?l0 ?c0 ?k0) (K76.wr_mk ?a1 ?l1 ?c1 ?k1) (K76.wr_mk ?a2 ?l2 ?c2 ?k2) (K76.wr_mk ?a3 ?l3 ?c3 ?k3) (K76.wr_mk ?a4 ?l4 ?c4 ?k4) (K76.wr_mk ?a5 ?l5 ?c5 ?k5) (K76.wr_mk ?a6 ?l6 ?c6 ?k6) (K76.wr_mk ?a7 ?l7 ?c7 ?k7) (K76.wr_mk ?a8 ?l8 ?c8 ?k8) (K76.wr_mk ?a9 ?l9 ?c9 ?k9) (K76.wr_mk ?a10 ?l10 ?c10 ?k10) (K76.wr_mk ?a11 ?l11 ?c11 ?k11) (K76.wr_mk ?a12 ?l12 ?c12 ?k12) (K76.wr_mk ?a13 ?l13 ?c13 ?k13) (K76.wr_mk ?a14 ?l14 ?c14 ?k14) (K76.wrq_mk ?a15 ?l15 ?c15 ?k15) (K76.wr_mk ?a16 ?l16 ?c16 ?k16) (K76.wr_mk ?a17 ?l17 ?c17 ?k17) (K76.wr_mk ?a18 ?l18 ?c18 ?k18) (K76.wr_mk ?a19 ?l19 ?c19 ?k19) (K76.wr_mk ?a20 ?l20 ?c20 ?k20) (K76.wr_mk ?a21 ?l21 ?c21 ?k21) (K76.wr_mk ?a22 ?l22 ?c22 ?k22) (K76.wr_mk ?a23 ?l23 ?c23 ?k23) (K76.wr_mk ?a24 ?l24 ?c24 ?k24) (K76.wr_mk ?a25 ?l25 ?c25 ?k25) (K76.wr_mk ?a26 ?l26 ?c26 ?k26) (K76.wr_mk ?a27 ?l27 ?c27 ?k27) (K76.wr_mk ?a28 ?l28 ?c28 ?k28) (K76.wr_mk ?a29 ?l29 ?c29 ?k29) (K76.wr_mk ?a30 ?l30 ?c30 ?k30) (K76.wr_mk ?a31 ?l31 ?c31 ?k31) (K76.wr_mk ?a32 ?l32 ?c32 ?k32) (K76.wr_mk ?a33 ?l33 ?c33 ?k33) (K76.wr_mk ?a34 ?l34 ?c34 ?k34) (K76.wr_mk ?a35 ?l35 ?c35 ?k35) (K76.wr_mk ?a36 ?l36 ?c36 ?k36) (K76.wr_mk ?a37 ?l37 ?c37 ?k37) (K76.wr_mk ?a38 ?l38 ?c38 ?k38) (K76.wr_mk ?a39 ?l39 ?c39 ?k39) (K76.wr_mk ?a40 ?l40 ?c40 ?k40) (K76.wr_mk ?a41 ?l41 ?c41 ?k41) (K76.wr_mk ?a42 ?l42 ?c42 ?k42) (K76.wr_mk ?a43 ?l43 ?c43 ?k43) (K76.wr_mk ?a44 ?l44 ?c44 ?k44) (K76.wr_mk ?a45 ?l45 ?c45 ?k45) (K76.wr_mk ?a46 ?l46 ?c46 ?k46) (K76.wrq_mk ?a47 ?l47 ?c47 ?k47) (K76.wr_mk ?a48 ?l48 ?c48 ?k48) (K76.wr_mk ?a49 ?l49 ?c49 ?k49) (K76.wr_mk ?a50 ?l50 ?c50 ?k50) (K76.wr_mk ?a51 ?l51 ?c51 ?k51) (K76.wr_mk ?a52 ?l52 ?c52 ?k52) (K76.wr_mk ?a53 ?l53 ?c53 ?k53) (K76.wr_mk ?a54 ?l54 ?c54 ?k54) (K76.wr_mk ?a55 ?l55 ?c55 ?k55) (K76.wr_mk ?a56 ?l56 ?c56 ?k56) (K76.wr_mk ?a57 ?l57 ?c57 ?k57) (K76.wr_mk ?a58 ?l58 ?c58 ?k58) (K76.wr_mk ?al ?ll ?cl ?kl) ?z_abs ?z_all ?z_bool ?z_enumerate ?z_int ?z_isinstance ?z_len ?z_list ?z_max ?z_min ?z_range ?z_set ?z_sorted ?z_str ?z_sum ?z_tuple ?z_zip ?z_repr ?k_NAME_LETTERS ?k_MOST_NAME ?k_MOST_DEEDS ?k_MOST_PLACES ?k_MOST_SIZE
    (case a0 => k_is); (case l0 => k_is); (case c0 => k_is); (case k0 => k_is)
    (case a1 => k_is); (case l1 => k_is); (case c1 => k_is); (case k1 => k_is)
    (case a2 => k_is); (case l2 => k_is); (case c2 => k_is); (case k2 => k_is)
    (case a3 => k_is); (case l3 => k_is); (case c3 => k_is); (case k3 => k_is)
    (case a4 => k_is); (case l4 => k_is); (case c4 => k_is); (case k4 => k_is)
    (case a5 => k_is); (case l5 => k_is); (case c5 => k_is); (case k5 => k_is)
    (case a6 => k_is); (case l6 => k_is); (case c6 => k_is); (case k6 => k_is)
    (case a7 => k_is); (case l7 => k_is); (case c7 => k_is); (case k7 => k_is)
    (case a8 => k_is); (case l8 => k_is); (case c8 => k_is); (case k8 => k_is)
    (case a9 => k_is); (case l9 => k_is); (case c9 => k_is); (case k9 => k_is)
    (case a10 => k_is); (case l10 => k_is); (case c10 => k_is); (case k10 => k_is)
    (case a11 => k_is); (case l11 => k_is); (case c11 => k_is); (case k11 => k_is)
    (case a12 => k_is); (case l12 => k_is); (case c12 => k_is); (case k12 => k_is)
    (case a13 => k_is); (case l13 => k_is); (case c13 => k_is); (case k13 => k_is)
    (case a14 => k_is); (case l14 => k_is); (case c14 => k_is); (case k14 => k_is)
    (case a15 => k_is); (case l15 => k_is); (case c15 => k_is); (case k15 => k_is)
    (case a16 => k_is); (case l16 => k_is); (case c16 => k_is); (case k16 => k_is)
    (case a17 => k_is); (case l17 => k_is); (case c17 => k_is); (case k17 => k_is)
    (case a18 => k_is); (case l18 => k_is); (case c18 => k_is); (case k18 => k_is)
    (case a19 => k_is); (case l19 => k_is); (case c19 => k_is); (case k19 => k_is)
    (case a20 => k_is); (case l20 => k_is); (case c20 => k_is); (case k20 => k_is)
    (case a21 => k_is); (case l21 => k_is); (case c21 => k_is); (case k21 => k_is)
    (case a22 => k_is); (case l22 => k_is); (case c22 => k_is); (case k22 => k_is)
    (case a23 => k_is); (case l23 => k_is); (case c23 => k_is); (case k23 => k_is)
    (case a24 => k_is); (case l24 => k_is); (case c24 => k_is); (case k24 => k_is)
    (case a25 => k_is); (case l25 => k_is); (case c25 => k_is); (case k25 => k_is)
    (case a26 => k_is); (case l26 => k_is); (case c26 => k_is); (case k26 => k_is)
    (case a27 => k_is); (case l27 => k_is); (case c27 => k_is); (case k27 => k_is)
    (case a28 => k_is); (case l28 => k_is); (case c28 => k_is); (case k28 => k_is)
    (case a29 => k_is); (case l29 => k_is); (case c29 => k_is); (case k29 => k_is)
    (case a30 => k_is); (case l30 => k_is); (case c30 => k_is); (case k30 => k_is)
    (case a31 => k_is); (case l31 => k_is); (case c31 => k_is); (case k31 => k_is)
    (case a32 => k_is); (case l32 => k_is); (case c32 => k_is); (case k32 => k_is)
    (case a33 => k_is); (case l33 => k_is); (case c33 => k_is); (case k33 => k_is)
    (case a34 => k_is); (case l34 => k_is); (case c34 => k_is); (case k34 => k_is)
    (case a35 => k_is); (case l35 => k_is); (case c35 => k_is); (case k35 => k_is)
    (case a36 => k_is); (case l36 => k_is); (case c36 => k_is); (case k36 => k_is)
    (case a37 => k_is); (case l37 => k_is); (case c37 => k_is); (case k37 => k_is)
    (case a38 => k_is); (case l38 => k_is); (case c38 => k_is); (case k38 => k_is)
    (case a39 => k_is); (case l39 => k_is); (case c39 => k_is); (case k39 => k_is)
    (case a40 => k_is); (case l40 => k_is); (case c40 => k_is); (case k40 => k_is)
    (case a41 => k_is); (case l41 => k_is); (case c41 => k_is); (case k41 => k_is)
    (case a42 => k_is); (case l42 => k_is); (case c42 => k_is); (case k42 => k_is)
    (case a43 => k_is); (case l43 => k_is); (case c43 => k_is); (case k43 => k_is)
    (case a44 => k_is); (case l44 => k_is); (case c44 => k_is); (case k44 => k_is)
    (case a45 => k_is); (case l45 => k_is); (case c45 => k_is); (case k45 => k_is)
    (case a46 => k_is); (case l46 => k_is); (case c46 => k_is); (case k46 => k_is)
    (case a47 => k_is); (case l47 => k_is); (case c47 => k_is); (case k47 => k_is)
    (case a48 => k_is); (case l48 => k_is); (case c48 => k_is); (case k48 => k_is)
    (case a49 => k_is); (case l49 => k_is); (case c49 => k_is); (case k49 => k_is)
    (case a50 => k_is); (case l50 => k_is); (case c50 => k_is); (case k50 => k_is)
    (case a51 => k_is); (case l51 => k_is); (case c51 => k_is); (case k51 => k_is)
    (case a52 => k_is); (case l52 => k_is); (case c52 => k_is); (case k52 => k_is)
    (case a53 => k_is); (case l53 => k_is); (case c53 => k_is); (case k53 => k_is)
    (case a54 => k_is); (case l54 => k_is); (case c54 => k_is); (case k54 => k_is)
    (case a55 => k_is); (case l55 => k_is); (case c55 => k_is); (case k55 => k_is)
    (case a56 => k_is); (case l56 => k_is); (case c56 => k_is); (case k56 => k_is)
    (case a57 => k_is); (case l57 => k_is); (case c57 => k_is); (case k57 => k_is)
    (case a58 => k_is); (case l58 => k_is); (case c58 => k_is); (case k58 => k_is)
    (case al => k_is); (case ll => k_is); (case cl => k_is); (case kl => k_is)
    (case z_abs => k_is); (case z_all => k_is); (case z_bool => k_is); (case z_enumerate => k_is); (case z_int => k_is); (case z_isinstance => k_is); (case z_len => k_is); (case z_list => k_is); (case z_max => k_is); (case z_min => k_is); (case z_range => k_is); (case z_set => k_is); (case z_sorted => k_is); (case z_str => k_is); (case z_sum => k_is); (case z_tuple => k_is); (case z_zip => k_is); (case z_repr => k_is)
    (case k_NAME_LETTERS => k_is); (case k_MOST_NAME => k_is); (case k_MOST_DEEDS => k_is); (case k_MOST_PLACES => k_is); (case k_MOST_SIZE => k_is)
