import PyProof.Rows.All
import Wide.All
import OpenK.AllK
import Wide.FinOn
import PySem.Challenge.RW_deedworlds_k70_closed_lists
import HandS.Base
import HandS.Call
import HandS.List
import HandS.Comp
import HandS.Iter
import HandS.Evl
import HandS.Words
import KE.GoesMore
import KE.GoesEnum
import PyProof.ReprRoads
import PyProof.AutoIntOps
import HandS.Ends
import HandS.ForMost
import HandS.IsInst
import HandS.Zip
import HandS.TupAny
import HandS.Conv
import HandS.NoneIn
import HandS.More
import HandS.Wide
import HandS.Walk
import HandS.ReCall
import KE.KIndexOf
import PyProof.Rows.RegFStrParts
import KE.KDictPairs
import KE.KDictZip
import HandS.Dict
import HandS.Set
import HandS.SetFor
import HandS.TupSets
import PyProof.Rows.SortStr
import HandS.Strs
import HandS.Deep
import KE.DatumOrd
import PyProof.Rows.SetFrom
import KE.SortData
import HandS.Style
import KE.GoesZip
import PyProof.ListStr
import HandS.FStr
import HandS.DictComp
import HandS.ListItems
import HandS.Text
import KE.KEqDict
import KE.KDictItemsList
import HandS.TupMul
import HandS.Exc
import HandS.ExcOwn
import HandS.WordsExc
import KE.KExcIs
import HandS.ExcIs
import PyProof.RowDictHeap
import PyProof.ReprLen
import HandS.RaiseMore
import KE.KTupSum
import HandS.Codes
set_option Elab.async false
set_option linter.all false
set_option maxRecDepth 100000
set_option maxHeartbeats  4000000
section
/-! a rule of our own over the hand layer: for .. in enumerate(a tuple) -/
namespace Dw
open PySem PySem.Spec PyProof.Rows L2
/-- the walker of a tuple, and what counts beside it, as enumerate lays them -/
abbrev tupWalker (tp : Addr) : Obj := { cls := .type "tuple_iterator", data := .fields #[.ref tp, .int 0 0] }
abbrev counter (wk : Addr) : Obj := { cls := .type "enumerate", data := .fields #[.none, .bool false, .ref wk, rawInt 0, .none, .none] }
theorem new_enumT (tp : Addr) (cells : Array Value) (cap : Nat) (dc : Option Addr) (osl : Array (Option Value)) :
    Meets (Builtin.«enumerate.__new__» ⟨[.type "enumerate", .ref tp], []⟩) (fun _ R s => s.heap.get? tp = some { cls := .type "tuple", dict := dc, data := .seq cells cap, slots := osl } ∧
      R (.ok (.ret (.ref (s.heap.push (tupWalker tp)).objs.size))) { s with heap := (s.heap.push (tupWalker tp)).push (counter s.heap.objs.size) }) := by
  refine .of_wp fun prog w A R s pre => ?_
  obtain ⟨hp, glo, dep, tk, os⟩ := s
  obtain ⟨at_, goal⟩ := pre
  have isSub := sub_enumerate
  have isTup : Heap.IsTuple (Shared.heap ⟨hp, glo, dep, tk, os⟩) tp cells := ⟨_, at_, rfl, cap, rfl⟩
  wp_walk using AutoSeq1.wpAny_loadPart' at_
  refine wpAny_stack_any (fun _ => wpAny_pure ?_)
  split
  case h_1 cl _ _ _ _ _ =>
    generalize (cl == Value.type "enumerate") = same
    cases same <;> (wp_walk using AutoSeq1.wpAny_loadPart' at_, wpAny_pyIter_tuple isTup; exact ⟨_, rfl, goal⟩)
  case h_2 =>
    wp_walk using AutoSeq1.wpAny_loadPart' at_, wpAny_pyIter_tuple isTup
    exact ⟨_, rfl, goal⟩
/-- what stands behind enumerate(tuple): two new objects, all else as it was -/
structure Laid (old new : Heap) (tp : Addr) : Prop where
  cnt : IsEnum new (old.objs.size + 1) old.objs.size 0 .none
  wlk : new.IsTupleIter old.objs.size tp 0
  kept : ∀ b o, old.get? b = some o → new.get? b = some o
theorem laid_mk (old : Heap) (tp : Addr) : Laid old ((old.push (tupWalker tp)).push (counter old.objs.size)) tp := by
  have size1 : (old.push (tupWalker tp)).objs.size = old.objs.size + 1 := Heap.size_push ..
  have last := Heap.get?_push_size (old.push (tupWalker tp)) (o := counter old.objs.size) rfl
  rw [size1] at last
  exact ⟨last, ⟨tupWalker tp, Heap.get?_push_of_some _ (Heap.get?_push_size _ rfl), rfl, rfl⟩, fun b o q => Heap.get?_push_of_some _ (Heap.get?_push_of_some _ q)⟩
theorem call_enumT {prog : Program} {w : World} {A : Around} {E Q : Value → Shared → Prop} {s : Shared} {tp : Addr} {cells : Array Value} (isTup : s.heap.IsTuple tp cells)
    (next : ∀ new, Laid s.heap new tp → Q (.ref (s.heap.objs.size + 1)) { s with heap := new }) : wpAny (model prog w) A (call (.type "enumerate") [.ref tp]) Q E s := by
  obtain ⟨⟨cl, dc, dat, osl⟩, at_, isT, cap, isSeq⟩ := isTup
  have e1 : cl = .type "tuple" := isT
  have e2 : dat = .seq cells cap := isSeq
  subst e1
  subst e2
  have made := laid_mk s.heap tp
  have size1 : (s.heap.push (tupWalker tp)).objs.size = s.heap.objs.size + 1 := Heap.size_push ..
  refine callType_new F.called_enumerate (by decide) (F.typeCall_enumerate_1 _) (F.newCall_enumerate_1 _) (fun ob => F.args_object_init_2 ob _) F.entry_enumerate_new (new_enumT tp cells cap dc osl) (And.intro at_ ?_)
  have e3 : Value.ref (s.heap.push (tupWalker tp)).objs.size = .ref (s.heap.objs.size + 1) := by rw [size1]
  show _ ∧ _
  rw [e3]
  exact And.intro ⟨_, made.cnt, rfl⟩ (next _ made)
/-- the tuple at tp: its items, each in a new pair behind its place -/
def IteT (K : PySem.W.Frag) (tp : Addr) : It :=
  ⟨fun i H => ∃ (xs : List V) (x : V), SqT K H tp xs ∧ xs[i]? = some x, fun i H v H' => ∃ pr x, v = .ref pr ∧ H pr = none ∧ H' = upd H pr (.tup [.int (i : Nat), x]) ∧ ∀ xs, SqT K H tp xs → xs[i]? = some x, fun i H => ∃ xs : List V, SqT K H tp xs ∧ xs.length ≤ i⟩
/-- how the two objects stand ahead of turn i -/
def StandsT (tp cn wk : Addr) (i : Nat) (hp : Heap) : Prop := (∃ old, IsEnum hp cn wk ((i : Nat) : Int) old) ∧ hp.IsTupleIter wk tp i ∧ cn ≠ wk ∧ tp ≠ cn ∧ tp ≠ wk
theorem two {b x y : Addr} {P : Addr → Prop} (hb : b ∈ [x, y]) (px : P x) (py : P y) : P b := by
  rcases List.mem_cons.mp hb with same | same
  · exact same ▸ px
  · exact (List.mem_singleton.mp same) ▸ py
theorem turn_enumT {P : Program} {w : World} {K : PySem.W.Frag} {elts : List Expr} {kk : Nat} {tpos : Pos} (tp cn wk : Addr) : Turn P w K (.Tuple elts kk tpos) (IteT K tp) [cn, wk] cn (StandsT tp cn wk) where
  mem := List.mem_cons_self ..
  obj := by
    intro i hp st b hb
    obtain ⟨⟨_, isE⟩, ⟨o, at_, _, dat⟩, _⟩ := st
    exact two (P := fun b => ∃ o, hp.get? b = some o ∧ ∀ v, o.data ≠ .cell v) hb ⟨_, isE, fun _ q => nomatch q⟩ ⟨o, at_, fun v q => by rw [dat] at q; cases q⟩
  keep := by
    intro i hp hp' st same
    obtain ⟨⟨old, isE⟩, isI, far⟩ := st
    exact ⟨⟨old, same cn (List.mem_cons_self ..) _ isE⟩, isI.at fun o q => same wk (List.mem_cons_of_mem _ (List.mem_singleton.mpr rfl)) o q, far⟩
  item := by
    intro X eP ew eK calm i pins s σ H E I free st here
    subst eP ew eK
    obtain ⟨⟨old, isE⟩, isI, ne1, ne2, ne3⟩ := st
    obtain ⟨xs, x, isT, atx⟩ := here
    obtain ⟨cells, rel, isTup, _⟩ := I.tuple isT
    obtain ⟨u, atu, ru⟩ := rel.get atx
    have low : i < cells.toArray.size := by
      rw [List.size_toArray]
      exact (List.getElem?_eq_some_iff.mp atu).1
    have inCn : cn < s.heap.objs.size := Heap.lt_size isE
    have inWk : wk < s.heap.objs.size := let ⟨_, q, _⟩ := isI; Heap.lt_size q
    have far : cn ∉ [wk, tp] := fun z => by
      rcases List.mem_cons.mp z with one | one
      · exact ne1 one
      · exact ne2 (List.mem_singleton.mp one).symm
    have quiet : X.A.in1.handled = none := I.ok.hd calm
    refine wpAny_pyNext_enum_itemD (Draws.tuple (prog := X.prog) (w := X.w) quiet wk tp ne3 cells.toArray) isE ⟨isI, isTup⟩ low ne1 far fun v hp1 tk isv out st1 pair _ same => ?_
    have ev : v = u := by
      have q : cells.toArray[i]? = some v := isv
      rw [List.getElem?_toArray, atu] at q
      cases q
      rfl
    subst ev
    refine ⟨_, rfl, wpAny_letOwnedTupleGo_enum (s := { s with heap := hp1, toks := tk + 1 }) out fun hp2 isE2 but => ?_⟩
    have pair2 : hp2.get? s.heap.objs.size = some { cls := .type "tuple", data := .seq #[.int i tk, v] } := (but.2 _ (Nat.ne_of_gt inCn)).trans pair
    have fine : ObjOk X.prog X.w (upd H s.heap.objs.size (.tup [.int (i : Nat), x])) hp2 s.heap.objs.size (.tup [.int (i : Nat), x]) :=
      And.intro (show 2 ≤ sizeLine by decide) ⟨[.int i tk, v], .cons ⟨_, rfl⟩ (.cons ru .nil), _, pair2, rfl, _, rfl⟩
    have still : ∀ b ob, b ∉ [cn, wk] → s.heap.get? b = some ob → hp2.get? b = some ob := fun b ob nb q => by
      have n1 : b ≠ cn := fun z => nb (z ▸ List.mem_cons_self ..)
      have n2 : b ≠ wk := fun z => nb (z ▸ List.mem_cons_of_mem _ (List.mem_singleton.mpr rfl))
      rw [but.2 b n1]
      exact same b ob n1 n2 q
    have J := I.turnedNew (ch := [cn, wk]) (t' := tk + 1) still free (Nat.le_refl s.heap.objs.size) fine
    have up : (i : Int) + 1 = ((i + 1 : Nat) : Int) := (Int.natCast_succ i).symm
    rw [up] at isE2
    refine ⟨.ref s.heap.objs.size, _, J, rfl, ⟨_, x, rfl, I.hok.fresh (Nat.le_refl _), rfl, fun ys isY => ?_⟩, ⟨⟨v, isE2⟩, st1.1.at fun o q => (but.2 wk ne1.symm).trans q, ne1, ne2, ne3⟩, fun b hb => ?_⟩
    · rw [I.tuple_inj isY isT]
      exact atx
    · have inB : b < s.heap.objs.size := two (P := fun b => b < s.heap.objs.size) hb inCn inWk
      rw [upd_ne (Nat.ne_of_lt inB)]
      exact (free b hb).1
  done := by
    intro X eP ew eK calm i pins s σ H E I free st over
    subst eP ew eK
    obtain ⟨⟨old, isE⟩, isI, ne1, ne2, ne3⟩ := st
    obtain ⟨xs, isT, short⟩ := over
    obtain ⟨cells, rel, isTup, _⟩ := I.tuple isT
    obtain ⟨g0, g1, g2, g3, g4, g5⟩ := free wk (List.mem_cons_of_mem _ (List.mem_singleton.mpr rfl))
    have many : cells.toArray.size ≤ i := by
      rw [List.size_toArray, ← rel.length]
      exact short
    have quiet : X.A.in1.handled = none := I.ok.hd calm
    have D : Draws X.prog X.w X.A.in1 wk [wk, tp] i (fun _ _ => False) (fun j hp => j = i ∧ hp.IsTupleIter wk tp i ∧ hp.IsTuple tp cells.toArray) :=
      { live := fun _ _ q => let ⟨o, z, _⟩ := q.2.1; ⟨o, z⟩
        frame := fun _ _ _ q same => ⟨q.1, q.2.1.at fun o z => same wk (List.mem_cons_self ..) o z, q.2.2.at fun o z => same tp (List.mem_cons_of_mem _ (List.mem_singleton.mpr rfl)) o z⟩
        item := fun _ _ _ _ less q _ => absurd q.1 (Nat.ne_of_lt less)
        done := fun _ _ _ q ends => wpAny_nextOf_tuple_end quiet q.2.1 q.2.2 (Array.getElem?_eq_none many) ends }
    exact wpAny_pyNext_enum_endD D isE ⟨rfl, isI, isTup⟩ fun hp1 ext => ⟨rfl, I.turned (t' := s.toks) (fun b o nb q => ext b o nb q) g0 g1 g3 g4 g5⟩
  self := by
    intro A i s Q E st q
    obtain ⟨⟨_, isE⟩, _⟩ := st
    exact wpAny_pyIter_enum isE q
def iEnumT (K : PySem.W.Frag) (ta : TA) : TI := fun σ H R => ta σ H fun vs H1 => ∃ tp xs, vs = [.ref tp] ∧ SqT K H1 tp xs ∧ R (IteT K tp) H1
theorem pi_enumT {X : Cx} {e : Expr} {ta : TA} {p pos tpos : Pos} {elts : List Expr} {kk : Nat} (glob : Gl X "enumerate") (none_ : X.mg "enumerate" = none) (arg : PA X [e] ta) (star : starEach [e] X.env = [(false, eval e X.env)] := by rfl) :
    PI X (.Tuple elts kk tpos) (.Call (.Name "enumerate" p) [e] [] pos) (iEnumT X.K ta) := by
  constructor
  intro pins s σ H R I q0
  have given := arg.run pos pins s σ H _ I q0
  refine Call_ (ld_blt I glob none_ boot_enumerate (callWith_type1 (thn given fun us s1 got => ?_) star rfl))
  obtain ⟨vs, H1, J, rel, tp, xs, isOne, isT, q1⟩ := got
  subst isOne
  obtain ⟨u, isU, ru⟩ := vals1 rel
  subst isU
  cases (show u = Value.ref tp from ru)
  obtain ⟨cells, _, isTup, _⟩ := J.tuple isT
  have inTp : tp < s1.heap.objs.size := let ⟨_, at_, _⟩ := (show s1.heap.IsTuple tp cells.toArray from isTup); Heap.lt_size at_
  refine call_enumT isTup fun new made => wpAny_pyIter_enum made.cnt ?_
  have J2 : Inv X pins σ H1 { s1 with heap := new } := J.kept (t' := s1.toks) made.kept
  have stands : StandsT tp (s1.heap.objs.size + 1) s1.heap.objs.size 0 new := ⟨⟨.none, made.cnt⟩, made.wlk, Nat.succ_ne_self _, Nat.ne_of_lt (Nat.lt_succ_of_lt inTp), Nat.ne_of_lt inTp⟩
  refine ⟨s1.heap.objs.size + 1, [s1.heap.objs.size + 1, s1.heap.objs.size], _, _, H1, rfl, J2, turn_enumT tp _ _, stands, fun b hb => ?_, q1⟩
  have late : s1.heap.objs.size ≤ b := two (P := fun b => s1.heap.objs.size ≤ b) hb (Nat.le_succ _) (Nat.le_refl _)
  exact J.fpOk late (J.hok.fresh late)
end Dw
end
section
namespace Dw
open PySem PySem.Spec PyProof.Rows L2
/-! ### repr of data, where nothing is being shown around -/
/-! ### ** of a base that op_pow does not take -/
theorem op_powG {b e : Int} (h0 : 0 < e) (h1 : 1 < b) (hz : Builtin.Int.intTooBig (((Builtin.Int.intBits b : Nat) : Int) * e) = false) {X : Cx} :
    OpR X (binaryOp .Pow) (fun x y H Q => x = .int b ∧ y = .int e ∧ Q (.int (b ^ e.toNat)) H) := by
  intro pins s σ H x y v u Q I rx ry h
  obtain ⟨rfl, rfl, q⟩ := h
  obtain ⟨t1, rfl⟩ := (show ∃ t, v = Value.int b t from rx)
  obtain ⟨t2, rfl⟩ := (show ∃ t, u = Value.int e t from ry)
  refine AutoIntOps.pow_4 (by omega) (by simp; omega) (by simp; omega) (by simp; omega) (by rw [hz]; decide) ?_
  exact ⟨.int (b ^ e.toNat), H, I.tok _, ⟨_, rfl⟩, q⟩
end Dw
end
section
/-! the law's own def, entered from the caller's place itself (so that it is known there that nothing is being shown) -/
namespace Dw
open PySem PySem.Spec PyProof.Rows L2
/-- a def of one parameter, entered at a told place A -/
theorem enter1 {P : Program} {w : World} {K : PySem.W.Frag} {mg : Str → Option Value} {base : Heap} {k : Nat} {x qual : Str} {st : Stmt} {f : Addr} {fd : FuncData} {N : List Str} {A : Around} {outer : List Env} {s : Shared} {H : Hp} {v : V} {u : Value} {Q : VK}
    (F : Fun K qual qual st f fd) (S : FnScope N [x] (defScope st)) (bd : BindsTo s fd ⟨[u], []⟩ [(x, u)]) (room : Room (k + 1) A) (e0 : Env0 P w K mg base A outer s H) (rv : RelV v u)
    (body : ∀ cdv : Value, ∃ t, PSs (cxOf CX0 P w K mg base N qual (defScope st) f cdv A outer s H E0).nox (defBody st) t ∧ t { nx := fun _ H' => Q .non H', rt := Q } (start N [v]) H) :
    codeAny (model P w) A (.call (.ref f) ⟨[u], []⟩) (CR CX0 outer P w H s Q E0) s := by
  obtain ⟨oc, od, kV, doc, pm, an, cdv, ct, osl, efd, look, code⟩ := F.ex
  subst efd
  obtain ⟨t, der, rd⟩ := body cdv
  have kept : ∀ b o, base.get? b = some o → s.heap.get? b = some o := fun b o e => (e0.bs b o e).1
  have inK : K.In s.heap := e0.mod.kin.keeps kept
  refine codeAny_call_function room.depth (inK f _ look) rfl S.co S.gen rfl (PySem.W.codeRec_of inK code) (bd _ _ _ _ ?_)
  have kinds : ∀ y ∈ [(x, u)], (defScope st).names.lookup y.1 = some .local ∨ ((defScope st).names.lookup y.1 = some .cell ∧ ((cellsFrom (s.heap.objs.size + 1) (defScope st).names []).lookup y.1).isSome = true) := by
    intro y hy
    rw [List.mem_singleton.mp hy]
    cases S.par x (List.mem_singleton.mpr rfl) with
    | inl one => exact Or.inl one
    | inr one => exact Or.inr ⟨one, PySem.W.cellsFrom_some _ _ _ (Or.inl one)⟩
  refine wpAny_newFunctionEnv_cells S.kind kinds (fun env isEnv s1 ic => ?_)
  subst isEnv
  have noLim : s.heap.NoLimit := e0.mod.nolimit.keeps kept
  refine ⟨noLim.keeps ic.toInCall.keep, codeAny_func ?_⟩
  have start0 : Inv (cxOf CX0 P w K mg base N qual (defScope st) f cdv A outer s H E0) [] (start N [v]) H s1 := inv_start S room.hd e0 rfl (.cons rv .nil) ic
  refine wpAny_mono (der.nox.run [] s1 (start N [v]) H _ start0 rd) (fun flow s2 done => ?_) (fun _ _ bad => bad)
  match flow, done with
  | .next, ⟨_, H2, inv, q⟩ => exact ⟨.non, H2, inv.os, inv.bare, inv.base, inv.hok, rfl, q⟩
  | .ret _, ⟨v2, _, H2, inv, rel, q⟩ => exact ⟨v2, H2, inv.os, inv.bare, inv.base, inv.hok, rel, q⟩
  | .brk, ⟨_, _, _, q⟩ => exact q.elim
  | .cont, ⟨_, _, _, q⟩ => exact q.elim
/-- how the script stands ahead of the law: tracked as locked, or one of the written part's own -/
def scriptHp (K : PySem.W.Frag) (a : Addr) (ob : Obj) (ns : List Int) : Hp := fun b => if b = a ∧ K.lookup a = none then some (.frz ob (.lst (ns.map V.int))) else none
section
variable {K : PySem.W.Frag} {a : Addr} {ob : Obj} {ns : List Int}
theorem scriptHp_some {b : Addr} {u : HO} (h : scriptHp K a ob ns b = some u) : b = a ∧ K.lookup a = none ∧ u = .frz ob (.lst (ns.map V.int)) := by
  unfold scriptHp at h
  split at h
  · rename_i c
    exact ⟨c.1, c.2, (Option.some.inj h).symm⟩
  · cases h
theorem scriptHp_at (h : K.lookup a = none) : scriptHp K a ob ns a = some (.frz ob (.lst (ns.map V.int))) := if_pos ⟨rfl, h⟩
theorem scriptHp_no {b : Addr} (h : b ≠ a) : scriptHp K a ob ns b = none := if_neg fun c => h c.1
end
/-- the end of a law row whose def is walked from the caller's place -/
theorem walkG {l : PySem.W.OpenLaw} {n k : Nat} {q : Program} {loose : List Str} {XP : (Str → Option Value) → Heap → Prop} {YP : World → Heap → Prop} {d : DefRec} {K : Params → PySem.W.Frag} {x : Str}
    (hn : l.most = some n) (hn2 : n ≤ sizeLine) (hdf : d.params.defaults = []) (room : Room (k + 1) callerA) (hY : ∀ (w : World) (h : Heap), YP w h → (K w.params).In h)
    (F : ∀ (w : World) (mg : Str → Option Value) (fa : Addr) (h : Heap),
      (K w.params).In h → h.Ns mainGlobals mg → mg d.name = some (.ref fa) →
      ∃ (fd : FuncData) (st : Stmt) (N : List Str), Fun (K w.params) d.name d.name st fa fd ∧ FnScope N [x] (defScope st) ∧ (∀ (s : Shared) (u : Value), BindsTo s fd ⟨[u], []⟩ [(x, u)]) ∧
        ∀ (base : Heap) (s : Shared) (H : Hp) (cdv : Value) (a : Addr) (ns : List Int), (K w.params).In base → base.Ns mainGlobals mg → ns.length ≤ n → SqL (K w.params) H a (ns.map V.int) →
          ∃ t, PSs (cxOf CX0 l.prog w (K w.params) mg base N d.name (defScope st) fa cdv callerA [] s H E0).nox (defBody st) t ∧ t { nx := fun _ _ => False, rt := fun v _ => v = .bl true } (start N [.ref a]) H) :
    PySem.W.WalkO q loose XP YP l.row.toRowW d [] (fun g us => PySem.call g us) := by
  refine Att.attach_call hn hdf (fun w _ s mg mb fa _ _ _ _ a vs ns G Y _ _ _ gl isL nums len gens => ?_)
  have inK := hY w s.heap Y
  obtain ⟨fd, st, N, Fn, S, bd, body⟩ := F w mg fa s.heap inK G.T.g gl
  let H : Hp := scriptHp (K w.params) a { cls := .type "list", data := .seq vs.toArray } ns
  have rel : Vals (ns.map V.int) vs := vals_ints nums
  have small : vs.length ≤ sizeLine := by rw [nums.length]; exact Nat.le_trans len hn2
  have okH : HOk l.prog w H s.heap := by
    intro b u e
    obtain ⟨rfl, _, rfl⟩ := scriptHp_some e
    exact ⟨isL, by rw [List.length_map]; exact Nat.le_trans len hn2, vs, _, rel, isL⟩
  have seq : SqL (K w.params) H a (ns.map V.int) := by
    cases lk : (K w.params).lookup a with
    | none => exact Or.inl (Or.inr ⟨_, scriptHp_at lk⟩)
    | some o =>
      have same : o = { cls := .type "list", data := .seq vs.toArray } := Option.some.inj ((inK a o lk).symm.trans isL)
      exact Or.inr ⟨o, vs.toArray, _, lk, by rw [same], by rw [same], by rw [same], by rw [List.size_toArray]; exact small, by simpa using rel⟩
  have freeK : ∀ b o, (K w.params).lookup b = some o → H b = none := by
    intro b o e
    by_cases hb : b = a
    · subst hb
      exact if_neg fun c => by rw [c.2] at e; cases e
    · exact scriptHp_no hb
  have freeD : ∀ b o es ep, s.heap.get? b = some o → o.data = .dict es ep → H b = none := by
    intro b o es ep e dat
    by_cases hb : b = a
    · subst hb
      rw [isL] at e
      cases e
      cases dat
    · exact scriptHp_no hb
  have names : ∀ b m, s.heap.Ns b m → (hidT s.heap H).Ns b m := fun b m ⟨o, es, ep, e, dat, r⟩ => ⟨o, es, ep, hidT_get e (freeD b o es ep e dat), dat, r⟩
  have inB : (K w.params).In (hidT s.heap H) := fun b o e => hidT_get (inK b o e) (freeK b o e)
  have noL : (hidT s.heap H).NoLimit := by
    obtain ⟨mc, c1, c2⟩ := G.T.nolimit
    exact ⟨mc, names _ _ c1, c2⟩
  have e0 : Env0 l.prog w (K w.params) mg (hidT s.heap H) callerA [] s H :=
    { frames := rfl, mod := ⟨inB, names _ _ G.T.g, ⟨mb, names _ _ G.T.b, G.T.builtins⟩, noL⟩, bs := fun b o e => of_hidT e, bsz := Nat.le_of_eq (hidT_size _ _), funs := trivial, frf := fun b hb => absurd (show b ∈ ([] : List Addr) from hb) (by simp), hok := okH, bare := .of_eq gens }
  have run := enter1 (P := l.prog) (v := .ref a) (Q := fun v _ => v = .bl true) Fn S (bd s (.ref a)) room e0 rfl (fun cdv => by
    obtain ⟨t, t1, t2⟩ := body (hidT s.heap H) s H cdv a ns inB (names _ _ G.T.g) len seq
    refine ⟨t, t1, ?_⟩
    have no : (fun (_ : L2.St) (_ : Hp) => (V.non = V.bl true)) = fun _ _ => False := by
      funext _ _
      exact propext ⟨fun z => V.noConfusion z, False.elim⟩
    show t { nx := fun (_ : L2.St) (_ : Hp) => V.non = V.bl true, rt := fun v _ => v = .bl true } (start N [.ref a]) H
    rw [no]
    exact t2)
  refine codeAny_mono run (fun r s2 done => ?_)
  match r, done with
  | .error _, bad => exact bad.elim
  | .ok .next, bad => exact bad.elim
  | .ok .brk, bad => exact bad.elim
  | .ok .cont, bad => exact bad.elim
  | .ok (.ret _), ⟨_, H2, os, bare, un, ok2, rr, isT⟩ =>
    subst isT
    cases (show _ = Value.bool true from rr)
    refine ⟨rfl, OldK.of_keep (fun b o e => ?_), os, bare⟩
    cases tr : H b with
    | none => exact un.keep b o e tr (fun z => absurd (show b ∈ ([] : List Addr) from z) (by simp)) (by simp)
    | some u =>
      obtain ⟨hb, _, hu⟩ := scriptHp_some tr
      subst hb hu
      have still := un.frzs _ _ _ tr
      rw [isL] at e
      cases e
      exact (ok2 _ _ still).1
end Dw
end
section
/-! what a reading evaluates to: more words over Evl; tuples of natural numbers; defs by their names -/
namespace Dw
open PySem PySem.Spec PyProof.Rows L2 Evl
/-! ### defs by their names -/
/-- a def of the text behind the top, all of its parameters without defaults -/
structure Df (K : PySem.W.Frag) (mg : Str → Option Value) (x : Str) (st : Stmt) (ps : List Str) : Prop where
  ex : ∃ (f : Addr) (fd : FuncData), Fun K x x st f fd ∧ mg x = some (.ref f) ∧ Binds K fd ps []
/-- a def that keeps a promise -/
structure Cl (P : Program) (w : World) (K : PySem.W.Frag) (mg : Str → Option Value) (base : Heap) (k : Nat) (x : Str) (sp : Sp) : Prop where
  ex : ∃ (f : Addr) (fd : FuncData) (ps : List Str), FnOk P w K mg base CX0 k f fd ps sp ∧ mg x = some (.ref f) ∧ PySem.W.keepIn K (.ref f) = true ∧ Binds K fd ps []
theorem cl_of {P : Program} {w : World} {K : PySem.W.Frag} {mg : Str → Option Value} {base : Heap} {x : Str} {st : Stmt} {N ps : List Str} {k : Nat} {sp : Sp} (D : Df K mg x st ps) (S : FnScope N ps (defScope st)) (len : ∀ vs H Q E, sp vs H Q E → vs.length = ps.length)
    (body : ∀ (f : Addr) (cdv : Value) (A : Around) (outer : List Env) (s : Shared) (H : Hp) (vs : List V) (Q : VK) (E : XK), Room k (A.deeper (envOfC x (defScope st) s.heap.objs.size f cdv)) → sp vs H Q E →
      ∃ t, PSs (cxOf CX0 P w K mg base N x (defScope st) f cdv A outer s H E).nox (defBody st) t ∧ t { nx := fun _ H' => Q .non H', rt := Q } (start N vs) H) : Cl P w K mg base (k + 1) x sp := by
  obtain ⟨f, fd, F, m, b⟩ := D.ex
  exact ⟨f, fd, ps, F.ok S len (fun cdv A outer s H vs Q E hr h => body f cdv A outer s H vs Q E hr h), m, F.kp, b⟩
theorem pe_cl {X : Cx} {k j : Nat} {x : Str} {sp : Sp} {p pos : Pos} {e : Expr} {es : List Expr} {t : TA} (c : Cl X.prog X.w X.K X.mg X.base k x sp) (hr : Room j X.A) (hk : k ≤ j) (hg : Gl X x) (ha : PA X (e :: es) t)
    (dbg : (x == ("__debug__" : Str)) = false := by decide) (str : starEach (e :: es) X.env = (false, eval e X.env) :: starEach es X.env := by rfl) (bck : (backTo pos (starEach es X.env)).any (·.1) = false := by rfl) :
    PE X (.Call (.Name x p) (e :: es) [] pos) (tCall sp [] E0 t) := by
  obtain ⟨f, fd, ps, F, m, kp, b⟩ := c.ex
  exact pe_call F (hr.mono hk) hg m kp b .nil pass0 ha dbg str bck
/-- a pure promise: of some a what must hold, and what comes back, all that stood left as it was -/
def spX {α : Type} (pre : α → List V → Hp → Prop) (post : α → V → Hp → Prop) : Sp := fun vs H Q _ => ∃ a, pre a vs H ∧ ∀ v H', Ex H H' → post a v H' → Q v H'
/-! ### values of any kind, by what holds of them -/
def EvP (te : TE) (σ : L2.St) (H : Hp) (P : V → Hp → Prop) : Prop := ∀ H1, Ex H H1 → ∀ Q : VK, (∀ v H2, Ex H1 H2 → P v H2 → Q v H2) → te σ H1 Q
section
variable {K : PySem.W.Frag} {σ : L2.St} {H H' : Hp} {ta tb te : TE} {x y z v : V} {P : V → Hp → Prop}
theorem EvP.mono (e : Ex H H') (h : EvP te σ H P) : EvP te σ H' P := fun H1 a Q q => h H1 (e.trans a) Q q
theorem EvP.imp {P' : V → Hp → Prop} (h : EvP te σ H P) (i : ∀ v H', Ex H H' → P v H' → P' v H') : EvP te σ H P' := fun H1 e Q q => h H1 e Q fun v H2 e2 p => q v H2 e2 (i v H2 (e.trans e2) p)
theorem ep_ev (h : Ev te σ H v) (p : ∀ H', Ex H H' → P v H') : EvP te σ H P := fun H1 e Q q => h H1 e Q fun H2 e2 => q v H2 e2 (p H2 (e.trans e2))
theorem ev_ep (h : EvP te σ H fun u _ => u = v) : Ev te σ H v := fun H1 e Q q => h H1 e Q fun u H2 e2 p => by subst p; exact q H2 e2
/-- a call by a pure promise -/
theorem ep_call {α : Type} {pre : α → List V → Hp → Prop} {post : α → V → Hp → Prop} (a : α) {vs : List V} {E : XK} {ta : TA} (h : EvA ta σ H vs) (hp : ∀ H1, Ex H H1 → pre a vs H1) : EvP (tCall (spX pre post) [] E ta) σ H (post a) := fun H1 e Q q =>
  h H1 e _ fun H2 e2 => by
    rw [List.append_nil]
    exact ⟨a, hp H2 (e.trans e2), fun v H3 e3 p => q v H3 (e2.trans e3) p⟩
theorem ev_callV {α : Type} {pre : α → List V → Hp → Prop} {post : α → V → Hp → Prop} (a : α) {vs : List V} {E : XK} {ta : TA} (h : EvA ta σ H vs) (hp : ∀ H1, Ex H H1 → pre a vs H1) (hv : ∀ u H', post a u H' → u = v) : Ev (tCall (spX pre post) [] E ta) σ H v :=
  ev_ep ((ep_call a h hp).imp fun u H' _ p => hv u H' p)
/-! isinstance -/
theorem ev_isi {c : V} {t u : Value} {b : Bool} (ha : Ev ta σ H x) (hc : Ev tb σ H c) (k : ClsV c u) (ty : ∀ H1, Ex H H1 → TyX K H1 x t) (e : PySem.W.kitOne K t u = some b) : Ev (tCB (rIsi K) (tCons ta (tCons tb tNil))) σ H (.bl b) := fun H1 e1 Q q =>
  ha H1 e1 _ fun H2 e2 => hc H2 (e1.trans e2) _ fun H3 e3 => ⟨x, c, t, u, b, rfl, k, ty H3 ((e1.trans e2).trans e3), e, q H3 (e2.trans e3)⟩
theorem tyx_int (i : Int) : TyX K H (.int i) (.type "int") := .base (.int i)
theorem tyx_str (s : Str) : TyX K H (.str s) (.type "str") := .base (.str s)
theorem tyx_tup {a : Addr} {xs : List V} (h : SqT K H a xs) : TyX K H (.ref a) (.type "tuple") := by
  rcases h with (h | ⟨o, h⟩) | ⟨o, its, n, lk, c, _⟩
  · exact .base (.tup h)
  · exact .fTuple h
  · exact .kTuple lk c
theorem kit_tt : PySem.W.kitOne K (.type "tuple") (.type "tuple") = some true := kit_ty (by decide +kernel)
theorem kit_ii : PySem.W.kitOne K (.type "int") (.type "int") = some true := kit_ty (by decide +kernel)
theorem kit_ib : PySem.W.kitOne K (.type "int") (.type "bool") = some false := kit_ty (by decide +kernel)
theorem kit_ss : PySem.W.kitOne K (.type "str") (.type "str") = some true := kit_ty (by decide +kernel)
/-! len -/
theorem ev_lenT {p : Addr} {xs : List V} (ha : Ev ta σ H (.ref p)) (h : SqT K H p xs) : Ev (tCB (rLenS K) (tCons ta tNil)) σ H (.int (xs.length : Int)) := fun H1 e Q q =>
  ha H1 e _ fun H2 e2 => ⟨p, xs, rfl, Or.inr (ex_t (e.trans e2) h), q H2 e2⟩
def rLenTx : List V → Hp → VK → Prop := fun xs H Q => ∃ z, xs = [.str z] ∧ z.length ≤ sizeLine ∧ Q (.int z.length) H
theorem ev_lenS {z : Str} (ha : Ev ta σ H (.str z)) (h : z.length ≤ 100000) : Ev (tCB rLenTx (tCons ta tNil)) σ H (.int (z.length : Int)) := fun H1 e Q q =>
  ha H1 e _ fun H2 e2 => ⟨z, rfl, sz_of h, q H2 e2⟩
/-- a < b < c and the like -/
theorem ev_chain {r r' : R2} {tc : TE} {x y z : V} {a b : Bool} (ha : Ev ta σ H x) (hb : Ev tb σ H y) (hc : a = true → Ev tc σ H z) (h1 : RV r x y H (.bl a)) (h2 : a = true → RV r' y z H (.bl b)) : Ev (tChain r r' ta tb tc) σ H (.bl (a && b)) := fun H1 e Q q =>
  ha H1 e _ fun H2 e2 => hb H2 (e.trans e2) _ fun H3 e3 => h1 H3 ((e.trans e2).trans e3) _ fun H4 e4 => ⟨a, rfl, by
    have e14 := (e2.trans e3).trans e4
    cases a with
    | true =>
      show tc σ H4 _
      refine hc rfl H4 (e.trans e14) _ fun H5 e5 => ?_
      exact h2 rfl H5 ((e.trans e14).trans e5) Q fun H6 e6 => q H6 ((e14.trans e5).trans e6)
    | false =>
      show Q (.bl false) H4
      exact q H4 e14⟩
theorem et_val {b : Bool} (h : Ev te σ H (.bl b)) : EvT (tB te) σ H b := et_B h
theorem et_isN {x : V} (h : Ev ta σ H x) : EvT (tTest (tOp (fun x y H Q => y = .non ∧ Q (.bl (!decide (x = .non))) H) ta (tC .non))) σ H (!decide (x = .non)) := fun H1 e Q q =>
  h H1 e _ fun H2 e2 => ⟨rfl, _, rfl, q H2 e2⟩
end
/-! ### tuples of natural numbers -/
abbrev vi (k : Nat) : V := .int (k : Int)
theorem atI_vi {xs : List V} {k : Nat} {v : V} (h : xs[k]? = some v) : atI xs (k : Int) = some v := atI_nat h
/-- all tuples that stood stand (lists may have changed) -/
def ET (K : PySem.W.Frag) (H H' : Hp) : Prop := ∀ a xs, SqT K H a xs → SqT K H' a xs
theorem ET.refl {K : PySem.W.Frag} {H : Hp} : ET K H H := fun _ _ h => h
theorem ET.trans {K : PySem.W.Frag} {H H1 H2 : Hp} (a : ET K H H1) (b : ET K H1 H2) : ET K H H2 := fun p xs h => b p xs (a p xs h)
theorem Ex.et {K : PySem.W.Frag} {H H' : Hp} (e : Evl.Ex H H') : ET K H H' := fun _ _ h => ex_t e h
theorem ET.upd {K : PySem.W.Frag} {H H' : Hp} {l : Addr} {xs ys : List V} (e : ET K H H') (h : H' l = some (.lst xs)) : ET K H (upd H' l (.lst ys)) := fun a zs q => by
  rcases e a zs q with (q | ⟨o, q⟩) | q
  · have ne : a ≠ l := fun z => by rw [z, h] at q; cases q
    exact .inl (.inl (by rw [upd_ne ne]; exact q))
  · have ne : a ≠ l := fun z => by rw [z, h] at q; cases q
    exact .inl (.inr ⟨o, by rw [upd_ne ne]; exact q⟩)
  · exact .inr q
def Nats (K : PySem.W.Frag) (H : Hp) (v : V) (ns : List Nat) : Prop := ∃ a, v = .ref a ∧ SqT K H a (ns.map vi)
theorem Nats.et {K : PySem.W.Frag} {H H' : Hp} {v : V} {ns : List Nat} (e : ET K H H') (h : Nats K H v ns) : Nats K H' v ns := let ⟨a, q, s⟩ := h; ⟨a, q, e _ _ s⟩
theorem Nats.ex {K : PySem.W.Frag} {H H' : Hp} {v : V} {ns : List Nat} (e : Evl.Ex H H') (h : Nats K H v ns) : Nats K H' v ns := h.et (Dw.Ex.et e)
theorem paired_imp {α β : Type} {R S : α → β → Prop} (h : ∀ a b, R a b → S a b) : ∀ {xs : List α} {ys : List β}, Paired R xs ys → Paired S xs ys
  | _, _, .nil => .nil
  | _, _, .cons a b => .cons (h _ _ a) (paired_imp h b)
theorem paired_get {α β : Type} {R : α → β → Prop} : ∀ {xs : List α} {ys : List β} {i : Nat} {y : β}, Paired R xs ys → ys[i]? = some y → ∃ x, xs[i]? = some x ∧ R x y
  | _, _, _, _, .nil, h => by simp at h
  | _, _, 0, _, .cons a _, h => by
    have e := Option.some.inj h
    subst e
    exact ⟨_, rfl, a⟩
  | _, _, i + 1, y, .cons _ b, h => by
    obtain ⟨x, e, r⟩ := paired_get (i := i) b h
    exact ⟨x, e, r⟩
theorem paired_len {α β : Type} {R : α → β → Prop} : ∀ {xs : List α} {ys : List β}, Paired R xs ys → xs.length = ys.length
  | _, _, .nil => rfl
  | _, _, .cons _ b => congrArg (· + 1) (paired_len b)
theorem paired_snoc {α β : Type} {R : α → β → Prop} {x : α} {y : β} (r : R x y) : ∀ {xs : List α} {ys : List β}, Paired R xs ys → Paired R (xs ++ [x]) (ys ++ [y])
  | _, _, .nil => .cons r .nil
  | _, _, .cons a b => .cons a (paired_snoc r b)
/-- a tuple of tuples of natural numbers -/
def Tabs (K : PySem.W.Frag) (H : Hp) (v : V) (ts : List (List Nat)) : Prop := ∃ a vs, v = .ref a ∧ SqT K H a vs ∧ Paired (Nats K H) vs ts
theorem Tabs.et {K : PySem.W.Frag} {H H' : Hp} {v : V} {ts : List (List Nat)} (e : ET K H H') (h : Tabs K H v ts) : Tabs K H' v ts := let ⟨a, vs, q, s, p⟩ := h; ⟨a, vs, q, e _ _ s, paired_imp (fun _ _ n => n.et e) p⟩
theorem Tabs.ex {K : PySem.W.Frag} {H H' : Hp} {v : V} {ts : List (List Nat)} (e : Evl.Ex H H') (h : Tabs K H v ts) : Tabs K H' v ts := h.et (Dw.Ex.et e)
/-- a deed; a signature -/
def Deed (K : PySem.W.Frag) (H : Hp) (v : V) (p : Str × Nat) : Prop := ∃ b, v = .ref b ∧ SqT K H b [.str p.1, vi p.2]
theorem Deed.et {K : PySem.W.Frag} {H H' : Hp} {v : V} {p : Str × Nat} (e : ET K H H') (h : Deed K H v p) : Deed K H' v p := let ⟨b, q, s⟩ := h; ⟨b, q, e _ _ s⟩
def Sig (K : PySem.W.Frag) (H : Hp) (v : V) (sg : List (Str × Nat)) : Prop := ∃ a vs, v = .ref a ∧ SqT K H a vs ∧ Paired (Deed K H) vs sg
theorem Sig.et {K : PySem.W.Frag} {H H' : Hp} {v : V} {sg : List (Str × Nat)} (e : ET K H H') (h : Sig K H v sg) : Sig K H' v sg := let ⟨a, vs, q, s, p⟩ := h; ⟨a, vs, q, e _ _ s, paired_imp (fun _ _ n => n.et e) p⟩
theorem Sig.ex {K : PySem.W.Frag} {H H' : Hp} {v : V} {sg : List (Str × Nat)} (e : Evl.Ex H H') (h : Sig K H v sg) : Sig K H' v sg := h.et (Dw.Ex.et e)
/-- a model: its size and its tables -/
def Mdl (K : PySem.W.Frag) (H : Hp) (v : V) (n : Nat) (ts : List (List Nat)) : Prop := ∃ a u, v = .ref a ∧ SqT K H a [vi n, u] ∧ Tabs K H u ts
theorem Mdl.et {K : PySem.W.Frag} {H H' : Hp} {v : V} {n : Nat} {ts : List (List Nat)} (e : ET K H H') (h : Mdl K H v n ts) : Mdl K H' v n ts := let ⟨a, u, q, s, p⟩ := h; ⟨a, u, q, e _ _ s, p.et e⟩
theorem Mdl.ex {K : PySem.W.Frag} {H H' : Hp} {v : V} {n : Nat} {ts : List (List Nat)} (e : Evl.Ex H H') (h : Mdl K H v n ts) : Mdl K H' v n ts := h.et (Dw.Ex.et e)
end Dw
end
section
/-! the mathematics of renaming, over plain lists of natural numbers -/
namespace M20
/-- the k-th, 0 where there is none -/
abbrev g (l : List Nat) (k : Nat) : Nat := l.getD k 0
theorem g_eq {l : List Nat} {k : Nat} (h : k < l.length) : l[k]? = some (g l k) := by
  show l[k]? = some (l.getD k 0)
  rw [List.getD_eq_getElem?_getD, List.getElem?_eq_getElem h]
  rfl
theorem ext {l m : List Nat} (h : l.length = m.length) (e : ∀ k, k < l.length → g l k = g m k) : l = m := by
  apply List.ext_getElem? 
  intro k
  by_cases hk : k < l.length
  · rw [g_eq hk, g_eq (h ▸ hk), e k hk]
  · rw [List.getElem?_eq_none_iff.mpr (by omega), List.getElem?_eq_none_iff.mpr (by omega)]
/-- an order of the size n -/
structure Ord (n : Nat) (o : List Nat) : Prop where
  len : o.length = n
  low : ∀ k, k < n → g o k < n
  inj : ∀ j k, j < n → k < n → g o j = g o k → j = k
/-- what is called k -/
def bk (o : List Nat) : List Nat := (List.range o.length).map fun k => o.idxOf k
theorem len_le : ∀ (l m : List Nat), l.Nodup → (∀ x ∈ l, x ∈ m) → l.length ≤ m.length
  | [], _, _, _ => Nat.zero_le _
  | x :: l, m, nd, sub => by
    have hx : x ∈ m := sub x List.mem_cons_self
    have h1 := List.nodup_cons.mp nd
    have h2 := len_le l (m.erase x) h1.2 (fun y hy => (List.mem_erase_of_ne (show y ≠ x from fun e => h1.1 (by rw [← e]; exact hy))).mpr (sub y (List.mem_cons_of_mem _ hy)))
    rw [List.length_erase_of_mem hx] at h2
    have : 0 < m.length := List.length_pos_of_mem hx
    rw [List.length_cons]
    omega
/-- by the one and then by the other -/
def cmp (a b : List Nat) : List Nat := a.map fun k => g b k
/-! a table of a deed of p places over n numbers -/
structure Tab (n p : Nat) (t : List Nat) : Prop where
  len : t.length = n ^ p
  low : ∀ k, k < n ^ p → g t k < n
/-- the place from which the renamed table has its s-th number -/
def src (n p : Nat) (b : List Nat) (s : Nat) : Nat := if p = 0 then 0 else if p = 1 then g b s else g b (s / n) * n + g b (s % n)
def ren (n p : Nat) (o t : List Nat) : List Nat := (List.range (n ^ p)).map fun s => g o (g t (src n p (bk o) s))
/-! the law's own way: each number of the table put at its place -/
def spot (n p : Nat) (o : List Nat) (k : Nat) : Nat := g o (k % n) * (if 0 < p then 1 else 0) + g o (k / n % n) * n * (if p = 2 then 1 else 0)
/-- the first k numbers put -/
def led (n p : Nat) (o t : List Nat) : Nat → List Nat
  | 0 => t
  | k + 1 => (led n p o t k).set (spot n p o k) (g o (g t k))
end M20
end
section
/-! loops and comprehensions over anything that is walked; statements by what holds of a value -/
namespace Dw
open PySem PySem.Spec PyProof.Rows L2 Evl
section
variable {K : PySem.W.Frag} {σ : L2.St} {H H' : Hp} {ta tb te : TE} {t : TT} {x y z v : V} {P : V → Hp → Prop} {D : Ends} {tu tz : TS} {g : TG}
/-! ### statements -/
theorem s_asgP {i : Nat} (h : EvP te σ H P) (k : ∀ v H1, Ex H H1 → P v H1 → D.nx (σ.set i (some v)) H1) : tAsg te (gName i) D σ H := h H (Ex.refl H) _ fun v H1 e p => k v H1 e p
theorem q_asgP {i : Nat} (h : EvP te σ H P) (k : ∀ v H1, Ex H H1 → P v H1 → tz D (σ.set i (some v)) H1) : tSeq (tAsg te (gName i)) tz D σ H := s_asgP (D := { D with nx := tz D }) h k
theorem s_retP (h : EvP te σ H P) (k : ∀ v H1, Ex H H1 → P v H1 → D.rt v H1) : tRet te D σ H := h H (Ex.refl H) _ fun v H1 e p => k v H1 e p
/-- xs.append(e), e by what holds of it -/
theorem s_appP {l : Addr} {xs : List V} (hl : H l = some (.lst xs)) (ha : Ev ta σ H (.ref l)) (h : EvP te σ H P) (hz : xs.length < 100000) (k : ∀ v H1, Ex H H1 → P v H1 → D.nx σ (upd H1 l (.lst (xs ++ [v])))) :
    tDrop (tBM K "list" rAppend ta (tCons te tNil)) D σ H := by
  refine ha H (Ex.refl H) _ fun H1 e1 => ?_
  exact
  ⟨Or.inl ⟨rfl, xs, sq_of (e1 l _ hl)⟩, h H1 e1 _ fun v H2 e2 p => ⟨l, xs, v, rfl, rfl, e2 l _ (e1 l _ hl), sz_lt hz, k v H2 (e1.trans e2) p⟩⟩
/-- arguments, the last of them by what holds of it -/
def EvAP (ta : TA) (σ : L2.St) (H : Hp) (P : List V → Hp → Prop) : Prop := ∀ H1, Ex H H1 → ∀ Q : List V → Hp → Prop, (∀ vs H2, Ex H1 H2 → P vs H2 → Q vs H2) → ta σ H1 Q
theorem eap_ev {ta : TA} {vs : List V} (h : EvA ta σ H vs) {P : List V → Hp → Prop} (p : ∀ H', Ex H H' → P vs H') : EvAP ta σ H P := fun H1 e Q q => h H1 e Q fun H2 e2 => q vs H2 e2 (p H2 (e.trans e2))
theorem eap_cons {tr : TA} {P : V → Hp → Prop} {R : List V → Hp → Prop} (h : EvP te σ H P) (hr : EvAP tr σ H R) (keep : ∀ v H1 H2, Ex H1 H2 → P v H1 → P v H2) : EvAP (tCons te tr) σ H (fun vs H' => ∃ v r, vs = v :: r ∧ P v H' ∧ R r H') := fun H1 e Q q =>
  h H1 e _ fun v H2 e2 p => hr H2 (e.trans e2) _ fun r H3 e3 pr => q (v :: r) H3 (e2.trans e3) ⟨v, r, rfl, keep v H2 H3 e3 p, pr⟩
/-- a call by a pure promise, its arguments by what holds of them -/
theorem ep_callP {α : Type} {pre : α → List V → Hp → Prop} {post : α → V → Hp → Prop} {R : List V → Hp → Prop} (a : α) {E : XK} {ta : TA} (h : EvAP ta σ H R) (hp : ∀ vs H1, Ex H H1 → R vs H1 → pre a vs H1) : EvP (tCall (spX pre post) [] E ta) σ H (post a) := fun H1 e Q q =>
  h H1 e _ fun vs H2 e2 r => by
    rw [List.append_nil]
    exact ⟨a, hp vs H2 (e.trans e2) r, fun v H3 e3 p => q v H3 (e2.trans e3) p⟩
/-! ### all -/
theorem ev_all {bs : List Bool} (h : EvL te σ H (bs.map V.bl)) : Ev (tCB (rAll K) (tCons te tNil)) σ H (.bl (bs.all id)) := fun H1 e Q q =>
  h H1 e _ fun p H2 _ e2 hp => ⟨p, bs, rfl, sq_of hp, q H2 e2⟩
/-! ### comprehensions -/
theorem et_yes : EvT tYes σ H true := fun H1 _ _ q => q H1 (Ex.refl H1)
/-- one for over anything whose turns leave the heap as it was -/
theorem el_lcIt {J : It} {n : Nat} {G : Hp → Prop} {Y : Nat → Hp → V → Hp → Prop} {wi : TI} {Px : Nat → V → Prop} {j : Nat} {vs : List Nat} (w : Walk J n G Y)
    (hw0 : ∀ H0, Ex H H0 → ∀ R : It → Hp → Prop, (∀ H1, Ex H0 H1 → R J H1) → wi σ H0 R) (hG : ∀ H1, Ex H H1 → G H1) (hY : ∀ i H x H', Y i H x H' → H' = H ∧ Px i x)
    (f : Nat → Bool) (u : Nat → V) (hn : n ≤ 40000) (hwp : ∀ x, wipe ((wipe σ vs).set j (some x)) vs = wipe σ vs)
    (ht : ∀ i x H1, Ex H H1 → i < n → Px i x → EvT t ((wipe σ vs).set j (some x)) H1 (f i)) (he : ∀ i x H1, Ex H H1 → i < n → Px i x → f i = true → Ev te ((wipe σ vs).set j (some x)) H1 (u i)) :
    EvL (tLc wi (gName j) t te vs) σ H (given n f u) := fun H0 e Q q => hw0 H0 e _ fun H1 e1 Dl hD =>
  lc_it w (Cw H1 f u Dl) ⟨hD, Ex.new hD, upd_same⟩ (fun i H2 _ p => hG H2 ((e.trans e1).trans p.2.1)) (fun i x H2 H3 hi p y => by
    obtain ⟨rfl, px⟩ := hY i H2 x H3 y
    exact ⟨hwp x, cw_turn p (by omega) (ht i x H1 (e.trans e1) hi px) (fun hf => he i x H1 (e.trans e1) hi px hf)⟩)
    (fun H2 p => q Dl H2 (fresh_back e1 p.1) (e1.trans p.2.1) p.2.2)
theorem given_all (n : Nat) (u : Nat → V) : given n (fun _ => true) u = (List.range n).map u := by
  unfold given
  rw [List.filter_eq_self.mpr (fun _ _ => rfl)]
/-- .. without a test -/
theorem el_lcAll {J : It} {n : Nat} {G : Hp → Prop} {Y : Nat → Hp → V → Hp → Prop} {wi : TI} {Px : Nat → V → Prop} {j : Nat} {vs : List Nat} (w : Walk J n G Y)
    (hw0 : ∀ H0, Ex H H0 → ∀ R : It → Hp → Prop, (∀ H1, Ex H0 H1 → R J H1) → wi σ H0 R) (hG : ∀ H1, Ex H H1 → G H1) (hY : ∀ i H x H', Y i H x H' → H' = H ∧ Px i x)
    (u : Nat → V) (hn : n ≤ 40000) (hwp : ∀ x, wipe ((wipe σ vs).set j (some x)) vs = wipe σ vs) (he : ∀ i x H1, Ex H H1 → i < n → Px i x → Ev te ((wipe σ vs).set j (some x)) H1 (u i)) :
    EvL (tLc wi (gName j) tYes te vs) σ H ((List.range n).map u) := by
  have h := el_lcIt w hw0 hG hY (fun _ => true) u hn hwp (fun _ _ _ _ _ _ => et_yes) (fun i x H1 e hi px _ => he i x H1 e hi px)
  rw [given_all] at h
  exact h
theorem w_str {z : Str} (h : Ev te σ H (.str z)) : ∀ H0, Ex H H0 → ∀ R : It → Hp → Prop, (∀ H1, Ex H0 H1 → R (Its z) H1) → iStr te σ H0 R := fun H0 e R r => h H0 e _ fun H1 e1 => ⟨z, rfl, r H1 e1⟩
theorem w_tup {a : Addr} {xs : List V} (h : Ev te σ H (.ref a)) (hx : SqT K H a xs) : ∀ H0, Ex H H0 → ∀ R : It → Hp → Prop, (∀ H1, Ex H0 H1 → R (Itt K a) H1) → iTup K te σ H0 R := fun H0 e R r => h H0 e _ fun H1 e1 => ⟨a, rfl, ⟨xs, ex_t (e.trans e1) hx⟩, r H1 e1⟩
theorem w_rng {ta : TA} {n : Nat} (h : EvA ta σ H [vi n]) (hn : n ≤ 40000) : ∀ H0, Ex H H0 → ∀ R : It → Hp → Prop, (∀ H1, Ex H0 H1 → R (Itr 0 n) H1) → iRng1 ta σ H0 R := fun H0 e R r => h H0 e _ fun H1 e1 => ⟨n, rfl, by omega, by omega, r H1 e1⟩
/-- over a tuple, a value for each item -/
theorem el_lcT {a : Addr} {xs : List V} {tl : TE} {j : Nat} {vs : List Nat} (h : Ev tl σ H (.ref a)) (hx : SqT K H a xs) (u : Nat → V) (hn : xs.length ≤ 40000) (hwp : ∀ x, wipe ((wipe σ vs).set j (some x)) vs = wipe σ vs)
    (he : ∀ i x H1, Ex H H1 → xs[i]? = some x → Ev te ((wipe σ vs).set j (some x)) H1 (u i)) : EvL (tLc (iTup K tl) (gName j) tYes te vs) σ H ((List.range xs.length).map u) :=
  el_lcAll walk_tup (w_tup h hx) (fun H1 e => ex_t e hx) (Px := fun i x => xs[i]? = some x) (fun i H x H' y => y) u hn hwp (fun i x H1 e _ px => he i x H1 e px)
theorem el_lcS {z : Str} {tl : TE} {j : Nat} {vs : List Nat} (h : Ev tl σ H (.str z)) (u : Nat → V) (hn : z.cps.size ≤ 40000) (hwp : ∀ x, wipe ((wipe σ vs).set j (some x)) vs = wipe σ vs)
    (he : ∀ i c H1, Ex H H1 → z.cps[i]? = some c → Ev te ((wipe σ vs).set j (some (.str ⟨#[c]⟩))) H1 (u i)) : EvL (tLc (iStr tl) (gName j) tYes te vs) σ H ((List.range z.cps.size).map u) :=
  el_lcAll walk_str (w_str h) (fun _ _ => trivial) (Px := fun i x => ∃ c, z.cps[i]? = some c ∧ x = .str ⟨#[c]⟩) (fun i H x H' y => y) u hn hwp (fun i x H1 e _ ⟨c, hc, hx⟩ => by subst hx; exact he i c H1 e hc)
/-! ### loops that give pairs -/
theorem walk_enumT {a : Addr} {xs : List V} : Walk (IteT K a) xs.length (fun H => SqT K H a xs) (YPair (fun i => some (vi i)) (fun i => xs[i]?)) := by
  refine ⟨fun i H hi q => ⟨xs, xs[i], q, List.getElem?_eq_getElem hi⟩, fun H q => ⟨xs, q, Nat.le_refl _⟩, fun i H v H' _ q y => ?_⟩
  obtain ⟨T, x, h1, h2, h3, h4⟩ := y
  exact ⟨T, vi i, x, h1, h2, h3, rfl, h4 xs q⟩
theorem q_enumT {a : Addr} {xs : List V} {ta : TA} {j1 j2 : Nat} (h : EvA ta σ H [.ref a]) (hx : SqT K H a xs) (Pv : Nat → L2.St → Hp → Prop) (h0 : ∀ H1, Ex H H1 → Pv 0 σ H1) (hl : ∀ i σ' H', i ≤ xs.length → Pv i σ' H' → SqT K H' a xs)
    (hs : ∀ i x σ' H' H'', xs[i]? = some x → Pv i σ' H' → Ex H' H'' → tu { D with nx := Pv (i + 1), ct := Pv (i + 1), bk := tz D } ((σ'.set j1 (some (vi i))).set j2 (some x)) H'') (hd : ∀ σ' H', Pv xs.length σ' H' → tz D σ' H') :
    tSeq (tFor (iEnumT K ta) (gTup K 2 (gCons (gName j1) (gCons (gName j2) gNil))) tu) tz D σ H :=
  h H (Ex.refl H) _ fun H1 e => ⟨a, xs, rfl, ex_t e hx, for_it (D := { D with nx := tz D }) walk_enumT Pv (h0 H1 e) hl (fun i v σ' H2 H3 hi p y => by
    obtain ⟨T, x1, x2, rfl, nT, rfl, e1, e2⟩ := y
    cases e1
    exact ⟨T, _, rfl, st_of upd_same, rfl, _, _, rfl, _, _, rfl, rfl, hs i x2 σ' H2 _ e2 p (Ex.new nT)⟩) hd⟩
theorem s_enumT {a : Addr} {xs : List V} {ta : TA} {j1 j2 : Nat} (h : EvA ta σ H [.ref a]) (hx : SqT K H a xs) (Pv : Nat → L2.St → Hp → Prop) (h0 : ∀ H1, Ex H H1 → Pv 0 σ H1) (hl : ∀ i σ' H', i ≤ xs.length → Pv i σ' H' → SqT K H' a xs)
    (hs : ∀ i x σ' H' H'', xs[i]? = some x → Pv i σ' H' → Ex H' H'' → tu { D with nx := Pv (i + 1), ct := Pv (i + 1), bk := D.nx } ((σ'.set j1 (some (vi i))).set j2 (some x)) H'') (hd : ∀ σ' H', Pv xs.length σ' H' → D.nx σ' H') :
    tFor (iEnumT K ta) (gTup K 2 (gCons (gName j1) (gCons (gName j2) gNil))) tu D σ H :=
  h H (Ex.refl H) _ fun H1 e => ⟨a, xs, rfl, ex_t e hx, for_it walk_enumT Pv (h0 H1 e) hl (fun i v σ' H2 H3 hi p y => by
    obtain ⟨T, x1, x2, rfl, nT, rfl, e1, e2⟩ := y
    cases e1
    exact ⟨T, _, rfl, st_of upd_same, rfl, _, _, rfl, _, _, rfl, rfl, hs i x2 σ' H2 _ e2 p (Ex.new nT)⟩) hd⟩
/-- enumerate of a list -/
theorem q_enumL {a : Addr} {xs : List V} {ta : TA} {j1 j2 : Nat} (h : EvA ta σ H [.ref a]) (hx : SqL K H a xs) (Pv : Nat → L2.St → Hp → Prop) (h0 : ∀ H1, Ex H H1 → Pv 0 σ H1) (hl : ∀ i σ' H', i ≤ xs.length → Pv i σ' H' → SqL K H' a xs)
    (hs : ∀ i x σ' H' H'', xs[i]? = some x → Pv i σ' H' → Ex H' H'' → tu { D with nx := Pv (i + 1), ct := Pv (i + 1), bk := tz D } ((σ'.set j1 (some (vi i))).set j2 (some x)) H'') (hd : ∀ σ' H', Pv xs.length σ' H' → tz D σ' H') :
    tSeq (tFor (iEnum K ta) (gTup K 2 (gCons (gName j1) (gCons (gName j2) gNil))) tu) tz D σ H :=
  h H (Ex.refl H) _ fun H1 e => ⟨a, xs, rfl, ex_l e hx, for_it (D := { D with nx := tz D }) walk_enum Pv (h0 H1 e) hl (fun i v σ' H2 H3 hi p y => by
    obtain ⟨T, x1, x2, rfl, nT, rfl, e1, e2⟩ := y
    cases e1
    exact ⟨T, _, rfl, st_of upd_same, rfl, _, _, rfl, _, _, rfl, rfl, hs i x2 σ' H2 _ e2 p (Ex.new nT)⟩) hd⟩
end
end Dw
end
section
/-! comprehensions of two fors; new tuples of lists; lists made and changed -/
namespace Dw
open PySem PySem.Spec PyProof.Rows L2 Evl
section
variable {K : PySem.W.Frag} {σ : L2.St} {H H' : Hp} {ta tb te : TE} {t : TT} {x y z v : V} {P : V → Hp → Prop} {D : Ends} {tu tz : TS} {g : TG}
/-- tuple(a new list) -/
def rTupOf (K : PySem.W.Frag) : List V → Hp → VK → Prop := fun xs H Q => ∃ p ys, xs = [.ref p] ∧ ((SqL K H p ys ∧ ∀ l, H l = none → Q (.ref l) (upd H l (.tup ys))) ∨ (SqT K H p ys ∧ Q (.ref p) H))
theorem eu_tupN {xs : List V} (h : EvL te σ H xs) : EvU (tCB (rTupOf K) (tCons te tNil)) σ H xs := fun H1 e Q q =>
  h H1 e _ fun p H2 _ e2 hp => ⟨p, xs, rfl, .inl ⟨sq_of hp, fun l nl => q l _ (fresh_back e2 nl) (e2.trans (Ex.new nl)) upd_same⟩⟩
/-- tuple(a list that stands) -/
theorem eu_tupL {xs : List V} {p : Addr} (h : Ev te σ H (.ref p)) (hp : SqL K H p xs) : EvU (tCB (rTupOf K) (tCons te tNil)) σ H xs := fun H1 e Q q =>
  h H1 e _ fun H2 e2 => ⟨p, xs, rfl, .inl ⟨ex_l (e.trans e2) hp, fun l nl => q l _ (fresh_back e2 nl) (e2.trans (Ex.new nl)) upd_same⟩⟩
theorem ep_nats {xs : List V} {ns : List Nat} (h : EvU te σ H xs) (e : xs = ns.map vi) : EvP te σ H (fun v H' => Nats K H' v ns) := fun H1 e1 Q q =>
  h H1 e1 Q fun p H2 _ e2 hp => q (.ref p) H2 e2 ⟨p, rfl, by rw [← e]; exact st_of hp⟩
end
end Dw
end
section
/-! zip of two tuples; tuples of values by what holds of them -/
namespace Dw
open PySem PySem.Spec PyProof.Rows L2 Evl RZ
section
variable {K : PySem.W.Frag} {σ : L2.St} {H H' : Hp} {ta tb te : TE} {t : TT} {x y z v : V} {P : V → Hp → Prop} {D : Ends} {tu tz : TS} {g : TG}
theorem walk_zipT {a b : Addr} {xs ys : List V} (hl : xs.length = ys.length) : Walk (ItzT K a b) xs.length (fun H => SqT K H a xs ∧ SqT K H b ys) (YPair (fun i => xs[i]?) (fun i => ys[i]?)) := by
  refine ⟨fun i H hi q => ⟨xs, ys, xs[i], ys[i]'(by rw [← hl]; exact hi), q.1, q.2, List.getElem?_eq_getElem hi, List.getElem?_eq_getElem (by rw [← hl]; exact hi)⟩, fun H q => ⟨xs, ys, q.1, q.2, .inl (Nat.le_refl _)⟩, fun i H v H' _ q y => ?_⟩
  obtain ⟨T, x1, x2, h1, h2, h3, h4, h5⟩ := y
  exact ⟨T, x1, x2, h1, h2, h3, h4 xs q.1, h5 ys q.2⟩
theorem q_zipT {a b : Addr} {xs ys : List V} {ta : TA} (h : EvA ta σ H [.ref a, .ref b]) (hx : SqT K H a xs) (hy : SqT K H b ys) (hl : xs.length = ys.length) (Pv : Nat → L2.St → Hp → Prop) (h0 : ∀ H1, Ex H H1 → Pv 0 σ H1) (hk : ∀ i σ' H', i ≤ xs.length → Pv i σ' H' → SqT K H' a xs ∧ SqT K H' b ys)
    (hs : ∀ i x y T σ' H', xs[i]? = some x → ys[i]? = some y → Pv i σ' H' → H' T = none → g (.ref T) σ' (upd H' T (.tup [x, y])) fun σ2 H2 => tu { D with nx := Pv (i + 1), ct := Pv (i + 1), bk := tz D } σ2 H2) (hd : ∀ σ' H', Pv xs.length σ' H' → tz D σ' H') :
    tSeq (tFor (iZipA K ta) g tu) tz D σ H :=
  h H (Ex.refl H) _ fun H1 e => ⟨a, b, xs, ys, rfl, .inr ⟨ex_t e hx, ex_t e hy, for_it (D := { D with nx := tz D }) (walk_zipT hl) Pv (h0 H1 e) hk (fun i v σ' H2 H3 hi p y => by
    obtain ⟨T, x1, x2, rfl, nT, rfl, e1, e2⟩ := y
    exact hs i x1 x2 T σ' H2 e1 e2 p nT) hd⟩⟩
end
end Dw
end
section
/-! a new tuple told with its own object (so that its methods may be called); tuple.index of ints -/
namespace Dw
open PySem PySem.Spec PyProof.Rows L2 Evl
/-! readings opened by one step -/
section
variable {σ : L2.St} {H : Hp} {ta tb te : TE} {D : Ends} {g : TG}
theorem do_cons {tr : TA} {Q : List V → Hp → Prop} (h : ta σ H fun x H1 => tr σ H1 fun xs H2 => Q (x :: xs) H2) : tCons ta tr σ H Q := h
theorem do_nil {Q : List V → Hp → Prop} (h : Q [] H) : tNil σ H Q := h
theorem do_op {r : R2} {Q : VK} (h : ta σ H fun x H1 => tb σ H1 fun y H2 => r x y H2 Q) : tOp r ta tb σ H Q := h
theorem do_tup {t : TA} {Q : VK} (h : t σ H fun xs H1 => xs.length ≤ sizeLine ∧ ∀ p, H1 p = none → Q (.ref p) (upd H1 p (.tup xs))) : tTup t σ H Q := h
theorem do_lst {t : TA} {Q : VK} (h : t σ H fun xs H1 => xs.length ≤ sizeLine ∧ ∀ p, H1 p = none → Q (.ref p) (upd H1 p (.lst xs))) : tLst t σ H Q := h
theorem do_cb {r : List V → Hp → VK → Prop} {t : TA} {Q : VK} (h : t σ H fun vs H1 => r vs H1 Q) : tCB r t σ H Q := h
theorem do_ret (h : te σ H D.rt) : tRet te D σ H := h
theorem do_asg (h : te σ H fun x H1 => g x σ H1 D.nx) : tAsg te g D σ H := h
theorem do_ev {v : V} {Q : VK} (h : Ev te σ H v) (k : ∀ H1, Ex H H1 → Q v H1) : te σ H Q := h H (Ex.refl H) Q k
theorem do_evL {xs : List V} {Q : VK} (h : EvL te σ H xs) (k : ∀ p H1, H p = none → Ex H H1 → H1 p = some (.lst xs) → Q (.ref p) H1) : te σ H Q := h H (Ex.refl H) Q k
theorem do_evU {xs : List V} {Q : VK} (h : EvU te σ H xs) (k : ∀ p H1, H p = none → Ex H H1 → H1 p = some (.tup xs) → Q (.ref p) H1) : te σ H Q := h H (Ex.refl H) Q k
theorem do_evP {P : V → Hp → Prop} {Q : VK} (h : EvP te σ H P) (k : ∀ v H1, Ex H H1 → P v H1 → Q v H1) : te σ H Q := h H (Ex.refl H) Q k
end
section
variable {X : Cx}
theorem ints_of : ∀ {ns : List Int} {us : List Value}, Vals (ns.map V.int) us → IntsAre us ns
  | [], _, .nil => .nil
  | n :: ns, _, .cons (b := u) r t => by
    obtain ⟨tk, e⟩ := (show ∃ t, u = Value.int n t from r)
    subst e
    exact .cons n tk (ints_of t)
end
end Dw
end
section
/-! the mathematics of own orders, over plain lists of natural numbers -/
namespace M25
open M20
/-! begins of orders: the numbers called so far, in the order of their new names -/
/-- a begin of length L -/
structure Bg (n L : Nat) (b : List Nat) : Prop where
  len : b.length = L
  low : ∀ x ∈ b, x < n
  nd : b.Nodup
def free (n : Nat) (b : List Nat) : List Nat := (List.range n).filter fun k => !decide (k ∈ b)
theorem mem_free {n k : Nat} {b : List Nat} : k ∈ free n b ↔ k < n ∧ k ∉ b := by
  unfold free
  rw [List.mem_filter, List.mem_range]
  constructor
  · rintro ⟨a, c⟩
    exact ⟨a, fun z => by rw [decide_eq_true z] at c; cases c⟩
  · rintro ⟨a, c⟩
    exact ⟨a, by rw [decide_eq_false c]; rfl⟩
def ext1 (n : Nat) (bs : List (List Nat)) : List (List Nat) := bs.flatMap fun b => (free n b).map fun k => b ++ [k]
def allc (n : Nat) : Nat → List (List Nat) → List (List Nat)
  | 0, bs => bs
  | k + 1, bs => allc n k (ext1 n bs)
/-- rows of begins, all of one length -/
structure Bgs (n L : Nat) (bs : List (List Nat)) : Prop where
  each : ∀ b ∈ bs, Bg n L b
  nd : bs.Nodup
theorem Bg.snoc {n L k : Nat} {b : List Nat} (h : Bg n L b) (hk : k < n) (m : k ∉ b) : Bg n (L + 1) (b ++ [k]) := ⟨by rw [List.length_append, h.len]; rfl, fun x hx => by
  rcases List.mem_append.mp hx with z | z
  · exact h.low x z
  · rw [List.mem_singleton.mp z]; exact hk, by
  rw [List.nodup_append]
  refine ⟨h.nd, List.nodup_cons.mpr ⟨(by intro z; cases z), List.nodup_nil⟩, fun a ha c hc e => ?_⟩
  rw [List.mem_singleton.mp hc] at e
  exact m (e ▸ ha)⟩
theorem snoc_inj {b c : List Nat} {x y : Nat} (h : b ++ [x] = c ++ [y]) : b = c ∧ x = y := by
  have := List.append_inj' h rfl
  exact ⟨this.1, by simpa using this.2⟩
theorem free_nd (n : Nat) (b : List Nat) : (free n b).Nodup := List.Pairwise.filter _ List.nodup_range
theorem ext1_mem {n : Nat} {bs : List (List Nat)} {c : List Nat} : c ∈ ext1 n bs ↔ ∃ b ∈ bs, ∃ k, k < n ∧ k ∉ b ∧ c = b ++ [k] := by
  unfold ext1
  rw [List.mem_flatMap]
  constructor
  · rintro ⟨b, hb, hc⟩
    obtain ⟨k, hk, rfl⟩ := List.mem_map.mp hc
    obtain ⟨a, d⟩ := mem_free.mp hk
    exact ⟨b, hb, k, a, d, rfl⟩
  · rintro ⟨b, hb, k, a, d, rfl⟩
    exact ⟨b, hb, List.mem_map.mpr ⟨k, mem_free.mpr ⟨a, d⟩, rfl⟩⟩
theorem ext1_nd {n : Nat} : ∀ {bs : List (List Nat)}, bs.Nodup → (ext1 n bs).Nodup
  | [], _ => List.nodup_nil
  | b :: bs, h => by
    rw [List.nodup_cons] at h
    show ((free n b).map (fun k => b ++ [k]) ++ ext1 n bs).Nodup
    rw [List.nodup_append]
    refine ⟨?_, ext1_nd h.2, fun x hx y hy e => ?_⟩
    · rw [List.nodup_iff_pairwise_ne, List.pairwise_map]
      exact (List.nodup_iff_pairwise_ne.mp (free_nd n b)).imp fun z e => z (snoc_inj e).2
    · obtain ⟨k, _, rfl⟩ := List.mem_map.mp hx
      obtain ⟨c, hc, j, _, _, rfl⟩ := ext1_mem.mp hy
      exact h.1 ((snoc_inj e).1 ▸ hc)
theorem Bgs.ext1 {n L : Nat} {bs : List (List Nat)} (h : Bgs n L bs) : Bgs n (L + 1) (ext1 n bs) := ⟨fun c hc => by
  obtain ⟨b, hb, k, a, d, rfl⟩ := ext1_mem.mp hc
  exact (h.each b hb).snoc a d, ext1_nd h.nd⟩
theorem Bgs.allc {n : Nat} : ∀ {k L : Nat} {bs : List (List Nat)}, Bgs n L bs → Bgs n (L + k) (allc n k bs)
  | 0, _, _, h => h
  | k + 1, L, bs, h => by
    have := Bgs.allc (k := k) h.ext1
    rw [Nat.add_assoc, Nat.add_comm 1 k] at this
    exact this
/-! orders told by what is called 0, 1, .. -/
theorem bg_ord {n : Nat} {q : List Nat} : Bg n n q ↔ Ord n q := by
  constructor
  · intro h
    refine ⟨h.len, fun k hk => h.low _ (List.mem_iff_getElem?.mpr ⟨k, g_eq (by rw [h.len]; exact hk)⟩), fun j k hj hk e => ?_⟩
    have a := g_eq (l := q) (k := j) (by rw [h.len]; exact hj)
    have b := g_eq (l := q) (k := k) (by rw [h.len]; exact hk)
    rw [e, ← b] at a
    have hj' : j < q.length := by rw [h.len]; exact hj
    have hk' : k < q.length := by rw [h.len]; exact hk
    rw [List.getElem?_eq_getElem hj', List.getElem?_eq_getElem hk'] at a
    have p := List.pairwise_iff_getElem.mp (List.nodup_iff_pairwise_ne.mp h.nd)
    rcases Nat.lt_trichotomy j k with z | z | z
    · exact absurd (Option.some.inj a) (p j k hj' hk' z)
    · exact z
    · exact absurd (Option.some.inj a).symm (p k j hk' hj' z)
  · intro h
    refine ⟨h.len, fun x hx => ?_, ?_⟩
    · obtain ⟨i, hi, e⟩ := List.mem_iff_getElem.mp hx
      have a := g_eq hi
      rw [List.getElem?_eq_getElem hi, e] at a
      rw [Option.some.inj a]
      exact h.low i (by rw [← h.len]; exact hi)
    · rw [List.nodup_iff_pairwise_ne, List.pairwise_iff_getElem]
      intro i j hi hj hij e
      have a := g_eq hi
      have b := g_eq hj
      rw [List.getElem?_eq_getElem hi, e] at a
      rw [List.getElem?_eq_getElem hj] at b
      have := h.inj i j (by rw [← h.len]; exact hi) (by rw [← h.len]; exact hj) ((Option.some.inj a).symm.trans (Option.some.inj b))
      omega
/-- an order goes on from one of the begins -/
def On (bs : List (List Nat)) (q : List Nat) : Prop := ∃ b ∈ bs, b <+: q
theorem on_ext1 {n L : Nat} {bs : List (List Nat)} {q : List Nat} (h : Bgs n L bs) (lt : L < n) (hq : Bg n n q) : On (ext1 n bs) q ↔ On bs q := by
  constructor
  · rintro ⟨c, hc, p⟩
    obtain ⟨b, hb, k, _, _, rfl⟩ := ext1_mem.mp hc
    exact ⟨b, hb, (List.prefix_append b [k]).trans p⟩
  · rintro ⟨b, hb, r, e⟩
    cases r with
    | nil =>
      rw [List.append_nil] at e
      have a := (h.each b hb).len
      have c := hq.len
      rw [← e] at c
      omega
    | cons k r =>
      have nd := hq.nd
      rw [← e] at nd
      have m : k ∉ b := fun z => (List.nodup_append.mp nd).2.2 k z k (List.mem_cons_self ..) rfl
      have lo : k < n := hq.low k (by rw [← e]; exact List.mem_append_right _ (List.mem_cons_self ..))
      exact ⟨b ++ [k], ext1_mem.mpr ⟨b, hb, k, lo, m, rfl⟩, r, by rw [List.append_assoc]; exact e⟩
theorem on_allc {n : Nat} {q : List Nat} (hq : Bg n n q) : ∀ {k L : Nat} {bs : List (List Nat)}, Bgs n L bs → L + k ≤ n → (On (allc n k bs) q ↔ On bs q)
  | 0, _, _, _, _ => Iff.rfl
  | k + 1, L, bs, h, le => (on_allc hq h.ext1 (by omega)).trans (on_ext1 h (by omega) hq)
theorem prefix_full {n : Nat} {b q : List Nat} (h : Bg n n b) (hq : Bg n n q) (p : b <+: q) : b = q := by
  obtain ⟨r, e⟩ := p
  have a := h.len
  have c := hq.len
  rw [← e, List.length_append] at c
  cases r with
  | nil =>
    rw [List.append_nil] at e
    exact e
  | cons k r =>
    rw [List.length_cons] at c
    omega
theorem on_full {n : Nat} {bs : List (List Nat)} {q : List Nat} (h : Bgs n n bs) (hq : Bg n n q) : On bs q ↔ q ∈ bs := ⟨fun ⟨b, hb, p⟩ => prefix_full (h.each b hb) hq p ▸ hb, fun m => ⟨q, m, List.prefix_rfl⟩⟩
/-! the worth of a cell -/
/-- the place of old numbers -/
def at_ (n : Nat) (b args : List Nat) : Nat := args.foldl (fun a k => a * n + g b k) 0
def old (n : Nat) (t args b : List Nat) : Nat := g t (at_ n b args)
def told (n : Nat) (t args b : List Nat) : Nat := if old n t args b ∈ b then b.idxOf (old n t args b) else b.length
def kept (n : Nat) (t args b : List Nat) : List Nat := if old n t args b ∈ b then b else b ++ [old n t args b]
/-- the least that is told, the first ahead -/
def best (n : Nat) (t args : List Nat) : List (List Nat) → Nat → Nat
  | [], m => m
  | b :: bs, m => best n t args bs (min m (told n t args b))
def lst (n : Nat) (t args : List Nat) (bs : List (List Nat)) : List (List Nat) := (bs.filter fun b => decide (told n t args b = best n t args bs n)).map (kept n t args)
end M25
end
section
/-! the mathematics of own orders: what is the same for all, tables of cells, the orders that lead to the least -/
namespace M25
open M20
/-! ### what two orders leave, all leave -/
def sw (n i : Nat) : List Nat := (List.range n).map fun k => if k = i then i + 1 else if k = i + 1 then i else k
def rot (n : Nat) : List Nat := (List.range n).map fun k => if k + 1 = n then 0 else k + 1
def same (n p : Nat) (t : List Nat) : Bool := decide (n = 1) || (decide (ren n p (sw n 0) t = t) && decide (ren n p (rot n) t = t))
/-! ### rows of numbers -/
def rows (n : Nat) : Nat → List (List Nat)
  | 0 => [[]]
  | p + 1 => (rows n p).flatMap fun r => (List.range n).map fun k => r ++ [k]
theorem rows_of {n : Nat} : ∀ {p : Nat} {r : List Nat}, r ∈ rows n p → r.length = p ∧ ∀ k ∈ r, k < n
  | 0, r, h => by
    rw [List.mem_singleton.mp h]
    exact ⟨rfl, fun k z => by cases z⟩
  | p + 1, r, h => by
    obtain ⟨s, hs, h2⟩ := List.mem_flatMap.mp h
    obtain ⟨k, hk, rfl⟩ := List.mem_map.mp h2
    obtain ⟨a, b⟩ := rows_of hs
    refine ⟨by rw [List.length_append, a]; rfl, fun j hj => ?_⟩
    rcases List.mem_append.mp hj with z | z
    · exact b j z
    · rw [List.mem_singleton.mp z]
      exact List.mem_range.mp hk
theorem flatr {α : Type} (m : Nat) (hm : 0 < m) (f : Nat → Nat → α) : ∀ n, ((List.range n).flatMap fun i => (List.range m).map (f i)) = (List.range (n * m)).map fun s => f (s / m) (s % m)
  | 0 => by rw [Nat.zero_mul]; rfl
  | n + 1 => by
    rw [List.range_succ, List.flatMap_append, flatr m hm f n, List.flatMap_singleton, Nat.add_mul, Nat.one_mul, List.range_add, List.map_append, List.map_map]
    congr 1
    apply List.map_congr_left
    intro k hk
    have hk' := List.mem_range.mp hk
    show f n k = f ((n * m + k) / m) ((n * m + k) % m)
    rw [Nat.add_comm (n * m) k, Nat.add_mul_div_right _ _ hm, Nat.div_eq_of_lt hk', Nat.zero_add, Nat.add_mul_mod_self_right, Nat.mod_eq_of_lt hk']
theorem rows_1 (n : Nat) : rows n 1 = (List.range n).map fun k => [k] := by
  show ([[]] : List (List Nat)).flatMap _ = _
  rw [List.flatMap_singleton]
  rfl
theorem rows_2 {n : Nat} (h : 0 < n) : rows n 2 = (List.range (n * n)).map fun s => [s / n, s % n] := by
  show (rows n 1).flatMap _ = _
  rw [rows_1, List.flatMap_map]
  exact flatr n h (fun i j => [i, j]) n
/-! ### the steps -/
def need (args : List Nat) : Nat := args.foldr (fun k m => max (k + 1) m) 0
def ln (bs : List (List Nat)) : Nat := (bs.headD []).length
def grow (n many : Nat) (bs : List (List Nat)) : List (List Nat) := allc n (many - ln bs) bs
def stepV (n : Nat) (t : List Nat) (bs : List (List Nat)) (args : List Nat) : Nat := best n t args (grow n (need args) bs) n
def stepB (n : Nat) (t : List Nat) (bs : List (List Nat)) (args : List Nat) : List (List Nat) := lst n t args (grow n (need args) bs)
/-- begins as they go on -/
def Good (n : Nat) (bs : List (List Nat)) : Prop := ∃ L, L ≤ n ∧ Bgs n L bs ∧ bs ≠ []
theorem ln_is {n L : Nat} {bs : List (List Nat)} (h : Bgs n L bs) (ne : bs ≠ []) : ln bs = L := by
  cases bs with
  | nil => exact absurd rfl ne
  | cons b r => exact (h.each b (List.mem_cons_self ..)).len
theorem Good.bgs {n : Nat} {bs : List (List Nat)} (h : Good n bs) : Bgs n (ln bs) bs := by
  obtain ⟨L, a, b, c⟩ := h
  rw [ln_is b c]
  exact b
theorem Good.ln_le {n : Nat} {bs : List (List Nat)} (h : Good n bs) : ln bs ≤ n := by
  obtain ⟨L, a, b, c⟩ := h
  rw [ln_is b c]
  exact a
theorem Good.ne {n : Nat} {bs : List (List Nat)} (h : Good n bs) : bs ≠ [] := let ⟨_, _, _, c⟩ := h; c
def rowV (n : Nat) (t : List Nat) : List (List Nat) → List (List Nat) → List Nat
  | _, [] => []
  | bs, a :: as => stepV n t bs a :: rowV n t (stepB n t bs a) as
def rowB (n : Nat) (t : List Nat) : List (List Nat) → List (List Nat) → List (List Nat)
  | bs, [] => bs
  | bs, a :: as => rowB n t (stepB n t bs a) as
/-! ### tables, one behind the other -/
abbrev PT := Nat × List Nat
def tabB (n : Nat) : List PT → List (List Nat) → List (List Nat)
  | [], bs => bs
  | x :: r, bs => if same n x.1 x.2 = true then tabB n r bs else tabB n r (rowB n x.2 bs (rows n x.1))
def tabV (n : Nat) : List PT → List (List Nat) → List (List Nat)
  | [], _ => []
  | x :: r, bs => if same n x.1 x.2 = true then x.2 :: tabV n r bs else rowV n x.2 bs (rows n x.1) :: tabV n r (rowB n x.2 bs (rows n x.1))
theorem start_good (n : Nat) : Good n [[]] := ⟨0, Nat.zero_le _, ⟨fun b hb => by
  rw [List.mem_singleton.mp hb]
  exact ⟨rfl, fun x z => (by cases z), List.nodup_nil⟩, List.nodup_cons.mpr ⟨(by intro z; cases z), List.nodup_nil⟩⟩, fun z => by cases z⟩
theorem start_on (q : List Nat) : On [[]] q := ⟨[], List.mem_singleton.mpr rfl, q, rfl⟩
/-- the orders that lead to the least, told by what is called 0, 1, .. -/
def fin (n : Nat) (l : List PT) : List (List Nat) := grow n n (tabB n l [[]])
def least (n : Nat) (l : List PT) : List (List Nat) := tabV n l [[]]
end M25
end
section
/-! own orders: a group, its number, its lots -/
namespace M25
open M20
def orders (n : Nat) (l : List PT) : List (List Nat) := (fin n l).map bk
def first (os : List (List Nat)) : List Nat := os.headD []
def own (n : Nat) (l : List PT) : List (List Nat) := (orders n l).map fun a => cmp a (bk (first (orders n l)))
/-! ### their number -/
def fact : Nat → Nat
  | 0 => 1
  | k + 1 => fact k * (k + 1)
theorem free_len {n L : Nat} {b : List Nat} (h : Bg n L b) : (free n b).length = n - L := by
  have nd : (free n b ++ b).Nodup := List.nodup_append.mpr ⟨free_nd n b, h.nd, fun x hx y hy e => (mem_free.mp hx).2 (e ▸ hy)⟩
  have a := len_le (free n b ++ b) (List.range n) nd fun x hx => List.mem_range.mpr (by
    rcases List.mem_append.mp hx with z | z
    · exact (mem_free.mp z).1
    · exact h.low x z)
  have c := len_le (List.range n) (free n b ++ b) List.nodup_range fun x hx => by
    by_cases z : x ∈ b
    · exact List.mem_append_right _ z
    · exact List.mem_append_left _ (mem_free.mpr ⟨List.mem_range.mp hx, z⟩)
  rw [List.length_append, List.length_range, h.len] at a c
  omega
theorem ext1_len {n L : Nat} : ∀ {bs : List (List Nat)}, (∀ b ∈ bs, Bg n L b) → (ext1 n bs).length = bs.length * (n - L)
  | [], _ => by simp [ext1]
  | b :: bs, h => by
    show ((free n b).map (fun k => b ++ [k]) ++ ext1 n bs).length = _
    rw [List.length_append, List.length_map, free_len (h b (List.mem_cons_self ..)), ext1_len fun c hc => h c (List.mem_cons_of_mem _ hc), List.length_cons, Nat.add_mul, Nat.one_mul, Nat.add_comm]
theorem allc_len {n : Nat} : ∀ {k L : Nat} {bs : List (List Nat)}, Bgs n L bs → L + k = n → (allc n k bs).length = bs.length * fact k
  | 0, _, bs, _, _ => (Nat.mul_one _).symm
  | k + 1, L, bs, h, e => by
    show (allc n k (ext1 n bs)).length = _
    rw [allc_len h.ext1 (by omega), ext1_len h.each, show n - L = k + 1 by omega, fact, Nat.mul_assoc, Nat.mul_comm (k + 1)]
def all_ (n : Nat) : List (List Nat) := allc n n [[]]
theorem all_bgs (n : Nat) : Bgs n n (all_ n) := by
  have := (start_good n).bgs.allc (k := n)
  rw [show ln [[]] = 0 from rfl, Nat.zero_add] at this
  exact this
theorem all_len (n : Nat) : (all_ n).length = fact n := by
  have := allc_len (k := n) (start_good n).bgs (by rw [show ln [[]] = 0 from rfl, Nat.zero_add])
  rw [show ([[]] : List (List Nat)).length = 1 from rfl, Nat.one_mul] at this
  exact this
theorem all_mem {n : Nat} {a : List Nat} : a ∈ all_ n ↔ Ord n a := by
  constructor
  · exact fun h => bg_ord.mp ((all_bgs n).each a h)
  · intro h
    have hq := bg_ord.mpr h
    exact (on_full (all_bgs n) hq).mp ((on_allc hq (k := n) (start_good n).bgs (by rw [show ln [[]] = 0 from rfl]; omega)).mpr (start_on a))
/-! ### led over by an order -/
/-! ### lots -/
def orb (n : Nat) (os : List (List Nat)) (k : Nat) : List Nat := (List.range n).filter fun j => os.any fun a => decide (g a k = j)
def lots (n : Nat) (os : List (List Nat)) : List (List Nat) := ((List.range n).filter fun k => decide ((orb n os k).headD 0 = k)).map (orb n os)
end M25
end
section
/-! how many begins there are; names told by a begin -/
namespace M25
open M20
theorem fact_pos : ∀ n, 1 ≤ fact n
  | 0 => Nat.le_refl _
  | n + 1 => by
    show 1 ≤ fact n * (n + 1)
    have := fact_pos n
    exact Nat.le_trans this (Nat.le_mul_of_pos_right _ (Nat.succ_pos n))
theorem fact6 {n : Nat} (h : n ≤ 6) : fact n ≤ 720 := by
  match n, h with
  | 0, _ => decide
  | 1, _ => decide
  | 2, _ => decide
  | 3, _ => decide
  | 4, _ => decide
  | 5, _ => decide
  | 6, _ => decide
theorem sub_len {l m : List (List Nat)} (h1 : l.Nodup) (h : ∀ x ∈ l, x ∈ m) : l.length ≤ m.length := by
  induction l generalizing m with
  | nil => exact Nat.zero_le _
  | cons x l ih =>
    have hx := h x (List.mem_cons_self ..)
    rw [List.nodup_cons] at h1
    have := ih (m := m.erase x) h1.2 fun y hy => (List.mem_erase_of_ne (show y ≠ x from fun e => h1.1 (by rw [← e]; exact hy))).mpr (h y (List.mem_cons_of_mem _ hy))
    rw [List.length_erase_of_mem hx] at this
    have := List.length_pos_of_mem hx
    rw [List.length_cons]
    omega
theorem bgs_few {n L : Nat} {bs : List (List Nat)} (h : Bgs n L bs) (le : L ≤ n) : bs.length ≤ fact n := by
  have a := allc_len h (k := n - L) (by omega)
  have b : Bgs n (L + (n - L)) (allc n (n - L) bs) := h.allc
  rw [show L + (n - L) = n by omega] at b
  have c := sub_len b.nd fun x hx => all_mem.mpr (bg_ord.mp (b.each x hx))
  rw [all_len, a] at c
  exact Nat.le_trans (Nat.le_mul_of_pos_right _ (fact_pos _)) c
theorem Good.few {n : Nat} {bs : List (List Nat)} (h : Good n bs) (n6 : n ≤ 6) : bs.length ≤ 720 := Nat.le_trans (bgs_few h.bgs h.ln_le) (fact6 n6)
end M25
end
section
/-! data of tracked things: what repr and == want of it -/
namespace Dw
open PySem PySem.Spec PyProof.Rows L2 Evl
/-- small data: depth at most k, weight at most W -/
structure Gd (k W : Nat) (d : PyData) : Prop where
  lay : d.canLay0 = true
  dep : d.depth ≤ k
  wgt : d.weight ≤ W
  its : d.intsShort 13 = true
  sho : d.showable = true
theorem Gd.mono {k W k' W' : Nat} {d : PyData} (h : Gd k W d) (a : k ≤ k') (b : W ≤ W') : Gd k' W' d := ⟨h.lay, Nat.le_trans h.dep a, Nat.le_trans h.wgt b, h.its, h.sho⟩
theorem log_low {n : Nat} (h : n ≤ 1000) : n.log2 ≤ 9 := by
  by_cases z : n = 0
  · subst z
    decide
  · exact Nat.le_of_lt_succ ((Nat.log2_lt z).mpr (by have e : 2 ^ 10 = 1024 := by decide
                                                     omega))
theorem gd_int {n : Nat} (h : n ≤ 1000) : Gd 0 10 (.int (n : Int)) := by
  have l := log_low h
  refine ⟨by rw [PyData.canLay0], by rw [PyData.depth]; exact Nat.le_refl _, ?_, ?_, ?_⟩
  · rw [PyData.weight, Int.natAbs_natCast]
    split <;> omega
  · rw [PyData.intsShort]
    exact decide_eq_true (PyData.shown_int_le2 (by omega) (by omega))
  · rw [PyData.showable, Int.natAbs_natCast]
    exact decide_eq_true (by omega)
theorem gd_all {k W : Nat} : ∀ {ds : List PyData}, (∀ d ∈ ds, Gd k W d) → PyData.canLayAll0 ds = true ∧ PyData.depthAll ds ≤ k ∧ PyData.weightAll ds ≤ ds.length * (W + 1) ∧ PyData.intsShortAll 13 ds = true ∧ PyData.showableAll ds = true
  | [], _ => ⟨by rw [PyData.canLayAll0], by rw [PyData.depthAll]; exact Nat.zero_le _, by rw [PyData.weightAll]; exact Nat.zero_le _, by rw [PyData.intsShortAll], by rw [PyData.showableAll]⟩
  | d :: ds, h => by
    obtain ⟨a, b, c, e, f⟩ := gd_all (ds := ds) fun x hx => h x (List.mem_cons_of_mem _ hx)
    have g := h d (List.mem_cons_self ..)
    refine ⟨by rw [PyData.canLayAll0, g.lay, a]; rfl, by rw [PyData.depthAll]; exact Nat.max_le.mpr ⟨g.dep, b⟩, ?_, by rw [PyData.intsShortAll, g.its, e]; rfl, by rw [PyData.showableAll, g.sho, f]; rfl⟩
    have w := g.wgt
    rw [PyData.weightAll, List.length_cons, Nat.succ_mul]
    omega
theorem gd_tup {k W L : Nat} {ds : List PyData} (h : ∀ d ∈ ds, Gd k W d) (l : ds.length ≤ L) : Gd (k + 1) (L * (W + 1)) (.tuple ds) := by
  obtain ⟨a, b, c, e, f⟩ := gd_all h
  exact ⟨by rw [PyData.canLay0]; exact a, by rw [PyData.depth]; omega, by rw [PyData.weight]; exact Nat.le_trans c (Nat.mul_le_mul_right _ l), by rw [PyData.intsShort]; exact e, by rw [PyData.showable]; exact f⟩
theorem gd_lst {k W L : Nat} {ds : List PyData} (h : ∀ d ∈ ds, Gd k W d) (l : ds.length ≤ L) : Gd (k + 1) (L * (W + 1)) (.list ds) := by
  obtain ⟨a, b, c, e, f⟩ := gd_all h
  exact ⟨by rw [PyData.canLay0]; exact a, by rw [PyData.depth]; omega, by rw [PyData.weight]; exact Nat.le_trans c (Nat.mul_le_mul_right _ l), by rw [PyData.intsShort]; exact e, by rw [PyData.showable]; exact f⟩
theorem Gd.len {k W : Nat} {d : PyData} (h : Gd k W d) (a : k ≤ 60) (b : W ≤ 1000000) : d.shown.length ≤ sizeLine := by
  have w := h.wgt
  have dp := h.dep
  have l0 : d.layable0 = true := by
    show (d.canLay0 && decide (d.depth ≤ 64) && decide (d.weight ≤ 2 ^ 20)) = true
    have e : (2 : Nat) ^ 20 = 1048576 := by decide
    rw [h.lay, decide_eq_true (show d.depth ≤ 64 by omega), decide_eq_true (show d.weight ≤ 2 ^ 20 by omega)]
    rfl
  have z := shown_le13 l0 h.its
  rw [sizeLine_eq]
  omega
theorem Gd.shaped {k W : Nat} {d : PyData} (h : Gd k W d) (a : k ≤ 60) : SeqAt.shaped d = true := by
  have dp := h.dep
  show (d.canLay0 && decide (d.depth ≤ 64)) = true
  rw [h.lay, decide_eq_true (show d.depth ≤ 64 by omega)]
  rfl
/-! things of the hand layer as data -/
section
variable {K : PySem.W.Frag} {H : Hp}
def dN (ns : List Nat) : PyData := .tuple (ns.map fun n => .int ((n : Nat) : Int))
theorem dps_nats : ∀ ns : List Nat, DpAll K H (ns.map vi) (ns.map fun n => .int ((n : Nat) : Int))
  | [] => .nil
  | n :: ns => .cons (.int _) (dps_nats ns)
theorem Nats.dp {v : V} {ns : List Nat} (h : Nats K H v ns) : Dp K H v (dN ns) := by
  obtain ⟨a, e, s⟩ := h
  subst e
  exact .tup s (dps_nats ns)
theorem dps_paired {β : Type} {R : V → β → Prop} {f : β → PyData} (h : ∀ v b, R v b → Dp K H v (f b)) : ∀ {vs : List V} {bs : List β}, Paired R vs bs → DpAll K H vs (bs.map f)
  | [], [], .nil => .nil
  | _ :: _, _ :: _, .cons r p => .cons (h _ _ r) (dps_paired h p)
def dM (n : Nat) (ts : List (List Nat)) : PyData := .tuple [.int (n : Int), .tuple (ts.map dN)]
theorem Mdl.dp {v : V} {n : Nat} {ts : List (List Nat)} (h : Mdl K H v n ts) : Dp K H v (dM n ts) := by
  obtain ⟨a, u, e, s, b, vs, e2, s2, p⟩ := h
  subst e e2
  exact .tup s (.cons (.int _) (.cons (.tup s2 (dps_paired (fun _ _ z => Nats.dp z) p)) .nil))
def dS (sg : List (Str × Nat)) : PyData := .tuple (sg.map fun p => .tuple [.str p.1, .int ((p.2 : Nat) : Int)])
theorem Sig.dp {v : V} {sg : List (Str × Nat)} (h : Sig K H v sg) : Dp K H v (dS sg) := by
  obtain ⟨a, vs, e, s, p⟩ := h
  subst e
  refine .tup s (dps_paired (fun v q z => ?_) p)
  obtain ⟨b, e, s⟩ := z
  subst e
  exact .tup s (.cons (.str _) (.cons (.int _) .nil))
theorem gd_nats {ns : List Nat} (h : ∀ n ∈ ns, n ≤ 1000) (l : ns.length ≤ 36) : Gd 1 396 (dN ns) := by
  refine gd_tup (k := 0) (W := 10) (L := 36) (fun d hd => ?_) (by rw [List.length_map]; exact l)
  obtain ⟨n, hn, e⟩ := List.mem_map.mp hd
  subst e
  exact gd_int (h n hn)
theorem gd_mdl {n : Nat} {ts : List (List Nat)} (hn : n ≤ 1000) (h : ∀ t ∈ ts, (∀ k ∈ t, k ≤ 1000) ∧ t.length ≤ 36) (l : ts.length ≤ 4) : Gd 3 3178 (dM n ts) := by
  refine gd_tup (k := 2) (W := 1588) (L := 2) (fun d hd => ?_) (Nat.le_refl 2)
  rcases List.mem_cons.mp hd with e | hd
  · subst e
    exact (gd_int hn).mono (by decide) (by decide)
  · rw [List.mem_singleton.mp hd]
    refine gd_tup (k := 1) (W := 396) (L := 4) (fun d hd => ?_) (by rw [List.length_map]; exact l)
    obtain ⟨t, ht, e⟩ := List.mem_map.mp hd
    subst e
    exact gd_nats (h t ht).1 (h t ht).2
end
end Dw
end
section
/-! dict(a tuple of pairs), the tuple told with its own object -/
namespace Dw
open PySem PySem.Spec PyProof.Rows L2 Evl
section
variable {X : Cx}
end
end Dw
end
section
/-! sets of texts, their table known well enough that they can be walked: add, set(a list), sorted -/
namespace Dw
open PySem PySem.Spec PyProof.Rows L2
/-- the text of an entry -/
def txtOf (e : Int × Value) : Str := match e.2 with | .str x _ => x | _ => Str.empty
def IsTxt (w : World) (e : Int × Value) : Prop := ∃ x tk, e.2 = Value.str x tk ∧ e.1 = hashStr w x
/-- a set at a whose members are the texts ks, each once, in the order in which they came -/
structure TxtSet (w : World) (h : Heap) (a : Addr) (ks : List Str) : Prop where
  ex : ∃ o es ep t, h.get? a = some o ∧ o.ExactSet ∧ o.data = .set es ep t ∧ (∀ e ∈ es.toList, IsTxt w e) ∧ (es.toList.map txtOf).Perm ks ∧ t.fits es.size = true ∧ Ris t.place.toList ∧ (w.params.followText "set-order" = true ∨ t.led = true)
  nd : ks.Nodup
  few : ks.length < scanBound
section
variable {P : Program} {w : World} {A : Around} {E : Value → Shared → Prop} {s : Shared} {a : Addr} {ks : List Str}
theorem TxtSet.at {h h' : Heap} (T : TxtSet w h a ks) (same : ∀ o, h.get? a = some o → h'.get? a = some o) : TxtSet w h' a ks := by
  obtain ⟨o, es, ep, t, at_, rest⟩ := T.ex
  exact ⟨⟨o, es, ep, t, same o at_, rest⟩, T.nd, T.few⟩
end
end Dw
end
section
namespace Dw
open PySem PySem.Spec PyProof.Rows L2
section
variable {P : Program} {w : World} {A : Around} {E : Value → Shared → Prop} {s : Shared}
/-- the new set as set() lays it -/
abbrev newSet (w : World) : Obj := { cls := .type "set", dict := none, data := .set #[] 0 (.fresh 0 0 (!w.params.followText "set-order")) }
end
end Dw
end
section
/-! rules over sets of texts: set(a list), sorted(the set) -/
namespace Dw
open PySem PySem.Spec PyProof.Rows L2
section
variable {P : Program} {w : World} {A : Around} {E : Value → Shared → Prop} {s : Shared} {a : Addr} {ks : List Str}
end
section
variable {X : Cx}
end
end Dw
end
section
/-! comprehensions whose items are told by what holds of them (new things at each turn) -/
namespace Dw
open PySem PySem.Spec PyProof.Rows L2 Evl
theorem ifT {a b : Prop} (h : a) : if true = true then a else b := h
theorem ifF {a b : Prop} (h : b) : if false = true then a else b := h
/-- a new list, by what holds of its items -/
def EvLP (te : TE) (σ : L2.St) (H : Hp) (R : List V → Hp → Prop) : Prop := ∀ H1, Ex H H1 → ∀ Q : VK, (∀ p ws H2, H1 p = none → Ex H1 H2 → H2 p = some (.lst ws) → R ws H2 → Q (.ref p) H2) → te σ H1 Q
/-- all that is no list stays -/
def EN (H H' : Hp) : Prop := ∀ a u, (∀ xs, u ≠ .lst xs) → H a = some u → H' a = some u
theorem EN.refl {H : Hp} : EN H H := fun _ _ _ h => h
theorem EN.trans {H H1 H2 : Hp} (a : EN H H1) (b : EN H1 H2) : EN H H2 := fun x u n h => b x u n (a x u n h)
theorem EN.of {H H' : Hp} (e : Evl.Ex H H') : EN H H' := fun a u _ h => e a u h
theorem EN.upd {H H' : Hp} {l : Addr} {xs ys : List V} (e : EN H H') (h : H' l = some (.lst xs)) : EN H (upd H' l (.lst ys)) := fun a u n q => by
  have q2 := e a u n q
  have ne : a ≠ l := fun z => by
    rw [z, h] at q2
    exact n xs (Option.some.inj q2).symm
  rw [upd_ne ne]
  exact q2
theorem EN.et {K : PySem.W.Frag} {H H' : Hp} (e : EN H H') : ET K H H' := fun a xs q => by
  rcases q with (q | ⟨o, q⟩) | q
  · exact .inl (.inl (e _ _ (fun _ z => by cases z) q))
  · exact .inl (.inr ⟨o, e _ _ (fun _ z => by cases z) q⟩)
  · exact .inr q
/-- what holds of a thing is told by what is no list -/
def StbB {β : Type} (B : V → β → Hp → Prop) : Prop := ∀ v b H H', EN H H' → B v b H → B v b H'
section
variable {K : PySem.W.Frag} {σ : L2.St} {H H' : Hp} {ta tb te : TE} {t : TT} {x y z v : V} {P : V → Hp → Prop} {D : Ends} {tu tz : TS} {g : TG} {R : List V → Hp → Prop}
theorem EvLP.mono (e : Ex H H') (h : EvLP te σ H R) : EvLP te σ H' R := fun H1 a Q q => h H1 (e.trans a) Q q
theorem EvLP.imp {R' : List V → Hp → Prop} (h : EvLP te σ H R) (i : ∀ ws H', Ex H H' → R ws H' → R' ws H') : EvLP te σ H R' := fun H1 e Q q => h H1 e Q fun p ws H2 np e2 hp r => q p ws H2 np e2 hp (i ws H2 (e.trans e2) r)
theorem do_elp {Q : VK} (h : EvLP te σ H R) (k : ∀ p ws H1, H p = none → Ex H H1 → H1 p = some (.lst ws) → R ws H1 → Q (.ref p) H1) : te σ H Q := h H (Ex.refl H) Q k
theorem s_asgLP {i : Nat} (h : EvLP te σ H R) (k : ∀ p ws H1, H p = none → Ex H H1 → H1 p = some (.lst ws) → R ws H1 → D.nx (σ.set i (some (.ref p))) H1) : tAsg te (gName i) D σ H := h H (Ex.refl H) _ k
theorem paired_snoc' {α β : Type} {R : α → β → Prop} {x : α} {y : β} (r : R x y) {xs : List α} {ys : List β} (h : Paired R xs ys) : Paired R (xs ++ [x]) (ys ++ [y]) := Dw.paired_snoc (R := R) r h
theorem paired_at {α β : Type} {R : α → β → Prop} : ∀ {xs : List α} {ys : List β} {i : Nat} {x : α}, Paired R xs ys → xs[i]? = some x → ∃ y, ys[i]? = some y ∧ R x y
  | _, _, _, _, .nil, h => by simp at h
  | _, _, 0, _, .cons a _, h => by
    have e := Option.some.inj h
    subst e
    exact ⟨_, rfl, a⟩
  | _, _, i + 1, _, .cons _ b, h => by
    obtain ⟨y, e, r⟩ := paired_at (i := i) b h
    exact ⟨y, e, r⟩
theorem paired_app {α β : Type} {R : α → β → Prop} {xs xs2 : List α} {ys ys2 : List β} (h : Paired R xs ys) (h2 : Paired R xs2 ys2) : Paired R (xs ++ xs2) (ys ++ ys2) := by
  induction h with
  | nil => exact h2
  | cons a r ih => exact .cons a ih
theorem paired_map {α β γ : Type} {R : α → β → Prop} {S : α → γ → Prop} {f : β → γ} (h : ∀ a b, R a b → S a (f b)) : ∀ {xs : List α} {ys : List β}, Paired R xs ys → Paired S xs (ys.map f)
  | _, _, .nil => .nil
  | _, _, .cons a b => .cons (h _ _ a) (paired_map h b)
theorem filt_step {n : Nat} {f : Nat → Bool} : (List.range (n + 1)).filter f = (List.range n).filter f ++ if f n = true then [n] else [] := by
  rw [List.range_succ, List.filter_append]
  congr 1
  cases h : f n
  · rw [List.filter_cons_of_neg (by rw [h]; decide), List.filter_nil]; rfl
  · rw [List.filter_cons_of_pos h, List.filter_nil]; rfl
theorem filt_len (n : Nat) (f : Nat → Bool) : ((List.range n).filter f).length ≤ n := by
  have := List.length_filter_le f (List.range n)
  rw [List.length_range] at this
  exact this
/-- a comprehension by what its items keep -/
theorem elp_lc {J : It} {n : Nat} {G : Hp → Prop} {Y : Nat → Hp → V → Hp → Prop} {wi : TI} {tt : TT} {vs : List Nat} (w : Walk J n G Y) (hw0 : ∀ H0, Ex H H0 → ∀ R : It → Hp → Prop, (∀ H1, Ex H0 H1 → R J H1) → wi σ H0 R) (hG : ∀ H1, Ex H H1 → G H1) (hn : n ≤ 40000)
    (f : Nat → Bool) (B : V → Nat → Hp → Prop) (hB : StbB B)
    (hs : ∀ i x H1 H2, i < n → Ex H H1 → Y i H1 x H2 → Ex H1 H2 ∧ ∀ Φ : L2.St → Hp → Prop, (∀ σ2, wipe σ2 vs = wipe σ vs → EvT tt σ2 H2 (f i) → (f i = true → EvP te σ2 H2 (fun v H' => B v i H')) → Φ σ2 H2) → g x (wipe σ vs) H2 Φ) :
    EvLP (tLc wi g tt te vs) σ H (fun ws H' => Paired (fun v i => B v i H') ws ((List.range n).filter f)) := by
  intro H0 e0 Q q
  refine hw0 H0 e0 _ fun H1 e1 Dl nD => lc_it w (fun i H' => Ex H1 H' ∧ ∃ ws, H' Dl = some (.lst ws) ∧ Paired (fun v i => B v i H') ws ((List.range i).filter f)) ⟨Ex.new nD, [], upd_same, .nil⟩ (fun i H' _ ⟨e, _⟩ => hG H' ((e0.trans e1).trans e)) (fun i x H2 H3 hi ⟨e2, ws, hD, pw⟩ y => ?_) (fun H2 ⟨e2, ws, hD, pw⟩ => q Dl ws H2 (fresh_back e1 nD) (e1.trans e2) hD pw)
  have e02 := (e0.trans e1).trans e2
  obtain ⟨e3, go⟩ := hs i x H2 H3 hi e02 y
  refine go _ fun σ2 hw ht he => ⟨hw, ht H3 (Ex.refl _) _ fun H4 e4 => ?_⟩
  have e24 := e3.trans e4
  cases hf : f i with
  | true =>
    refine ifT (he hf H4 e4 _ fun v H5 e5 bv => ?_)
    have hD5 := (e24.trans e5) _ _ hD
    have lw : ws.length ≤ i := by rw [paired_len pw]; exact filt_len i f
    refine ⟨ws, hD5, sz_lt (by omega), (e2.trans (e24.trans e5)).mut nD, ws ++ [v], upd_same, ?_⟩
    rw [filt_step, hf, if_pos rfl]
    have et : EN H5 (upd H5 Dl (.lst (ws ++ [v]))) := EN.refl.upd hD5
    have pw2 : Paired (fun z i => B z i (upd H5 Dl (.lst (ws ++ [v])))) ws ((List.range i).filter f) := paired_imp (fun a b r => hB a b _ _ (EN.trans (EN.of (e24.trans e5)) et) r) pw
    exact paired_snoc' (xs := ws) (x := v) (y := i) (hB _ _ _ _ et bv) pw2
  | false =>
    refine ifF ⟨e2.trans e24, ws, e24 _ _ hD, ?_⟩
    rw [filt_step, hf]
    show Paired _ ws ((List.range i).filter f ++ [])
    rw [List.append_nil]
    exact paired_imp (fun a b r => hB a b _ _ (EN.of e24) r) pw
theorem range_all (n : Nat) : (List.range n).filter (fun _ => true) = List.range n := List.filter_eq_self.mpr fun _ _ => rfl
/-- over a list, one name -/
theorem elp_lcL {a : Addr} {xs : List V} {tl : TE} {tt : TT} {j : Nat} {vs : List Nat} (h : Ev tl σ H (.ref a)) (hx : SqL K H a xs) (hn : xs.length ≤ 40000) (f : Nat → Bool) (B : V → Nat → Hp → Prop) (hB : StbB B) (hwp : ∀ x, wipe ((wipe σ vs).set j (some x)) vs = wipe σ vs)
    (hs : ∀ i x H1, Ex H H1 → xs[i]? = some x → EvT tt ((wipe σ vs).set j (some x)) H1 (f i) ∧ (f i = true → EvP te ((wipe σ vs).set j (some x)) H1 (fun v H' => B v i H'))) :
    EvLP (tLc (iList K tl) (gName j) tt te vs) σ H (fun ws H' => Paired (fun v i => B v i H') ws ((List.range xs.length).filter f)) :=
  elp_lc (walk_list (K := K) (a := a) (xs := xs)) (fun H0 e0 R r => h H0 e0 _ fun H1 e1 => ⟨a, rfl, ⟨xs, ex_l (e0.trans e1) hx⟩, r H1 e1⟩) (fun H1 e1 => ex_l e1 hx) hn f B hB fun i x H1 H2 hi e y => by
    obtain ⟨rfl, hxi⟩ := y
    exact ⟨Ex.refl _, fun Φ k => k _ (hwp x) (hs i x _ e hxi).1 (hs i x _ e hxi).2⟩
theorem elp_lcR {ta : TA} {n : Nat} {tt : TT} {j : Nat} {vs : List Nat} (h : EvA ta σ H [vi n]) (hn : n ≤ 40000) (f : Nat → Bool) (B : V → Nat → Hp → Prop) (hB : StbB B) (hwp : ∀ x, wipe ((wipe σ vs).set j (some x)) vs = wipe σ vs)
    (hs : ∀ i H1, i < n → Ex H H1 → EvT tt ((wipe σ vs).set j (some (vi i))) H1 (f i) ∧ (f i = true → EvP te ((wipe σ vs).set j (some (vi i))) H1 (fun v H' => B v i H'))) :
    EvLP (tLc (iRng1 ta) (gName j) tt te vs) σ H (fun ws H' => Paired (fun v i => B v i H') ws ((List.range n).filter f)) :=
  elp_lc (walk_range (n := n)) (fun H0 e0 R r => w_rng h hn H0 e0 R r) (fun _ _ => trivial) hn f B hB fun i x H1 H2 hi e y => by
    obtain ⟨rfl, hxi⟩ := y
    have e0 : x = vi i := hxi.trans (by show V.int _ = V.int _; rw [Int.zero_add])
    subst e0
    exact ⟨Ex.refl _, fun Φ k => k _ (hwp _) (hs i _ hi e).1 (hs i _ hi e).2⟩
/-- of two fors: a list, then a range (or what is walked in the like way) -/
theorem elp_lc2 {a : Addr} {xs : List V} {tl : TE} {ta : TA} {m j j1 : Nat} {vs vs1 : List Nat} (h : Ev tl σ H (.ref a)) (hx : SqL K H a xs) (h1 : ∀ x H1, Ex H H1 → EvA ta ((wipe σ vs).set j (some x)) H1 [vi m]) (hn : xs.length ≤ 10000) (hm : m ≤ 9)
    (B : V → Nat × Nat → Hp → Prop) (hB : StbB B) (hw : ∀ x, wipe ((wipe σ vs).set j (some x)) vs = wipe σ vs) (hw1 : ∀ x y, wipe ((wipe ((wipe σ vs).set j (some x)) vs1).set j1 (some y)) vs1 = wipe ((wipe σ vs).set j (some x)) vs1)
    (he : ∀ i x k H1, Ex H H1 → xs[i]? = some x → k < m → EvP te ((wipe ((wipe σ vs).set j (some x)) vs1).set j1 (some (vi k))) H1 (fun v H' => B v (i, k) H')) :
    EvLP (tLc2 (iList K tl) (gName j) tYes (iRng1 ta) (gName j1) tYes te vs vs1) σ H (fun ws H' => Paired (fun v p => B v p H') ws ((List.range xs.length).flatMap fun i => (List.range m).map fun k => (i, k))) := by
  intro H0 e Q q
  refine h H0 e _ fun H1 e1 => ⟨a, rfl, ⟨xs, ex_l (e.trans e1) hx⟩, fun Dl nD => ?_⟩
  have e01 : Ex H H1 := e.trans e1
  let outer : Nat → List (Nat × Nat) := fun i => (List.range i).flatMap fun i => (List.range m).map fun k => (i, k)
  have lenO : ∀ i, (outer i).length = i * m := by
    intro i
    induction i with
    | zero => show (0 : Nat) = 0 * m; rw [Nat.zero_mul]
    | succ i ih =>
      show ((List.range (i + 1)).flatMap _).length = _
      rw [List.range_succ, List.flatMap_append, List.length_append]
      have e3 : ((List.range i).flatMap fun i => (List.range m).map fun k => (i, k)).length = i * m := ih
      rw [e3, List.flatMap_singleton, List.length_map, List.length_range, Nat.add_mul, Nat.one_mul]
  refine ⟨fun i r H' => r = xs.length - i ∧ i ≤ xs.length ∧ Ex H1 H' ∧ ∃ ws, H' Dl = some (.lst ws) ∧ Paired (fun v p => B v p H') ws (outer i), ⟨_, rfl, Nat.zero_le _, Ex.new nD, [], upd_same, .nil⟩, ?_⟩
  rintro i r H2 ⟨rfl, hi, e2, ws, hD, pw⟩
  by_cases hlt : i < xs.length
  · refine .inr ⟨⟨xs, xs[i], ex_l (e01.trans e2) hx, List.getElem?_eq_getElem hlt⟩, fun H' => Ex H1 H' ∧ ∃ ws, H' Dl = some (.lst ws) ∧ Paired (fun v p => B v p H') ws (outer (i + 1)), fun H' ⟨p1, p2⟩ => ⟨_, by omega, rfl, hlt, p1, p2⟩, fun x H3 yl => ?_⟩
    obtain ⟨rfl, hxi⟩ := yl
    have hxi' := hxi xs (ex_l (e01.trans e2) hx)
    refine ⟨hw x, et_yes H3 (Ex.refl _) _ fun H4 e4 => ?_⟩
    refine ifT ?_
    have e14 : Ex H1 H4 := e2.trans e4
    refine w_rng (h1 x H4 (e01.trans e14)) (by omega) H4 (Ex.refl _) _ fun H5 e5 => ?_
    have e15 : Ex H1 H5 := e14.trans e5
    have e35 := e4.trans e5
    refine ⟨fun k r H' => r = m - k ∧ k ≤ m ∧ Ex H1 H' ∧ ∃ ws, H' Dl = some (.lst ws) ∧ Paired (fun v p => B v p H') ws (outer i ++ (List.range k).map fun k => (i, k)), ⟨_, rfl, Nat.zero_le _, e15, ws, e35 _ _ hD, by
      show Paired _ ws (outer i ++ [])
      rw [List.append_nil]
      exact paired_imp (fun a b r => hB a b _ _ (EN.of e35) r) pw⟩, ?_⟩
    rintro k r H6 ⟨rfl, hk, e6, us, hD6, pu⟩
    by_cases klt : k < m
    · refine .inr ⟨(walk_range (n := m)).goes k H6 klt trivial, fun H' => Ex H1 H' ∧ ∃ ws, H' Dl = some (.lst ws) ∧ Paired (fun v p => B v p H') ws (outer i ++ (List.range (k + 1)).map fun k => (i, k)), fun H' ⟨p1, p2⟩ => ⟨_, by omega, rfl, klt, p1, p2⟩, fun y H7 yl => ?_⟩
      obtain ⟨rfl, hy⟩ := (walk_range (n := m)).yields k H6 y H7 klt trivial yl
      have ey : y = vi k := hy.trans (by show V.int _ = V.int _; rw [Int.zero_add])
      subst ey
      refine ⟨hw1 x _, et_yes H7 (Ex.refl _) _ fun H8 e8 => ?_⟩
      refine ifT ?_
      have e18 : Ex H1 H8 := e6.trans e8
      refine he i x k H8 (e01.trans e18) hxi' klt H8 (Ex.refl _) _ fun v H9 e9 bv => ?_
      have hD9 := (e8.trans e9) _ _ hD6
      refine ⟨us, hD9, ?_, (e18.trans e9).mut nD, us ++ [v], upd_same, ?_⟩
      · rw [paired_len pu, List.length_append, lenO, List.length_map, List.length_range]
        have b1 : i * m ≤ 10000 * 9 := Nat.mul_le_mul (by omega) hm
        exact sz_lt (by omega)
      · rw [List.range_succ, List.map_append, ← List.append_assoc]
        have et : EN H9 (upd H9 Dl (.lst (us ++ [v]))) := EN.refl.upd hD9
        have pu2 : Paired (fun z p => B z p (upd H9 Dl (.lst (us ++ [v])))) us (outer i ++ (List.range k).map fun k => (i, k)) := paired_imp (fun a b r => hB a b _ _ (EN.trans (EN.of (e8.trans e9)) et) r) pu
        exact paired_snoc' (xs := us) (x := v) (y := (i, k)) (hB _ _ _ _ et bv) pu2
    · have ek : k = m := by omega
      subst ek
      refine .inl ⟨(walk_range (n := k)).stops H6 trivial, e6, us, hD6, ?_⟩
      have : outer (i + 1) = outer i ++ (List.range k).map fun k => (i, k) := by
        show (List.range (i + 1)).flatMap _ = _
        rw [List.range_succ, List.flatMap_append, List.flatMap_singleton]
      rw [this]
      exact pu
  · have ei : i = xs.length := by omega
    subst ei
    exact .inl ⟨⟨xs, ex_l (e01.trans e2) hx, Nat.le_refl _⟩, q Dl ws H2 (fresh_back e1 nD) (e1.trans e2) hD pw⟩
end
end Dw
end
section
/-! tuples by what they hold: written, joined, cut; equal lists of numbers -/
namespace Dw
open PySem PySem.Spec PyProof.Rows L2 Evl
theorem op_catAK {X : Cx} (K : PySem.W.Frag) (h : X.K = K := by rfl) : OpR X (binaryOp .Add) (rCatA K) := by
  subst h
  exact op_catA
def TV (K : PySem.W.Frag) (H : Hp) (v : V) (xs : List V) : Prop := ∃ a, v = .ref a ∧ SqT K H a xs
section
variable {K : PySem.W.Frag} {σ : L2.St} {H H' : Hp} {ta tb te : TE} {t : TT} {x y z v : V} {P : V → Hp → Prop} {D : Ends} {tu tz : TS} {g : TG}
theorem TV.ex {xs : List V} (e : Ex H H') (h : TV K H v xs) : TV K H' v xs := let ⟨a, q, s⟩ := h; ⟨a, q, ex_t e s⟩
theorem TV.et {xs : List V} (e : ET K H H') (h : TV K H v xs) : TV K H' v xs := let ⟨a, q, s⟩ := h; ⟨a, q, e _ _ s⟩
theorem tv_ev {xs : List V} {a : Addr} (h : Ev te σ H (.ref a)) (s : SqT K H a xs) : EvP te σ H (fun v H' => TV K H' v xs) := ep_ev h fun _ e => ⟨a, rfl, ex_t e s⟩
theorem tv_cat {xs ys : List V} (ha : EvP ta σ H (fun v H' => TV K H' v xs)) (hb : EvP tb σ H (fun v H' => TV K H' v ys)) (hl : xs.length + ys.length ≤ 100000) : EvP (tOp (rCatA K) ta tb) σ H (fun v H' => TV K H' v (xs ++ ys)) := fun H1 e1 Q q =>
  ha H1 e1 _ fun v H2 e2 hv => hb H2 (e1.trans e2) _ fun u H3 e3 hu => by
    obtain ⟨a, rfl, sa⟩ := hv.ex e3
    obtain ⟨b, rfl, sb⟩ := hu
    refine ⟨a, b, xs, ys, rfl, rfl, sa, sb, sz_of hl, fun z => ?_, fun _ z => ?_, fun _ _ p np => ?_⟩
    · subst z
      exact q _ H3 (e2.trans e3) ⟨b, rfl, sb⟩
    · subst z
      rw [List.append_nil] at q
      exact q _ H3 (e2.trans e3) ⟨a, rfl, sa⟩
    · exact q _ _ ((e2.trans e3).trans (Ex.new np)) ⟨p, rfl, st_of upd_same⟩
theorem tv_tup {ta : TA} {xs : List V} (h : EvA ta σ H xs) (l : xs.length ≤ 100000) : EvP (tTup ta) σ H (fun v H' => TV K H' v xs) := fun H1 e1 Q q => eu_tup h l H1 e1 _ fun p H2 np e2 hp => q _ H2 e2 ⟨p, rfl, st_of hp⟩
theorem tv_is {xs ys : List V} (h : EvP te σ H (fun v H' => TV K H' v xs)) (e : xs = ys) : EvP te σ H (fun v H' => TV K H' v ys) := e ▸ h
theorem tv_nats {ns : List Nat} (h : EvP te σ H (fun v H' => TV K H' v (ns.map vi))) : EvP te σ H (fun v H' => Nats K H' v ns) := h
/-! equality of lists of numbers as data -/
theorem eqv_nats : ∀ a b : List Nat, PyData.eqvAll (a.map fun n => .int ((n : Nat) : Int)) (b.map fun n => .int ((n : Nat) : Int)) = decide (a = b)
  | [], [] => by simp [PyData.eqvAll]
  | [], _ :: _ => by simp [PyData.eqvAll]
  | _ :: _, [] => by simp [PyData.eqvAll]
  | x :: a, y :: b => by
    rw [List.map_cons, List.map_cons, PyData.eqvAll, eqv_nats a b, PyData.eqv]
    by_cases h : x = y
    · subst h
      by_cases h2 : a = b
      · subst h2
        simp
      · simp [h2]
    · have : ((x : Nat) : Int) ≠ ((y : Nat) : Int) := fun z => h (Int.ofNat.inj z)
      simp [h, this]
end
end Dw
namespace Dw
open PySem PySem.Spec PyProof.Rows L2 Evl
section
variable {K : PySem.W.Frag} {σ : L2.St} {H H' : Hp} {ta tb te : TE} {t : TT} {x y z v : V} {P R2 : V → Hp → Prop} {D : Ends} {tu tz : TS} {g : TG} {R : List V → Hp → Prop}
end
section
variable {K : PySem.W.Frag} {σ : L2.St} {H : Hp} {te tl : TE} {D : Ends} {tu tz : TS} {g : TG}
end
end Dw
end
section
/-! max of a tuple of numbers -/
namespace Dw
open PySem PySem.Spec PyProof.Rows L2 Evl PySem.W
theorem maxOf_ge : ∀ (xs : List Int) (x : Int), (∀ y ∈ x :: xs, y ≤ maxOf x xs) ∧ maxOf x xs ∈ x :: xs
  | [], x => ⟨fun y hy => by rw [List.mem_singleton.mp hy]; exact Int.le_refl _, List.mem_cons_self ..⟩
  | z :: xs, x => by
    have e : maxOf x (z :: xs) = maxOf (if x < z then z else x) xs := by
      unfold maxOf
      rw [List.foldl_cons]
      congr 1
      show (if decide (x < z) = true then z else x) = _
      by_cases h : x < z
      · rw [decide_eq_true h, if_pos rfl, if_pos h]
      · rw [decide_eq_false h, if_neg Bool.false_ne_true, if_neg h]
    obtain ⟨a, b⟩ := maxOf_ge xs (if x < z then z else x)
    rw [e]
    have c := a _ (List.mem_cons_self ..)
    refine ⟨fun y hy => ?_, ?_⟩
    · rcases List.mem_cons.mp hy with rfl | hy
      · split at c
        · rename_i h; rw [if_pos h]; omega
        · rename_i h; rw [if_neg h]; exact c
      · rcases List.mem_cons.mp hy with rfl | hy
        · split at c
          · rename_i h; rw [if_pos h]; exact c
          · rename_i h; rw [if_neg h]; omega
        · exact a y (List.mem_cons_of_mem _ hy)
    · rcases List.mem_cons.mp b with b | b
      · rw [b]
        split
        · exact List.mem_cons_of_mem _ (List.mem_cons_self ..)
        · exact List.mem_cons_self ..
      · exact List.mem_cons_of_mem _ (List.mem_cons_of_mem _ b)
def rMaxT (K : PySem.W.Frag) : List V → Hp → VK → Prop := fun vs H Q => ∃ (a : Addr) (ns : List Int), vs = [V.ref a] ∧ SqT K H a (ns.map V.int) ∧ 0 < ns.length ∧ ∀ m, m ∈ ns → (∀ y, y ∈ ns → y ≤ m) → Q (.int m) H
theorem cr_maxT {X : Cx} {k : Nat} (hc : X.calm = true) (hr : Room k X.A) : CallR X (.builtin "max") (rMaxT X.K) := by
  intro pins s σ H vs us Q I r h
  obtain ⟨a, ns, rfl, hs, hne, q⟩ := h
  obtain ⟨its, rv, hl, _⟩ := I.tuple hs
  rw [Vals.ref1 r]
  cases ns with
  | nil => exact absurd hne (Nat.lt_irrefl 0)
  | cons x xs =>
    have hi : IntsAre its.toArray.toList (x :: xs) := by rw [List.toList_toArray]; exact ints_of rv
    have hu := hr.units
    have ho : HoldAll s.heap its.toArray.toList (x :: xs) := ⟨[], ints_readAll _ hi⟩
    refine max_tuple_datum (α := Int) (I.ok.hd hc) hl ho (by show X.A.units + 1 + 0 < _; omega) fun i v h' tk hv ho2 hk => ?_
    obtain ⟨a2, b2⟩ := maxOf_ge xs x
    obtain ⟨as, rd⟩ := ho2
    have rd' : Reads h' v (.int (maxOf x xs)) as := rd
    cases rd' with
    | int _ t => exact ⟨.int _, H, I.kept hk, ⟨t, rfl⟩, q _ b2 a2⟩
end Dw
end
section
/-! the least worth, begin by begin -/
namespace M25
open M20
theorem g_mem {l : List Nat} {k : Nat} (h : k < l.length) : g l k ∈ l := List.mem_iff_getElem?.mpr ⟨k, g_eq h⟩
end M25
end
section
/-! row by row, table by table, from behind -/
namespace M25
open M20
theorem rows_len' (n : Nat) : ∀ p, (rows n p).length = n ^ p
  | 0 => rfl
  | p + 1 => by
    show ((rows n p).flatMap _).length = _
    rw [List.length_flatMap, Nat.pow_succ]
    have : (rows n p).map (fun r => ((List.range n).map fun k => r ++ [k]).length) = List.replicate (rows n p).length n := by
      rw [List.eq_replicate_iff]
      refine ⟨by rw [List.length_map], fun b hb => ?_⟩
      obtain ⟨r, _, rfl⟩ := List.mem_map.mp hb
      simp
    rw [this, List.sum_replicate_nat, rows_len' n p]
end M25
end
section
/-! sorted lists: one for the same members -/
namespace M25
open M20
def ia (a : List Nat) : List Int := a.map fun k => ((k : Nat) : Int)
theorem ia_inj {a b : List Nat} (h : ia a = ia b) : a = b := by
  unfold ia at h
  induction a generalizing b with
  | nil =>
    cases b with
    | nil => rfl
    | cons y b => cases h
  | cons x a ih =>
    cases b with
    | nil => cases h
    | cons y b =>
      rw [List.map_cons, List.map_cons, List.cons.injEq] at h
      rw [ih h.2, Int.ofNat.inj h.1]
def leO (a b : List Nat) : Bool := decide (ia a ≤ ia b)
theorem leO_trans (a b c : List Nat) (h1 : leO a b = true) (h2 : leO b c = true) : leO a c = true := decide_eq_true (List.le_trans (of_decide_eq_true h1) (of_decide_eq_true h2))
theorem leO_total (a b : List Nat) : (leO a b || leO b a) = true := by
  rcases List.le_total (ia a) (ia b) with h | h
  · unfold leO
    rw [decide_eq_true h]
    rfl
  · unfold leO
    rw [decide_eq_true h, Bool.or_true]
theorem leO_anti {a b : List Nat} (h1 : leO a b = true) (h2 : leO b a = true) : a = b := ia_inj (List.le_antisymm (of_decide_eq_true h1) (of_decide_eq_true h2))
def srtO (os : List (List Nat)) : List (List Nat) := os.mergeSort leO
theorem srt_perm (os : List (List Nat)) : (srtO os).Perm os := List.mergeSort_perm _ _
theorem srt_mem {os : List (List Nat)} {a : List Nat} : a ∈ srtO os ↔ a ∈ os := (srt_perm os).mem_iff
theorem srt_len (os : List (List Nat)) : (srtO os).length = os.length := (srt_perm os).length_eq
theorem srt_sorted (os : List (List Nat)) : (srtO os).Pairwise fun a b => leO a b = true := List.pairwise_mergeSort leO_trans leO_total os
theorem sorted_one {l m : List (List Nat)} (h : l.Perm m) (sl : l.Pairwise fun a b => leO a b = true) (sm : m.Pairwise fun a b => leO a b = true) : l = m := by
  induction l generalizing m with
  | nil => exact (List.nil_perm.mp h).symm
  | cons x l ih =>
    cases m with
    | nil => exact absurd h.symm (by simp)
    | cons y m =>
      have e : x = y := by
        rw [List.pairwise_cons] at sl sm
        rcases List.mem_cons.mp (h.mem_iff.mp (List.mem_cons_self ..)) with z | z
        · exact z
        · rcases List.mem_cons.mp (h.mem_iff.mpr (List.mem_cons_self ..)) with z2 | z2
          · exact z2.symm
          · exact leO_anti (sl.1 y z2) (sm.1 x z)
      subst e
      rw [List.pairwise_cons] at sl sm
      rw [ih (List.perm_cons x |>.mp h) sl.2 sm.2]
/-- rising lists of one kind of members are one -/
theorem up_one {l m : List Int} (hl : l.Pairwise (· < ·)) (hm : m.Pairwise (· < ·)) (h : ∀ x, x ∈ l ↔ x ∈ m) : l = m := by
  induction l generalizing m with
  | nil =>
    cases m with
    | nil => rfl
    | cons y m => exact absurd ((h y).mpr (List.mem_cons_self ..)) (by simp)
  | cons x l ih =>
    cases m with
    | nil => exact absurd ((h x).mp (List.mem_cons_self ..)) (by simp)
    | cons y m =>
      rw [List.pairwise_cons] at hl hm
      have e : x = y := by
        rcases List.mem_cons.mp ((h x).mp (List.mem_cons_self ..)) with z | z
        · exact z
        · rcases List.mem_cons.mp ((h y).mpr (List.mem_cons_self ..)) with z2 | z2
          · exact z2.symm
          · have := hl.1 y z2
            have := hm.1 x z
            omega
      subst e
      rw [ih hl.2 hm.2 fun z => ⟨fun hz => by
        rcases List.mem_cons.mp ((h z).mp (List.mem_cons_of_mem _ hz)) with e | e
        · have := hl.1 z hz
          omega
        · exact e, fun hz => by
        rcases List.mem_cons.mp ((h z).mpr (List.mem_cons_of_mem _ hz)) with e | e
        · have := hm.1 z hz
          omega
        · exact e⟩]
theorem ia_up {l : List Nat} (h : l.Pairwise (· < ·)) : (ia l).Pairwise (· < ·) := by
  unfold ia
  rw [List.pairwise_map]
  exact h.imp fun z => Int.ofNat_lt.mpr z
/-- rising numbers, sorted as they are -/
theorem le_one {l m : List Int} (h : l.Perm m) (hl : l.Pairwise (· ≤ ·)) (hm : m.Pairwise (· ≤ ·)) : l = m := by
  induction l generalizing m with
  | nil => exact (List.nil_perm.mp h).symm
  | cons x l ih =>
    cases m with
    | nil => exact absurd h.symm (by simp)
    | cons y m =>
      rw [List.pairwise_cons] at hl hm
      have e : x = y := by
        rcases List.mem_cons.mp (h.mem_iff.mp (List.mem_cons_self ..)) with z | z
        · exact z
        · rcases List.mem_cons.mp (h.mem_iff.mpr (List.mem_cons_self ..)) with z2 | z2
          · exact z2.symm
          · exact Int.le_antisymm (hl.1 y z2) (hm.1 x z)
      subst e
      rw [ih (List.perm_cons x |>.mp h) hl.2 hm.2]
theorem nd_few {l : List Int} {B : Nat} (nd : l.Nodup) (h : ∀ x ∈ l, 0 ≤ x ∧ x < B) : l.length ≤ B := by
  have nd2 : (l.map Int.toNat).Nodup := by
    rw [List.nodup_iff_pairwise_ne, List.pairwise_map]
    refine (List.nodup_iff_pairwise_ne.mp nd).imp_of_mem fun {a b} ha hb ne e => ne ?_
    have h1 := h a ha
    have h2 := h b hb
    omega
  have := len_le (l.map Int.toNat) (List.range B) nd2 fun x hx => by
    obtain ⟨y, hy, rfl⟩ := List.mem_map.mp hx
    have := h y hy
    exact List.mem_range.mpr (by omega)
  rw [List.length_map, List.length_range] at this
  exact this
end M25
namespace M25
open M20
theorem allc_bgs (n k : Nat) : Bgs n k (allc n k [[]]) := by
  have := (start_good n).bgs.allc (k := k)
  rw [show ln [[]] = 0 from rfl, Nat.zero_add] at this
  exact this
theorem allc_few {n k : Nat} (h : k ≤ n) (n6 : n ≤ 6) : (allc n k [[]]).length ≤ 720 := Nat.le_trans (bgs_few (allc_bgs n k) h) (fact6 n6)
end M25
end
section
/-! sets of numbers: set(a list), known well enough that they can be sorted -/
namespace Dw
open PySem PySem.Spec PyProof.Rows L2
/-- a set at a of just the numbers in xs -/
def ISet (w : World) (h : Heap) (a : Addr) (xs : List Int) : Prop := ∃ n, n ≤ xs.length ∧ SetR w h a (fun k => decide (k ∈ xs)) n
theorem ISet.at {w : World} {h h' : Heap} {a : Addr} {xs : List Int} (T : ISet w h a xs) (k : ∀ o, h.get? a = some o → h'.get? a = some o) : ISet w h' a xs := let ⟨n, l, r⟩ := T; ⟨n, l, r.at k⟩
section
variable {P : Program} {w : World} {A : Around} {E : Value → Shared → Prop} {s : Shared}
theorem iset_add {a : Addr} {xs : List Int} {x : Int} {tk : Tok} {Q : Bool → Shared → Prop} (T : ISet w s.heap a xs) (room : xs.length + 1 < scanBound)
    (next : ∀ h', Heap.SameBut a s.heap h' → ISet w h' a (xs ++ [x]) → ∀ b, Q b { s with heap := h' }) : wpAny (model P w) A (setAddHashed a (.int x tk) ((intKind P w).hash x)) Q E s := by
  obtain ⟨n, l, r⟩ := T
  refine setR_add_hashed r (by omega) fun h' but r2 => next h' but ⟨_, ?_, SetR.congr r2 fun k => ?_⟩ _
  · rw [List.length_append]
    split
    · omega
    · show n + 1 ≤ xs.length + 1
      omega
  · show decide (k ∈ xs ++ [x]) = (decide (k ∈ xs) || decide (k = x))
    by_cases h1 : k ∈ xs
    · rw [decide_eq_true h1, decide_eq_true (List.mem_append_left _ h1)]
      rfl
    · by_cases h2 : k = x
      · rw [decide_eq_true h2, decide_eq_true (List.mem_append_right _ (List.mem_singleton.mpr h2)), Bool.or_true]
      · rw [decide_eq_false h1, decide_eq_false h2, decide_eq_false (fun z => by
          rcases List.mem_append.mp z with z | z
          · exact h1 z
          · exact h2 (List.mem_singleton.mp z))]
        rfl
theorem iset_fresh {h : Heap} {a : Addr} (at_ : h.get? a = some (newSet w)) : ISet w h a [] := by
  refine ⟨0, Nat.le_refl _, _, #[], 0, _, at_, ⟨rfl, rfl, rfl⟩, rfl, (fun e he => by simp at he), (by simp), (fun k => by simp), (by decide), (by rfl), rfl, List.Pairwise.nil, ?_⟩
  show _ ∨ (!w.params.followText "set-order") = true
  cases w.params.followText "set-order"
  · exact .inr rfl
  · exact .inl rfl
/-- set.update's loop over numbers -/
theorem int_loop {I S : Addr} {fp wr : List Addr} {G : Array GenState → Array GenState → Prop} {n : Nat} {Pv : Nat → Value → Prop} {St : Nat → Shared → Prop} {R : Result → Shared → Prop} (W : WalksS P w A.in1 I fp wr G n Pv St) (off : S ∉ fp) (xs : List Int) (len : n = xs.length)
    (few : xs.length < 1000) (vals : ∀ i v, Pv i v → ∃ x tk, xs[i]? = some x ∧ v = Value.int x tk) :
    ∀ (left i : Nat) (s : Shared), n - i = left → i ≤ n → St i s → ISet w s.heap S (xs.take i) → (∀ s', Moved (S :: wr) G s s' → ISet w s'.heap S xs → R (.ok (.ret .none)) s') →
      codeAny (model P w) A (.builtin "set.update.loop" ⟨[.ref S, .ref I], []⟩) R s := by
  have offW : S ∉ wr := fun z => off (W.sub _ z)
  intro left
  induction left with
  | zero =>
    intro i s e le st T end_
    have all : i = n := by omega
    subst all
    refine codeAny_builtin F.entry_set_update_loop ?_
    rw [Around.under_plainId F.plain_set_update_loop _]
    refine wpAny_bind (m := pyNext (.ref I)) (W.done s _ _ st fun s1 mv => ?_)
    refine wpAny_pure (end_ s1 (mv.mono fun b hb => List.mem_cons_of_mem _ hb) ?_)
    rw [len, List.take_length] at T
    exact T.at fun o q => mv.heap S o offW q
  | succ left ih =>
    intro i s e le st T end_
    have lt : i < n := by omega
    refine codeAny_builtin F.entry_set_update_loop ?_
    rw [Around.under_plainId F.plain_set_update_loop _]
    refine wpAny_bind (m := pyNext (.ref I)) (W.item i s _ _ lt st fun v s1 pv st1 mv => ?_)
    obtain ⟨x, tk, hx, isx⟩ := vals i v pv
    subst isx
    have T1 : ISet w s1.heap S (xs.take i) := T.at fun o q => mv.heap S o offW q
    have l1 : (xs.take i).length ≤ i := List.length_take_le _ _
    have room : (xs.take i).length + 1 < scanBound := by
      show _ < 4096
      omega
    show wpAny _ A.in1 (holding [Value.int x tk] (setAdd S (Value.int x tk)) >>= _) _ _ s1
    refine wpAny_bind (wpAny_holding ?_)
    unfold setAdd
    refine wpAny_holding (wpAny_bind ((intKind P w).pyHash (intKind_is P w x tk) ?_))
    refine iset_add (s := { s1 with toks := s1.toks + 1 }) T1 room fun h' but T2 _ => ?_
    have T3 : ISet w h' S (xs.take (i + 1)) := by
      rw [List.take_add_one, hx]
      exact T2
    refine wpAny_pure ⟨plainId_quiet F.plain_set_update_loop _, ih (i + 1) _ (by omega) lt (W.frame _ s1 _ _ st1 (Nat.le_add_right _ _) fun b hb o q => ?_) T3 fun s2 mv2 T4 => ?_⟩
    · rw [but.2 b (fun z : b = S => off (z ▸ hb))]
      exact q
    · refine end_ s2 (Moved.trans W.gtrans ((mv.mono fun b hb => List.mem_cons_of_mem _ hb).then_heap (Nat.le_add_right _ _) fun b o nb q => ?_) mv2) T4
      rw [but.2 b (fun z : b = S => nb (z ▸ List.mem_cons_self ..))]
      exact q
set_option maxHeartbeats 8000000 in
/-- set(a list of numbers) -/
theorem call_setI {l : Addr} {cells : Array Value} {xs : List Int} {Q : Value → Shared → Prop} (calm : A.handled = none) (isL : s.heap.IsList l cells) (txts : IntsAre cells.toList xs) (few : xs.length < 1000)
    (next : ∀ (h' : Heap) (tk : Nat), ISet w h' s.heap.objs.size xs → (∀ b o, s.heap.get? b = some o → h'.get? b = some o) → Q (.ref s.heap.objs.size) { s with heap := h', toks := tk }) :
    wpAny (model P w) A (call (.type "set") [.ref l]) Q E s := by
  have size : cells.size = xs.length := by
    have z := txts.length
    rw [Array.length_toList] at z
    exact z
  obtain ⟨c, tl, isMro⟩ := F.called_set.mro
  have made := F.called_set.made
  have under := F.called_set.sub
  refine wpAny_call (codeAny_of_tree ?_)
  show wpAny _ _ (callAny (.type "set") _) _ _ _
  refine wpAny_pure ⟨Code.quiet_builtin _ (by decide +kernel), codeAny_builtin F.entry_type_call ?_⟩
  rw [Around.under_plain (weight_type_call_type "set" [.ref l] []) rfl]
  have k1 := F.called_set.notType
  have k2 := F.called_set.canCreate
  have k3 := F.typeCall_set_1 (.ref l)
  repeat (any_goals (first | assumption | wp_step))
  refine codeAny_mono (code_set_led1 (.ref l) (E := E) (Q₁ := fun ob s1 => ob = .ref s.heap.objs.size ∧ s1 = { s with heap := s.heap.push (newSet w) }) ⟨rfl, rfl⟩) fun r s1 done => ?_
  match r, done with
  | .error _, bad => exact bad
  | .ok .next, bad => exact bad.elim
  | .ok .brk, bad => exact bad.elim
  | .ok .cont, bad => exact bad.elim
  | .ok (.ret ob), both =>
    obtain ⟨e1, e2⟩ := both
    subst e1
    subst e2
    have atS : (s.heap.push (newSet w)).get? s.heap.objs.size = some (newSet w) := Heap.get?_push_size _ rfl
    have isS : Shared.TypeIs { s with heap := s.heap.push (newSet w) } (.ref s.heap.objs.size) "set" := ⟨_, atS, rfl⟩
    have i1 := F.called_set.init.lookup
    have i2 := F.called_set.init.bind (.ref s.heap.objs.size)
    repeat (any_goals (first | assumption | wp_step))
    refine codeAny_mono (codeAny_call_builtin (R := wants (fun r s2 => r = .none ∧ ∃ h' tk, s2 = { s with heap := h', toks := tk } ∧ ISet w h' s.heap.objs.size xs ∧ ∀ b o, s.heap.get? b = some o → h'.get? b = some o) E) F.called_set.init.plain F.entry_set_init (check_set_init_1 isS ?_)) fun r2 s2 done2 => ?_
    · obtain ⟨⟨cl, dc, dat, sl⟩, atL, isCls, cap, isSeq⟩ := isL
      have c1 : cl = .type "list" := isCls
      have c2 : dat = .seq cells cap := isSeq
      subst c1
      subst c2
      have atL1 : (s.heap.push (newSet w)).get? l = some { cls := .type "list", dict := dc, data := .seq cells cap, slots := sl } := Heap.get?_push_of_some _ atL
      have n1 := F.sub_list_set
      have n2 := F.sub_list_frozenset
      have n3 : (Value.type "list" == Value.type "dict") = false := by decide
      have isL1 : (s.heap.push (newSet w)).IsList l cells := ⟨_, atL1, rfl, cap, rfl⟩
      unfold Builtin.«set.__init__» noKeywords Builtin.Frozenset.updateFrom
      generalize isIter : pyIter = iter_
      wp_walk
      subst isIter
      refine wpAny_pyIter_list isL1 (wpAny_bind (wpAny_runValue ?_))
      have inL : l < s.heap.objs.size := Heap.lt_size atL
      have size1 : (s.heap.push (newSet w)).objs.size = s.heap.objs.size + 1 := Heap.size_push ..
      have far : l ≠ (s.heap.push (newSet w)).objs.size := by
        rw [size1]
        exact Nat.ne_of_lt (Nat.lt_succ_of_lt inL)
      have off : s.heap.objs.size ∉ [(s.heap.push (newSet w)).objs.size, l] := fun z => by
        rw [size1] at z
        rcases List.mem_cons.mp z with y | y
        · exact absurd y (Nat.ne_of_lt (Nat.lt_succ_self _))
        · exact absurd (List.mem_singleton.mp y) (Nat.ne_of_gt inL)
      have calm3 : A.in1.in1.in1.handled = none := calm
      have vals : ∀ (i : Nat) (v : Value), cells[i]? = some v → ∃ x tk, xs[i]? = some x ∧ v = Value.int x tk := fun i v hv => by
        have q : cells.toList[i]? = some v := by rw [Array.getElem?_toList]; exact hv
        have il : i < xs.length := by
          have z := (List.getElem?_eq_some_iff.mp q).1
          rw [Array.length_toList, size] at z
          exact z
        obtain ⟨tk, e⟩ := IntsAre.int_at txts i v q
        refine ⟨xs.getD i 0, tk, ?_, e⟩
        rw [List.getD_eq_getElem?_getD, List.getElem?_eq_getElem il]
        rfl
      refine int_loop ((Walks.list calm3 _ l far cells).toS) off xs size few vals (cells.size - 0) 0 _ (by omega) (Nat.zero_le _) ⟨⟨_, Heap.get?_push_size _ rfl, rfl, rfl⟩, isL1.push _⟩ (iset_fresh (Heap.get?_push_of_some _ atS)) fun s3 mv T => ?_
      obtain ⟨h3, g3, d3, tk3, os3⟩ := s3
      have q1 : g3 = s.gens := mv.gens
      have q2 : d3 = s.drawn := mv.drawn
      have q3 : os3 = s.os := mv.os
      subst q1
      subst q2
      subst q3
      refine wpAny_pure (wpAny_pure ⟨rfl, h3, tk3, rfl, T, fun b o e => ?_⟩)
      have lb := Heap.lt_size e
      refine mv.heap b o (fun z => ?_) (Heap.get?_push_of_some _ (Heap.get?_push_of_some _ e))
      rcases List.mem_cons.mp z with y | y
      · exact absurd y (Nat.ne_of_lt lb)
      · have y2 := List.mem_singleton.mp y
        rw [size1] at y2
        exact absurd y2 (Nat.ne_of_lt (Nat.lt_succ_of_lt lb))
    · match r2, done2 with
      | .error _, bad => exact bad
      | .ok .next, bad => exact bad.elim
      | .ok .brk, bad => exact bad.elim
      | .ok .cont, bad => exact bad.elim
      | .ok (.ret _), good =>
        obtain ⟨e1, h', tk, e2, T, kept⟩ := good
        subst e1
        subst e2
        repeat (any_goals (first | assumption | wp_step))
        exact next h' tk T kept
end
theorem iset_few {h : Heap} {a : Addr} {xs : List Int} {n : Nat} (r : SetR w h a (fun k => decide (k ∈ xs)) n) {B : Nat} (hB : ∀ x ∈ xs, 0 ≤ x ∧ x < (B : Int)) : n ≤ B := by
  obtain ⟨o, es, ep, t, _, _, _, _, nd, hm, _, _, hn, _⟩ := r
  have := M25.nd_few nd fun x hx => hB x (of_decide_eq_true ((hm x).mpr hx))
  rw [List.length_map, Array.length_toList, hn] at this
  exact this
section
variable {X : Cx}
def rSetI (K : PySem.W.Frag) (w : World) : List V → Hp → VK → Prop := fun vs H Q => ∃ (l : Addr) (xs : List Int), vs = [.ref l] ∧ SqL K H l (xs.map V.int) ∧ xs.length < 1000 ∧ ∀ p n, (∀ B : Nat, (∀ x ∈ xs, 0 ≤ x ∧ x < (B : Int)) → n ≤ B) → H p = none → Q (.ref p) (upd H p (SetO w p (fun k => decide (k ∈ xs)) n))
theorem cr_setI (calm : X.calm = true) : CallR X (.type "set") (rSetI X.K X.w) := by
  intro pins s σ H vs us Q I rel want
  obtain ⟨l, xs, one, isL, few, q⟩ := want
  subst one
  obtain ⟨u, isU, ru⟩ := vals1 rel
  subst isU
  cases (show u = Value.ref l from ru)
  obtain ⟨its, rv, at_, _⟩ := I.list isL
  have txts : IntsAre its.toArray.toList xs := rv.ints
  refine call_setI (I.ok.hd calm) at_.isList txts few fun h' tk T kept => ?_
  obtain ⟨n, ln, T⟩ := T
  exact ⟨.ref s.heap.objs.size, _, I.laid (t' := tk) kept (Nat.le_refl s.heap.objs.size) (setO_new T), rfl, q _ n (fun B hB => iset_few T hB) (I.hok.fresh (Nat.le_refl _))⟩
end
end Dw
end
section
/-! sorted(a list of tuples of numbers), of any length: as mergeSort lays it by the order of lists -/
namespace Dw
open PySem PySem.Spec PyProof.Rows L2 Evl PySem.W
end Dw
end
section
/-! readings of sorted(..) and set(..) over new lists -/
namespace Dw
open PySem PySem.Spec PyProof.Rows L2 Evl M25
section
variable {K : PySem.W.Frag} {σ : L2.St} {H H' : Hp} {te : TE} {w : World}
/-- a list and a new list -/
theorem elp_cat {ta tb : TE} {R : List V → Hp → Prop} {a : Addr} {xs : List V} (ha : Ev ta σ H (.ref a)) (hx : H a = some (.lst xs)) (hb : EvLP tb σ H R) (hz : ∀ ws H', R ws H' → xs.length + ws.length ≤ 100000) (st : ∀ ws H H', Ex H H' → R ws H → R ws H') : EvLP (tOp rCat ta tb) σ H (fun us H' => ∃ ws, us = xs ++ ws ∧ R ws H') := fun H1 e Q q =>
  do_op (ha H1 e _ fun H2 e2 => hb H2 (e.trans e2) _ fun p ws H3 np e3 hp r => ⟨a, p, xs, ws, rfl, rfl, e3 _ _ (e2 _ _ (e _ _ hx)), hp, sz_of (hz ws H3 r), fun l nl => q l _ _ (fresh_back (e2.trans e3) nl) ((e2.trans e3).trans (Ex.new nl)) upd_same ⟨ws, rfl, st _ _ _ (Ex.new nl) r⟩⟩)
theorem inV_vi (k : Nat) : ∀ l : List Nat, inV (vi k) (l.map vi) = decide (k ∈ l)
  | [] => rfl
  | x :: l => by
    have ih := inV_vi k l
    unfold inV at ih ⊢
    rw [List.map_cons, List.any_cons, ih]
    by_cases h : k = x
    · subst h
      have : eqV (vi k) (vi k) = true := by simp [eqV]
      rw [this, decide_eq_true (List.mem_cons_self ..)]
      rfl
    · have : eqV (vi x) (vi k) = false := by
        simp [eqV]
        omega
      rw [this, Bool.false_or]
      exact decide_eq_decide.mpr ⟨fun z => List.mem_cons_of_mem _ z, fun z => (List.mem_cons.mp z).resolve_left h⟩
theorem flat_vi (l : List Nat) : (l.map vi).all flatV = true := by
  rw [List.all_eq_true]
  intro x hx
  obtain ⟨k, _, rfl⟩ := List.mem_map.mp hx
  rfl
end
end Dw
namespace Dw
open PySem PySem.Spec PyProof.Rows L2 Evl M25
section
variable {K : PySem.W.Frag} {σ : L2.St} {H H' : Hp} {te ta tb : TE} {w : World}
/-- sorted(xs), xs a list of numbers by its name -/
theorem el_sortI {a : Addr} {ns ms : List Nat} (h : Ev te σ H (.ref a)) (hx : H a = some (.lst (ns.map vi))) (l : ns.length < 64) (pm : ns.Perm ms) (up : ms.Pairwise (· < ·)) : EvL (tCB (rSorted K) (tCons te tNil)) σ H (ms.map vi) := fun H1 e Q q =>
  h H1 e _ fun H2 e2 => ⟨a, ia ns, rfl, by
    unfold ia
    rw [List.map_map]
    exact sq_of ((e.trans e2) _ _ hx), by unfold ia; rw [List.length_map]; exact l, fun rs p pr ur np => by
    have er : rs = ia ms := le_one (pr.trans (pm.map _)) ur ((ia_up up).imp fun z => Int.le_of_lt z)
    refine q p _ (fresh_back e2 np) (e2.trans (Ex.new np)) ?_
    rw [upd_same, er]
    unfold ia
    rw [List.map_map]
    rfl⟩
def dL (ns : List Nat) : PyData := .list (ns.map fun n => .int ((n : Nat) : Int))
theorem eqv_dL (a b : List Nat) : PyData.eqv (dL a) (dL b) = decide (a = b) := by
  unfold dL
  rw [PyData.eqv]
  exact eqv_nats a b
theorem gd_dL {ns : List Nat} (h : ∀ k ∈ ns, k ≤ 1000) (l : ns.length ≤ 36) : Gd 1 396 (dL ns) := gd_lst (k := 0) (W := 10) (L := 36) (fun d hd => by
  obtain ⟨n, hn, rfl⟩ := List.mem_map.mp hd
  exact gd_int (h n hn)) (by rw [List.length_map]; exact l)
end
end Dw
end
section
/-! sorted(a list of things that read as data), of any length -/
namespace Dw
open PySem PySem.Spec PyProof.Rows L2 Evl PySem.W M25
def leD (p q : V × PyData) : Bool := dataLe false (fun p : V × PyData => p.2) p q
def rSortD (K : PySem.W.Frag) : List V → Hp → VK → Prop := fun vs H Q => ∃ (a : Addr) (ps : List (V × PyData)), vs = [.ref a] ∧ SqL K H a (ps.map (·.1)) ∧ (∀ p ∈ ps, Dp K H p.1 p.2) ∧ AllAlike (ps.map (·.2)) ∧ Sortable (ps.map (·.2)) ∧ (∀ p ∈ ps, p.2.depth ≤ 40) ∧
  ∀ l, H l = none → Q (.ref l) (upd H l (.lst ((ps.mergeSort leD).map (·.1))))
theorem eachD_vals {X : Cx} {pins : List (Addr × Obj)} {σ : L2.St} {H : Hp} {s : Shared} (I : Inv X pins σ H s) : ∀ {ps : List (V × PyData)} {vs : List Value}, Vals (ps.map (·.1)) vs → (∀ p ∈ ps, Dp X.K H p.1 p.2) →
    EachIs (fun v (p : V × PyData) => RelV p.1 v) vs ps ∧ EachIs (fun v (p : V × PyData) => ∃ as, Reads s.heap v p.2 as) vs ps
  | [], _, .nil, _ => ⟨.nil, .nil⟩
  | p :: ps, _, .cons r rs, h => by
    obtain ⟨a, b⟩ := eachD_vals I (ps := ps) rs fun q hq => h q (List.mem_cons_of_mem _ hq)
    exact ⟨.cons r a, .cons (Dp.reads I _ _ _ (h p (List.mem_cons_self ..)) r) b⟩
theorem eachD_back : ∀ {ps : List (V × PyData)} {vs : List Value}, EachIs (fun v (p : V × PyData) => RelV p.1 v) vs ps → Vals (ps.map (·.1)) vs
  | [], _, .nil => .nil
  | p :: ps, _, .cons r rs => .cons r (eachD_back rs)
theorem cr_sortD {X : Cx} {k : Nat} (hr : Room k X.A) : CallR X (.builtin "sorted") (rSortD X.K) := by
  intro pins s σ H vs us Q I r h
  obtain ⟨a, ps, rfl, hs, hd, hal, hso, hdp, q⟩ := h
  obtain ⟨its, rv, hl, hz⟩ := I.list hs
  rw [Vals.ref1 r]
  obtain ⟨ea, eb⟩ := eachD_vals I rv hd
  have hu := hr.un
  refine sorted_data (enc := fun p : V × PyData => p.2) (bs := ps) hl.isList ea eb hal hso (by rw [List.length_map] at hz; exact hz) (fun b hb => ?_) fun out lo eo => ?_
  · have := hdp b hb
    show X.A.units + 2 + b.2.depth < cLine
    omega
  · obtain ⟨ep, he'⟩ := PyProof.Rows.sortedAll_at s.heap its (List.toArray out)
    have hlen : ((ps.mergeSort leD).map (·.1)).length ≤ sizeLine := by
      rw [List.length_map, List.length_mergeSort]
      rw [List.length_map] at hz
      exact hz
    exact ⟨.ref _, upd H (s.heap.objs.size + 1) (.lst ((ps.mergeSort leD).map (·.1))), I.laid (t' := s.toks) (fun _ _ => PyProof.Rows.sortedAll_old) (Nat.le_succ _) ⟨hlen, out, ep, eachD_back eo, he'⟩, rfl, q _ (I.hok.fresh (Nat.le_succ _))⟩
/-- lists of numbers: the order of lists -/
theorem leD_rows (ps : List (V × List Nat)) : (ps.map fun p => (p.1, dL p.2)).mergeSort leD = (ps.mergeSort fun a b => leO a.2 b.2).map fun p => (p.1, dL p.2) := by
  refine (List.map_mergeSort (r := fun a b : V × List Nat => leO a.2 b.2) (s := leD) (f := fun p : V × List Nat => (p.1, dL p.2)) fun a _ b _ => ?_).symm
  show decide (ia a.2 ≤ ia b.2) = leD (a.1, dL a.2) (b.1, dL b.2)
  have := congrFun (congrFun (dataLe_rows (β := V × List Nat) fun p => ia p.2) a) b
  have e : ∀ l : List Nat, (l.map fun n => PyData.int ((n : Nat) : Int)) = (ia l).map .int := fun l => by
    unfold ia
    rw [List.map_map]
    rfl
  rw [← this]
  show (!dataLt (.list ((ia b.2).map .int)) (.list ((ia a.2).map .int))) = (!dataLt (dL b.2) (dL a.2))
  unfold dL
  rw [e, e]
end Dw
end
section
/-! a tuple turned about, t[::-1]; a list made longer by a tuple -/
namespace Dw
open PySem PySem.Spec PyProof.Rows L2
section
variable {P : Program} {w : World} {A : Around} {E : Value → Shared → Prop} {s : Shared}
end
section
variable {X : Cx}
end
end Dw
end
section
/-! dict(zip(a, b)), a and b lists or tuples -/
namespace Dw
open PySem PySem.Spec PyProof.Rows L2 Evl
section
variable {prog : Program} {w : World} {A : Around} {E : Value → Shared → Prop} {s : Shared} {z TI TO T p q : Addr} {F G : List Addr} {n m i : Nat} {P R : Nat → Value → Prop} {U V : Nat → Heap → Prop} {f : Bool} {oT : Obj}
end
/-- a list or a tuple, and its walker -/
def SqO (t : Bool) (h : Heap) (l : Addr) (xs : Array Value) : Prop := if t = true then h.IsTuple l xs else h.IsList l xs
def SqI (t : Bool) (it l : Addr) (xs : Array Value) (i : Nat) (h : Heap) : Prop := if t = true then h.IsTupleIter it l i ∧ h.IsTuple l xs else h.IsListIter it l i ∧ h.IsList l xs
theorem SqI.keep {t : Bool} {it l : Addr} {xs : Array Value} {i : Nat} {h h' : Heap} (x : SqI t it l xs i h) (k : ∀ b, b = it ∨ b = l → ∀ o, h.get? b = some o → h'.get? b = some o) : SqI t it l xs i h' := by
  cases t
  · exact And.intro (x.1.at fun o e => k it (.inl rfl) o e) (x.2.at fun o e => k l (.inr rfl) o e)
  · exact And.intro (x.1.at fun o e => k it (.inl rfl) o e) (x.2.at fun o e => k l (.inr rfl) o e)
/-! the expression -/
theorem SqO.lt {t : Bool} {h : Heap} {l : Addr} {xs : Array Value} (x : SqO t h l xs) : l < h.objs.size := by
  cases t
  · obtain ⟨o, e, _⟩ := (show h.IsList l xs from x)
    exact Heap.lt_size e
  · obtain ⟨o, e, _⟩ := (show h.IsTuple l xs from x)
    exact Heap.lt_size e
abbrev itOf (t : Bool) (l : Addr) : Obj := { cls := .type (if t = true then "tuple_iterator" else "list_iterator"), data := .fields #[.ref l, .int 0 0] }
theorem SqI.start {t : Bool} {h h' : Heap} {it l : Addr} {xs : Array Value} (x : SqO t h l xs) (k : ∀ b o, h.get? b = some o → h'.get? b = some o) (e : h'.get? it = some (itOf t l)) : SqI t it l xs 0 h' := by
  cases t
  · exact And.intro ⟨_, e, rfl, rfl⟩ (Heap.IsList.at (show h.IsList l xs from x) fun o q => k l o q)
  · exact And.intro ⟨_, e, rfl, rfl⟩ (Heap.IsTuple.at (show h.IsTuple l xs from x) fun o q => k l o q)
end Dw
end
section
/-! promises of new lists; comprehensions over a zip; tuple.index of texts; wider sums -/
namespace Dw
open PySem PySem.Spec PyProof.Rows L2 Evl RZ
section
variable {K : PySem.W.Frag} {σ : L2.St} {H H' : Hp} {ta tb te : TE} {t : TT} {x y z v : V} {D : Ends} {tu tz : TS} {g : TG}
theorem ev_modM {a b : Nat} (ha : Ev ta σ H (vi a)) (hb : Ev tb σ H (vi b)) (b0 : 0 < b) : Ev (tOp (rI (fun _ j => 0 < j) fun i j => .int (i % j)) ta tb) σ H (vi (a % b)) := ev_is (ev_op ha hb (rv_I (by show (0 : Int) < (b : Int); omega))) (by show V.int ((a : Int) % (b : Int)) = V.int ((a % b : Nat) : Int); rw [Int.natCast_emod])
theorem ev_subM {a b : Nat} (ha : Ev ta σ H (vi a)) (hb : Ev tb σ H (vi b)) (l : b ≤ a) : Ev (tOp (rI0 fun i j => .int (i - j)) ta tb) σ H (vi (a - b)) := ev_is (ev_op ha hb rv_I0) (by show V.int ((a : Int) - (b : Int)) = V.int ((a - b : Nat) : Int); congr 1; omega)
theorem ev_mulM {a b : Nat} (ha : Ev ta σ H (vi a)) (hb : Ev tb σ H (vi b)) (la : a ≤ 100000) : Ev (tOp (rI CMul fun i j => .int (i * j)) ta tb) σ H (vi (a * b)) := ev_is (ev_op ha hb (rv_I (.inl ⟨by omega, by omega⟩))) (by show V.int ((a : Int) * (b : Int)) = V.int ((a * b : Nat) : Int); rw [Int.natCast_mul])
theorem ev_addM {a b : Nat} (ha : Ev ta σ H (vi a)) (hb : Ev tb σ H (vi b)) : Ev (tOp (rI0 fun i j => .int (i + j)) ta tb) σ H (vi (a + b)) := ev_is (ev_op ha hb rv_I0) (by show V.int ((a : Int) + (b : Int)) = V.int ((a + b : Nat) : Int); rw [Int.natCast_add])
end
section
variable {X : Cx}
theorem op_in_seqK (K : PySem.W.Frag) (h : X.K = K := by rfl) : OpR X (compareOp .In) (rIn K false) := by
  subst h
  exact op_in_seq
theorem op_notIn_seqK (K : PySem.W.Frag) (h : X.K = K := by rfl) : OpR X (compareOp .NotIn) (rIn K true) := by
  subst h
  exact op_notIn_seq
/-- two rules for one subscript, two for one call -/
theorem ix_or {r r' : R2} (h : IxR X r) (h' : IxR X r') : IxR X (fun x y H Q => r x y H Q ∨ r' x y H Q) := fun e1 e2 pins s σ H x y v u Q I rx ry h0 e => by
  rcases h0 with h0 | h0
  · exact h e1 e2 pins s σ H x y v u Q I rx ry h0 e
  · exact h' e1 e2 pins s σ H x y v u Q I rx ry h0 e
theorem call_or {f : Value} {r r' : List V → Hp → VK → Prop} (h : CallR X f r) (h' : CallR X f r') : CallR X f (fun xs H Q => r xs H Q ∨ r' xs H Q) := fun pins s σ H xs us Q I rx h0 => by
  rcases h0 with h0 | h0
  · exact h pins s σ H xs us Q I rx h0
  · exact h' pins s σ H xs us Q I rx h0
end
end Dw
end
section
/-! for k, (a, b) in enumerate(zip(two lists)) -/
namespace Dw
open PySem PySem.Spec PyProof.Rows L2 Evl RZ
section
variable {prog : Program} {w : World} {A : Around} {E : Value → Shared → Prop} {s : Shared}
end
/-! a turn of a zip that may use its own tuple again -/
abbrev ZipF (h : Heap) (z TI TO : Addr) (f0 f1 : Value) : Prop := h.get? z = some { cls := .type "zip", dict := none, data := .fields #[f0, f1, .bool false, .ref TI, .ref TO], slots := #[] }
section
variable {prog : Program} {w : World} {A : Around} {E : Value → Shared → Prop} {s : Shared} {z TI TO T p q : Addr} {F G : List Addr} {n m i : Nat} {P R : Nat → Value → Prop} {U V : Nat → Heap → Prop} {f0 f1 a1 a2 : Value}
/-! next of a zip, whatever its own tuple is -/
/-- what stands of a zip between two turns -/
def ZTn (z TI TO p q a b : Addr) (i : Nat) (h : Heap) : Prop := IsTupOf2 h TI (.ref p) (.ref q) ∧ (∃ x y, IsTupOf2 h TO x y) ∧ (ZipF h z TI TO .none (.bool false) ∨ ∃ T f, IsZipHeld h z TI TO T f) ∧ h.IsListIter p a i ∧ h.IsListIter q b i
end
end Dw
end
section
/-! for k, (a, b) in enumerate(zip(two lists)): the walker -/
namespace Dw
open PySem PySem.Spec PyProof.Rows L2 Evl RZ
theorem ZTn.keep {z TI TO p q a b : Addr} {i : Nat} {h h' : Heap} (st : ZTn z TI TO p q a b i h) (k : ∀ c ∈ [z, TI, TO, p, q], ∀ o, h.get? c = some o → h'.get? c = some o) : ZTn z TI TO p q a b i h' := by
  obtain ⟨c1, ⟨x, y, c2⟩, c3, c4, c5⟩ := st
  refine ⟨k _ (by simp) _ c1, ⟨x, y, k _ (by simp) _ c2⟩, ?_, c4.at fun o e => k p (by simp) o e, c5.at fun o e => k q (by simp) o e⟩
  rcases c3 with c3 | ⟨T, f, c3⟩
  · exact .inl (k _ (by simp) _ c3)
  · exact .inr ⟨T, f, k _ (by simp) _ c3⟩
theorem FpOk.new {X : Cx} {pins : List (Addr × Obj)} {H : Hp} {b T : Addr} {o : HO} (h : FpOk X pins H b) (ne : b ≠ T) : FpOk X pins (upd H T o) b := ⟨by rw [upd_ne ne]; exact h.1, h.2⟩
end Dw
end
section
/-! enumerate(zip(two lists)): the expression -/
namespace Dw
open PySem PySem.Spec PyProof.Rows L2 Evl RZ
end Dw
end
section
/-! l.extend(any tuple that is read) -/
namespace Dw
open PySem PySem.Spec PyProof.Rows L2 Evl RZ
section
variable {X : Cx}
end
end Dw
end
section
/-! [.. for k, (a, b) in enumerate(zip(two lists)) if ..] -/
namespace Dw
open PySem PySem.Spec PyProof.Rows L2 Evl RZ
section
variable {K : PySem.W.Frag} {σ : L2.St} {H H' : Hp} {te : TE} {tt : TT}
end
end Dw
end
section
/-! t.index(x), x any small data -/
namespace Dw
open PySem PySem.Spec PyProof.Rows L2 Evl RZ
end Dw
end
section
namespace Dw
open PySem PySem.Spec PyProof.Rows L2
/-! list(a text): its signs -/
end Dw
end
section
/-! zip(a list, a tuple): as many pairs as the shorter has -/
namespace Dw
open PySem PySem.Spec PyProof.Rows L2 Evl RZ
/-- the list at a, the tuple at b: their items in new pairs -/
def ItzM (K : PySem.W.Frag) (a b : Addr) : It :=
  ⟨fun i H => ∃ (xs ys : List V) (x y : V), SqL K H a xs ∧ SqT K H b ys ∧ xs[i]? = some x ∧ ys[i]? = some y,
   fun i H v H' => ∃ T x y, v = .ref T ∧ H T = none ∧ H' = upd H T (.tup [x, y]) ∧ (∀ xs, SqL K H a xs → xs[i]? = some x) ∧ (∀ ys, SqT K H b ys → ys[i]? = some y),
   fun i H => ∃ xs ys : List V, SqL K H a xs ∧ SqT K H b ys ∧ i ≤ xs.length ∧ i ≤ ys.length ∧ (i = xs.length ∨ i = ys.length)⟩
def StandsM (z TI TO i1 i2 a b : Addr) (i : Nat) (hp : Heap) : Prop := IsZip hp z TI TO .none ∧ IsTupOf2 hp TI (.ref i1) (.ref i2) ∧ (∃ x y, IsTupOf2 hp TO x y) ∧ hp.IsListIter i1 a i ∧ hp.IsTupleIter i2 b i
theorem five {c z TI TO i1 i2 : Addr} {P : Addr → Prop} (h : c ∈ [z, TI, TO, i1, i2]) (p1 : P z) (p2 : P TI) (p3 : P TO) (p4 : P i1) (p5 : P i2) : P c := by
  simp only [List.mem_cons, List.not_mem_nil, or_false] at h
  rcases h with e | e | e | e | e <;> (rw [e]; assumption)
theorem StandsM.low {z TI TO i1 i2 a b : Addr} {i : Nat} {hp : Heap} (st : StandsM z TI TO i1 i2 a b i hp) {c : Addr} (h : c ∈ [z, TI, TO, i1, i2]) : c < hp.objs.size := by
  obtain ⟨hz, hI, ⟨x, y, hO⟩, ⟨o1, e1, _⟩, ⟨o2, e2, _⟩⟩ := st
  exact five (P := fun c => c < hp.objs.size) h (Heap.lt_size hz) (Heap.lt_size hI) (Heap.lt_size hO) (Heap.lt_size e1) (Heap.lt_size e2)
theorem turn_zipM {P : Program} {w : World} {K : PySem.W.Frag} {elts : List Expr} {kk : Nat} {tpos : Pos} {a b z TI TO i1 i2 : Addr} (S : ZipSep2 z TI TO i1 i2 [i1, a] [i2, b]) : Turn P w K (.Tuple elts kk tpos) (ItzM K a b) [z, TI, TO, i1, i2] z (StandsM z TI TO i1 i2 a b) where
  mem := List.mem_cons_self ..
  obj := by
    intro i hp st c hc
    obtain ⟨hz, hI, ⟨x, y, hO⟩, ⟨o1, e1, _, d1⟩, ⟨o2, e2, _, d2⟩⟩ := st
    exact five (P := fun c => ∃ o, hp.get? c = some o ∧ ∀ v, o.data ≠ .cell v) hc ⟨_, hz, fun _ q => nomatch q⟩ ⟨_, hI, fun _ q => nomatch q⟩ ⟨_, hO, fun _ q => nomatch q⟩ ⟨o1, e1, fun v q => by rw [d1] at q; cases q⟩ ⟨o2, e2, fun v q => by rw [d2] at q; cases q⟩
  keep := by
    intro i hp hp' st same
    obtain ⟨hz, hI, ⟨x, y, hO⟩, h1, h2⟩ := st
    have at_ : ∀ c, c ∈ [z, TI, TO, i1, i2] → ∀ o, hp.get? c = some o → hp'.get? c = some o := same
    exact ⟨at_ z (by simp) _ hz, at_ TI (by simp) _ hI, ⟨x, y, at_ TO (by simp) _ hO⟩, h1.at (at_ i1 (by simp)), h2.at (at_ i2 (by simp))⟩
  item := by
    intro X eP ew eK calm i pins s σ H E I free st here
    subst eP ew eK
    have low := fun {c : Addr} => st.low (c := c)
    obtain ⟨hz, hI, ⟨x0, y0, hO⟩, h1, h2⟩ := st
    obtain ⟨xs, ys, x, y, hx, hy, atx, aty⟩ := here
    obtain ⟨cs, rel, pl, _⟩ := I.list hx
    obtain ⟨ds, rel2, pt, _⟩ := I.tuple hy
    obtain ⟨u, hu, ru⟩ := rel.get atx
    obtain ⟨u2, hu2, ru2⟩ := rel2.get aty
    have quiet : X.A.in1.handled = none := I.ok.hd calm
    have ne1 : a ≠ i1 := fun e => by
      obtain ⟨o1, g1, c1, _⟩ := h1
      obtain ⟨o2, g2, c2, _⟩ := pl.isList
      rw [e, g1] at g2
      cases g2
      rw [c1] at c2
      injection c2 with z
      exact absurd z (by decide)
    have ne2 : b ≠ i2 := fun e => by
      obtain ⟨o1, g1, c1, _⟩ := h2
      obtain ⟨o2, g2, c2, _⟩ := (show s.heap.IsTuple b ds.toArray from pt)
      rw [e, g1] at g2
      cases g2
      rw [c1] at c2
      injection c2 with z
      exact absurd z (by decide)
    have zl := low (c := z) (by simp)
    refine wpAny_pyNext_zipD2_item S (Draws.list (prog := X.prog) (w := X.w) quiet i1 a ne1 cs.toArray) (Draws.tuple (prog := X.prog) (w := X.w) quiet i2 b ne2 ds.toArray) hz hI hO ⟨h1, pl.isList⟩ ⟨h2, pt⟩ (by rw [List.size_toArray]; exact (List.getElem?_eq_some_iff.mp hu).1) (by rw [List.size_toArray]; exact (List.getElem?_eq_some_iff.mp hu2).1) fun v v2 hp1 tk p1 p2 z' O' s1 s2 pair _ same => ?_
    have ev : v = u := by
      have q : cs.toArray[i]? = some v := p1
      rw [List.getElem?_toArray, hu] at q
      exact (Option.some.inj q).symm
    have ev2 : v2 = u2 := by
      have q : ds.toArray[i]? = some v2 := p2
      rw [List.getElem?_toArray, hu2] at q
      exact (Option.some.inj q).symm
    subst ev ev2
    refine ⟨_, rfl, wpAny_letOwnedTupleGo_zip (s := { s with heap := hp1, toks := tk }) z' fun hp2 z'' but => ?_⟩
    have pair2 : hp2.get? s.heap.objs.size = some { cls := .type "tuple", data := .seq #[v, v2] } := (but.2 _ (Nat.ne_of_gt zl)).trans pair
    have fine : ObjOk X.prog X.w (upd H s.heap.objs.size (.tup [x, y])) hp2 s.heap.objs.size (.tup [x, y]) := And.intro (show 2 ≤ sizeLine by decide) ⟨[v, v2], .cons ru (.cons ru2 .nil), _, pair2, rfl, _, rfl⟩
    have still : ∀ c o, c ∉ [z, TI, TO, i1, i2] → s.heap.get? c = some o → hp2.get? c = some o := fun c o nc q => by
      simp only [List.mem_cons, List.not_mem_nil, or_false, not_or] at nc
      rw [but.2 c nc.1]
      exact same c o nc.1 nc.2.2.1 nc.2.2.2.1 nc.2.2.2.2 q
    have J := I.turnedNew (ch := [z, TI, TO, i1, i2]) (t' := tk) still free (Nat.le_refl s.heap.objs.size) fine
    refine ⟨.ref s.heap.objs.size, _, J, rfl, ⟨_, x, y, rfl, I.hok.fresh (Nat.le_refl _), rfl, fun l hl => by rw [I.list_inj hl hx]; exact atx, fun l hl => by rw [I.tuple_inj hl hy]; exact aty⟩, ⟨z'', ?_, ⟨v, v2, ?_⟩, ?_, ?_⟩, fun c hc => ?_⟩
    · exact (but.2 _ S.TIz).trans (same _ _ S.TIz S.TITO S.TIi1 S.TIi2 hI)
    · exact (but.2 _ S.TOz).trans O'
    · exact s1.1.at fun o q => (but.2 _ (Ne.symm S.zi1)).trans q
    · exact s2.1.at fun o q => (but.2 _ (Ne.symm S.zi2)).trans q
    · rw [upd_ne (Nat.ne_of_lt (low hc))]
      exact (free c hc).1
  done := by
    intro X eP ew eK calm i pins s σ H E I free st over
    subst eP ew eK
    obtain ⟨hz, hI, ⟨x0, y0, hO⟩, h1, h2⟩ := st
    obtain ⟨xs, ys, hx, hy, l1, l2, ends⟩ := over
    obtain ⟨cs, rel, pl, _⟩ := I.list hx
    obtain ⟨ds, rel2, pt, _⟩ := I.tuple hy
    have quiet : X.A.in1.handled = none := I.ok.hd calm
    have n1 := rel.length
    have n2 := rel2.length
    have ne1 : a ≠ i1 := fun e => by
      obtain ⟨o1, g1, c1, _⟩ := h1
      obtain ⟨o2, g2, c2, _⟩ := pl.isList
      rw [e, g1] at g2
      cases g2
      rw [c1] at c2
      injection c2 with z
      exact absurd z (by decide)
    have ne2 : b ≠ i2 := fun e => by
      obtain ⟨o1, g1, c1, _⟩ := h2
      obtain ⟨o2, g2, c2, _⟩ := (show s.heap.IsTuple b ds.toArray from pt)
      rw [e, g1] at g2
      cases g2
      rw [c1] at c2
      injection c2 with z
      exact absurd z (by decide)
    exact wpAny_pyNext_zipD2_end S (Draws.list (prog := X.prog) (w := X.w) quiet i1 a ne1 cs.toArray) (Draws.tuple (prog := X.prog) (w := X.w) quiet i2 b ne2 ds.toArray) hz hI hO ⟨h1, pl.isList⟩ ⟨h2, pt⟩ (by rw [List.size_toArray]; omega) (by rw [List.size_toArray]; omega) (by rw [List.size_toArray, List.size_toArray]; omega) fun hp1 tk same =>
      ⟨rfl, I.turnedL (t' := tk) (ch := [z, TI, TO, i1, i2]) (fun c o nc q => by
        simp only [List.mem_cons, List.not_mem_nil, or_false, not_or] at nc
        exact same c o nc.1 nc.2.2.1 nc.2.2.2.1 nc.2.2.2.2 q) free⟩
  self := fun A i s Q E st h => wpAny_pyIter_zip st.1 h
theorem nq {x y : Nat} (h : x ≠ y) : ¬ @Eq Addr x y := h
theorem sepM (I l1 l2 : Nat) (h1 : l1 < I) (h2 : l2 < I) : ZipSep2 (I + 4) (I + 2) (I + 3) I (I + 1) [I, l1] [I + 1, l2] := by
  constructor <;> (simp only [List.mem_cons, List.not_mem_nil, or_false, not_or, ne_eq, true_or]; try first | exact nq (by omega) | exact ⟨nq (by omega), nq (by omega)⟩)
def iZipM (K : PySem.W.Frag) (ta : TA) : TI := fun σ H R => ta σ H fun vs H1 => ∃ a b xs ys, vs = [.ref a, .ref b] ∧ SqL K H1 a xs ∧ SqT K H1 b ys ∧ R (ItzM K a b) H1
theorem pi_zipM {X : Cx} {e e2 : Expr} {ta : TA} {p pos tpos : Pos} {elts : List Expr} {kk : Nat} (glob : Gl X "zip") (none_ : X.mg "zip" = none) (args : PA X [e, e2] ta)
    (star : starEach [e, e2] X.env = (false, eval e X.env) :: starEach [e2] X.env := by rfl) (plain : (backTo pos (starEach [e2] X.env)).any (·.1) = false := by rfl) : PI X (.Tuple elts kk tpos) (.Call (.Name "zip" p) [e, e2] [] pos) (iZipM X.K ta) := by
  constructor
  intro pins s σ H R I q0
  refine Call_ (ld_blt I glob none_ PyProof.Rows.boot_zip (PyProof.Rows.callWith_type1 (thn (args.run pos pins s σ H _ I q0) fun us s1 got => ?_) star plain))
  obtain ⟨vs, H1, J, rel, a, b, xs, ys, ev, hx, hy, q1⟩ := got
  subst ev
  cases rel with
  | cons r1 rel =>
    cases rel with
    | cons r2 rel =>
      cases rel
      cases r1
      cases r2
      obtain ⟨cs, _, pl, _⟩ := J.list hx
      obtain ⟨ds, _, pt, _⟩ := J.tuple hy
      have la : a < s1.heap.objs.size := pl.lt
      have lb : b < s1.heap.objs.size := by
        obtain ⟨o, ho, _⟩ := (show s1.heap.IsTuple b ds.toArray from pt)
        exact Heap.lt_size ho
      refine zip_begins2 (begins_list a cs.toArray) (begins_tuple b ds.toArray) pl.isList pt fun hp hz hI hO g1 g2 _ kept => wpAny_pyIter_zip hz ?_
      have J2 : Inv X pins σ H1 { s1 with heap := hp } := J.kept (t' := s1.toks) kept
      have sep := sepM s1.heap.objs.size a b la lb
      refine ⟨s1.heap.objs.size + 4, [s1.heap.objs.size + 4, s1.heap.objs.size + 2, s1.heap.objs.size + 3, s1.heap.objs.size, s1.heap.objs.size + 1], _, _, H1, rfl, J2, turn_zipM sep, ⟨hz, hI, ⟨_, _, hO⟩, ⟨_, g1, rfl, rfl⟩, ⟨_, g2, rfl, rfl⟩⟩, fun c hc => ?_, q1⟩
      have late : s1.heap.objs.size ≤ c := five (P := fun c => s1.heap.objs.size ≤ c) hc (Nat.le_add_right _ _) (Nat.le_add_right _ _) (Nat.le_add_right _ _) (Nat.le_refl _) (Nat.le_add_right _ _)
      exact J.fpOk late (J.hok.fresh late)
theorem walk_zipM {K : PySem.W.Frag} {a b : Addr} {xs ys : List V} {n : Nat} (hn : n = min xs.length ys.length) : Walk (ItzM K a b) n (fun H => SqL K H a xs ∧ SqT K H b ys) (YPair (fun i => xs[i]?) (fun i => ys[i]?)) := by
  refine ⟨fun i H hi q => ⟨xs, ys, xs[i]'(by omega), ys[i]'(by omega), q.1, q.2, List.getElem?_eq_getElem (by omega), List.getElem?_eq_getElem (by omega)⟩, fun H q => ⟨xs, ys, q.1, q.2, by omega, by omega, by omega⟩, fun i H v H' _ q y => ?_⟩
  obtain ⟨T, x1, x2, h1, h2, h3, h4, h5⟩ := y
  exact ⟨T, x1, x2, h1, h2, h3, h4 xs q.1, h5 ys q.2⟩
end Dw
end
section
/-! dicts told with the same keys and the same data -/
namespace Dw
open PySem PySem.Spec PyProof.Rows L2 Evl RZ
section
variable {X : Cx}
end
end Dw
end
section
/-! zip(a tuple, a list): as many pairs as the shorter has -/
namespace Dw
open PySem PySem.Spec PyProof.Rows L2 Evl RZ
def StandsN (z TI TO i1 i2 a b : Addr) (i : Nat) (hp : Heap) : Prop := IsZip hp z TI TO .none ∧ IsTupOf2 hp TI (.ref i1) (.ref i2) ∧ (∃ x y, IsTupOf2 hp TO x y) ∧ hp.IsTupleIter i1 a i ∧ hp.IsListIter i2 b i
theorem StandsN.low {z TI TO i1 i2 a b : Addr} {i : Nat} {hp : Heap} (st : StandsN z TI TO i1 i2 a b i hp) {c : Addr} (h : c ∈ [z, TI, TO, i1, i2]) : c < hp.objs.size := by
  obtain ⟨hz, hI, ⟨x, y, hO⟩, ⟨o1, e1, _⟩, ⟨o2, e2, _⟩⟩ := st
  exact five (P := fun c => c < hp.objs.size) h (Heap.lt_size hz) (Heap.lt_size hI) (Heap.lt_size hO) (Heap.lt_size e1) (Heap.lt_size e2)
end Dw
end
section
/-! list(zip(a, b)) -/
namespace Dw
open PySem PySem.Spec PyProof.Rows L2 Evl
/-- what a zip under way is, with S apart -/
structure ZG (z TI TO p q a b S : Addr) (t1 t2 : Bool) (xs ys : Array Value) (i : Nat) (h : Heap) : Prop where
  ti : IsTupOf2 h TI (.ref p) (.ref q)
  s1 : SqI t1 p a xs i h
  s2 : SqI t2 q b ys i h
  st : (IsZip h z TI TO .none ∧ ∃ x y, IsTupOf2 h TO x y) ∨ ∃ T f oT, IsZipHeld h z TI TO T f ∧ h.get? T = some oT ∧ T ≠ z ∧ T ≠ p ∧ T ≠ q ∧ T ≠ S
theorem ZG.keep {z TI TO p q a b S : Addr} {t1 t2 : Bool} {xs ys : Array Value} {i : Nat} {h h' : Heap} (g : ZG z TI TO p q a b S t1 t2 xs ys i h) (far : ∀ c ∈ [z, TI, TO, p, q, a, b], c < S) (k : ∀ c o, c ≠ S → h.get? c = some o → h'.get? c = some o) : ZG z TI TO p q a b S t1 t2 xs ys i h' := by
  have nz : ∀ c ∈ [z, TI, TO, p, q, a, b], c ≠ S := fun c hc => Nat.ne_of_lt (far c hc)
  obtain ⟨e1, e2, e3, e4⟩ := g
  refine ⟨k _ _ (nz TI (by simp)) e1, e2.keep fun c hc o e => ?_, e3.keep fun c hc o e => ?_, ?_⟩
  · rcases hc with x | x <;> subst x <;> exact k _ o (nz _ (by simp)) e
  · rcases hc with x | x <;> subst x <;> exact k _ o (nz _ (by simp)) e
  · rcases e4 with ⟨isZ, x, y, isO⟩ | ⟨T, f, oT, isZ, atT, r1, r2, r3, r4⟩
    · exact .inl ⟨k _ _ (nz z (by simp)) isZ, x, y, k _ _ (nz TO (by simp)) isO⟩
    · exact .inr ⟨T, f, oT, k _ _ (nz z (by simp)) isZ, k _ _ r4 atT, r1, r2, r3, r4⟩
section
variable {prog : Program} {w : World} {A : Around} {E : Value → Shared → Prop} {s : Shared} {z TI TO p q a b S : Addr} {t1 t2 : Bool} {xs ys : Array Value} {i : Nat}
end
section
variable {prog : Program} {w : World} {A : Around} {s : Shared} {R : Result → Shared → Prop} {z TI TO p q a b S : Addr} {t1 t2 : Bool} {xs ys : Array Value}
end
section
variable {prog : Program} {w : World} {A : Around} {E : Value → Shared → Prop} {s : Shared} {z TI TO p q a b : Addr} {t1 t2 : Bool} {xs ys : Array Value}
end
/-! laid down -/
end Dw
end
section
/-! a tuple times 0 or 1 -/
namespace Dw
open PySem PySem.Spec PyProof.Rows L2
end Dw
end
section
/-! a caught exception that is kept: it is told from the catch on, so that isinstance can be asked of it behind the try -/
namespace Dw
open PySem PySem.Spec PyProof.Rows L2
/-- an exception of the class cls, that is no longer in the air -/
def ExcAt (a : Addr) (cls : Value) (d : Option Addr) : HO := .ext fun h => ∃ ob fv, h.get? a = some ob ∧ Zc cls d ob ∧ ob.data = .fields fv
section
variable {X : Cx} {pins : List (Addr × Obj)} {σ : L2.St} {H : Hp} {s : Shared}
end
section
variable {X : Cx} {x n : Str} {c : Value} {i : Nat} {body suite : List Stmt} {b0 : Stmt} {np p1 p2 : Pos} {tb : WX → TS} {ts : TS}
end
end Dw
end
section
/-! isinstance of a kept exception; defs that raise, called in a try -/
namespace Dw
open PySem PySem.Spec PyProof.Rows L2 Evl
/-- a pure promise of a new thing -/
def spF {α : Type} (pre : α → List V → Hp → Prop) (post : α → V → Hp → Prop) : Sp := fun vs H Q _ => ∃ a, pre a vs H ∧ ∀ v H', Ex H H' → post a v H' → (∀ d, v = .ref d → H d = none) → Q v H'
end Dw
end
section
/-! repr of a written list with dicts of data among its items -/
namespace Dw
open PySem PySem.Spec PyProof.Rows L2 Evl
/-! data of texts, numbers and tuples alone: no place is told of it -/
mutual
def noL : PyData → Bool
  | .none | .bool _ | .int _ | .str _ => true
  | .tuple xs => noLs xs
  | .list _ | .dict _ => false
def noLs : List PyData → Bool
  | [] => true
  | x :: xs => noL x && noLs xs
end
section
variable {X : Cx} {pins : List (Addr × Obj)} {σ : L2.St} {H : Hp} {s : Shared}
end
/-! sizes -/
structure Gs (k W : Nat) (d : PyData) : Prop where
  dep : d.depth ≤ k
  wgt : d.weight ≤ W
  its : d.leavesShort 13 = true
  sho : d.showable = true
theorem Gd.gs {k W : Nat} {d : PyData} (h : Gd k W d) : Gs k W d := ⟨h.dep, h.wgt, PyData.leavesShort_of_canLay0 13 d h.lay h.its, h.sho⟩
theorem Gs.mono {k W k' W' : Nat} {d : PyData} (h : Gs k W d) (a : k ≤ k') (b : W ≤ W') : Gs k' W' d := ⟨Nat.le_trans h.dep a, Nat.le_trans h.wgt b, h.its, h.sho⟩
theorem Gs.len {k W : Nat} {d : PyData} (h : Gs k W d) (b : W ≤ 1000000) : d.shown.length ≤ sizeLine := by
  have z := PyData.shown_le 13 (by decide) d h.its
  have y := h.wgt
  rw [sizeLine_eq]
  omega
end Dw
end
section
/-! == and != of deep data; isinstance of what was caught or of None, one class or a written tuple of them -/
namespace Dw
open PySem PySem.Spec PyProof.Rows L2 Evl
/-- None, or a kept exception: its type -/
def TyC (K : PySem.W.Frag) (H : Hp) (x : V) (t : Value) : Prop := (x = .non ∧ t = .type "NoneType") ∨ ∃ (a C : Addr), x = .ref a ∧ H a = some (ExcAt a (.ref C) none) ∧ ExcC K C ∧ t = .ref C
theorem TyC.ex {K : PySem.W.Frag} {H H' : Hp} {x : V} {t : Value} (e : Ex H H') (h : TyC K H x t) : TyC K H' x t := h.imp id fun ⟨a, C, h1, h2, h3, h4⟩ => ⟨a, C, h1, e _ _ h2, h3, h4⟩
end Dw
end
section
/-! defs that are only called where nothing is being shown, and repr in them -/
namespace Dw
open PySem PySem.Spec PyProof.Rows L2 Evl
end Dw
end
section
/-! in of a tuple of data; repr of deep data -/
namespace Dw
open PySem PySem.Spec PyProof.Rows L2 Evl
end Dw
end
section
/-! tuple * int, the int small, below 1 too -/
namespace Dw
open PySem PySem.Spec PyProof.Rows L2 Evl
end Dw
end
section
/-! repr of any data without dicts -/
namespace Dw
open PySem PySem.Spec PyProof.Rows L2 Evl
def rReprW (X : Cx) : List V → Hp → VK → Prop := fun xs H Q => ∃ (v : V) (d : PyData), xs = [v] ∧ Dp X.K H v d ∧ X.A.guards = some [] ∧ d.showable = true ∧ d.hasDict = false ∧ d.depth ≤ 190 ∧ d.shown.length ≤ sizeLine ∧ Q (.str d.shown) H
theorem call_reprW {X : Cx} {k : Nat} (hr : Room k X.A) : CallR X (.builtin "repr") (rReprW X) := by
  intro pins s σ H xs us Q I r h
  obtain ⟨v, d, e, hd, hg, hs, hn, hz, hl, q⟩ := h
  subst e
  obtain ⟨u, rfl, ru⟩ := vals1 r
  have un := hr.un
  have isRef : ∀ a, v = .ref a → wpAny (model X.prog X.w) X.A (call (.builtin "repr") [u]) (fun w' s' => ∃ z H', Inv X pins σ H' s' ∧ RelV z w' ∧ Q z H') X.xe s := fun a e => by
    subst e
    obtain ⟨as, rd⟩ := Dp.reads I d _ _ hd ru
    cases (show u = Value.ref a from ru)
    exact repr_of_reads' rd hs (PyData.noDict_hsm hn) hg (by omega) (fun _ _ z => z) (fun h' t tk keep => ⟨.str d.shown, H, I.kept keep, ⟨t, rfl⟩, q⟩) hl
  cases hd with
  | non =>
    cases (show u = Value.none from ru)
    exact PySem.P.repr_of_none ⟨.str _, H, I.tok _, ⟨_, rfl⟩, q⟩
  | bl b =>
    cases (show u = Value.bool b from ru)
    exact PySem.P.repr_of_bool ⟨.str _, H, I.tok _, ⟨_, rfl⟩, q⟩
  | int i =>
    obtain ⟨t, e⟩ := (show ∃ t, u = Value.int i t from ru)
    subst e
    exact PySem.P.repr_of_int (by rw [PyData.showable] at hs; exact of_decide_eq_true hs) ⟨.str _, H, I.tok _, ⟨_, rfl⟩, q⟩
  | str x =>
    obtain ⟨t, e⟩ := (show ∃ t, u = Value.str x t from ru)
    subst e
    exact PySem.P.repr_of_str ⟨.str _, H, I.tok _, ⟨_, rfl⟩, q⟩ hl
  | lst _ _ => exact isRef _ rfl
  | tup _ _ => exact isRef _ rfl
end Dw
end
section
/-! min and sum of a tuple of numbers -/
namespace Dw
open PySem PySem.Spec PyProof.Rows PyProof.V L2 Evl PySem.W
theorem minOf_le : ∀ (xs : List Int) (x : Int), (∀ y ∈ x :: xs, minOf x xs ≤ y) ∧ minOf x xs ∈ x :: xs
  | [], x => ⟨fun y hy => by rw [List.mem_singleton.mp hy]; exact Int.le_refl _, List.mem_cons_self ..⟩
  | z :: xs, x => by
    have e : minOf x (z :: xs) = minOf (if z < x then z else x) xs := by
      unfold minOf
      rw [List.foldl_cons]
      congr 1
      show (if decide (z < x) = true then z else x) = _
      by_cases h : z < x
      · rw [decide_eq_true h, if_pos rfl, if_pos h]
      · rw [decide_eq_false h, if_neg Bool.false_ne_true, if_neg h]
    obtain ⟨a, b⟩ := minOf_le xs (if z < x then z else x)
    rw [e]
    have c := a _ (List.mem_cons_self ..)
    refine ⟨fun y hy => ?_, ?_⟩
    · rcases List.mem_cons.mp hy with rfl | hy
      · split at c
        · rename_i h; rw [if_pos h]; omega
        · rename_i h; rw [if_neg h]; exact c
      · rcases List.mem_cons.mp hy with rfl | hy
        · split at c
          · rename_i h; rw [if_pos h]; exact c
          · rename_i h; rw [if_neg h]; omega
        · exact a y (List.mem_cons_of_mem _ hy)
    · rcases List.mem_cons.mp b with b | b
      · rw [b]
        split
        · exact List.mem_cons_of_mem _ (List.mem_cons_self ..)
        · exact List.mem_cons_self ..
      · exact List.mem_cons_of_mem _ (List.mem_cons_of_mem _ b)
def rMinT (K : PySem.W.Frag) : List V → Hp → VK → Prop := fun vs H Q => ∃ (a : Addr) (ns : List Int), vs = [V.ref a] ∧ SqT K H a (ns.map V.int) ∧ 0 < ns.length ∧ ∀ m, m ∈ ns → (∀ y, y ∈ ns → m ≤ y) → Q (.int m) H
theorem cr_minT {X : Cx} {k : Nat} (hc : X.calm = true) (hr : Room k X.A) : CallR X (.builtin "min") (rMinT X.K) := by
  intro pins s σ H vs us Q I r h
  obtain ⟨a, ns, rfl, hs, hne, q⟩ := h
  obtain ⟨its, rv, hl, _⟩ := I.tuple hs
  rw [Vals.ref1 r]
  cases ns with
  | nil => exact absurd hne (Nat.lt_irrefl 0)
  | cons x xs =>
    have hi : IntsAre its.toArray.toList (x :: xs) := by rw [List.toList_toArray]; exact ints_of rv
    have hu := hr.units
    have ho : HoldAll s.heap its.toArray.toList (x :: xs) := ⟨[], ints_readAll _ hi⟩
    refine min_tuple_datum (α := Int) (I.ok.hd hc) hl ho (by show X.A.units + 1 + 0 < _; omega) fun i v h' tk hv ho2 hk => ?_
    obtain ⟨a2, b2⟩ := minOf_le xs x
    obtain ⟨as, rd⟩ := ho2
    have rd' : Reads h' v (.int (minOf x xs)) as := rd
    cases rd' with
    | int _ t => exact ⟨.int _, H, I.kept hk, ⟨t, rfl⟩, q _ b2 a2⟩
def rSumT (K : PySem.W.Frag) : List V → Hp → VK → Prop := fun vs H Q => ∃ (a : Addr) (ns : List Int), vs = [V.ref a] ∧ SqT K H a (ns.map V.int) ∧ Q (.int ns.sum) H
theorem cr_sumT {X : Cx} (hc : X.calm = true) : CallR X (.builtin "sum") (rSumT X.K) := by
  intro pins s σ H vs us Q I r h
  obtain ⟨a, ns, rfl, hs, q⟩ := h
  obtain ⟨its, rv, hl, _⟩ := I.tuple hs
  rw [Vals.ref1 r]
  have hi : IntsAre its ns := ints_of rv
  obtain ⟨xs, hx⟩ := hi.allInts.items
  have hn : numsOf its.toArray.toList = ns := by rw [show its.toArray.toList = its from rfl, hi.numsOf]
  rw [hx] at hl hn
  rw [nums_intItems] at hn
  refine ktm_sumG (I.ok.hd hc) hl fun h' tk t' hk => ⟨.int ns.sum, H, I.kept hk, ⟨t', ?_⟩, q⟩
  rw [preSum_eq, List.take_of_length_le (by simp), hn]
theorem sum_ints : ∀ ns : List Nat, (ns.map fun k => ((k : Nat) : Int)).sum = ((ns.sum : Nat) : Int)
  | [] => rfl
  | x :: r => by rw [List.map_cons, List.sum_cons, List.sum_cons, sum_ints r, Int.natCast_add]
section
variable {K : PySem.W.Frag} {σ : L2.St} {H : Hp} {te : TE}
/-- sum(t) of numbers is a number -/
theorem ep_sumT {ns : List Nat} {P : V → Hp → Prop} (h : EvP te σ H P) (hp : ∀ v H1, P v H1 → Nats K H1 v ns) : Ev (tCB (rSumT K) (tCons te tNil)) σ H (vi ns.sum) := fun H1 e Q q =>
  h H1 e _ fun v H2 e2 hv => by
    obtain ⟨a, rfl, s⟩ := hp v H2 hv
    refine ⟨a, ns.map fun k => ((k : Nat) : Int), rfl, by rw [List.map_map]; exact s, ?_⟩
    rw [sum_ints ns]
    exact q H2 e2
theorem ep_maxT {ns : List Nat} (h : EvP te σ H (fun v H' => Nats K H' v ns)) (ne : ns ≠ []) : EvP (tCB (rMaxT K) (tCons te tNil)) σ H (fun v _ => ∃ k ∈ ns, v = vi k) := fun H1 e Q q =>
  h H1 e _ fun v H2 e2 ⟨a, hv, s⟩ => by
    subst hv
    refine ⟨a, ns.map fun k => ((k : Nat) : Int), rfl, by rw [List.map_map]; exact s, by rw [List.length_map]; exact List.length_pos_iff.mpr ne, fun m hm _ => ?_⟩
    obtain ⟨k, hk, rfl⟩ := List.mem_map.mp hm
    exact q _ H2 e2 ⟨k, hk, rfl⟩
theorem ep_minT {ns : List Nat} (h : EvP te σ H (fun v H' => Nats K H' v ns)) (ne : ns ≠ []) : EvP (tCB (rMinT K) (tCons te tNil)) σ H (fun v _ => ∃ k ∈ ns, v = vi k) := fun H1 e Q q =>
  h H1 e _ fun v H2 e2 ⟨a, hv, s⟩ => by
    subst hv
    refine ⟨a, ns.map fun k => ((k : Nat) : Int), rfl, by rw [List.map_map]; exact s, by rw [List.length_map]; exact List.length_pos_iff.mpr ne, fun m hm _ => ?_⟩
    obtain ⟨k, hk, rfl⟩ := List.mem_map.mp hm
    exact q _ H2 e2 ⟨k, hk, rfl⟩
end
end Dw
end
section
/-! closed lists of numbers: the mathematics -/
namespace CL
open M20 M25
/-- the place of a row -/
def plc (n : Nat) (ns : List Nat) : Nat := ns.foldl (fun acc k => acc * n + k) 0
theorem plc_low {n : Nat} : ∀ {ns : List Nat}, (∀ k ∈ ns, k < n) → ns.length ≤ 2 → plc n ns < n ^ ns.length
  | [], _, _ => by
    show 0 < n ^ 0
    rw [Nat.pow_zero]
    decide
  | [a], h, _ => by
    have := h a (List.mem_singleton.mpr rfl)
    show 0 * n + a < n ^ 1
    rw [Nat.pow_one, Nat.zero_mul, Nat.zero_add]
    exact this
  | [a, b], h, _ => by
    have ha := h a (List.mem_cons_self ..)
    have hb := h b (List.mem_cons_of_mem _ (List.mem_singleton.mpr rfl))
    show (0 * n + a) * n + b < n ^ 2
    rw [Nat.zero_mul, Nat.zero_add, Nat.pow_two]
    have : (a + 1) * n ≤ n * n := Nat.mul_le_mul_right n ha
    rw [Nat.add_mul, Nat.one_mul] at this
    omega
  | _ :: _ :: _ :: _, _, h => absurd h (by simp)
theorem plc_take {n : Nat} {ns : List Nat} {i k : Nat} (h : ns[i]? = some k) : plc n (ns.take (i + 1)) = plc n (ns.take i) * n + k := by
  unfold plc
  rw [List.take_add_one, h, List.foldl_append]
  rfl
theorem rows_plc {n p : Nat} (p2 : p ≤ 2) (n1 : 0 < n) {i : Nat} (h : i < n ^ p) : ∃ r, (rows n p)[i]? = some r ∧ plc n r = i := by
  match p, p2, h with
  | 0, _, h =>
    rw [Nat.pow_zero] at h
    have : i = 0 := by omega
    subst this
    exact ⟨[], rfl, rfl⟩
  | 1, _, h =>
    rw [Nat.pow_one] at h
    refine ⟨[i], ?_, by show 0 * n + i = i; omega⟩
    rw [rows_1, List.getElem?_map, List.getElem?_range h]
    rfl
  | 2, _, h =>
    rw [Nat.pow_two] at h
    refine ⟨[i / n, i % n], ?_, ?_⟩
    · rw [rows_2 n1, List.getElem?_map, List.getElem?_range h]
      rfl
    · show (0 * n + i / n) * n + i % n = i
      rw [Nat.zero_mul, Nat.zero_add, Nat.mul_comm]
      exact Nat.div_add_mod i n
theorem rows_plc' {n p : Nat} (p2 : p ≤ 2) (n1 : 0 < n) {i : Nat} {r : List Nat} (h : (rows n p)[i]? = some r) : plc n r = i ∧ i < n ^ p := by
  have hi := (List.getElem?_eq_some_iff.mp h).1
  rw [rows_len'] at hi
  obtain ⟨r', e, q⟩ := rows_plc p2 n1 hi
  rw [h] at e
  rw [Option.some.inj e]
  exact ⟨q, hi⟩
theorem plc_inj {n p : Nat} (p2 : p ≤ 2) {r s : List Nat} (hr : r.length = p ∧ ∀ k ∈ r, k < n) (hs : s.length = p ∧ ∀ k ∈ s, k < n) (e : plc n r = plc n s) : r = s := by
  obtain ⟨lr, r0⟩ := hr
  obtain ⟨ls, s0⟩ := hs
  match r, s with
  | [], [] => rfl
  | [], _ :: _ => simp at lr ls; omega
  | _ :: _, [] => simp at lr ls; omega
  | [a], [c] =>
    have e' : 0 * n + a = 0 * n + c := e
    rw [Nat.zero_mul] at e'
    rw [show a = c by omega]
  | [a], _ :: _ :: _ => simp at lr ls; omega
  | _ :: _ :: _, [c] => simp at lr ls; omega
  | [a, b], [c, d] =>
    have e' : (0 * n + a) * n + b = (0 * n + c) * n + d := e
    rw [Nat.zero_mul, Nat.zero_add, Nat.zero_add] at e'
    have hb := r0 b (by simp)
    have hd := s0 d (by simp)
    have n0 : 0 < n := by omega
    have h1 : (n * a + b) / n = a := by rw [Nat.mul_add_div n0, Nat.div_eq_of_lt hb, Nat.add_zero]
    have h2 : (n * c + d) / n = c := by rw [Nat.mul_add_div n0, Nat.div_eq_of_lt hd, Nat.add_zero]
    rw [Nat.mul_comm n a, e', Nat.mul_comm c n, h2] at h1
    subst h1
    rw [show b = d by omega]
  | [a, b], _ :: _ :: _ :: _ => simp at lr ls; omega
  | _ :: _ :: _ :: _, _ :: _ :: _ => simp at lr; omega
section
variable {α : Type}
/-- the cells of a model with their worths -/
def cws (n : Nat) (sg : List (α × Nat)) (ts : List (List Nat)) : List (α × List Nat × Nat) := (sg.zip ts).flatMap fun x => ((rows n x.1.2).zip x.2).map fun y => (x.1.1, y.1, y.2)
theorem cws_mem {n : Nat} {sg : List (α × Nat)} {ts : List (List Nat)} {c : α × List Nat × Nat} : c ∈ cws n sg ts ↔ ∃ (i : Nat) (d : α × Nat) (t : List Nat) (j : Nat) (r : List Nat), sg[i]? = some d ∧ ts[i]? = some t ∧ (rows n d.2)[j]? = some r ∧ t[j]? = some c.2.2 ∧ c.1 = d.1 ∧ c.2.1 = r := by
  unfold cws
  rw [List.mem_flatMap]
  constructor
  · rintro ⟨⟨d, t⟩, hx, hc⟩
    obtain ⟨i, hi⟩ := List.mem_iff_getElem?.mp hx
    obtain ⟨⟨r, w⟩, hy, e⟩ := List.mem_map.mp hc
    obtain ⟨j, hj⟩ := List.mem_iff_getElem?.mp hy
    rw [List.getElem?_zip_eq_some] at hi hj
    subst e
    exact ⟨i, d, t, j, r, hi.1, hi.2, hj.1, hj.2, rfl, rfl⟩
  · rintro ⟨i, d, t, j, r, h1, h2, h3, h4, h5, h6⟩
    refine ⟨(d, t), List.mem_iff_getElem?.mpr ⟨i, List.getElem?_zip_eq_some.mpr ⟨h1, h2⟩⟩, ?_⟩
    refine List.mem_map.mpr ⟨(r, c.2.2), List.mem_iff_getElem?.mpr ⟨j, List.getElem?_zip_eq_some.mpr ⟨h3, h4⟩⟩, ?_⟩
    obtain ⟨a, b, d'⟩ := c
    show (d.1, r, d') = (a, b, d')
    rw [← h5, ← h6]
/-- all arguments are among these -/
def among (r S : List Nat) : Bool := r.all fun a => decide (a ∈ S)
theorem among_iff {r S : List Nat} : among r S = true ↔ ∀ a ∈ r, a ∈ S := by
  unfold among
  rw [List.all_eq_true]
  exact ⟨fun h a ha => of_decide_eq_true (h a ha), fun h a ha => decide_eq_true (h a ha)⟩
/-- a cell leads out of a list -/
def outs (S : List Nat) (c : α × List Nat × Nat) : Bool := !decide (c.2.2 ∈ S) && among c.2.1 S
def closed (cs : List (α × List Nat × Nat)) (S : List Nat) : Bool := cs.all fun c => !outs S c
theorem closed_iff {cs : List (α × List Nat × Nat)} {S : List Nat} : closed cs S = true ↔ ∀ c ∈ cs, (∀ a ∈ c.2.1, a ∈ S) → c.2.2 ∈ S := by
  unfold closed
  rw [List.all_eq_true]
  constructor
  · intro h c hc ha
    have := h c hc
    unfold outs at this
    rw [among_iff.mpr ha, Bool.and_true, Bool.not_not] at this
    exact of_decide_eq_true this
  · intro h c hc
    unfold outs
    cases ha : among c.2.1 S with
    | false => rw [Bool.and_false]; rfl
    | true =>
      rw [decide_eq_true (h c hc (among_iff.mp ha))]
      rfl
theorem closed_same {cs : List (α × List Nat × Nat)} {S R : List Nat} (h : ∀ x, x ∈ S ↔ x ∈ R) : closed cs S = closed cs R := by
  rw [Bool.eq_iff_iff, closed_iff, closed_iff]
  exact ⟨fun z c hc ha => (h _).mp (z c hc fun a b => (h a).mpr (ha a b)), fun z c hc ha => (h _).mpr (z c hc fun a b => (h a).mp (ha a b))⟩
end
/-! ### rising lists -/
def sub : Nat → List (List Nat)
  | 0 => [[]]
  | k + 1 => sub k ++ (sub k).map (· ++ [k])
theorem subs_len : ∀ n, (sub n).length = 2 ^ n
  | 0 => rfl
  | k + 1 => by
    show (sub k ++ (sub k).map (· ++ [k])).length = _
    rw [List.length_append, List.length_map, subs_len k, Nat.pow_succ]
    omega
def Up (n : Nat) (x : List Nat) : Prop := x.Pairwise (· < ·) ∧ ∀ k ∈ x, k < n
theorem Up.nodup {n : Nat} {x : List Nat} (h : Up n x) : x.Nodup := h.1.imp fun h => Nat.ne_of_lt h
theorem sub_up {n : Nat} : ∀ {x : List Nat}, x ∈ sub n → Up n x := by
  induction n with
  | zero =>
    intro x h
    rw [List.mem_singleton.mp (show x ∈ [[]] from h)]
    exact ⟨.nil, fun _ z => nomatch z⟩
  | succ k ih =>
    intro x h
    rcases List.mem_append.mp (show x ∈ sub k ++ (sub k).map (· ++ [k]) from h) with h | h
    · exact ⟨(ih h).1, fun j hj => Nat.lt_succ_of_lt ((ih h).2 j hj)⟩
    · obtain ⟨y, hy, rfl⟩ := List.mem_map.mp h
      refine ⟨List.pairwise_append.mpr ⟨(ih hy).1, List.pairwise_singleton _ _, fun a ha b hb => ?_⟩, fun j hj => ?_⟩
      · rw [List.mem_singleton.mp hb]
        exact (ih hy).2 a ha
      · rcases List.mem_append.mp hj with z | z
        · exact Nat.lt_succ_of_lt ((ih hy).2 j z)
        · rw [List.mem_singleton.mp z]; exact Nat.lt_succ_self k
theorem up_snoc {k : Nat} {x : List Nat} (h : Up (k + 1) x) : Up k x ∨ ∃ y, Up k y ∧ x = y ++ [k] := by
  by_cases hk : k ∈ x
  · refine .inr ?_
    have ne : x ≠ [] := fun z => by rw [z] at hk; cases hk
    have e := (List.dropLast_concat_getLast ne).symm
    have hl : x.getLast ne = k := by
      have hp := h.1
      rw [e] at hp hk
      rw [List.pairwise_append] at hp
      rcases List.mem_append.mp hk with z | z
      · have := hp.2.2 k z _ (List.mem_singleton_self _)
        have := h.2 _ (List.getLast_mem ne)
        omega
      · exact (List.mem_singleton.mp z).symm
    rw [hl] at e
    refine ⟨x.dropLast, ⟨?_, fun j hj => ?_⟩, e⟩
    · have hp := h.1
      rw [e, List.pairwise_append] at hp
      exact hp.1
    · have hp := h.1
      rw [e, List.pairwise_append] at hp
      exact hp.2.2 j hj k (List.mem_singleton_self _)
  · exact .inl ⟨h.1, fun j hj => by
      have a := h.2 j hj
      have b : j ≠ k := fun z => hk (z ▸ hj)
      omega⟩
theorem up_sub {n : Nat} : ∀ {x : List Nat}, Up n x → x ∈ sub n := by
  induction n with
  | zero =>
    intro x h
    cases x with
    | nil => exact List.mem_singleton_self _
    | cons y r => exact absurd (h.2 y (List.mem_cons_self ..)) (Nat.not_lt_zero _)
  | succ k ih =>
    intro x h
    show x ∈ sub k ++ (sub k).map (· ++ [k])
    rcases up_snoc h with h1 | ⟨y, h1, rfl⟩
    · exact List.mem_append.mpr (.inl (ih h1))
    · exact List.mem_append.mpr (.inr (List.mem_map.mpr ⟨y, ih h1, rfl⟩))
/-- two rising lists with the same members are one -/
theorem up_eq {l m : List Nat} (hl : l.Pairwise (· < ·)) (hm : m.Pairwise (· < ·)) (h : ∀ x, x ∈ l ↔ x ∈ m) : l = m := by
  refine ia_inj (up_one ?_ ?_ fun x => ?_)
  · unfold ia
    exact List.Pairwise.map _ (fun a b h => Int.ofNat_lt.mpr h) hl
  · unfold ia
    exact List.Pairwise.map _ (fun a b h => Int.ofNat_lt.mpr h) hm
  · unfold ia
    rw [List.mem_map, List.mem_map]
    exact ⟨fun ⟨k, a, b⟩ => ⟨k, (h k).mp a, b⟩, fun ⟨k, a, b⟩ => ⟨k, (h k).mpr a, b⟩⟩
/-- a filter of a sorted list -/
theorem srt_filter (f : List Nat → Bool) (L : List (List Nat)) : srtO (L.filter f) = (srtO L).filter f :=
  sorted_one ((srt_perm _).trans ((srt_perm L).symm.filter f)) (srt_sorted _) ((srt_sorted L).filter f)
theorem sub_le {α : Type} [DecidableEq α] : ∀ {R F : List α}, R.Nodup → (∀ k ∈ R, k ∈ F) → R.length ≤ F.length
  | [], _, _, _ => Nat.zero_le _
  | x :: R, F, nd, h => by
    rw [List.nodup_cons] at nd
    have hx := h x (List.mem_cons_self ..)
    have := sub_le (R := R) (F := F.erase x) nd.2 fun k hk => (List.mem_erase_of_ne fun e => nd.1 (by rw [← e]; exact hk)).mpr (h k (List.mem_cons_of_mem _ hk))
    rw [List.length_erase_of_mem hx] at this
    have p : 0 < F.length := List.length_pos_of_mem hx
    show R.length + 1 ≤ F.length
    omega
theorem sub_full {α : Type} [DecidableEq α] {R F : List α} (nd : R.Nodup) (h : ∀ k ∈ R, k ∈ F) (le : F.length ≤ R.length) : ∀ k ∈ F, k ∈ R := fun x hx => by
  apply Classical.byContradiction
  intro hn
  have := sub_le (R := x :: R) (F := F) (List.nodup_cons.mpr ⟨hn, nd⟩) fun k hk => by
    rcases List.mem_cons.mp hk with z | z
    · rw [z]; exact hx
    · exact h k z
  have : R.length + 1 ≤ F.length := this
  omega
/-- the least closed list about some numbers -/
structure Spread {α : Type} (cs : List (α × List Nat × Nat)) (num R : List Nat) : Prop where
  has : ∀ k ∈ num, k ∈ R
  shut : closed cs R = true
  least : ∀ S, closed cs S = true → (∀ k ∈ num, k ∈ S) → ∀ k ∈ R, k ∈ S
theorem spread_one {α : Type} {cs : List (α × List Nat × Nat)} {num R F : List Nat} {n : Nat} (h : Spread cs num R) (uR : Up n R) (uF : Up n F) (cF : closed cs F = true) (hF : ∀ k ∈ num, k ∈ F) (le : F.length ≤ R.length) : F = R := by
  have sub1 : ∀ k ∈ R, k ∈ F := h.least F cF hF
  exact up_eq uF.1 uR.1 fun x => ⟨sub_full uR.nodup sub1 le x, sub1 x⟩
/-! ### building -/
section
variable {α : Type}
/-- steps: numbers given, then worths of cells of what is there -/
inductive Built (cs : List (α × List Nat × Nat)) (ms : List Nat) : List (Nat × Option (α × List Nat)) → Prop where
  | base : Built cs ms (ms.map fun k => (k, none))
  | step {st : List (Nat × Option (α × List Nat))} {c : α × List Nat × Nat} : Built cs ms st → c ∈ cs → c.2.2 ∉ st.map (·.1) → (∀ a ∈ c.2.1, a ∈ st.map (·.1)) → Built cs ms (st ++ [(c.2.2, some (c.1, c.2.1))])
theorem Built.nodup {cs : List (α × List Nat × Nat)} {ms : List Nat} {st : List (Nat × Option (α × List Nat))} (nd : ms.Nodup) (h : Built cs ms st) : (st.map (·.1)).Nodup := by
  induction h with
  | base =>
    rw [List.map_map]
    show (ms.map fun k => k).Nodup
    rw [List.map_id']
    exact nd
  | step b hc hn ha ih =>
    rw [List.map_append, List.nodup_append]
    exact ⟨ih, List.pairwise_singleton _ _, fun x hx y hy e => hn (by
      rw [List.mem_singleton.mp hy] at e
      dsimp only at e
      rw [← e]
      exact hx)⟩
theorem Built.low {cs : List (α × List Nat × Nat)} {ms : List Nat} {st : List (Nat × Option (α × List Nat))} {n : Nat} (l1 : ∀ k ∈ ms, k < n) (l2 : ∀ c ∈ cs, c.2.2 < n) (h : Built cs ms st) : ∀ k ∈ st.map (·.1), k < n := by
  induction h with
  | base =>
    intro k hk
    obtain ⟨x, hx, rfl⟩ := List.mem_map.mp hk
    obtain ⟨y, hy, rfl⟩ := List.mem_map.mp hx
    exact l1 _ hy
  | step b hc hn ha ih =>
    intro k hk
    rw [List.map_append] at hk
    rcases List.mem_append.mp hk with z | z
    · exact ih k z
    · rw [List.mem_singleton.mp z]
      exact l2 _ hc
theorem Built.has {cs : List (α × List Nat × Nat)} {ms : List Nat} {st : List (Nat × Option (α × List Nat))} (h : Built cs ms st) : ∀ k ∈ ms, k ∈ st.map (·.1) := by
  induction h with
  | base =>
    intro k hk
    rw [List.map_map]
    exact List.mem_map.mpr ⟨k, hk, rfl⟩
  | step b hc hn ha ih =>
    intro k hk
    rw [List.map_append]
    exact List.mem_append.mpr (.inl (ih k hk))
theorem Built.least {cs : List (α × List Nat × Nat)} {ms : List Nat} {st : List (Nat × Option (α × List Nat))} (h : Built cs ms st) {S : List Nat} (hS : closed cs S = true) (hm : ∀ k ∈ ms, k ∈ S) : ∀ k ∈ st.map (·.1), k ∈ S := by
  induction h with
  | base =>
    intro k hk
    obtain ⟨x, hx, rfl⟩ := List.mem_map.mp hk
    obtain ⟨y, hy, rfl⟩ := List.mem_map.mp hx
    exact hm _ hy
  | step b hc hn ha ih =>
    intro k hk
    rw [List.map_append] at hk
    rcases List.mem_append.mp hk with z | z
    · exact ih k z
    · rw [List.mem_singleton.mp z]
      exact closed_iff.mp hS _ hc fun a h2 => ih a (ha a h2)
theorem Built.spread {cs : List (α × List Nat × Nat)} {ms num : List Nat} {st : List (Nat × Option (α × List Nat))} (h : Built cs ms st) (hm : ∀ k, k ∈ ms ↔ k ∈ num) (hc : closed cs (st.map (·.1)) = true) {R : List Nat} (hR : ∀ k, k ∈ R ↔ k ∈ st.map (·.1)) : Spread cs num R :=
  ⟨fun k hk => (hR k).mpr (h.has k ((hm k).mpr hk)), (closed_same hR).trans hc, fun S hS hn k hk => h.least hS (fun j hj => hn j ((hm j).mp hj)) k ((hR k).mp hk)⟩
end
/-- the numbers among some, rising -/
def ups (n : Nat) (num : List Nat) : List Nat := (List.range n).filter fun k => decide (k ∈ num)
theorem ups_up (n : Nat) (num : List Nat) : Up n (ups n num) := ⟨List.Pairwise.filter _ List.pairwise_lt_range, fun k hk => List.mem_range.mp (List.mem_filter.mp hk).1⟩
theorem ups_mem {n : Nat} {num : List Nat} (h : ∀ k ∈ num, k < n) (k : Nat) : k ∈ ups n num ↔ k ∈ num := by
  unfold ups
  rw [List.mem_filter, List.mem_range]
  exact ⟨fun z => of_decide_eq_true z.2, fun z => ⟨h k z, decide_eq_true z⟩⟩
end CL
end
section
/-! lists of lists of numbers, each at its own new place -/
namespace Dw
open PySem PySem.Spec PyProof.Rows L2 Evl PySem.W M25
/-- a list of numbers at its place -/
def LN (H : Hp) (v : V) (ns : List Nat) : Prop := ∃ a, v = .ref a ∧ H a = some (.lst (ns.map vi))
theorem LN.ex {H H' : Hp} {v : V} {ns : List Nat} (e : Ex H H') (h : LN H v ns) : LN H' v ns := let ⟨a, q, s⟩ := h; ⟨a, q, e _ _ s⟩
theorem dp_ln {K : PySem.W.Frag} {H : Hp} {b : Addr} {ns : List Nat} (h : H b = some (.lst (ns.map vi))) : Dp K H (.ref b) (dL ns) := .lst (sq_of h) (dps_nats ns)
/-- a new list of new lists, all at places of their own, none there in H0 -/
structure LLs (H0 H : Hp) (a : Addr) (as : List Addr) (L : List (List Nat)) : Prop where
  at_ : H a = some (.lst (as.map V.ref))
  new : H0 a = none
  each : Paired (fun b ns => H b = some (.lst (ns.map vi)) ∧ H0 b = none) as L
  nd : as.Nodup
  ne : a ∉ as
theorem LLs.ex {H0 H H' : Hp} {a : Addr} {as : List Addr} {L : List (List Nat)} (e : Ex H H') (h : LLs H0 H a as L) : LLs H0 H' a as L := ⟨e _ _ h.at_, h.new, paired_imp (fun _ _ z => ⟨e _ _ z.1, z.2⟩) h.each, h.nd, h.ne⟩
theorem LLs.low {H0 H1 H : Hp} {a : Addr} {as : List Addr} {L : List (List Nat)} (e : Ex H0 H1) (h : LLs H1 H a as L) : LLs H0 H a as L := ⟨h.at_, fresh_back e h.new, paired_imp (fun _ _ z => ⟨z.1, fresh_back e z.2⟩) h.each, h.nd, h.ne⟩
theorem LLs.len {H0 H : Hp} {a : Addr} {as : List Addr} {L : List (List Nat)} (h : LLs H0 H a as L) : as.length = L.length := paired_len h.each
theorem LLs.some {H0 H : Hp} {a : Addr} {as : List Addr} {L : List (List Nat)} (h : LLs H0 H a as L) {b : Addr} (hb : b ∈ as) : ∃ ns, ns ∈ L ∧ H b = some (.lst (ns.map vi)) ∧ H0 b = none := by
  obtain ⟨i, hi⟩ := List.mem_iff_getElem?.mp hb
  obtain ⟨ns, e, q⟩ := paired_at h.each hi
  exact ⟨ns, List.mem_iff_getElem?.mpr ⟨i, e⟩, q⟩
theorem dps_lls {K : PySem.W.Frag} {H : Hp} : ∀ {as : List Addr} {L : List (List Nat)}, Paired (fun b ns => H b = some (.lst (ns.map vi))) as L → DpAll K H (as.map V.ref) (L.map dL)
  | _, _, .nil => .nil
  | _, _, .cons a b => .cons (dp_ln a) (dps_lls b)
theorem LLs.dp {K : PySem.W.Frag} {H0 H : Hp} {a : Addr} {as : List Addr} {L : List (List Nat)} (h : LLs H0 H a as L) : Dp K H (.ref a) (.list (L.map dL)) := .lst (sq_of h.at_) (dps_lls (paired_imp (fun _ _ z => z.1) h.each))
theorem gd_lls {L : List (List Nat)} (h : ∀ o ∈ L, (∀ k ∈ o, k ≤ 1000) ∧ o.length ≤ 36) (l : L.length ≤ 720) : Gd 2 (720 * 397) (.list (L.map dL)) := gd_lst (fun d hd => by
  obtain ⟨o, ho, rfl⟩ := List.mem_map.mp hd
  exact gd_dL (h o ho).1 (h o ho).2) (by rw [List.length_map]; exact l)
section
variable {K : PySem.W.Frag} {σ : L2.St} {H : Hp} {te tl : TE} {tt : TT} {g : TG} {vs : List Nat} {Q : VK}
/-- the source of a comprehension, read first -/
theorem lc_src (h : tl σ H fun x H1 => tLc (iList K (tC x)) g tt te vs σ H1 Q) : tLc (iList K tl) g tt te vs σ H Q := h
theorem cb1_src {r : List V → Hp → VK → Prop} (h : te σ H fun x H1 => r [x] H1 Q) : tCB r (tCons te tNil) σ H Q := h
/-- a comprehension over a list whose items are new lists of numbers -/
theorem do_lcNew {a : Addr} {xs : List V} {L : List (List Nat)} {j : Nat} (h : Ev tl σ H (.ref a)) (hx : SqL K H a xs) (hL : L.length = xs.length) (hn : xs.length ≤ 40000) (hwp : ∀ x, wipe ((wipe σ vs).set j (some x)) vs = wipe σ vs)
    (hs : ∀ (i : Nat) (x : V) (ns : List Nat) (H1 : Hp), Ex H H1 → xs[i]? = some x → L[i]? = some ns → EvL te ((wipe σ vs).set j (some x)) H1 (ns.map vi))
    (k : ∀ p as H1, Ex H H1 → LLs H H1 p as L → Q (.ref p) H1) : tLc (iList K tl) (gName j) tYes te vs σ H Q := by
  refine h H (Ex.refl _) _ fun H1 e1 => ⟨a, rfl, ⟨xs, ex_l e1 hx⟩, fun Dl nD => ?_⟩
  have nDH : H Dl = none := fresh_back e1 nD
  refine lc_it (walk_list (K := K) (a := a) (xs := xs)) (fun i H' => Ex H H' ∧ ∃ as, LLs H H' Dl as (L.take i)) ⟨e1.trans (Ex.new nD), [], upd_same, nDH, .nil, .nil, by simp⟩ (fun i H' _ ⟨e, _⟩ => ex_l e hx) (fun i x H2 H3 hi ⟨e2, as, ll⟩ y => ?_) (fun H2 ⟨e2, as, ll⟩ => ?_)
  · obtain ⟨rfl, hxi⟩ := y
    have hi2 : i < L.length := by omega
    refine ⟨hwp x, et_yes H3 (Ex.refl _) _ fun H4 e4 => ifT ?_⟩
    have e04 : Ex H H4 := e2.trans e4
    refine hs i x L[i] H4 e04 hxi (List.getElem?_eq_getElem hi2) H4 (Ex.refl _) _ fun b H5 nb e5 hb => ?_
    have ll5 := ll.ex (e4.trans e5)
    have la := ll.len
    rw [List.length_take] at la
    refine ⟨as.map V.ref, ll5.at_, by rw [List.length_map]; exact sz_lt (by omega), (e04.trans e5).mut nDH, as ++ [b], ?_⟩
    have nbH : H b = none := fresh_back e04 nb
    have bD : b ≠ Dl := fun z => by
      have := (ll.ex e4).at_
      rw [z, this] at nb
      cases nb
    have ba : b ∉ as := fun z => by
      obtain ⟨ns, _, q, _⟩ := (ll.ex e4).some z
      rw [q] at nb
      cases nb
    refine ⟨by rw [upd_same, List.map_append]; rfl, nDH, ?_, ?_, fun z => ?_⟩
    · rw [List.take_add_one, List.getElem?_eq_getElem hi2]
      refine paired_snoc' (R := fun c ns => (upd H5 Dl (.lst (as.map V.ref ++ [V.ref b]))) c = some (.lst (ns.map vi)) ∧ H c = none) (xs := as) (x := b) (y := L[i]) ⟨by rw [upd_ne bD]; exact hb, nbH⟩ ?_
      have : ∀ {as' : List Addr} {L' : List (List Nat)}, (∀ c ∈ as', c ≠ Dl) → Paired (fun b ns => H5 b = some (.lst (ns.map vi)) ∧ H b = none) as' L' → Paired (fun c ns => (upd H5 Dl (.lst (as.map V.ref ++ [V.ref b]))) c = some (.lst (ns.map vi)) ∧ H c = none) as' L' := fun {as'} {L'} hc p => by
        induction p with
        | nil => exact .nil
        | cons q r ih => exact .cons ⟨by rw [upd_ne (hc _ (List.mem_cons_self ..))]; exact q.1, q.2⟩ (ih fun c hcc => hc c (List.mem_cons_of_mem _ hcc))
      exact this (fun c hc z => ll.ne (z ▸ hc)) ll5.each
    · rw [List.nodup_append]
      exact ⟨ll.nd, List.pairwise_singleton _ _, fun x hx y hy e => ba (by rw [List.mem_singleton.mp hy] at e; rw [← e]; exact hx)⟩
    · rcases List.mem_append.mp z with z | z
      · exact ll.ne z
      · exact bD (List.mem_singleton.mp z).symm
  · refine k Dl as H2 e2 ?_
    rw [← hL, List.take_length] at ll
    exact ll
end
section
variable {K : PySem.W.Frag} {σ : L2.St} {H : Hp} {te tl : TE} {tt : TT} {g : TG} {vs : List Nat} {Q : VK}
/-- those of them that fit -/
theorem paired_filt {H0 H : Hp} {f : Nat → Bool} {f' : List Nat → Bool} : ∀ {as : List Addr} {L : List (List Nat)}, Paired (fun b ns => H b = some (.lst (ns.map vi)) ∧ H0 b = none) as L → (∀ i (h : i < L.length), f i = f' L[i]) →
    ∃ bs, given as.length f (fun i => .ref (as.getD i 0)) = bs.map V.ref ∧ bs.Sublist as ∧ Paired (fun b ns => H b = some (.lst (ns.map vi)) ∧ H0 b = none) bs (L.filter f') := by
  intro as
  have main : ∀ (m : Nat) (as : List Addr), as.length = m → ∀ {L : List (List Nat)}, Paired (fun b ns => H b = some (.lst (ns.map vi)) ∧ H0 b = none) as L → (∀ i (h : i < L.length), f i = f' L[i]) →
      ∃ bs, given as.length f (fun i => .ref (as.getD i 0)) = bs.map V.ref ∧ bs.Sublist as ∧ Paired (fun b ns => H b = some (.lst (ns.map vi)) ∧ H0 b = none) bs (L.filter f') := by
   intro m
   induction m with
   | zero =>
    intro as h0 L p _
    cases as with
    | nil => cases p; exact ⟨[], rfl, .slnil, .nil⟩
    | cons x r => cases h0
   | succ m ih0 =>
    intro as0 h0 L p hf
    have ne0 : as0 ≠ [] := fun z => by rw [z] at h0; cases h0
    obtain ⟨as, b, rfl⟩ : ∃ as b, as0 = as ++ [b] := ⟨_, _, (List.dropLast_concat_getLast ne0).symm⟩
    rw [List.length_append, List.length_singleton] at h0
    have ih := fun {L : List (List Nat)} => ih0 as (by omega) (L := L)
    clear ih0 ne0
    have ll := paired_len p
    rw [List.length_append, List.length_singleton] at ll
    obtain ⟨L', ns, rfl⟩ : ∃ L' ns, L = L' ++ [ns] := by
      have ne : L ≠ [] := fun z => by rw [z] at ll; cases ll
      exact ⟨_, _, (List.dropLast_concat_getLast ne).symm⟩
    rw [List.length_append, List.length_singleton] at ll
    have l2 : as.length = L'.length := by omega
    have p1 : Paired (fun b ns => H b = some (.lst (ns.map vi)) ∧ H0 b = none) as L' ∧ (H b = some (.lst (ns.map vi)) ∧ H0 b = none) := by
      clear ih hf ll h0
      induction as generalizing L' with
      | nil =>
        cases L' with
        | nil => cases p with | cons q r => exact ⟨.nil, q⟩
        | cons y r => cases l2
      | cons x as ih2 =>
        cases L' with
        | nil => cases l2
        | cons y r =>
          cases p with
          | cons q t =>
            obtain ⟨u, v⟩ := ih2 r t (by simpa using l2)
            exact ⟨.cons q u, v⟩
    obtain ⟨bs, e, sl, pb⟩ := ih p1.1 fun i h => by
      rw [hf i (by rw [List.length_append]; omega), List.getElem_append_left h]
    have e' : given as.length f (fun i => V.ref ((as ++ [b]).getD i 0)) = bs.map V.ref := by
      rw [← e]
      unfold Evl.given
      refine List.map_congr_left fun i hi => ?_
      have := List.mem_range.mp (List.mem_filter.mp hi).1
      rw [List.getD_eq_getElem?_getD, List.getD_eq_getElem?_getD, List.getElem?_append_left this]
    have fl : f as.length = f' ns := by
      rw [hf as.length (by rw [List.length_append, List.length_singleton]; omega)]
      congr 1
      simp [l2]
    rw [List.length_append, List.length_singleton, List.filter_append]
    cases hb : f' ns with
    | true =>
      rw [given_yes (by rw [fl, hb])]
      refine ⟨bs ++ [b], ?_, List.Sublist.append sl (List.Sublist.refl _), ?_⟩
      · rw [e', List.map_append]
        simp [List.getD_eq_getElem?_getD]
      · rw [List.filter_cons_of_pos hb, List.filter_nil]
        exact paired_snoc' (R := fun b ns => H b = some (.lst (ns.map vi)) ∧ H0 b = none) (x := b) (y := ns) p1.2 pb
    | false =>
      rw [given_no (by rw [fl, hb])]
      refine ⟨bs, e', sl.trans (List.sublist_append_left _ _), ?_⟩
      rw [List.filter_cons_of_neg (by rw [hb]; decide), List.filter_nil, List.append_nil]
      exact pb
  exact fun {L} => main as.length as rfl (L := L)
theorem do_lcFit {H0 : Hp} {a : Addr} {as : List Addr} {L : List (List Nat)} {f : List Nat → Bool} {j : Nat} (h : Ev tl σ H (.ref a)) (ll : LLs H0 H a as L) (h0 : Ex H0 H) (hn : L.length ≤ 40000) (hwp : ∀ x, wipe ((wipe σ vs).set j (some x)) vs = wipe σ vs)
    (hj : ∀ x, ((wipe σ vs).set j (some x))[j]? = some (some x))
    (hs : ∀ b ns H1, Ex H H1 → ns ∈ L → H1 b = some (.lst (ns.map vi)) → EvT tt ((wipe σ vs).set j (some (.ref b))) H1 (f ns))
    (k : ∀ p bs H1, Ex H H1 → bs.Sublist as → LLs H0 H1 p bs (L.filter f) → Q (.ref p) H1) : tLc (iList K tl) (gName j) tt (tVar j) vs σ H Q := by
  have la := ll.len
  refine el_lcL (K := K) (fun i => f (L.getD i [])) (fun i => .ref (as.getD i 0)) h (sq_of ll.at_) (by rw [List.length_map]; omega) hwp (fun i x H1 e1 hxi => ?_) (fun i x H1 e1 hxi _ => ?_) H (Ex.refl _) _ fun p H1 np e1 hp => ?_
  · rw [List.getElem?_map] at hxi
    cases hb : as[i]? with
    | none => rw [hb] at hxi; cases hxi
    | some b =>
      rw [hb] at hxi
      cases Option.some.inj hxi
      obtain ⟨ns, hns, q, _⟩ := paired_at ll.each hb
      have e1' : L.getD i [] = ns := by rw [List.getD_eq_getElem?_getD, hns]; rfl
      have e2' : as.getD i 0 = b := by rw [List.getD_eq_getElem?_getD, hb]; rfl
      show EvT tt _ H1 (f (L.getD i []))
      rw [e1']
      exact hs b ns H1 e1 (List.mem_iff_getElem?.mpr ⟨i, hns⟩) (e1 _ _ q)
  · rw [List.getElem?_map] at hxi
    cases hb : as[i]? with
    | none => rw [hb] at hxi; cases hxi
    | some b =>
      rw [hb] at hxi
      cases Option.some.inj hxi
      have e2' : as.getD i 0 = b := by rw [List.getD_eq_getElem?_getD, hb]; rfl
      show Ev _ _ H1 (.ref (as.getD i 0))
      rw [e2']
      exact ev_var (hj _)
  · obtain ⟨bs, e, sl, pb⟩ := paired_filt (f := fun i => f (L.getD i [])) (f' := f) ll.each fun i hi => by
      show f (L.getD i []) = f L[i]
      rw [List.getD_eq_getElem?_getD, List.getElem?_eq_getElem hi]
      rfl
    rw [List.length_map, e] at hp
    refine k p bs H1 e1 sl ⟨hp, fresh_back h0 np, paired_imp (fun _ _ z => ⟨e1 _ _ z.1, z.2⟩) pb, ll.nd.sublist sl, fun z => ?_⟩
    obtain ⟨ns, _, q, _⟩ := ll.some (sl.subset z)
    rw [q] at np
    cases np
/-- sorted(them) -/
theorem do_sortL {H0 : Hp} {a : Addr} {as : List Addr} {L : List (List Nat)} (ll : LLs H0 H a as L) (h0 : Ex H0 H)
    (k : ∀ p bs H1, Ex H H1 → bs.Perm as → LLs H0 H1 p bs (srtO L) → Q (.ref p) H1) : rSortD K [.ref a] H Q := by
  have la := ll.len
  let qs : List (Addr × List Nat) := as.zip L
  have eq1 : qs.map (·.1) = as := List.map_fst_zip (by omega)
  have eq2 : qs.map (·.2) = L := List.map_snd_zip (by omega)
  have hq : ∀ q ∈ qs, H q.1 = some (.lst (q.2.map vi)) ∧ H0 q.1 = none := fun q hqq => by
    obtain ⟨i, hi⟩ := List.mem_iff_getElem?.mp hqq
    rw [List.getElem?_zip_eq_some] at hi
    obtain ⟨ns, e, z⟩ := paired_at ll.each hi.1
    rw [e] at hi
    rw [← Option.some.inj hi.2]
    exact z
  let ps : List (V × List Nat) := qs.map fun q => (V.ref q.1, q.2)
  have e3 : ((ps.map fun p => (p.1, dL p.2)).map (·.1)) = as.map V.ref := by
    rw [← eq1]
    simp only [ps, List.map_map]
    rfl
  refine ⟨a, ps.map fun p => (p.1, dL p.2), rfl, by rw [e3]; exact sq_of ll.at_, fun p hp => ?_, ?_, .inr fun d hd => ?_, fun p hp => ?_, fun l nl => ?_⟩
  · obtain ⟨p', hp', rfl⟩ := List.mem_map.mp hp
    obtain ⟨q, hqq, rfl⟩ := List.mem_map.mp hp'
    exact dp_ln (hq q hqq).1
  · rw [List.map_map]
    exact AllAlike.of (enc := fun p : V × List Nat => dL p.2) fun b b' => by
      show alike (dL b.2) (dL b'.2) = true
      have e : ∀ l : List Nat, dL l = .list ((ia l).map .int) := fun l => by
        unfold dL ia
        rw [List.map_map]
        rfl
      rw [e, e, alike]
      exact alike_ints _ _
  · rw [List.map_map] at hd
    obtain ⟨p', hp', rfl⟩ := List.mem_map.mp hd
    exact ⟨(fun z => PyData.noConfusion z), (fun xs z => PyData.noConfusion z)⟩
  · obtain ⟨p', hp', rfl⟩ := List.mem_map.mp hp
    show PyData.depth (dL p'.2) ≤ 40
    have : ∀ l : List Nat, PyData.depthAll (l.map fun n => PyData.int ((n : Nat) : Int)) ≤ 0 := fun l => by
      induction l with
      | nil => simp [PyData.depthAll]
      | cons x l ih =>
        rw [List.map_cons, PyData.depthAll, PyData.depth]
        omega
    unfold dL
    rw [PyData.depth]
    have := this p'.2
    omega
  · rw [leD_rows]
    have e4 : (ps.mergeSort fun a b => leO a.2 b.2) = (qs.mergeSort fun a b => leO a.2 b.2).map fun q => (V.ref q.1, q.2) := (List.map_mergeSort (r := fun a b : Addr × List Nat => leO a.2 b.2) (s := fun a b : V × List Nat => leO a.2 b.2) (f := fun q : Addr × List Nat => (V.ref q.1, q.2)) fun a _ b _ => rfl).symm
    have e5 : (qs.mergeSort fun a b => leO a.2 b.2).map (·.2) = srtO L := by
      rw [← eq2]
      exact List.map_mergeSort (r := fun a b : Addr × List Nat => leO a.2 b.2) (s := leO) (f := fun q : Addr × List Nat => q.2) fun a _ b _ => rfl
    have pm : (qs.mergeSort fun a b => leO a.2 b.2).Perm qs := List.mergeSort_perm _ _
    generalize (qs.mergeSort fun a b => leO a.2 b.2) = rs at e4 e5 pm
    rw [e4]
    have pma : (rs.map (·.1)).Perm as := by
      rw [← eq1]
      exact pm.map _
    refine k l (rs.map (·.1)) _ (Ex.new nl) pma ⟨?_, fresh_back h0 nl, ?_, pma.nodup_iff.mpr ll.nd, fun z => ?_⟩
    · rw [upd_same]
      congr 2
      simp only [List.map_map]
      rfl
    · rw [← e5]
      have : ∀ {ts : List (Addr × List Nat)}, (∀ q ∈ ts, q ∈ qs) → Paired (fun b ns => (upd H l (.lst (((rs.map fun q => (V.ref q.1, q.2)).map fun p => (p.1, dL p.2)).map (·.1)))) b = some (.lst (ns.map vi)) ∧ H0 b = none) (ts.map (·.1)) (ts.map (·.2)) := fun {ts} h => by
        induction ts with
        | nil => exact .nil
        | cons q ts ih =>
          have z := hq q (h q (List.mem_cons_self ..))
          exact .cons ⟨Ex.new nl _ _ z.1, z.2⟩ (ih fun q' hq' => h q' (List.mem_cons_of_mem _ hq'))
      exact this fun q hqq => pm.mem_iff.mp hqq
    · obtain ⟨ns, _, q, _⟩ := ll.some (pma.mem_iff.mp z)
      rw [q] at nl
      cases nl
end
section
variable {K : PySem.W.Frag} {σ : L2.St} {H : Hp} {D : Ends} {tu tz : TS} {g : TG}
/-- a loop over what is walked, as tFor has it behind its source -/
def Loops (J : It) (g : TG) (tu : TS) (D : Ends) (σ : L2.St) (H1 : Hp) : Prop := ∃ W : Nat → Nat → L2.St → Hp → Prop, (∃ m, W 0 m σ H1) ∧ ∀ i m σ H, W i m σ H →
  (J.stop i H ∧ D.nx σ H) ∨ (J.go i H ∧ ∃ N : L2.St → Hp → Prop, (∀ σ' H', N σ' H' → ∃ m', m' < m ∧ W (i + 1) m' σ' H') ∧ ∀ x H', J.yld i H x H' → g x σ H' fun σ2 H2 => tu { D with nx := N, ct := N, bk := D.nx } σ2 H2)
/-- for .. in zip(a list, a tuple) -/
theorem s_zipM {ta : TA} (h : ta σ H fun vs H1 => ∃ a b xs ys, vs = [.ref a, .ref b] ∧ SqL K H1 a xs ∧ SqT K H1 b ys ∧ Loops (ItzM K a b) g tu D σ H1) : tFor (iZipM K ta) g tu D σ H := h
theorem s_forLs {tl : TE} (h : tl σ H fun x H1 => ∃ a, x = .ref a ∧ (∃ xs, SqL K H1 a xs) ∧ Loops (Itl K a) g tu D σ H1) : tFor (iList K tl) g tu D σ H := h
theorem q_forLs {tl : TE} (h : tl σ H fun x H1 => ∃ a, x = .ref a ∧ (∃ xs, SqL K H1 a xs) ∧ Loops (Itl K a) g tu { D with nx := tz D } σ H1) : tSeq (tFor (iList K tl) g tu) tz D σ H := h
theorem loops_list {a : Addr} {xs : List V} (Pv : Nat → L2.St → Hp → Prop) (h0 : Pv 0 σ H) (hk : ∀ i σ' H', i ≤ xs.length → Pv i σ' H' → SqL K H' a xs)
    (hs : ∀ i x σ' H', xs[i]? = some x → Pv i σ' H' → g x σ' H' fun σ2 H2 => tu { D with nx := Pv (i + 1), ct := Pv (i + 1), bk := D.nx } σ2 H2) (hd : ∀ σ' H', Pv xs.length σ' H' → D.nx σ' H') : Loops (Itl K a) g tu D σ H :=
  for_it (walk_list (K := K) (a := a) (xs := xs)) Pv h0 hk (fun i v σ' H2 H3 hi p y => by
    obtain ⟨rfl, e1⟩ := y
    exact hs i v σ' _ e1 p) hd
theorem loops_zipM {a b : Addr} {xs ys : List V} (hl : xs.length = ys.length) (Pv : Nat → L2.St → Hp → Prop) (h0 : Pv 0 σ H) (hk : ∀ i σ' H', i ≤ xs.length → Pv i σ' H' → SqL K H' a xs ∧ SqT K H' b ys)
    (hs : ∀ i x y T σ' H', xs[i]? = some x → ys[i]? = some y → Pv i σ' H' → H' T = none → g (.ref T) σ' (upd H' T (.tup [x, y])) fun σ2 H2 => tu { D with nx := Pv (i + 1), ct := Pv (i + 1), bk := D.nx } σ2 H2) (hd : ∀ σ' H', Pv xs.length σ' H' → D.nx σ' H') : Loops (ItzM K a b) g tu D σ H :=
  for_it (walk_zipM (n := xs.length) (by omega)) Pv h0 hk (fun i v σ' H2 H3 hi p y => by
    obtain ⟨T, x1, x2, rfl, nT, rfl, e1, e2⟩ := y
    exact hs i x1 x2 T σ' H2 e1 e2 p nT) hd
end
section
variable {K : PySem.W.Frag} {σ : L2.St} {H : Hp} {D : Ends} {tu tz : TS} {g : TG}
theorem qloops_list {a : Addr} {xs : List V} (Pv : Nat → L2.St → Hp → Prop) (h0 : Pv 0 σ H) (hk : ∀ i σ' H', i ≤ xs.length → Pv i σ' H' → SqL K H' a xs)
    (hs : ∀ i x σ' H', xs[i]? = some x → Pv i σ' H' → g x σ' H' fun σ2 H2 => tu { D with nx := Pv (i + 1), ct := Pv (i + 1), bk := tz D } σ2 H2) (hd : ∀ σ' H', Pv xs.length σ' H' → tz D σ' H') : Loops (Itl K a) g tu { D with nx := tz D } σ H :=
  loops_list (D := { D with nx := tz D }) Pv h0 hk hs hd
end
section
variable {K : PySem.W.Frag} {σ : L2.St} {H : Hp} {D : Ends} {ta te : TE} {tt : TT} {tz : TS} {P : V → Hp → Prop}
theorem q_appP' {l : Addr} {xs : List V} (hl : H l = some (.lst xs)) (ha : Ev ta σ H (.ref l)) (h : EvP te σ H P) (hz : xs.length < 100000) (k : ∀ v H1, Ex H H1 → P v H1 → tz D σ (upd H1 l (.lst (xs ++ [v])))) : tSeq (tDrop (tBM K "list" rAppend ta (tCons te tNil))) tz D σ H :=
  s_appP (D := { D with nx := tz D }) hl ha h hz k
/-- a comprehension over a list, any target -/
theorem elp_lcLg {g : TG} {a : Addr} {xs : List V} {tl : TE} {vs : List Nat} (h : Ev tl σ H (.ref a)) (hx : SqL K H a xs) (hn : xs.length ≤ 40000) (f : Nat → Bool) (B : V → Nat → Hp → Prop) (hB : StbB B)
    (hs : ∀ (i : Nat) (x : V) (H1 : Hp), Ex H H1 → xs[i]? = some x → ∀ Φ : L2.St → Hp → Prop, (∀ σ2, wipe σ2 vs = wipe σ vs → EvT tt σ2 H1 (f i) → (f i = true → EvP te σ2 H1 (fun v H' => B v i H')) → Φ σ2 H1) → g x (wipe σ vs) H1 Φ) :
    EvLP (tLc (iList K tl) g tt te vs) σ H (fun ws H' => Paired (fun v i => B v i H') ws ((List.range xs.length).filter f)) :=
  elp_lc (walk_list (K := K) (a := a) (xs := xs)) (fun H0 e0 R r => h H0 e0 _ fun H1 e1 => ⟨a, rfl, ⟨xs, ex_l (e0.trans e1) hx⟩, r H1 e1⟩) (fun H1 e1 => ex_l e1 hx) hn f B hB fun i x H1 H2 hi e y => by
    obtain ⟨rfl, hxi⟩ := y
    exact ⟨Ex.refl _, fun Φ k => hs i x _ e hxi Φ k⟩
theorem paired_eqs {u : Nat → V} : ∀ {ws : List V} {is : List Nat}, Paired (fun v i => v = u i) ws is → ws = is.map u
  | _, _, .nil => rfl
  | _, _, .cons a b => by rw [List.map_cons, paired_eqs b, a]
end
section
variable {σ : L2.St} {H : Hp}
theorem ep_callF {α : Type} {pre : α → List V → Hp → Prop} {post : α → V → Hp → Prop} (a : α) {vs : List V} {E : XK} {ta : TA} (h : EvA ta σ H vs) (hp : ∀ H1, Ex H H1 → pre a vs H1) : EvP (tCall (spF pre post) [] E ta) σ H (fun v H' => post a v H' ∧ ∀ d, v = .ref d → H d = none) := fun H1 e Q q =>
  h H1 e _ fun H2 e2 => by
    rw [List.append_nil]
    exact ⟨a, hp H2 (e.trans e2), fun v H3 e3 p n => q v H3 (e2.trans e3) ⟨p, fun d z => fresh_back (e.trans e2) (n d z)⟩⟩
end
section
variable {K : PySem.W.Frag} {σ : L2.St} {H : Hp} {te : TE} {w : World}
/-- sorted(set(a list by its name)) -/
theorem el_sortSetV {a : Addr} {ns ms : List Nat} (h : Ev te σ H (.ref a)) (ha : SqL K H a (ns.map vi)) (few : ns.length < 1000) (B : Nat) (b60 : B < 64) (low : ∀ k ∈ ns, k < B) (up : ms.Pairwise (· < ·)) (mem : ∀ k, k ∈ ms ↔ k ∈ ns) : EvL (tCB (rSortedSet w) (tCons (tCB (rSetI K w) (tCons te tNil)) tNil)) σ H (ms.map vi) := fun H1 e Q q =>
  h H1 e _ fun H2 e2 => ⟨a, ia ns, rfl, by
    unfold ia
    rw [List.map_map]
    exact ex_l (e.trans e2) ha, by unfold ia; rw [List.length_map]; exact few, fun s m hm nS => ⟨s, _, m, rfl, upd_same, Nat.lt_of_le_of_lt (hm B fun x hx => by
      obtain ⟨k, hk, rfl⟩ := List.mem_map.mp hx
      have := low k hk
      omega) b60, fun rs l rup rmem _ nl => by
    have er : rs = ia ms := up_one rup (ia_up up) fun x => by
      rw [rmem x]
      constructor
      · intro z
        obtain ⟨k, hk, rfl⟩ := List.mem_map.mp (of_decide_eq_true z)
        exact List.mem_map.mpr ⟨k, (mem k).mpr hk, rfl⟩
      · intro z
        obtain ⟨k, hk, rfl⟩ := List.mem_map.mp z
        exact decide_eq_true (List.mem_map.mpr ⟨k, (mem k).mp hk, rfl⟩)
    have e3 : Ex H2 (upd H2 s (SetO w s (fun k => decide (k ∈ ia ns)) m)) := Ex.new nS
    refine q l _ (fresh_back (e2.trans e3) nl) ((e2.trans e3).trans (Ex.new nl)) ?_
    rw [upd_same, er]
    unfold ia
    rw [List.map_map]
    rfl⟩⟩
/-- sorted(a list told by its place) -/
theorem do_sortI {a : Addr} {ns ms : List Nat} {Q : VK} (hx : H a = some (.lst (ns.map vi))) (l : ns.length < 64) (pm : ns.Perm ms) (up : ms.Pairwise (· < ·)) (k : ∀ p H1, H p = none → Ex H H1 → H1 p = some (.lst (ms.map vi)) → Q (.ref p) H1) : rSorted K [.ref a] H Q :=
  el_sortI (K := K) (te := tC (.ref a)) (σ := []) ev_c hx l pm up H (Ex.refl _) Q k
/-- lists of numbers compared -/
theorem ev_neL {ta tb : TE} {a b : Addr} {xs ys : List Nat} (ha : Ev ta σ H (.ref a)) (hb : Ev tb σ H (.ref b)) (hx : SqL K H a (xs.map vi)) (hy : SqL K H b (ys.map vi)) (lx : ∀ k ∈ xs, k ≤ 1000) (ly : ∀ k ∈ ys, k ≤ 1000) (zx : xs.length ≤ 36) (zy : ys.length ≤ 36) : Ev (tOp (rNeD K) ta tb) σ H (.bl (!decide (xs = ys))) := fun H1 e Q q =>
  ha H1 e _ fun H2 e2 => hb H2 (e.trans e2) _ fun H3 e3 => ⟨dL xs, dL ys, .lst (ex_l ((e.trans e2).trans e3) hx) (dps_nats xs), .lst (ex_l ((e.trans e2).trans e3) hy) (dps_nats ys), (gd_dL lx zx).shaped (by decide), (gd_dL ly zy).shaped (by decide), by
    rw [eqv_dL]
    exact q H3 (e2.trans e3)⟩
end
section
variable {K : PySem.W.Frag} {σ : L2.St} {H : Hp} {ta tb te : TE}
theorem eqV_vi (a b : Nat) : eqV (vi a) (vi b) = decide (a = b) := by
  by_cases h : a = b
  · subst h
    simp [eqV]
  · simp [eqV, h]
    omega
theorem ev_lindex {a : Addr} {S : List Nat} {k : Nat} (ha : Ev ta σ H (.ref a)) (hx : H a = some (.lst (S.map vi))) (hk : Ev te σ H (vi k)) (mem : k ∈ S) : Ev (tBM K "list" (rIndex K) ta (tCons te tNil)) σ H (vi (S.idxOf k)) := fun H1 e Q q =>
  ha H1 e _ fun H2 e2 => ⟨Or.inl ⟨rfl, _, sq_of ((e.trans e2) _ _ hx)⟩, hk H2 (e.trans e2) _ fun H3 e3 => by
    have hi : S.idxOf k < S.length := List.idxOf_lt_length_iff.mpr mem
    refine ⟨a, S.map vi, vi k, S.idxOf k, vi k, rfl, rfl, sq_of (((e.trans e2).trans e3) _ _ hx), rfl, flat_vi S, ?_, by rw [eqV_vi]; exact decide_eq_true rfl, fun m z hm hz => ?_, q H3 (e2.trans e3)⟩
    · rw [List.getElem?_map, List.getElem?_eq_getElem hi, List.getElem_idxOf hi]
      rfl
    · rw [List.getElem?_map, List.getElem?_eq_getElem (by omega)] at hz
      rw [← Option.some.inj hz, eqV_vi]
      refine decide_eq_false fun z2 => ?_
      have := List.not_of_lt_findIdx (p := (· == k)) (xs := S) (i := m) hm
      rw [z2] at this
      exact absurd (beq_self_eq_true k) (by rw [this]; decide)⟩
theorem ev_eqLN {a : Addr} {xs ys : List Nat} (ha : Ev ta σ H (.ref a)) (hx : SqL K H a (xs.map vi)) (hb : EvL tb σ H (ys.map vi)) (lx : ∀ k ∈ xs, k ≤ 1000) (ly : ∀ k ∈ ys, k ≤ 1000) (zx : xs.length ≤ 36) (zy : ys.length ≤ 36) : Ev (tOp (rEqD K) ta tb) σ H (.bl (decide (xs = ys))) := fun H1 e Q q =>
  ha H1 e _ fun H2 e2 => hb H2 (e.trans e2) _ fun b H3 nb e3 hb3 => ⟨dL xs, dL ys, .lst (ex_l ((e.trans e2).trans e3) hx) (dps_nats xs), dp_ln hb3, (gd_dL lx zx).shaped (by decide), (gd_dL ly zy).shaped (by decide), by
    rw [eqv_dL]
    exact q H3 (e2.trans e3)⟩
theorem ev_lenL {a : Addr} {S : List Nat} (ha : Ev ta σ H (.ref a)) (hx : H a = some (.lst (S.map vi))) : Ev (tCB (rLenS K) (tCons ta tNil)) σ H (vi S.length) := ev_is (ev_len ha (sq_of hx)) (by rw [List.length_map])
end
section
variable {K : PySem.W.Frag} {σ : L2.St} {H : Hp} {ta tb te : TE} {Q : VK}
theorem ev_eqLL {xs ys : List Nat} (ha : EvL ta σ H (xs.map vi)) (hb : EvL tb σ H (ys.map vi)) (lx : ∀ k ∈ xs, k ≤ 1000) (ly : ∀ k ∈ ys, k ≤ 1000) (zx : xs.length ≤ 36) (zy : ys.length ≤ 36) : Ev (tOp (rEqD K) ta tb) σ H (.bl (decide (xs = ys))) := fun H1 e Q q =>
  ha H1 e _ fun a H2 na e2 ha2 => hb H2 (e.trans e2) _ fun b H3 nb e3 hb3 => ⟨dL xs, dL ys, dp_ln (e3 _ _ ha2), dp_ln hb3, (gd_dL lx zx).shaped (by decide), (gd_dL ly zy).shaped (by decide), by
    rw [eqv_dL]
    exact q H3 (e2.trans e3)⟩
theorem paired_zip {α β : Type} {R : α → β → Prop} : ∀ {xs : List α} {ys : List β}, Paired R xs ys → (xs.zip ys).map (·.1) = xs ∧ (xs.zip ys).map (·.2) = ys ∧ ∀ q ∈ xs.zip ys, R q.1 q.2
  | _, _, .nil => ⟨rfl, rfl, fun _ z => nomatch z⟩
  | _, _, .cons a b => by
    obtain ⟨e1, e2, h⟩ := paired_zip b
    refine ⟨by rw [List.zip_cons_cons, List.map_cons, e1], by rw [List.zip_cons_cons, List.map_cons, e2], fun q hq => ?_⟩
    rw [List.zip_cons_cons] at hq
    rcases List.mem_cons.mp hq with z | z
    · rw [z]; exact a
    · exact h q z
theorem zip_paired {α β : Type} {R : α → β → Prop} : ∀ {qs : List (α × β)}, (∀ q ∈ qs, R q.1 q.2) → Paired R (qs.map (·.1)) (qs.map (·.2))
  | [], _ => .nil
  | q :: qs, h => .cons (h q (List.mem_cons_self ..)) (zip_paired fun x hx => h x (List.mem_cons_of_mem _ hx))
/-- sorted(a list of things that read as data): some arrangement -/
theorem do_sortP {β : Type} {R : V → β → Hp → Prop} {f : β → PyData} {a : Addr} {vs : List V} {L : List β} (hl : H a = some (.lst vs)) (pv : Paired (fun v b => R v b H) vs L) (dp : ∀ v b, R v b H → Dp K H v (f b)) (al : AllAlike (L.map f)) (so : Sortable (L.map f)) (dep : ∀ b ∈ L, (f b).depth ≤ 40) (st : ∀ v b H1, Ex H H1 → R v b H → R v b H1)
    (k : ∀ p vs' L' H1, H p = none → Ex H H1 → H1 p = some (.lst vs') → L'.Perm L → Paired (fun v b => R v b H1) vs' L' → Q (.ref p) H1) : rSortD K [.ref a] H Q := by
  obtain ⟨e1, e2, hq⟩ := paired_zip pv
  let qs : List (V × β) := vs.zip L
  let ps : List (V × PyData) := qs.map fun q => (q.1, f q.2)
  have e3 : ps.map (·.1) = vs := by
    rw [← e1]
    simp only [ps, qs, List.map_map]
    rfl
  have e4 : ps.map (·.2) = L.map f := by
    conv => rhs; rw [← e2]
    simp only [ps, qs, List.map_map]
    rfl
  refine ⟨a, ps, rfl, by rw [e3]; exact sq_of hl, fun p hp => ?_, by rw [e4]; exact al, by rw [e4]; exact so, fun p hp => ?_, fun l nl => ?_⟩
  · obtain ⟨q, hqq, rfl⟩ := List.mem_map.mp hp
    exact dp _ _ (hq q hqq)
  · obtain ⟨q, hqq, rfl⟩ := List.mem_map.mp hp
    exact dep q.2 (by rw [← e2]; exact List.mem_map.mpr ⟨q, hqq, rfl⟩)
  · have e5 : ps.mergeSort leD = (qs.mergeSort fun x y => leD (x.1, f x.2) (y.1, f y.2)).map fun q => (q.1, f q.2) := (List.map_mergeSort (r := fun x y : V × β => leD (x.1, f x.2) (y.1, f y.2)) (s := leD) (f := fun q : V × β => (q.1, f q.2)) fun a _ b _ => rfl).symm
    have pm : (qs.mergeSort fun x y => leD (x.1, f x.2) (y.1, f y.2)).Perm qs := List.mergeSort_perm _ _
    generalize (qs.mergeSort fun x y => leD (x.1, f x.2) (y.1, f y.2)) = rs at e5 pm
    rw [e5]
    refine k l (rs.map (·.1)) (rs.map (·.2)) _ nl (Ex.new nl) ?_ ?_ (zip_paired (R := fun (v : V) (b : β) => R v b (upd H l (.lst ((rs.map fun q => (q.1, f q.2)).map (·.1))))) fun q hqq => st _ _ _ (Ex.new nl) (hq q (pm.mem_iff.mp hqq)))
    · rw [upd_same, List.map_map]
      rfl
    · rw [← e2]
      exact pm.map _
end
section
variable {K : PySem.W.Frag} {σ : L2.St} {H : Hp} {D : Ends} {tu tz : TS} {g : TG}
theorem q_enumTs {ta : TA} (h : ta σ H fun vs H1 => ∃ tp xs, vs = [.ref tp] ∧ SqT K H1 tp xs ∧ Loops (IteT K tp) g tu { D with nx := tz D } σ H1) : tSeq (tFor (iEnumT K ta) g tu) tz D σ H := h
theorem qloops_enumT {a : Addr} {xs : List V} (Pv : Nat → L2.St → Hp → Prop) (h0 : Pv 0 σ H) (hk : ∀ i σ' H', i ≤ xs.length → Pv i σ' H' → SqT K H' a xs)
    (hs : ∀ i x T σ' H', xs[i]? = some x → Pv i σ' H' → H' T = none → g (.ref T) σ' (upd H' T (.tup [vi i, x])) fun σ2 H2 => tu { D with nx := Pv (i + 1), ct := Pv (i + 1), bk := tz D } σ2 H2) (hd : ∀ σ' H', Pv xs.length σ' H' → tz D σ' H') : Loops (IteT K a) g tu { D with nx := tz D } σ H :=
  for_it (D := { D with nx := tz D }) walk_enumT Pv h0 hk (fun i v σ' H2 H3 hi p y => by
    obtain ⟨T, x1, x2, rfl, nT, rfl, e1, e2⟩ := y
    cases Option.some.inj e1
    exact hs i x2 T σ' H2 e2 p nT) hd
theorem ep_maxI {te : TE} {xs : List Int} (h : EvP te σ H (fun v H' => TV K H' v (xs.map V.int))) (ne : xs ≠ []) : EvP (tCB (rMaxT K) (tCons te tNil)) σ H (fun v _ => ∃ m ∈ xs, v = .int m) := fun H1 e Q q =>
  h H1 e _ fun v H2 e2 ⟨a, hv, s⟩ => by
    subst hv
    exact ⟨a, xs, rfl, s, List.length_pos_iff.mpr ne, fun m hm _ => q _ H2 e2 ⟨m, hm, rfl⟩⟩
/-- a comprehension over a tuple, any target -/
theorem elp_lcTg {te : TE} {tt : TT} {g : TG} {a : Addr} {xs : List V} {tl : TE} {vs : List Nat} (h : Ev tl σ H (.ref a)) (hx : SqT K H a xs) (hn : xs.length ≤ 40000) (f : Nat → Bool) (B : V → Nat → Hp → Prop) (hB : StbB B)
    (hs : ∀ (i : Nat) (x : V) (H1 : Hp), Ex H H1 → xs[i]? = some x → ∀ Φ : L2.St → Hp → Prop, (∀ σ2, wipe σ2 vs = wipe σ vs → EvT tt σ2 H1 (f i) → (f i = true → EvP te σ2 H1 (fun v H' => B v i H')) → Φ σ2 H1) → g x (wipe σ vs) H1 Φ) :
    EvLP (tLc (iTup K tl) g tt te vs) σ H (fun ws H' => Paired (fun v i => B v i H') ws ((List.range xs.length).filter f)) :=
  elp_lc (walk_tup (K := K) (a := a) (xs := xs)) (fun H0 e0 R r => w_tup h hx H0 e0 R r) (fun H1 e1 => ex_t e1 hx) hn f B hB fun i x H1 H2 hi e y => by
    obtain ⟨rfl, hxi⟩ := y
    exact ⟨Ex.refl _, fun Φ k => hs i x _ e hxi Φ k⟩
/-- list.index of texts, the list by what holds of it -/
theorem ev_sindex {to te : TE} {ys : List Str} {z : Str} (h : EvL to σ H (ys.map V.str)) (hz : Ev te σ H (.str z)) (mem : z ∈ ys) : Ev (tBM K "list" (rIndex K) to (tCons te tNil)) σ H (vi (ys.idxOf z)) := fun H1 e Q q =>
  h H1 e _ fun a H2 na e2 ha => ⟨Or.inl ⟨rfl, _, sq_of ha⟩, hz H2 (e.trans e2) _ fun H3 e3 => by
    have hi : ys.idxOf z < ys.length := List.idxOf_lt_length_iff.mpr mem
    refine ⟨a, ys.map V.str, .str z, ys.idxOf z, .str z, rfl, rfl, sq_of (e3 _ _ ha), rfl, List.all_eq_true.mpr fun v hv => by obtain ⟨y, _, rfl⟩ := List.mem_map.mp hv; rfl, ?_, by show (z == z) = true; exact beq_self_eq_true z, fun m z' hm hz' => ?_, q H3 (e2.trans e3)⟩
    · rw [List.getElem?_map, List.getElem?_eq_getElem hi, List.getElem_idxOf hi]
      rfl
    · rw [List.getElem?_map, List.getElem?_eq_getElem (by omega)] at hz'
      rw [← Option.some.inj hz']
      show (ys[m] == z) = false
      have := List.not_of_lt_findIdx (p := (· == z)) (xs := ys) (i := m) hm
      simpa using this⟩
end
theorem range_getD {β : Type} (d : β) (r : List β) : (List.range r.length).map (fun i => r.getD i d) = r := by
  apply List.ext_getElem?
  intro i
  by_cases hi : i < r.length
  · rw [List.getElem?_map, List.getElem?_range hi, List.getElem?_eq_getElem hi]
    show some (r.getD i d) = _
    rw [List.getD_eq_getElem?_getD, List.getElem?_eq_getElem hi]
    rfl
  · rw [List.getElem?_eq_none_iff.mpr (by simp; omega), List.getElem?_eq_none_iff.mpr (by omega)]
theorem range_filt {β : Type} (d : β) (r : List β) (f : β → Bool) : ((List.range r.length).filter fun i => f (r.getD i d)).map (fun i => r.getD i d) = r.filter f := by
  conv => rhs; rw [← range_getD d r, List.filter_map]
  rfl
theorem exists_min : ∀ {l : List Nat}, l ≠ [] → ∃ k ∈ l, ∀ y ∈ l, k ≤ y
  | [], h => absurd rfl h
  | [x], _ => ⟨x, List.mem_cons_self .., fun y hy => by rw [List.mem_singleton.mp hy]; exact Nat.le_refl _⟩
  | x :: z :: l, _ => by
    obtain ⟨k, hk, le⟩ := exists_min (l := z :: l) (by simp)
    by_cases h : x ≤ k
    · exact ⟨x, List.mem_cons_self .., fun y hy => by
        rcases List.mem_cons.mp hy with z1 | z1
        · rw [z1]; exact Nat.le_refl _
        · exact Nat.le_trans h (le y z1)⟩
    · exact ⟨k, List.mem_cons_of_mem _ hk, fun y hy => by
        rcases List.mem_cons.mp hy with z1 | z1
        · omega
        · exact le y z1⟩
section
variable {K : PySem.W.Frag} {σ : L2.St} {H : Hp} {ta tb te : TE}
theorem ev_min {a : Addr} {ns : List Nat} {k : Nat} (h : Ev te σ H (.ref a)) (ha : SqL K H a (ns.map vi)) (hk : k ∈ ns) (le : ∀ y ∈ ns, k ≤ y) : Ev (tCB (rMin K) (tCons te tNil)) σ H (vi k) := fun H1 e Q q =>
  h H1 e _ fun H2 e2 => ⟨a, ia ns, rfl, by
    unfold ia
    rw [List.map_map]
    exact ex_l (e.trans e2) ha, by unfold ia; rw [List.length_map]; exact List.length_pos_of_mem hk, fun m hm ml => by
    obtain ⟨x, hx, rfl⟩ := List.mem_map.mp hm
    have h1 := le x hx
    have h2 := ml ((k : Nat) : Int) (List.mem_map.mpr ⟨k, hk, rfl⟩)
    have : x = k := by omega
    rw [this]
    exact q H2 e2⟩
/-- [s[arg] for arg in args] -/
theorem el_getS {i j k : Nat} {row S : List Nat} {xa a : Addr} (hw : ∀ x, wipe ((wipe σ [j]).set j (some x)) [j] = wipe σ [j]) (hi : σ[i]? = some (some (.ref xa))) (hk : ∀ x, ((wipe σ [j]).set j (some x))[k]? = some (some (.ref a))) (hj : ∀ x, ((wipe σ [j]).set j (some x))[j]? = some (some x))
    (hxa : SqT K H xa (row.map vi)) (ha : SqL K H a (S.map vi)) (rl : ∀ x ∈ row, x < S.length) (l : row.length ≤ 1000) : EvL (tLc (iTup K (tVar i)) (gName j) tYes (tOp (rIxL K) (tVar k) (tVar j)) [j]) σ H ((row.map (M20.g S)).map vi) := by
  have zz := el_lcT (K := K) (tl := tVar i) (te := tOp (rIxL K) (tVar k) (tVar j)) (σ := σ) (j := j) (vs := [j]) (ev_var hi) hxa (fun q => vi (M20.g S (row.getD q 0))) (by rw [List.length_map]; omega) hw (fun q y H7 e7 hy => by
    rw [List.getElem?_map] at hy
    cases hq : row[q]? with
    | none => rw [hq] at hy; cases hy
    | some kk =>
      rw [hq] at hy
      cases Option.some.inj hy
      have lk := rl kk (List.mem_iff_getElem?.mpr ⟨q, hq⟩)
      rw [List.getD_eq_getElem?_getD, hq]
      exact ev_op (ev_var (hk _)) (ev_var (hj _)) (rv_ixL (K := K) (ex_l e7 ha) (atI_vi (k := kk) (by rw [List.getElem?_map, M20.g_eq lk]; rfl))))
  have e : (List.range (row.map vi).length).map (fun q => vi (M20.g S (row.getD q 0))) = (row.map (M20.g S)).map vi := by
    conv => rhs; rw [← range_getD 0 row]
    rw [List.length_map, List.map_map, List.map_map]
    rfl
  rw [e] at zz
  exact zz
/-- those in a tuple that are not among some -/
theorem el_notIn {i j k : Nat} {row S : List Nat} {xa a : Addr} (hw : ∀ x, wipe ((wipe σ [j]).set j (some x)) [j] = wipe σ [j]) (hi : σ[i]? = some (some (.ref xa))) (hk : ∀ x, ((wipe σ [j]).set j (some x))[k]? = some (some (.ref a))) (hj : ∀ x, ((wipe σ [j]).set j (some x))[j]? = some (some x))
    (hxa : SqT K H xa (row.map vi)) (ha : SqL K H a (S.map vi)) (l : row.length ≤ 1000) : EvL (tLc (iTup K (tVar i)) (gName j) (tTest (tOp (rIn K true) (tVar j) (tVar k))) (tVar j) [j]) σ H ((row.filter fun x => !decide (x ∈ S)).map vi) := fun H0 e0 Q q => by
  refine (elp_lcTg (K := K) (ev_var hi) (ex_t e0 hxa) (by rw [List.length_map]; omega) (fun q => !decide (row.getD q 0 ∈ S)) (fun v q _ => v = vi (row.getD q 0)) (fun _ _ _ _ _ z => z) (fun q y H7 e7 hy Φ kk => ?_)) H0 (Ex.refl _) _ fun p ws H2 np e2 hp pw => q p H2 np e2 ?_
  · rw [List.getElem?_map] at hy
    cases hq : row[q]? with
    | none => rw [hq] at hy; cases hy
    | some z =>
      rw [hq] at hy
      cases Option.some.inj hy
      refine kk _ (hw _) ?_ fun _ => ep_ev (ev_var (hj _)) fun _ _ => ?_
      · rw [List.getD_eq_getElem?_getD, hq]
        exact et_is (et_test (ev_op (ev_var (hj _)) (ev_var (hk _)) (rv_niL (K := K) (ex_l (e0.trans e7) ha) rfl (flat_vi S)))) (by rw [inV_vi]; rfl)
      · rw [List.getD_eq_getElem?_getD, hq]
        rfl
  · rw [hp, paired_eqs pw, List.length_map]
    congr 2
    rw [← range_filt 0 row (fun x => !decide (x ∈ S)), List.map_map]
    rfl
/-- .. those in a list -/
theorem el_notInL {i j k : Nat} {row S : List Nat} {xa a : Addr} (hw : ∀ x, wipe ((wipe σ [j]).set j (some x)) [j] = wipe σ [j]) (hi : σ[i]? = some (some (.ref xa))) (hk : ∀ x, ((wipe σ [j]).set j (some x))[k]? = some (some (.ref a))) (hj : ∀ x, ((wipe σ [j]).set j (some x))[j]? = some (some x))
    (hxa : SqL K H xa (row.map vi)) (ha : SqL K H a (S.map vi)) (l : row.length ≤ 1000) : EvL (tLc (iList K (tVar i)) (gName j) (tTest (tOp (rIn K true) (tVar j) (tVar k))) (tVar j) [j]) σ H ((row.filter fun x => !decide (x ∈ S)).map vi) := fun H0 e0 Q q => by
  refine (elp_lcLg (K := K) (ev_var hi) (ex_l e0 hxa) (by rw [List.length_map]; omega) (fun q => !decide (row.getD q 0 ∈ S)) (fun v q _ => v = vi (row.getD q 0)) (fun _ _ _ _ _ z => z) (fun q y H7 e7 hy Φ kk => ?_)) H0 (Ex.refl _) _ fun p ws H2 np e2 hp pw => q p H2 np e2 ?_
  · rw [List.getElem?_map] at hy
    cases hq : row[q]? with
    | none => rw [hq] at hy; cases hy
    | some z =>
      rw [hq] at hy
      cases Option.some.inj hy
      refine kk _ (hw _) ?_ fun _ => ep_ev (ev_var (hj _)) fun _ _ => ?_
      · rw [List.getD_eq_getElem?_getD, hq]
        exact et_is (et_test (ev_op (ev_var (hj _)) (ev_var (hk _)) (rv_niL (K := K) (ex_l (e0.trans e7) ha) rfl (flat_vi S)))) (by rw [inV_vi]; rfl)
      · rw [List.getD_eq_getElem?_getD, hq]
        rfl
  · rw [hp, paired_eqs pw, List.length_map]
    congr 2
    rw [← range_filt 0 row (fun x => !decide (x ∈ S)), List.map_map]
    rfl
theorem none_out {row S : List Nat} : decide ((row.filter fun x => !decide (x ∈ S)) = []) = CL.among row S := by
  rw [Bool.eq_iff_iff, CL.among_iff, decide_eq_true_iff, List.filter_eq_nil_iff]
  constructor
  · intro h a ha
    have := h a ha
    rw [Bool.not_eq_true', decide_eq_false_iff_not, Classical.not_not] at this
    exact this
  · intro h a ha
    rw [decide_eq_true (h a ha)]
    decide
end
theorem op_eqDK {X : Cx} (K : PySem.W.Frag) (hu : X.A.units + 64 < cLine) (h : X.K = K := by rfl) : OpR X (compareOp .Eq) (rEqD K) := by
  subst h
  exact op_eqD hu
theorem call_len_seqK {X : Cx} (K : PySem.W.Frag) (h : X.K = K := by rfl) : CallR X (.builtin "len") (rLenS K) := by
  subst h
  exact call_len_seq
theorem pi_listK {X : Cx} {tg l : Expr} {tl : TE} (K : PySem.W.Frag) (hl : PE X l tl) (h : X.K = K := by rfl) : PI X tg l (iList K tl) := by
  subst h
  exact pi_list hl
theorem call_tuple_ofK {X : Cx} (K : PySem.W.Frag) (h : X.K = K := by rfl) : CallR X (.type "tuple") (rTupOf K) := by
  subst h
  exact call_tuple_of
theorem mt_indexK {X : Cx} (K : PySem.W.Frag) (h : X.K = K := by rfl) : MtR X "list.index" (rIndex K) := by
  subst h
  exact mt_index
theorem pe_bmK {X : Cx} {o e : Expr} {es : List Expr} {to : TE} {t : TA} {name : Str} {apos cpos : Pos} {T id : String} {r : V → List V → Hp → VK → Prop} (K : PySem.W.Frag) (pa : PlainAttrs T) (slot : Slot T name id) (hty : typeOf (.builtin id) = pure (.type "method_descriptor")) (hm : MtR X id r) (ho : PE X o to) (ha : PA X (e :: es) t) (h : X.K = K := by rfl)
    (hbase : attributeBase o name X.env (eval o X.env) = eval o X.env := by rfl)
    (hfew : ((backTo cpos (starEach (e :: es) X.env)).all (fun x => !x.1) && (backToKw cpos (keywordEach [] X.env)).all (fun x => x.1.isSome)
      && decide ((e :: es).length + ([] : List Keyword).length + (if ([] : List Keyword).isEmpty then 0 else 1) < 30)) = true := by rfl)
    (hline : (apos.endLine == cpos.line) = true := by rfl) (hs : starEach (e :: es) X.env = (false, eval e X.env) :: starEach es X.env := by rfl) (hplain : (backTo cpos (starEach es X.env)).any (·.1) = false := by rfl) : PE X (.Call (.Attribute o name apos) (e :: es) [] cpos) (tBM K T r to t) := by
  subst h
  exact pe_bm pa slot hty hm ho ha hbase hfew hline hs hplain
theorem rv_ne' {H : Hp} {x y : V} (h : scal x y = true) (e : x = y) : RV rNe x y H (.bl false) := by
  have := rv_ne (H := H) h
  rw [decide_eq_true e] at this
  exact this
section
variable {K : PySem.W.Frag} {σ : L2.St} {H : Hp}
theorem ev_reprW {X : Cx} {te : TE} {d : PyData} {k W : Nat} (hg : X.A.guards = some []) (hK : X.K = K) (h : EvP te σ H fun v H' => Dp K H' v d) (g : Gd k W d) (hk : k ≤ 190) (hW : W ≤ 1000000) : Ev (tCB (rReprW X) (tCons te tNil)) σ H (.str d.shown) := by
  subst hK
  intro H1 e1 Q q
  exact do_cb (do_cons (h H1 e1 _ fun v H2 e2 hv => do_nil ⟨v, d, rfl, hv, hg, g.sho, PyData.hasDict_of_canLay _ g.lay, Nat.le_trans g.dep hk, g.gs.len hW, q H2 e2⟩))
/-- x != y, both the same data -/
theorem ev_neSame {ta tb : TE} {P R : V → Hp → Prop} {d : PyData} {k W : Nat} (ha : EvP ta σ H P) (hb : EvP tb σ H R) (st : ∀ v H1 H2, Ex H1 H2 → P v H1 → P v H2) (dp : ∀ v H1, P v H1 → Dp K H1 v d) (dr : ∀ v H1, R v H1 → Dp K H1 v d) (g : Gd k W d) (hk : k ≤ 60) : Ev (tOp (rNeD K) ta tb) σ H (.bl false) := fun H1 e Q q =>
  ha H1 e _ fun v H2 e2 hv => hb H2 (e.trans e2) _ fun u H3 e3 hu => ⟨d, d, dp _ _ (st _ _ _ e3 hv), dr _ _ hu, g.shaped hk, g.shaped hk, by
    rw [SeqAt.eqv_refl _ g.lay]
    exact q H3 (e2.trans e3)⟩
/-- what is handed to range, read first -/
def tKon (xs : List V) : TA := fun _ H Q => Q xs H
theorem lc_rsrc {ta : TA} {g : TG} {tt : TT} {te : TE} {vs : List Nat} {Q : VK} (h : ta σ H fun xs H1 => tLc (iRng1 (tKon xs)) g tt te vs σ H1 Q) : tLc (iRng1 ta) g tt te vs σ H Q := h
theorem ea_kon {xs : List V} : EvA (tKon xs) σ H xs := fun H1 _ _ q => q H1 (Ex.refl _)
end
theorem cut_last {xs : List V} (h : 1 ≤ xs.length) : cutV xs none (some (-1)) = xs.dropLast ∧ HT.sIx xs.length xs.length (some (-1)) = xs.length - 1 := by
  have e : HT.sIx xs.length xs.length (some (-1)) = xs.length - 1 := by
    have e1 : HT.sIx xs.length xs.length (some (-1)) = ((-1 : Int) + (xs.length : Int)).toNat := by
      unfold HT.sIx
      exact if_pos (by decide)
    rw [e1]
    omega
  refine ⟨?_, e⟩
  unfold cutV
  rw [e, HT.sIx_none, Nat.sub_zero, List.drop_zero, List.dropLast_eq_take]
theorem ev_neLN {K : PySem.W.Frag} {σ : L2.St} {H : Hp} {ta tb : TE} {a : Addr} {xs ys : List Nat} (ha : Ev ta σ H (.ref a)) (hx : SqL K H a (xs.map vi)) (hb : EvL tb σ H (ys.map vi)) (lx : ∀ k ∈ xs, k ≤ 1000) (ly : ∀ k ∈ ys, k ≤ 1000) (zx : xs.length ≤ 36) (zy : ys.length ≤ 36) : Ev (tOp (rNeD K) ta tb) σ H (.bl (!decide (xs = ys))) := fun H1 e Q q =>
  ha H1 e _ fun H2 e2 => hb H2 (e.trans e2) _ fun b H3 nb e3 hb3 => ⟨dL xs, dL ys, .lst (ex_l ((e.trans e2).trans e3) hx) (dps_nats xs), dp_ln hb3, (gd_dL lx zx).shaped (by decide), (gd_dL ly zy).shaped (by decide), by
    rw [eqv_dL]
    exact q H3 (e2.trans e3)⟩
theorem do_drop {te : TE} {D : Ends} {σ : L2.St} {H : Hp} (h : te σ H fun _ H1 => D.nx σ H1) : tDrop te D σ H := h
theorem ix_listK {X : Cx} (K : PySem.W.Frag) (h : X.K = K := by rfl) : IxR X (rIxL K) := by
  subst h
  exact ix_list
end Dw
end
section
namespace K70
open PySem PySem.Spec PyProof.Rows L2 Evl Dw M20
open C8 (fnScope_by)
/-! ### the text -/
def topS (i : Nat) : Stmt := PySem.Challenge.pw_deedworlds_k70_closed_lists.main.body.getD i (.Pass ⟨0, 0, 0, 0⟩)
abbrev s_is_whole : Stmt := topS 1
theorem sc_is_whole : FnScope ["thing"] ["thing"] (defScope s_is_whole) := fnScope_by (by decide +kernel)
abbrev s_is_below : Stmt := topS 2
theorem sc_is_below : FnScope ["thing", "size"] ["thing", "size"] (defScope s_is_below) := fnScope_by (by decide +kernel)
abbrev s_is_row : Stmt := topS 3
theorem sc_is_row : FnScope ["thing", "many", "size", "number"] ["thing", "many", "size"] (defScope s_is_row) := fnScope_by (by decide +kernel)
abbrev s_power : Stmt := topS 4
theorem sc_power : FnScope ["base", "many", "told", "step"] ["base", "many"] (defScope s_power) := fnScope_by (by decide +kernel)
abbrev s_rows_below : Stmt := topS 5
theorem sc_rows_below : FnScope ["size", "many", "rows", "step", "row", "number"] ["size", "many"] (defScope s_rows_below) := fnScope_by (by decide +kernel)
abbrev s_rising_lists : Stmt := topS 6
theorem sc_rising_lists : FnScope ["size", "lists", "number", "one"] ["size"] (defScope s_rising_lists) := fnScope_by (by decide +kernel)
abbrev s_place_of_row : Stmt := topS 7
theorem sc_place_of_row : FnScope ["size", "row", "place", "number"] ["size", "row"] (defScope s_place_of_row) := fnScope_by (by decide +kernel)
abbrev s_cells_with_worths : Stmt := topS 15
theorem sc_cells_with_worths : FnScope ["signature", "model", "told", "name", "places", "table", "args", "worth"] ["signature", "model"] (defScope s_cells_with_worths) := fnScope_by (by decide +kernel)
abbrev s_is_name : Stmt := topS 22
theorem sc_is_name : FnScope ["thing", "sign"] ["thing"] (defScope s_is_name) := fnScope_by (by decide +kernel)
abbrev s_is_deed : Stmt := topS 23
theorem sc_is_deed : FnScope ["thing"] ["thing"] (defScope s_is_deed) := fnScope_by (by decide +kernel)
abbrev s_signature_wrong : Stmt := topS 24
theorem sc_signature_wrong : FnScope ["thing", "k", "deed", "names", "name"] ["thing"] (defScope s_signature_wrong) := fnScope_by (by decide +kernel)
abbrev s_need_signature : Stmt := topS 25
theorem sc_need_signature : FnScope ["signature"] ["signature"] (defScope s_need_signature) := fnScope_by (by decide +kernel)
abbrev s_is_size : Stmt := topS 27
theorem sc_is_size : FnScope ["thing"] ["thing"] (defScope s_is_size) := fnScope_by (by decide +kernel)
abbrev s_first_odd_cell : Stmt := topS 28
theorem sc_first_odd_cell : FnScope ["size", "tables", "k", "table", "at", "number"] ["size", "tables"] (defScope s_first_odd_cell) := fnScope_by (by decide +kernel)
abbrev s_model_wrong : Stmt := topS 29
theorem sc_model_wrong : FnScope ["signature", "thing", "size", "tables", "k", "deed", "odd"] ["signature", "thing"] (defScope s_model_wrong) := fnScope_by (by decide +kernel)
abbrev s_need_model : Stmt := topS 30
theorem sc_need_model : FnScope ["signature", "model"] ["signature", "model"] (defScope s_need_model) := fnScope_by (by decide +kernel)
abbrev s_need_numbers : Stmt := topS 32
theorem sc_need_numbers : FnScope ["model", "numbers", "number"] ["model", "numbers"] (defScope s_need_numbers) := fnScope_by (by decide +kernel)
abbrev s_is_among : Stmt := topS 33
theorem sc_is_among : FnScope ["args", "numbers", "arg"] ["args", "numbers"] (defScope s_is_among) := fnScope_by (by decide +kernel)
abbrev s_build_from : Stmt := topS 34
theorem sc_build_from : FnScope ["signature", "model", "numbers", "steps", "told", "cells", "grown", "name", "args", "worth", "number", "reason"] ["signature", "model", "numbers"] (defScope s_build_from) := fnScope_by (by decide +kernel)
abbrev s_made_by : Stmt := topS 35
theorem sc_made_by : FnScope ["signature", "model", "numbers", "number", "reason"] ["signature", "model", "numbers"] (defScope s_made_by) := fnScope_by (by decide +kernel)
abbrev s_has_worths : Stmt := topS 36
theorem sc_has_worths : FnScope ["signature", "model", "numbers", "name", "args", "worth"] ["signature", "model", "numbers"] (defScope s_has_worths) := fnScope_by (by decide +kernel)
abbrev s_closed_lists : Stmt := topS 37
theorem sc_closed_lists : FnScope ["signature", "model", "numbers"] ["signature", "model"] (defScope s_closed_lists) := fnScope_by (by decide +kernel)
abbrev s_is_closed : Stmt := topS 38
theorem sc_is_closed : FnScope ["signature", "model", "thing"] ["signature", "model", "thing"] (defScope s_is_closed) := fnScope_by (by decide +kernel)
abbrev s_part_of : Stmt := topS 39
theorem sc_part_of : FnScope ["signature", "model", "closed", "size", "tables", "told", "name", "places", "table", "row", "args", "arg"] ["signature", "model", "closed"] (defScope s_part_of) := fnScope_by (by decide +kernel)
abbrev s_part : Stmt := topS 40
theorem sc_part : FnScope ["signature", "model", "closed"] ["signature", "model", "closed"] (defScope s_part) := fnScope_by (by decide +kernel)
abbrev s_purse : Stmt := topS 42
theorem sc_purse : FnScope ["_law_script", "_law_cells_here", "_law_j"] ["_law_script"] (defScope s_purse) := fnScope_by (by decide +kernel)
abbrev s_draw : Stmt := topS 43
theorem sc_draw : FnScope ["_law_purse_here", "_law_out_of", "_law_cells_here", "_law_went", "_law_where", "_law_cell", "_law_figure"] ["_law_purse_here", "_law_out_of"] (defScope s_draw) := fnScope_by (by decide +kernel)
abbrev s_pick : Stmt := topS 44
theorem sc_pick : FnScope ["_law_purse_here", "_law_some"] ["_law_purse_here", "_law_some"] (defScope s_pick) := fnScope_by (by decide +kernel)
abbrev s_signature : Stmt := topS 45
theorem sc_signature : FnScope ["_law_purse_here", "_law_some"] ["_law_purse_here"] (defScope s_signature) := fnScope_by (by decide +kernel)
abbrev s_ways : Stmt := topS 46
theorem sc_ways : FnScope ["_law_many", "_law_size", "_law_found", "_law_k", "_law_longer", "_law_way_here", "_law_number"] ["_law_many", "_law_size"] (defScope s_ways) := fnScope_by (by decide +kernel)
abbrev s_table : Stmt := topS 47
theorem sc_table : FnScope ["_law_purse_here", "_law_many", "_law_size", "_law_way_here", "_law_by", "_law_found", "_law_args", "_law_worth"] ["_law_purse_here", "_law_many", "_law_size"] (defScope s_table) := fnScope_by (by decide +kernel)
abbrev s_mdl : Stmt := topS 48
theorem sc_mdl : FnScope ["_law_purse_here", "_law_signature_here", "_law_size", "_law_name", "_law_many"] ["_law_purse_here", "_law_signature_here", "_law_size"] (defScope s_mdl) := fnScope_by (by decide +kernel)
abbrev s_did : Stmt := topS 49
theorem sc_did : FnScope ["_law_signature_here", "_law_model_here", "_law_name", "_law_args", "_law_size", "_law_tables_here", "_law_k", "_law_at", "_law_arg", "_law_word", "_law_many"] ["_law_signature_here", "_law_model_here", "_law_name", "_law_args"] (defScope s_did) := fnScope_by (by decide +kernel)
abbrev s_cells : Stmt := topS 50
theorem sc_cells : FnScope ["_law_signature_here", "_law_size", "_law_found", "_law_k", "_law_name", "_law_many", "_law_args", "_law_greatest"] ["_law_signature_here", "_law_size"] (defScope s_cells) := fnScope_by (by decide +kernel)
abbrev s_lclosed : Stmt := topS 51
theorem sc_lclosed : FnScope ["_law_signature_here", "_law_model_here", "_law_some", "_law_name", "_law_args", "_law_arg"] ["_law_signature_here", "_law_model_here", "_law_some"] (defScope s_lclosed) := fnScope_by (by decide +kernel)
abbrev s_subsets : Stmt := topS 52
theorem sc_subsets : FnScope ["_law_size", "_law_found", "_law_number", "_law_some"] ["_law_size"] (defScope s_subsets) := fnScope_by (by decide +kernel)
abbrev s_spread : Stmt := topS 53
theorem sc_spread : FnScope ["_law_signature_here", "_law_model_here", "_law_some", "_law_fits", "_law_sizes", "_law_one", "_law_number"] ["_law_signature_here", "_law_model_here", "_law_some"] (defScope s_spread) := fnScope_by (by decide +kernel)
abbrev s_lsub : Stmt := topS 54
theorem sc_lsub : FnScope ["_law_signature_here", "_law_model_here", "_law_some", "_law_tables_here", "_law_name", "_law_many", "_law_cells_here_here", "_law_args", "_law_arg"] ["_law_signature_here", "_law_model_here", "_law_some"] (defScope s_lsub) := fnScope_by (by decide +kernel)
abbrev s_spoil : Stmt := topS 55
theorem sc_spoil : FnScope ["_law_one"] ["_law_one"] (defScope s_spoil) := fnScope_by (by decide +kernel)
abbrev s_law : Stmt := topS 56
theorem sc_law : FnScope ["_law_script", "_law_purse_here", "_law_time", "_law_signature_here", "_law_size_here", "_law_model_here", "_law_due", "_law_told_here", "_law_some", "_law_kept", "_law_again", "_law_found", "_law_k"] ["_law_script"] (defScope s_law) := fnScope_by (by decide +kernel)
/-- what the module's names hold -/
structure Txt (mg : Str → Option Value) : Prop where
  z_abs : mg "abs" = none
  z_all : mg "all" = none
  z_bool : mg "bool" = none
  z_enumerate : mg "enumerate" = none
  z_int : mg "int" = none
  z_isinstance : mg "isinstance" = none
  z_len : mg "len" = none
  z_list : mg "list" = none
  z_max : mg "max" = none
  z_min : mg "min" = none
  z_range : mg "range" = none
  z_repr : mg "repr" = none
  z_set : mg "set" = none
  z_sorted : mg "sorted" = none
  z_str : mg "str" = none
  z_sum : mg "sum" = none
  z_tuple : mg "tuple" = none
  z_zip : mg "zip" = none
  c_NAME_LETTERS : ∃ t, mg "NAME_LETTERS" = some (.str "abcdefghijklmnopqrst" t)
  c_MOST_NAME : ∃ t, mg "MOST_NAME" = some (.int 4 t)
  c_MOST_DEEDS : ∃ t, mg "MOST_DEEDS" = some (.int 4 t)
  c_MOST_PLACES : ∃ t, mg "MOST_PLACES" = some (.int 2 t)
  c_MOST_SIZE : ∃ t, mg "MOST_SIZE" = some (.int 6 t)
section
variable {X : Cx} {x : Str} {pos : Pos}
theorem pe_gi {i : Int} (hg : Gl X x) (h : ∃ t, X.mg x = some (.int i t)) (hn : x ≠ "__name__" := by decide) (hd : (x == ("__debug__" : Str)) = false := by decide) : PE X (.Name x pos) (tC (.int i)) := by
  obtain ⟨t, e⟩ := h
  exact pe_glob hg e ⟨t, rfl⟩ (hd := hd)
theorem pe_gs {z : Str} (hg : Gl X x) (h : ∃ t, X.mg x = some (.str z t)) (hn : x ≠ "__name__" := by decide) (hd : (x == ("__debug__" : Str)) = false := by decide) : PE X (.Name x pos) (tC (.str z)) := by
  obtain ⟨t, e⟩ := h
  exact pe_glob hg e ⟨t, rfl⟩ (hd := hd)
theorem pe_ty (n : String) (hg : Gl X x) (hm : X.mg x = none) (hv : bootBuiltins x = some (.type n)) (hn : x ≠ "__name__" := by decide) (hd : (x == ("__debug__" : Str)) = false := by decide) : PE X (.Name x pos) (tC (.ty n)) := pe_bltn hg hm hv rfl (hn := hn) (hd := hd)
theorem ip_mul : PIp X .Mult (rI CMul fun i j => .int (i * j)) := iop_mul
end
section
variable {P : Program} {w : World} {K : PySem.W.Frag} {mg : Str → Option Value} {base : Heap}
/-! ### is_whole, is_below, power -/
def sp_is_whole : Sp := spX (fun (i : Int) vs _ => vs = [.int i]) (fun _ v _ => v = .bl true)
theorem c_is_whole (T : Txt mg) (D : Df K mg "is_whole" s_is_whole ["thing"]) : Cl P w K mg base 1 "is_whole" sp_is_whole := by
  refine cl_of (k := 0) D sc_is_whole (fun vs H Q E h => ?_) (fun f cdv A outer s H vs Q E hr h => ?_)
  · obtain ⟨i, rfl, _⟩ := h
    rfl
  · obtain ⟨i, rfl, q⟩ := h
    refine ⟨_, (pss_one (ps_ret (pe_and (pe_callB call_isi (by rfl) T.z_isinstance (by decide +kernel) (pa_cons (pv 0) (pa_cons (pe_ty "int" (by rfl) T.z_int (by decide +kernel)) pa_nil))) (pe_one (pe_not (pe_callB call_isi (by rfl) T.z_isinstance (by decide +kernel) (pa_cons (pv 0) (pa_cons (pe_ty "bool" (by rfl) T.z_bool (by decide +kernel)) pa_nil)))))))), ?_⟩
    exact s_ret (ev_andV (ev_isi (ev_var rfl) ev_c (.ty _) (fun _ _ => tyx_int i) kit_ii) (fun _ => ev_notV (ev_isi (ev_var rfl) ev_c (.ty _) (fun _ _ => tyx_int i) kit_ib))) fun H1 e => q _ H1 e rfl
def sp_is_below : Sp := spX (fun (p : Int × Int) vs _ => vs = [.int p.1, .int p.2] ∧ 0 ≤ p.1 ∧ p.1 < p.2) (fun _ v _ => v = .bl true)
theorem c_is_below (T : Txt mg) (D : Df K mg "is_below" s_is_below ["thing", "size"]) (c_is_whole : Cl P w K mg base 1 "is_whole" sp_is_whole) : Cl P w K mg base 2 "is_below" sp_is_below := by
  refine cl_of (k := 1) D sc_is_below (fun vs H Q E h => ?_) (fun f cdv A outer s H vs Q E hr h => ?_)
  · obtain ⟨p, ⟨rfl, _⟩, _⟩ := h
    rfl
  · obtain ⟨⟨i, n⟩, ⟨rfl, h0, h1⟩, q⟩ := h
    refine ⟨_, (pss_one (ps_ret (pe_and (pe_cl c_is_whole hr (by first | decide | omega) (by rfl) (pa_cons (pv 0) pa_nil)) (pe_one (pe_chain op_le op_lt pe_int (pv 0) (pv 1)))))), ?_⟩
    refine s_ret (ev_andV (ev_callV (v := .bl true) i (ea_cons (ev_var rfl) ea_nil) (fun _ _ => rfl) (fun _ _ p => p)) (fun _ => ev_chain ev_c (ev_var rfl) (fun _ => ev_var rfl) rv_I0 (fun _ => rv_I0))) fun H1 e => q _ H1 e ?_
    show V.bl (true && (decide (0 ≤ i) && decide (i < n))) = _
    rw [decide_eq_true h0, decide_eq_true h1]
    rfl
def sp_power : Sp := spX (fun (p : Nat × Nat) vs _ => vs = [vi p.1, vi p.2] ∧ p.1 ≤ 6 ∧ p.2 ≤ 2) (fun p v _ => v = vi (p.1 ^ p.2))
theorem c_power (T : Txt mg) (D : Df K mg "power" s_power ["base", "many"]) : Cl P w K mg base 1 "power" sp_power := by
  refine cl_of (k := 0) D sc_power (fun vs H Q E h => ?_) (fun f cdv A outer s H vs Q E hr h => ?_)
  · obtain ⟨p, ⟨rfl, _⟩, _⟩ := h
    rfl
  · obtain ⟨⟨b, m⟩, ⟨rfl, hb, hm⟩, q⟩ := h
    refine ⟨_, (pss_cons (ps_set (i := 2) sc_power.nd rfl (.inl rfl) pe_int)
      (pss_cons (ps_for PassesOwn.never (by rfl) (pi_range1 (by rfl) T.z_range (pa_cons (pv 1) pa_nil)) (pg_name (i := 3) sc_power.nd rfl (.inl rfl))
        (pss_one (ps_aug (i := 2) sc_power.nd rfl (.inl rfl) (pv 0) ip_mul)))
      (pss_one (ps_ret (pv 2))))), ?_⟩
    refine q_asg ev_c fun H1 e1 => ?_
    refine q_forR1 (ea_cons (ev_var rfl) ea_nil) (by omega) (fun i σ H' => ∃ y, σ = [some (vi b), some (vi m), some (vi (b ^ i)), y] ∧ Ex H H') (fun H2 e2 => ⟨none, rfl, e1.trans e2⟩) (fun i σ H' hi ⟨y, hσ, e⟩ => ?_) (fun σ H' ⟨y, hσ, e⟩ => ?_)
    · subst hσ
      refine ⟨_, rfl, _, rfl, ((b ^ i : Nat) : Int), (b : Int), rfl, rfl, .inr ⟨by omega, by omega⟩, some (vi i), ?_, e⟩
      show [some (vi b), some (vi m), some (.int (((b ^ i : Nat) : Int) * (b : Int))), some (vi i)] = [some (vi b), some (vi m), some (vi (b ^ (i + 1))), some (vi i)]
      rw [Nat.pow_succ]
      show _ = [some (vi b), some (vi m), some (.int ((b ^ i * b : Nat) : Int)), some (vi i)]
      rw [Int.natCast_mul]
    · subst hσ
      exact s_ret (ev_var rfl) fun H2 e2 => q _ H2 (e.trans e2) rfl
end
end K70
end
section
namespace K70
open PySem PySem.Spec PyProof.Rows L2 Evl Dw M20
section
variable {P : Program} {w : World} {K : PySem.W.Frag} {mg : Str → Option Value} {base : Heap}
theorem ix_tupK {X : Cx} (K : PySem.W.Frag) (h : X.K = K := by rfl) : IxR X (rIxT K) := by
  subst h
  exact ix_tup
theorem pi_tupK {X : Cx} {tg l : Expr} {tl : TE} (K : PySem.W.Frag) (hl : PE X l tl) (h : X.K = K := by rfl) : PI X tg l (iTup K tl) := by
  subst h
  exact pi_tup hl
/-! ### names, deeds, signatures -/
def letters : Str := "abcdefghijklmnopqrst"
structure Name (z : Str) : Prop where
  l1 : 1 ≤ z.length
  l4 : z.length ≤ 4
  abc : ∀ c ∈ z.cps.toList, c ∈ letters.cps.toList
def sp_is_name : Sp := spX (fun (z : Str) vs _ => vs = [.str z] ∧ Name z) (fun _ v _ => v = .bl true)
theorem c_is_name (T : Txt mg) (D : Df K mg "is_name" s_is_name ["thing"]) : Cl P w K mg base 1 "is_name" sp_is_name := by
  refine cl_of (k := 0) D sc_is_name (fun vs H Q E h => ?_) (fun f cdv A outer s H vs Q E hr h => ?_)
  · obtain ⟨p, ⟨rfl, _⟩, _⟩ := h
    rfl
  · obtain ⟨z, ⟨rfl, hz⟩, q⟩ := h
    refine ⟨_, (pss_cons (ps_if (PW.pt (pw_or (pt_not (pt_val (pe_callB call_isi (by rfl) T.z_isinstance (by decide +kernel) (pa_cons (pv 0) (pa_cons (pe_ty "str" (by rfl) T.z_str (by decide +kernel)) pa_nil))))) (pw_or1 (pt_not (pt_chain op_le op_le pe_int (pe_callB call_len_str (by rfl) T.z_len PySem.boot_len (pa_cons (pv 0) pa_nil)) (pe_gi (by rfl) T.c_MOST_NAME))))))
        (pss_one (ps_ret pe_bl))
        pss_nil)
      (pss_one (ps_ret (pe_callB (cr_all rfl) (by rfl) T.z_all (by decide +kernel) (pa_cons (pe_lc (own := [("sign", 1)]) (g := (gName 1)) (by rfl) sc_is_name.nd (pi_str (pv 0)) (blkOk_by (own := [("sign", 1)]) (N := ["thing", "sign"]) (sc := (defScope s_is_name)) (by decide +kernel)) (fun _ _ _ _ _ => (pg_name (i := 1) sc_is_name.nd rfl (.inl rfl))) (fun _ _ _ _ _ => pts_nil) (fun _ _ _ _ _ => (pe_cmpR op_in_sign (pv 1) (pe_gs (by rfl) T.c_NAME_LETTERS) (by rfl)))) pa_nil))))), ?_⟩
    have h1 := hz.l1
    have h4 := hz.l4
    have hs : z.cps.size = z.length := rfl
    refine q_when (b := false) (et_is (et_or (et_not (et_val (ev_isi (ev_var rfl) ev_c (.ty _) (fun _ _ => tyx_str z) kit_ss))) (fun _ => et_not (et_test (ev_chain ev_c (ev_lenS (ev_var rfl) (by omega)) (fun _ => ev_c) rv_I0 (fun _ => rv_I0))))) ?_) (fun hb => by cases hb) (fun _ H1 e1 => ?_)
    · show (!true || !(decide ((1 : Int) ≤ (z.length : Int)) && decide ((z.length : Int) ≤ 4))) = false
      rw [decide_eq_true (by omega), decide_eq_true (by omega)]
      rfl
    · refine s_ret (ev_all (bs := List.replicate z.cps.size true) ?_) fun H2 e2 => q _ H2 (e1.trans e2) ?_
      · have e : (List.replicate z.cps.size true).map V.bl = (List.range z.cps.size).map (fun _ => V.bl true) := by
          rw [List.map_const', List.length_range, List.map_replicate]
        rw [e]
        refine el_lcS (ev_var rfl) (fun _ => .bl true) (by omega) (fun _ => rfl) (fun i c H2 e2 hc => ?_)
        refine ev_op (ev_var rfl) ev_c ?_
        have hm : c ∈ letters.cps.toList := hz.abc c (by
          obtain ⟨hi, e⟩ := Array.getElem?_eq_some_iff.mp hc
          rw [← e]
          exact Array.getElem_mem_toList hi)
        exact fun H3 _ Q q3 => ⟨c, letters, rfl, rfl, by rw [decide_eq_true hm]; exact q3 H3 (Ex.refl H3)⟩
      · show V.bl ((List.replicate z.cps.size true).all id) = V.bl true
        rw [show (List.replicate z.cps.size true).all id = true from List.all_eq_true.mpr (fun b hb => (List.mem_replicate.mp hb).2)]
def sp_is_deed (K : PySem.W.Frag) : Sp := spX (fun (p : Str × Nat) vs H => (∃ v, vs = [v] ∧ Deed K H v p) ∧ Name p.1 ∧ p.2 ≤ 2) (fun _ v _ => v = .bl true)
theorem c_is_deed (T : Txt mg) (D : Df K mg "is_deed" s_is_deed ["thing"]) (c_is_name : Cl P w K mg base 1 "is_name" sp_is_name) (c_is_below : Cl P w K mg base 2 "is_below" sp_is_below) : Cl P w K mg base 3 "is_deed" (sp_is_deed K) := by
  refine cl_of (k := 2) D sc_is_deed (fun vs H Q E h => ?_) (fun f cdv A outer s H vs Q E hr h => ?_)
  · obtain ⟨p, ⟨⟨v, rfl, _⟩, _⟩, _⟩ := h
    rfl
  · obtain ⟨⟨z, p⟩, ⟨⟨v, rfl, b, rfl, hb⟩, hz, hp⟩, q⟩ := h
    refine ⟨_, (pss_one (ps_ret (pe_and (pe_callB call_isi (by rfl) T.z_isinstance (by decide +kernel) (pa_cons (pv 0) (pa_cons (pe_ty "tuple" (by rfl) T.z_tuple (by decide +kernel)) pa_nil))) (pe_and (pe_cmpR op_eq (pe_callB call_len_seq (by rfl) T.z_len PySem.boot_len (pa_cons (pv 0) pa_nil)) pe_int (nomark _)) (pe_and (pe_cl c_is_name hr (by first | decide | omega) (by rfl) (pa_cons (pe_ix ix_tup (pv 0) pe_int (fun _ _ => rfl)) pa_nil)) (pe_one (pe_cl c_is_below hr (by first | decide | omega) (by rfl) (pa_cons (pe_ix ix_tup (pv 0) pe_int (fun _ _ => rfl)) (pa_cons (pe_op op_add (pe_gi (by rfl) T.c_MOST_PLACES) pe_int) pa_nil))))))))), ?_⟩
    refine s_ret (ev_andV (ev_isi (ev_var rfl) ev_c (.ty _) (fun _ e => tyx_tup (ex_t e hb)) kit_tt) (fun _ => ev_andV (ev_op (ev_lenT (ev_var rfl) hb) ev_c (rv_eq rfl)) (fun _ =>
      ev_andV (ev_callV (v := .bl true) z (ea_cons (ev_op (ev_var rfl) ev_c (rv_ixT hb (atI_vi (k := 0) rfl))) ea_nil) (fun _ _ => ⟨rfl, hz⟩) (fun _ _ p => p)) (fun _ =>
        ev_callV (v := .bl true) (((p : Nat) : Int), (3 : Int)) (ea_cons (ev_op (ev_var rfl) ev_c (rv_ixT hb (atI_vi (k := 1) rfl))) (ea_cons (ev_op ev_c ev_c rv_I0) ea_nil)) (fun _ _ => ⟨rfl, by show (0 : Int) ≤ (p : Int); omega, by show (p : Int) < 3; have : p ≤ 2 := hp; omega⟩) (fun _ _ p => p))))) fun H1 e => q _ H1 e rfl
/-- a signature as the law draws it -/
structure SigOk (sg : List (Str × Nat)) : Prop where
  l1 : 1 ≤ sg.length
  l4 : sg.length ≤ 4
  nm : ∀ p ∈ sg, Name p.1
  pl : ∀ p ∈ sg, p.2 ≤ 2
  nd : (sg.map (·.1)).Nodup
def sp_signature_wrong (K : PySem.W.Frag) : Sp := spX (fun (sg : List (Str × Nat)) vs H => (∃ v, vs = [v] ∧ Sig K H v sg) ∧ SigOk sg) (fun _ v _ => v = .non)
theorem c_signature_wrong (T : Txt mg) (D : Df K mg "signature_wrong" s_signature_wrong ["thing"]) (c_is_deed : Cl P w K mg base 3 "is_deed" (sp_is_deed K)) : Cl P w K mg base 4 "signature_wrong" (sp_signature_wrong K) := by
  refine cl_of (k := 3) D sc_signature_wrong (fun vs H Q E h => ?_) (fun f cdv A outer s H vs Q E hr h => ?_)
  · obtain ⟨p, ⟨⟨v, rfl, _⟩, _⟩, _⟩ := h
    rfl
  · obtain ⟨sg, ⟨⟨v, rfl, a, us, rfl, hS, hP⟩, ok⟩, q⟩ := h
    refine ⟨_, (pss_cons (ps_if (PW.pt (pw_or (pt_not (pt_val (pe_callB call_isi (by rfl) T.z_isinstance (by decide +kernel) (pa_cons (pv 0) (pa_cons (pe_ty "tuple" (by rfl) T.z_tuple (by decide +kernel)) pa_nil))))) (pw_or1 (pt_not (pt_chain op_le op_le pe_int (pe_callB call_len_seq (by rfl) T.z_len PySem.boot_len (pa_cons (pv 0) pa_nil)) (pe_gi (by rfl) T.c_MOST_DEEDS))))))
        (pss_one (ps_ret (pe_tup (pa_cons pe_str pa_nil))))
        pss_nil)
      (pss_cons (ps_for PassesOwn.never (by rfl) (pi_enumT (by rfl) T.z_enumerate (pa_cons (pv 0) pa_nil)) (pg_tup (by rfl) (pgs_cons (pg_name (i := 1) sc_signature_wrong.nd rfl (.inl rfl)) (pgs_cons (pg_name (i := 2) sc_signature_wrong.nd rfl (.inl rfl)) pgs_nil)))
        (pss_one (ps_if (pt_not (pt_val (pe_cl c_is_deed hr (by first | decide | omega) (by rfl) (pa_cons (pv 2) pa_nil))))
          (pss_one (ps_ret (pe_tup (pa_cons pe_str (pa_cons (pv 1) pa_nil)))))
          pss_nil)))
      (pss_cons (ps_setLc (i := 3) (own := [("deed", 2)]) (g := (gName 2)) (by rfl) sc_signature_wrong.nd rfl rfl (sw_true rfl rfl rfl (by decide +kernel)) (pi_tup (pv 0)) (blkOk_by (own := [("deed", 2)]) (N := ["thing", "k", "deed", "names", "name"]) (sc := (defScope s_signature_wrong)) (by decide +kernel)) (fun _ _ _ _ _ => (pg_name (i := 2) sc_signature_wrong.nd rfl (.inl rfl))) (fun _ _ _ _ _ => pts_nil) (fun _ _ _ _ _ => (pe_ix (ix_tupK K) (pv 2) pe_int (fun _ _ => rfl))))
      (pss_cons (ps_for PassesOwn.never (by rfl) (pi_enum (by rfl) T.z_enumerate (pa_cons (pv 3) pa_nil)) (pg_tup (by rfl) (pgs_cons (pg_name (i := 1) sc_signature_wrong.nd rfl (.inl rfl)) (pgs_cons (pg_name (i := 4) sc_signature_wrong.nd rfl (.inl rfl)) pgs_nil)))
        (pss_one (ps_if (pt_cmpR op_in_seq (pv 4) (pe_slice sl_list (pv 3) po_none (po_some (pv 1))) (by rfl))
          (pss_one (ps_ret (pe_tup (pa_cons pe_str (pa_cons (pv 1) pa_nil)))))
          pss_nil)))
      (pss_one (ps_ret pe_non)))))), ?_⟩
    have h1 := ok.l1
    have h4 := ok.l4
    have hl : us.length = sg.length := paired_len hP
    refine q_when (b := false) (et_is (et_or (et_not (et_val (ev_isi (ev_var rfl) ev_c (.ty _) (fun _ e => tyx_tup (ex_t e hS)) kit_tt))) (fun _ => et_not (et_test (ev_chain ev_c (ev_lenT (ev_var rfl) hS) (fun _ => ev_c) rv_I0 (fun _ => rv_I0))))) ?_) (fun hb => by cases hb) (fun _ H1 e1 => ?_)
    · show (!true || !(decide ((1 : Int) ≤ (us.length : Int)) && decide ((us.length : Int) ≤ 4))) = false
      rw [decide_eq_true (by omega), decide_eq_true (by omega)]
      rfl
    -- each is a deed
    refine q_enumT (ea_cons (ev_var rfl) ea_nil) (ex_t e1 hS) (fun i σ H' => Ex H H' ∧ ∃ y1 y2, σ = [some (.ref a), y1, y2, none, none]) (fun H2 e2 => ⟨e1.trans e2, none, none, rfl⟩) (fun i σ H' _ ⟨e, _⟩ => ex_t e hS) (fun i x σ H2 H3 hx ⟨e, y1, y2, hσ⟩ e3 => ?_) (fun σ H2 ⟨e2, y1, y2, hσ⟩ => ?_)
    · subst hσ
      have hi : i < sg.length := by rw [← hl]; exact (List.getElem?_eq_some_iff.mp hx).1
      obtain ⟨x', ex', dx⟩ := paired_get hP (List.getElem?_eq_getElem hi)
      have : x' = x := Option.some.inj (ex'.symm.trans hx)
      subst this
      have hm : sg[i] ∈ sg := List.getElem_mem hi
      have e03 : Ex H H3 := e.trans e3
      refine s_when (b := false) (et_is (et_not (et_val (ev_callV (v := .bl true) sg[i] (ea_cons (ev_var rfl) ea_nil) (fun H4 e4 => ⟨⟨_, rfl, dx.et (Dw.Ex.et (e03.trans e4))⟩, ok.nm _ hm, ok.pl _ hm⟩) (fun _ _ p => p)))) rfl) (fun hb => by cases hb) (fun _ H4 e4 => ⟨e03.trans e4, _, _, rfl⟩)
    · subst hσ
      -- the names
      have names : EvL (tLc (iTup K (tVar 0)) (gName 2) tYes (tOp (rIxT K) (tVar 2) (tC (.int 0))) [2]) [some (.ref a), y1, y2, none, none] H2 ((List.range us.length).map fun i => .str (sg.getD i ("", 0)).1) := by
        refine el_lcT (ev_var rfl) (ex_t e2 hS) _ (by omega) (fun _ => rfl) (fun i x H3 e3 hx => ?_)
        have hi : i < sg.length := by rw [← hl]; exact (List.getElem?_eq_some_iff.mp hx).1
        obtain ⟨x', ex', b, hb, hd⟩ := paired_get hP (List.getElem?_eq_getElem hi)
        have : x' = x := Option.some.inj (ex'.symm.trans hx)
        subst this
        subst hb
        rw [List.getD_eq_getElem?_getD, List.getElem?_eq_getElem hi]
        exact ev_op (ev_var rfl) ev_c (rv_ixT (ex_t (e2.trans e3) hd) (atI_vi (k := 0) rfl))
      rw [hl] at names
      have eN : ((List.range sg.length).map fun i => V.str (sg.getD i ("", 0)).1) = (sg.map (·.1)).map V.str := by
        apply List.ext_getElem?
        intro i
        by_cases hi : i < sg.length
        · rw [List.getElem?_map, List.getElem?_range hi, List.getElem?_map, List.getElem?_map, List.getElem?_eq_getElem hi]
          show some (V.str (sg.getD i ("", 0)).1) = some (V.str sg[i].1)
          rw [List.getD_eq_getElem?_getD, List.getElem?_eq_getElem hi]
          rfl
        · rw [List.getElem?_eq_none_iff.mpr (by simp; omega), List.getElem?_eq_none_iff.mpr (by simp; omega)]
      rw [eN] at names
      refine q_asgL names fun p H3 np e3 hp => ?_
      have e03 : Ex H H3 := e2.trans e3
      refine q_enumL (K := K) (ea_cons (ev_var rfl) ea_nil) (sq_of hp) (fun i σ H' => Ex H3 H' ∧ ∃ z1 z4, σ = [some (.ref a), z1, y2, some (.ref p), z4]) (fun H4 e4 => ⟨e4, _, _, rfl⟩) (fun i σ H' _ ⟨e, _⟩ => ex_l e (sq_of hp)) (fun i x σ H4 H5 hx ⟨e4, z1, z4, hσ⟩ e5 => ?_) (fun σ H4 ⟨e4, z1, z4, hσ⟩ => ?_)
      · subst hσ
        have hi : i < (sg.map (·.1)).length := by simpa using (List.getElem?_eq_some_iff.mp hx).1
        have ex : x = .str (sg.map (·.1))[i] := by
          rw [List.getElem?_map, List.getElem?_eq_getElem hi] at hx
          exact (Option.some.inj hx).symm
        subst ex
        have cut : cutV ((sg.map (·.1)).map V.str) none (some (i : Int)) = ((sg.map (·.1)).take i).map V.str := by
          unfold cutV
          rw [HT.sIx_none, HT.sIx_nat, List.length_map, Nat.sub_zero, List.drop_zero, ← List.map_take, Nat.min_eq_left (Nat.le_of_lt hi)]
        have flat : (((sg.map (·.1)).take i).map V.str).all flatV = true := List.all_eq_true.mpr (fun v hv => by
          obtain ⟨z, _, rfl⟩ := List.mem_map.mp hv
          rfl)
        have out : inV (.str (sg.map (·.1))[i]) (((sg.map (·.1)).take i).map V.str) = false := by
          unfold inV
          rw [List.any_eq_false]
          intro v hv
          obtain ⟨z, hz, rfl⟩ := List.mem_map.mp hv
          show ¬ (z == (sg.map (·.1))[i]) = true
          intro he
          have he' : z = (sg.map (·.1))[i] := eq_of_beq he
          obtain ⟨j, hj, ej⟩ := List.mem_take_iff_getElem.mp hz
          have hji : j < i := by omega
          have := (List.getElem_inj ok.nd).mp (ej.trans he')
          omega
        have eL : Ex H3 H5 := e4.trans e5
        have sl : EvL (tSl (rSlL K) (tVar 3) tNoPart (tPart (tVar 1))) [some (.ref a), some (vi i), y2, some (.ref p), some (.str (sg.map (·.1))[i])] H5 (((sg.map (·.1)).take i).map V.str) := by
          rw [← cut]
          exact el_sl (ev_var rfl) eo_none (eo_some (ev_var rfl)) (ex_l eL (sq_of hp))
        exact s_when (b := false) (et_is (et_test (ev_opL (ev_var rfl) sl (fun r H6 hr6 _ => rv_isL (sq_of hr6) rfl flat))) out) (fun hb => by cases hb) (fun _ H6 e6 => ⟨eL.trans e6, _, _, rfl⟩)
      · subst hσ
        exact s_ret ev_c fun H5 e5 => q _ H5 ((e03.trans e4).trans e5) rfl
def sp_need_signature (K : PySem.W.Frag) : Sp := spX (fun (sg : List (Str × Nat)) vs H => (∃ v, vs = [v] ∧ Sig K H v sg) ∧ SigOk sg) (fun _ v _ => v = .non)
theorem c_need_signature (T : Txt mg) (D : Df K mg "need_signature" s_need_signature ["signature"]) (c_signature_wrong : Cl P w K mg base 4 "signature_wrong" (sp_signature_wrong K)) : Cl P w K mg base 5 "need_signature" (sp_need_signature K) := by
  refine cl_of (k := 4) D sc_need_signature (fun vs H Q E h => ?_) (fun f cdv A outer s H vs Q E hr h => ?_)
  · obtain ⟨p, ⟨⟨v, rfl, _⟩, _⟩, _⟩ := h
    rfl
  · obtain ⟨sg, ⟨⟨v, rfl, hS⟩, ok⟩, q⟩ := h
    refine ⟨_, (pss_one (ps_if (pt_cmpR op_notN (pe_cl c_signature_wrong hr (by first | decide | omega) (by rfl) (pa_cons (pv 0) pa_nil)) pe_non (nomark _))
        (pss_one ps_never)
        pss_nil)), ?_⟩
    exact s_when (b := false) (et_is (et_isN (ev_callV (v := .non) sg (ea_cons (ev_var rfl) ea_nil) (fun H1 e1 => ⟨⟨_, rfl, hS.ex e1⟩, ok⟩) (fun _ _ p => p))) rfl) (fun hb => by cases hb) (fun _ H1 e1 => q _ H1 e1 rfl)
/-! ### models looked at -/
def sp_is_size : Sp := spX (fun (n : Nat) vs _ => vs = [vi n] ∧ 1 ≤ n ∧ n ≤ 6) (fun _ v _ => v = .bl true)
theorem c_is_size (T : Txt mg) (D : Df K mg "is_size" s_is_size ["thing"]) (c_is_whole : Cl P w K mg base 1 "is_whole" sp_is_whole) : Cl P w K mg base 2 "is_size" sp_is_size := by
  refine cl_of (k := 1) D sc_is_size (fun vs H Q E h => ?_) (fun f cdv A outer s H vs Q E hr h => ?_)
  · obtain ⟨p, ⟨rfl, _⟩, _⟩ := h
    rfl
  · obtain ⟨n, ⟨rfl, h1, h6⟩, q⟩ := h
    refine ⟨_, (pss_one (ps_ret (pe_and (pe_cl c_is_whole hr (by first | decide | omega) (by rfl) (pa_cons (pv 0) pa_nil)) (pe_one (pe_chain op_le op_le pe_int (pv 0) (pe_gi (by rfl) T.c_MOST_SIZE)))))), ?_⟩
    refine s_ret (ev_andV (ev_callV (v := .bl true) (n : Int) (ea_cons (ev_var rfl) ea_nil) (fun _ _ => rfl) (fun _ _ p => p)) (fun _ => ev_chain ev_c (ev_var rfl) (fun _ => ev_c) rv_I0 (fun _ => rv_I0))) fun H1 e => q _ H1 e ?_
    show V.bl (true && (decide ((1 : Int) ≤ (n : Int)) && decide ((n : Int) ≤ 6))) = _
    rw [decide_eq_true (by omega), decide_eq_true (by omega)]
    rfl
def sp_first_odd_cell (K : PySem.W.Frag) : Sp := spX (fun (p : Nat × List (List Nat)) vs H => (∃ v, vs = [vi p.1, v] ∧ Tabs K H v p.2) ∧ ∀ t ∈ p.2, ∀ k ∈ t, k < p.1) (fun _ v _ => v = .non)
theorem c_first_odd_cell (T : Txt mg) (D : Df K mg "first_odd_cell" s_first_odd_cell ["size", "tables"]) (c_is_below : Cl P w K mg base 2 "is_below" sp_is_below) : Cl P w K mg base 3 "first_odd_cell" (sp_first_odd_cell K) := by
  refine cl_of (k := 2) D sc_first_odd_cell (fun vs H Q E h => ?_) (fun f cdv A outer s H vs Q E hr h => ?_)
  · obtain ⟨p, ⟨⟨v, rfl, _⟩, _⟩, _⟩ := h
    rfl
  · obtain ⟨⟨n, ts⟩, ⟨⟨v, rfl, a, us, rfl, hS, hP⟩, low⟩, q⟩ := h
    refine ⟨_, (pss_cons (ps_for PassesOwn.never (by rfl) (pi_enumT (by rfl) T.z_enumerate (pa_cons (pv 1) pa_nil)) (pg_tup (by rfl) (pgs_cons (pg_name (i := 2) sc_first_odd_cell.nd rfl (.inl rfl)) (pgs_cons (pg_name (i := 3) sc_first_odd_cell.nd rfl (.inl rfl)) pgs_nil)))
        (pss_one (ps_for PassesOwn.never (by rfl) (pi_enumT (by rfl) T.z_enumerate (pa_cons (pv 3) pa_nil)) (pg_tup (by rfl) (pgs_cons (pg_name (i := 4) sc_first_odd_cell.nd rfl (.inl rfl)) (pgs_cons (pg_name (i := 5) sc_first_odd_cell.nd rfl (.inl rfl)) pgs_nil)))
          (pss_one (ps_if (pt_not (pt_val (pe_cl c_is_below hr (by first | decide | omega) (by rfl) (pa_cons (pv 5) (pa_cons (pv 0) pa_nil)))))
            (pss_one (ps_ret (pe_tup (pa_cons (pv 2) (pa_cons (pv 4) pa_nil)))))
            pss_nil)))))
      (pss_one (ps_ret pe_non))), ?_⟩
    refine q_enumT (ea_cons (ev_var rfl) ea_nil) hS (fun i σ H' => Ex H H' ∧ ∃ y2 y3 y4 y5, σ = [some (vi n), some (.ref a), y2, y3, y4, y5]) (fun H2 e2 => ⟨e2, none, none, none, none, rfl⟩) (fun i σ H' _ ⟨e, _⟩ => ex_t e hS) (fun i x σ H2 H3 hx ⟨e, y2, y3, y4, y5, hσ⟩ e3 => ?_) (fun σ H2 ⟨e2, _, _, _, _, hσ⟩ => ?_)
    · subst hσ
      have hi : i < ts.length := by rw [← paired_len hP]; exact (List.getElem?_eq_some_iff.mp hx).1
      obtain ⟨x', ex', b, hb, hd⟩ := paired_get hP (List.getElem?_eq_getElem hi)
      have : x' = x := Option.some.inj (ex'.symm.trans hx)
      subst this
      subst hb
      have e03 : Ex H H3 := e.trans e3
      refine s_enumT (ea_cons (ev_var rfl) ea_nil) (ex_t e03 hd) (fun j σ H' => Ex H H' ∧ ∃ y4 y5, σ = [some (vi n), some (.ref a), some (vi i), some (.ref b), y4, y5]) (fun H4 e4 => ⟨e03.trans e4, _, _, rfl⟩) (fun j σ H' _ ⟨e, _⟩ => ex_t e hd) (fun j y σ H4 H5 hy ⟨e4, z4, z5, hσ⟩ e5 => ?_) (fun σ H4 ⟨e4, z4, z5, hσ⟩ => ?_)
      · subst hσ
        have hj : j < ts[i].length := by simpa using (List.getElem?_eq_some_iff.mp hy).1
        have ey : y = vi ts[i][j] := by
          rw [List.getElem?_map, List.getElem?_eq_getElem hj] at hy
          exact (Option.some.inj hy).symm
        subst ey
        have lo : ts[i][j] < n := low _ (List.getElem_mem hi) _ (List.getElem_mem hj)
        exact s_when (b := false) (et_is (et_not (et_val (ev_callV (v := .bl true) (((ts[i][j] : Nat) : Int), (n : Int)) (ea_cons (ev_var rfl) (ea_cons (ev_var rfl) ea_nil)) (fun H4 e4 => ⟨rfl, by show (0 : Int) ≤ ((ts[i][j] : Nat) : Int); omega, by show ((ts[i][j] : Nat) : Int) < (n : Int); omega⟩) (fun _ _ p => p)))) rfl) (fun hb => by cases hb) (fun _ H6 e6 => ⟨(e4.trans e5).trans e6, _, _, rfl⟩)
      · subst hσ
        exact ⟨e4, _, _, _, _, rfl⟩
    · subst hσ
      exact s_ret ev_c fun H3 e3 => q _ H3 (e2.trans e3) rfl
/-- a model of a signature, as tables of natural numbers -/
structure MdlOk (sg : List (Str × Nat)) (n : Nat) (ts : List (List Nat)) : Prop where
  n1 : 1 ≤ n
  n6 : n ≤ 6
  len : ts.length = sg.length
  tab : ∀ i (h1 : i < sg.length) (h2 : i < ts.length), Tab n sg[i].2 ts[i]
theorem MdlOk.low {sg : List (Str × Nat)} {n : Nat} {ts : List (List Nat)} (m : MdlOk sg n ts) : ∀ t ∈ ts, ∀ k ∈ t, k < n := by
  intro t ht k hk
  obtain ⟨i, hi, e⟩ := List.mem_iff_getElem.mp ht
  subst e
  have tb := m.tab i (by rw [← m.len]; exact hi) hi
  obtain ⟨j, hj, e⟩ := List.mem_iff_getElem.mp hk
  have h := tb.low j (by rw [← tb.len]; exact hj)
  have g1 := g_eq hj
  rw [List.getElem?_eq_getElem hj, e] at g1
  rw [← Option.some.inj g1] at h
  exact h
def sp_model_wrong (K : PySem.W.Frag) : Sp := spX (fun (p : List (Str × Nat) × Nat × List (List Nat)) vs H => (∃ u v, vs = [u, v] ∧ Sig K H u p.1 ∧ Mdl K H v p.2.1 p.2.2) ∧ SigOk p.1 ∧ MdlOk p.1 p.2.1 p.2.2) (fun _ v _ => v = .non)
theorem c_model_wrong (T : Txt mg) (D : Df K mg "model_wrong" s_model_wrong ["signature", "thing"]) (c_need_signature : Cl P w K mg base 5 "need_signature" (sp_need_signature K)) (c_is_size : Cl P w K mg base 2 "is_size" sp_is_size)
    (c_power : Cl P w K mg base 1 "power" sp_power) (c_first_odd_cell : Cl P w K mg base 3 "first_odd_cell" (sp_first_odd_cell K)) : Cl P w K mg base 6 "model_wrong" (sp_model_wrong K) := by
  refine cl_of (k := 5) D sc_model_wrong (fun vs H Q E h => ?_) (fun f cdv A outer s H vs Q E hr h => ?_)
  · obtain ⟨p, ⟨⟨u, v, rfl, _⟩, _⟩, _⟩ := h
    rfl
  · obtain ⟨⟨sg, n, ts⟩, ⟨⟨u, v, rfl, hG, hM⟩, sok, mok⟩, q⟩ := h
    refine ⟨_, (pss_cons (ps_expr (pe_cl c_need_signature hr (by first | decide | omega) (by rfl) (pa_cons (pv 0) pa_nil)))
      (pss_cons (ps_if (PW.pt (pw_or (pt_not (pt_val (pe_callB call_isi (by rfl) T.z_isinstance (by decide +kernel) (pa_cons (pv 1) (pa_cons (pe_ty "tuple" (by rfl) T.z_tuple (by decide +kernel)) pa_nil))))) (pw_or1 (pt_cmpR op_ne (pe_callB call_len_seq (by rfl) T.z_len PySem.boot_len (pa_cons (pv 1) pa_nil)) pe_int (nomark _)))))
        (pss_one (ps_ret (pe_tup (pa_cons pe_str pa_nil))))
        pss_nil)
      (pss_cons (ps_asg (pv 1) (pg_tup (by rfl) (pgs_cons (pg_name (i := 2) sc_model_wrong.nd rfl (.inl rfl)) (pgs_cons (pg_name (i := 3) sc_model_wrong.nd rfl (.inl rfl)) pgs_nil))))
      (pss_cons (ps_if (pt_not (pt_val (pe_cl c_is_size hr (by first | decide | omega) (by rfl) (pa_cons (pv 2) pa_nil))))
        (pss_one (ps_ret (pe_tup (pa_cons pe_str pa_nil))))
        pss_nil)
      (pss_cons (ps_if (PW.pt (pw_or (pt_not (pt_val (pe_callB call_isi (by rfl) T.z_isinstance (by decide +kernel) (pa_cons (pv 3) (pa_cons (pe_ty "tuple" (by rfl) T.z_tuple (by decide +kernel)) pa_nil))))) (pw_or1 (pt_cmpR op_ne (pe_callB call_len_seq (by rfl) T.z_len PySem.boot_len (pa_cons (pv 3) pa_nil)) (pe_callB call_len_seq (by rfl) T.z_len PySem.boot_len (pa_cons (pv 0) pa_nil)) (nomark _)))))
        (pss_one (ps_ret (pe_tup (pa_cons pe_str pa_nil))))
        pss_nil)
      (pss_cons (ps_for PassesOwn.never (by rfl) (pi_enumT (by rfl) T.z_enumerate (pa_cons (pv 0) pa_nil)) (pg_tup (by rfl) (pgs_cons (pg_name (i := 4) sc_model_wrong.nd rfl (.inl rfl)) (pgs_cons (pg_name (i := 5) sc_model_wrong.nd rfl (.inl rfl)) pgs_nil)))
        (pss_one (ps_if (PW.pt (pw_or (pt_not (pt_val (pe_callB call_isi (by rfl) T.z_isinstance (by decide +kernel) (pa_cons (pe_ix ix_tup (pv 3) (pv 4) (fun _ _ => rfl)) (pa_cons (pe_ty "tuple" (by rfl) T.z_tuple (by decide +kernel)) pa_nil))))) (pw_or1 (pt_cmpR op_ne (pe_callB call_len_seq (by rfl) T.z_len PySem.boot_len (pa_cons (pe_ix ix_tup (pv 3) (pv 4) (fun _ _ => rfl)) pa_nil)) (pe_cl c_power hr (by first | decide | omega) (by rfl) (pa_cons (pv 2) (pa_cons (pe_ix ix_tup (pv 5) pe_int (fun _ _ => rfl)) pa_nil))) (nomark _)))))
          (pss_one (ps_ret (pe_tup (pa_cons pe_str (pa_cons (pv 4) pa_nil)))))
          pss_nil)))
      (pss_cons (ps_set (i := 6) sc_model_wrong.nd rfl (.inl rfl) (pe_cl c_first_odd_cell hr (by first | decide | omega) (by rfl) (pa_cons (pv 2) (pa_cons (pv 3) pa_nil))))
      (pss_one (ps_ret (pe_ifExp (pt_cmpR op_isN (pv 6) pe_non (nomark _)) pe_non (pe_tup (pa_cons pe_str (pa_cons (pe_ix ix_tup (pv 6) pe_int (fun _ _ => rfl)) (pa_cons (pe_ix ix_tup (pv 6) pe_int (fun _ _ => rfl)) pa_nil)))))))))))))), ?_⟩
    obtain ⟨a, us, rfl, hS, hP⟩ := id hG
    obtain ⟨b, tv, rfl, hB, c, tvs, rfl, hC, hT⟩ := id hM
    have n1 := mok.n1
    have n6 := mok.n6
    have lS : us.length = sg.length := paired_len hP
    have lT : tvs.length = ts.length := paired_len hT
    have lM : ts.length = sg.length := mok.len
    refine q_drop (ev_callV (v := .non) sg (ea_cons (ev_var rfl) ea_nil) (fun H1 e1 => ⟨⟨_, rfl, hG.ex e1⟩, sok⟩) (fun _ _ p => p)) fun H1 e1 => ?_
    refine q_when (b := false) (et_is (et_or (et_not (et_val (ev_isi (ev_var rfl) ev_c (.ty _) (fun _ e => tyx_tup (ex_t (e1.trans e) hB)) kit_tt))) (fun _ => et_test (ev_op (ev_lenT (ev_var rfl) (ex_t e1 hB)) ev_c (rv_ne rfl)))) rfl) (fun hb => by cases hb) (fun _ H2 e2 => ?_)
    have e02 := e1.trans e2
    -- size, tables = thing
    refine ⟨.ref b, rfl, b, _, rfl, ex_t e02 hB, rfl, _, _, rfl, _, _, rfl, rfl, ?_⟩
    refine q_when (b := false) (et_is (et_not (et_val (ev_callV (v := .bl true) n (ea_cons (ev_var rfl) ea_nil) (fun _ _ => ⟨rfl, n1, n6⟩) (fun _ _ p => p)))) rfl) (fun hb => by cases hb) (fun _ H3 e3 => ?_)
    have e03 := e02.trans e3
    refine q_when (b := false) (et_is (et_or (et_not (et_val (ev_isi (ev_var rfl) ev_c (.ty _) (fun _ e => tyx_tup (ex_t (e03.trans e) hC)) kit_tt))) (fun _ => et_test (ev_op (ev_lenT (ev_var rfl) (ex_t e03 hC)) (ev_lenT (ev_var rfl) (ex_t e03 hS)) (rv_ne rfl)))) ?_) (fun hb => by cases hb) (fun _ H4 e4 => ?_)
    · show (!true || !decide (V.int (tvs.length : Int) = V.int (us.length : Int))) = false
      rw [lT, lS, lM, decide_eq_true rfl]
      rfl
    have e04 := e03.trans e4
    refine q_enumT (ea_cons (ev_var rfl) ea_nil) (ex_t e04 hS) (fun i σ H' => Ex H H' ∧ ∃ y4 y5, σ = [some (.ref a), some (.ref b), some (vi n), some (.ref c), y4, y5, none]) (fun H5 e5 => ⟨e04.trans e5, none, none, rfl⟩) (fun i σ H' _ ⟨e, _⟩ => ex_t e hS) (fun i x σ H5 H6 hx ⟨e, y4, y5, hσ⟩ e6 => ?_) (fun σ H5 ⟨e5, y4, y5, hσ⟩ => ?_)
    · subst hσ
      have hi : i < sg.length := by rw [← lS]; exact (List.getElem?_eq_some_iff.mp hx).1
      have hi2 : i < ts.length := by rw [lM]; exact hi
      obtain ⟨x', ex', d, hd, dd⟩ := paired_get hP (List.getElem?_eq_getElem hi)
      have : x' = x := Option.some.inj (ex'.symm.trans hx)
      subst this
      subst hd
      obtain ⟨y', ey', r, hr', rr⟩ := paired_get hT (List.getElem?_eq_getElem hi2)
      subst hr'
      have e06 : Ex H H6 := e.trans e6
      have tb := mok.tab i hi hi2
      have p2 : sg[i].2 ≤ 2 := sok.pl _ (List.getElem_mem hi)
      have tk : Ev (tOp (rIxT K) (tVar 3) (tVar 4)) [some (.ref a), some (.ref b), some (vi n), some (.ref c), some (vi i), some (.ref d), none] H6 (.ref r) := ev_op (ev_var rfl) (ev_var rfl) (rv_ixT (ex_t e06 hC) (atI_vi ey'))
      refine s_when (b := false) (et_is (et_or (et_not (et_val (ev_isi tk ev_c (.ty _) (fun _ e => tyx_tup (ex_t (e06.trans e) rr)) kit_tt))) (fun _ => et_test (ev_op (ev_lenT tk (ex_t e06 rr)) (ev_callV (v := vi (n ^ sg[i].2)) (n, sg[i].2) (ea_cons (ev_var rfl) (ea_cons (ev_op (ev_var rfl) ev_c (rv_ixT (ex_t e06 dd) (atI_vi (k := 1) rfl))) ea_nil)) (fun _ _ => ⟨rfl, n6, p2⟩) (fun _ _ p => p)) (rv_ne rfl)))) ?_) (fun hb => by cases hb) (fun _ H7 e7 => ⟨e06.trans e7, _, _, rfl⟩)
      show (!true || !decide (V.int (((ts[i].map vi).length : Nat) : Int) = vi (n ^ sg[i].2))) = false
      rw [List.length_map, tb.len, decide_eq_true rfl]
      rfl
    · subst hσ
      refine q_asg (ev_callV (v := .non) (n, ts) (ea_cons (ev_var rfl) (ea_cons (ev_var rfl) ea_nil)) (fun H6 e6 => ⟨⟨_, rfl, c, tvs, rfl, ex_t (e5.trans e6) hC, paired_imp (fun _ _ z => z.ex (e5.trans e6)) hT⟩, mok.low⟩) (fun _ _ p => p)) fun H6 e6 => ?_
      refine s_ret (ev_if (b := true) ?_ (fun _ => ev_c) (fun hb => by cases hb)) fun H7 e7 => q _ H7 ((e5.trans e6).trans e7) rfl
      exact fun H7 e7 Q q => ⟨_, rfl, rfl, _, rfl, q H7 (Ex.refl H7)⟩
def sp_need_model (K : PySem.W.Frag) : Sp := spX (fun (p : List (Str × Nat) × Nat × List (List Nat)) vs H => (∃ u v, vs = [u, v] ∧ Sig K H u p.1 ∧ Mdl K H v p.2.1 p.2.2) ∧ SigOk p.1 ∧ MdlOk p.1 p.2.1 p.2.2) (fun _ v _ => v = .non)
theorem c_need_model (T : Txt mg) (D : Df K mg "need_model" s_need_model ["signature", "model"]) (c_model_wrong : Cl P w K mg base 6 "model_wrong" (sp_model_wrong K)) : Cl P w K mg base 7 "need_model" (sp_need_model K) := by
  refine cl_of (k := 6) D sc_need_model (fun vs H Q E h => ?_) (fun f cdv A outer s H vs Q E hr h => ?_)
  · obtain ⟨p, ⟨⟨u, v, rfl, _⟩, _⟩, _⟩ := h
    rfl
  · obtain ⟨p, ⟨⟨u, v, rfl, hG, hM⟩, sok, mok⟩, q⟩ := h
    refine ⟨_, (pss_one (ps_if (pt_cmpR op_notN (pe_cl c_model_wrong hr (by first | decide | omega) (by rfl) (pa_cons (pv 0) (pa_cons (pv 1) pa_nil))) pe_non (nomark _))
        (pss_one ps_never)
        pss_nil)), ?_⟩
    exact s_when (b := false) (et_is (et_isN (ev_callV (v := .non) p (ea_cons (ev_var rfl) (ea_cons (ev_var rfl) ea_nil)) (fun H1 e1 => ⟨⟨_, _, rfl, hG.ex e1, hM.ex e1⟩, sok, mok⟩) (fun _ _ p => p))) rfl) (fun hb => by cases hb) (fun _ H1 e1 => q _ H1 e1 rfl)
end
end K70
end
section
namespace K70
open PySem PySem.Spec PyProof.Rows L2 Evl RZ Dw M20
theorem big1200 : Builtin.Int.intTooBig (((Builtin.Int.intBits (10 ^ 60) : Nat) : Int) * 20) = false := by decide +kernel
theorem pow1200 {X : Cx} : OpR X (binaryOp .Pow) (fun x y H Q => x = .int (10 ^ 60) ∧ y = .int 20 ∧ Q (.int ((10 ^ 60) ^ (20 : Int).toNat)) H) := op_powG (b := 10 ^ 60) (e := 20) (by decide) (by decide) big1200
/-! ### the purse -/
/-- a purse at p, its cells at c, t draws done -/
def Pur (H : Hp) (p c : Addr) (t : Nat) : Prop := H p = some (.lst [.ref c, vi t]) ∧ ∃ cs : List Int, cs ≠ [] ∧ cs.length ≤ 63 ∧ H c = some (.lst (cs.map V.int))
/-- all but these two as it was -/
def Off (H H' : Hp) (p c : Addr) : Prop := ∀ b o, b ≠ p → b ≠ c → H b = some o → H' b = some o
theorem Off.refl {H : Hp} {p c : Addr} : Off H H p c := fun _ _ _ _ h => h
theorem Off.trans {H H1 H2 : Hp} {p c : Addr} (a : Off H H1 p c) (b : Off H1 H2 p c) : Off H H2 p c := fun x o h1 h2 h => b x o h1 h2 (a x o h1 h2 h)
theorem Off.of_ex {H H' : Hp} {p c : Addr} (e : Ex H H') : Off H H' p c := fun b o _ _ h => e b o h
theorem Pur.ex {H H' : Hp} {p c : Addr} {t : Nat} (e : Ex H H') (h : Pur H p c t) : Pur H' p c t := ⟨e _ _ h.1, let ⟨cs, h1, h2, h3⟩ := h.2; ⟨cs, h1, h2, e _ _ h3⟩⟩
theorem Pur.ne {H : Hp} {p c : Addr} {t : Nat} (h : Pur H p c t) : p ≠ c := fun e => by
  obtain ⟨h1, cs, h2, _, h3⟩ := h
  rw [e, h3] at h1
  have h4 := HO.lst.inj (Option.some.inj h1)
  cases cs with
  | nil => exact h2 rfl
  | cons x r =>
    have h5 := (List.cons.inj h4).1
    cases h5
/-- a new address is neither -/
theorem Pur.fresh {H : Hp} {p c b : Addr} {t : Nat} (h : Pur H p c t) (n : H b = none) : b ≠ p ∧ b ≠ c := by
  constructor
  · intro e
    rw [e, h.1] at n
    cases n
  · intro e
    obtain ⟨_, cs, _, _, h3⟩ := h
    rw [e, h3] at n
    cases n
theorem Off.et {K : PySem.W.Frag} {H H' : Hp} {p c : Addr} {t : Nat} (o : Off H H' p c) (h : Pur H p c t) : ET K H H' := fun a xs q => by
  have no : ∀ u, H a = some u → (∀ ys, u ≠ .lst ys) → H' a = some u := fun u hu hl => o a u (fun e => by rw [e, h.1] at hu; exact hl _ (Option.some.inj hu).symm) (fun e => by
    obtain ⟨_, cs, _, _, h3⟩ := h
    rw [e, h3] at hu
    exact hl _ (Option.some.inj hu).symm) hu
  rcases q with (q | ⟨ob, q⟩) | q
  · exact .inl (.inl (no _ q fun _ z => by cases z))
  · exact .inl (.inr ⟨ob, no _ q fun _ z => by cases z⟩)
  · exact .inr q
section
variable {P : Program} {w : World} {K : PySem.W.Frag} {mg : Str → Option Value} {base : Heap}
def sp_purse (K : PySem.W.Frag) : Sp := fun vs H Q _ => ∃ (a : Addr) (ns : List Int), vs = [.ref a] ∧ SqL K H a (ns.map V.int) ∧ ns.length ≤ 63 ∧ ∀ p c H', Ex H H' → H p = none → H c = none → Pur H' p c 0 → Q (.ref p) H'
theorem ints_shaped (cs : List Int) : SeqAt.shaped (.list (cs.map PyData.int)) = true := by
  have h1 : ∀ l : List Int, PyData.canLayAll0 (l.map PyData.int) = true := by
    intro l
    induction l with
    | nil => rfl
    | cons x r ih => show (PyData.canLay0 (.int x) && PyData.canLayAll0 (r.map PyData.int)) = true; rw [ih]; rfl
  have h2 : ∀ l : List Int, PyData.depthAll (l.map PyData.int) = 0 := by
    intro l
    induction l with
    | nil => rfl
    | cons x r ih => show max (PyData.depth (.int x)) (PyData.depthAll (r.map PyData.int)) = 0; rw [ih]; rfl
  show (PyData.canLayAll0 (cs.map PyData.int) && decide (PyData.depthAll (cs.map PyData.int) + 1 ≤ 64)) = true
  rw [h1, h2]
  rfl
theorem dp_ints {H : Hp} {a : Addr} {cs : List Int} (h : SqL K H a (cs.map V.int)) : Dp K H (.ref a) (.list (cs.map PyData.int)) := by
  refine .lst h ?_
  have : ∀ l : List Int, DpAll K H (l.map V.int) (l.map PyData.int) := by
    intro l
    induction l with
    | nil => exact .nil
    | cons x r ih => exact .cons (.int x) ih
  exact this cs
theorem c_purse (T : Txt mg) (D : Df K mg "_law_purse" s_purse ["_law_script"]) : Cl P w K mg base 1 "_law_purse" (sp_purse K) := by
  refine cl_of (k := 0) D sc_purse (fun vs H Q E h => ?_) (fun f cdv A outer s H vs Q E hr h => ?_)
  · obtain ⟨a, ns, rfl, _⟩ := h
    rfl
  · obtain ⟨a, ns, rfl, hS, len, q⟩ := h
    refine ⟨_, (pss_cons (ps_set (i := 1) sc_purse.nd rfl (.inl rfl) (pe_slice sl_list (pv 0) po_none (po_some pe_int)))
      (pss_cons (ps_for PassesOwn.never (by rfl) (pi_range1 (by rfl) T.z_range (pa_cons (pe_callB call_len_seq (by rfl) T.z_len PySem.boot_len (pa_cons (pv 1) pa_nil)) pa_nil)) (pg_name (i := 2) sc_purse.nd rfl (.inl rfl))
        (pss_one (ps_if (pt_cmpR op_ge (pe_callB call_abs (by rfl) T.z_abs (by decide +kernel) (pa_cons (pe_ix ix_list (pv 1) (pv 2) (fun _ _ => rfl)) pa_nil)) (pe_op op_pow pe_int pe_int) (nomark _))
          (pss_one (ps_asg (pe_op op_mod (pe_ix ix_list (pv 1) (pv 2) (fun _ _ => rfl)) (pe_op pow1200 (pe_op op_pow pe_int pe_int) pe_int)) (pg_sub (pv 1) (pv 2) set_list)))
          pss_nil)))
      (pss_cons (ps_if (pt_cmpR (op_eqD hr.units) (pv 1) (pe_lst pa_nil) (nomark _))
        (pss_one (ps_set (i := 1) sc_purse.nd rfl (.inl rfl) (pe_lst (pa_cons pe_int pa_nil))))
        pss_nil)
      (pss_one (ps_ret (pe_lst (pa_cons (pv 1) (pa_cons pe_int pa_nil)))))))), ?_⟩
    have cut : cutV (ns.map V.int) none (some 63) = ns.map V.int := by
      unfold cutV
      rw [HT.sIx_none, show HT.sIx (ns.map V.int).length (ns.map V.int).length (some 63) = min 63 (ns.map V.int).length from HT.sIx_nat _ _ 63, Nat.sub_zero, List.drop_zero, List.length_map]
      exact List.take_of_length_le (by rw [List.length_map]; omega)
    have sl : EvL (tSl (rSlL K) (tVar 0) tNoPart (tPart (tC (.int 63)))) [some (.ref a), none, none] H (ns.map V.int) := by
      have := el_sl (σ := [some (.ref a), none, none]) (te := tVar 0) (ev_var rfl) eo_none (eo_some (i := 63) (te := tC (.int 63)) ev_c) hS
      rw [cut] at this
      exact this
    refine q_asgL sl fun c H1 nc e1 hc => ?_
    have l63 : ∀ cs : List Int, cs.length = ns.length → (cs.map V.int).length ≤ 63 := fun cs h => by rw [List.length_map, h]; exact len
    have lenE : EvA (tCons (tCB (rLenS K) (tCons (tVar 1) tNil)) tNil) [some (.ref a), some (.ref c), none] H1 [.int (ns.length : Int)] := by
      have := ev_len (K := K) (σ := [some (.ref a), some (.ref c), none]) (ta := tVar 1) (ev_var rfl) (sq_of hc)
      rw [List.length_map] at this
      exact ea_cons this ea_nil
    refine q_forR1 lenE (by omega) (fun i σ H' => Ex H H' ∧ (∃ cs : List Int, cs.length = ns.length ∧ H' c = some (.lst (cs.map V.int))) ∧ ∃ y, σ = [some (.ref a), some (.ref c), y]) (fun H2 e2 => ⟨e1.trans e2, ⟨ns, rfl, e2 _ _ hc⟩, _, rfl⟩) (fun i σ H2 hi ⟨e2, ⟨cs, lc, hcs⟩, y, hσ⟩ => ?_) (fun σ H2 ⟨e2, ⟨cs, lc, hcs⟩, y, hσ⟩ => ?_)
    · subst hσ
      have hi' : i < cs.length := by rw [lc]; omega
      have it : Ev (tOp (rIxL K) (tVar 1) (tVar 2)) [some (.ref a), some (.ref c), some (vi i)] H2 (.int cs[i]) := ev_op (ev_var rfl) (ev_var rfl) (rv_ixL (sq_of hcs) (atI_vi (by rw [List.getElem?_map, List.getElem?_eq_getElem hi']; rfl)))
      refine s_when (et_test (ev_op (ev_cb (z := .int (if cs[i] < 0 then -cs[i] else cs[i])) (ea_cons it ea_nil) (fun H3 _ Q q3 => ⟨_, rfl, q3 H3 (Ex.refl _)⟩)) (ev_op ev_c ev_c (rv_I ⟨by decide, by decide, by decide⟩)) rv_I0)) (fun _ H3 e3 => ?_) (fun _ H3 e3 => ⟨e2.trans e3, ⟨cs, lc, e3 _ _ hcs⟩, _, rfl⟩)
      refine s_setL (e3 _ _ hcs) (ev_op (it.mono e3) (ev_op (ev_op ev_c ev_c (rv_I ⟨by decide, by decide, by decide⟩)) ev_c (fun H4 _ Q q4 => ⟨rfl, rfl, q4 H4 (Ex.refl _)⟩)) (rv_I (by decide))) (ev_var rfl) (ev_var rfl) (by rw [List.length_map]; exact hi') (fun H4 e4 => ⟨((e2.trans e3).trans e4).mut nc, ⟨cs.set i (cs[i] % (10 ^ 60) ^ (20 : Int).toNat), by rw [List.length_set, lc], ?_⟩, _, rfl⟩)
      rw [upd_same, List.map_set]
    · subst hσ
      have dp := dp_ints (K := K) (sq_of hcs)
      have test : EvT (tTest (tOp (rEqD K) (tVar 1) (tLst tNil))) [some (.ref a), some (.ref c), y] H2 (PyData.eqv (.list (cs.map PyData.int)) (.list [])) := fun H3 e3 Q q3 => ⟨_, rfl, Nat.zero_le _, fun r nr => ⟨_, _, dp_ints (sq_of (by rw [upd_ne (ne_of_none (e3 _ _ hcs) nr)]; exact e3 _ _ hcs)), .lst (sq_of upd_same) .nil, ints_shaped cs, rfl, _, rfl, q3 _ (Ex.new nr)⟩⟩
      refine q_when test (fun hb H3 e3 => ?_) (fun hb H3 e3 => ?_)
      · refine s_asgL (el_lst (ea_cons ev_c ea_nil) (by decide)) fun d H4 nd e4 hd => ?_
        have e04 : Ex H H4 := (e2.trans e3).trans e4
        have nd0 : H d = none := fresh_back (e2.trans e3) nd
        refine s_retL (el_lst (ea_cons (ev_var rfl) (ea_cons ev_c ea_nil)) (by show 2 ≤ 100000; decide)) fun p H5 np e5 hp => q p d H5 (e04.trans e5) (fresh_back e04 np) nd0 ⟨hp, [0], by simp, by decide, e5 _ _ hd⟩
      · have ne : cs ≠ [] := fun z => by
          subst z
          exact absurd hb (by decide)
        have e03 : Ex H H3 := e2.trans e3
        have l63' : cs.length ≤ 63 := by rw [lc]; exact len
        refine s_retL (el_lst (ea_cons (ev_var rfl) (ea_cons ev_c ea_nil)) (by show 2 ≤ 100000; decide)) fun p H5 np e5 hp => q p c H5 (e03.trans e5) (fresh_back e03 np) nc ⟨hp, cs, ne, l63', e5 _ _ (e3 _ _ hcs)⟩
end
end K70
end
section
namespace K70
open PySem PySem.Spec PyProof.Rows L2 Evl RZ Dw M20
section
variable {P : Program} {w : World} {K : PySem.W.Frag} {mg : Str → Option Value} {base : Heap}
/-- a draw: a number below n, one more done -/
def sp_draw : Sp := fun vs H Q _ => ∃ (p c : Addr) (t n : Nat), vs = [.ref p, vi n] ∧ Pur H p c t ∧ t ≤ 100000 ∧ 1 ≤ n ∧ n ≤ 1000 ∧ ∀ k H', k < n → Off H H' p c → Pur H' p c (t + 1) → Q (vi k) H'
theorem vi_mod {x : Int} {n : Nat} (h : 1 ≤ n) : ∃ k, k < n ∧ V.int (x % (n : Int)) = vi k := by
  have h1 : 0 ≤ x % (n : Int) := Int.emod_nonneg _ (by omega)
  have h2 : x % (n : Int) < n := Int.emod_lt_of_pos _ (by omega)
  exact ⟨(x % (n : Int)).toNat, by omega, by show V.int _ = V.int _; rw [Int.toNat_of_nonneg h1]⟩
theorem c_draw (T : Txt mg) (D : Df K mg "_law_draw" s_draw ["_law_purse_here", "_law_out_of"]) : Cl P w K mg base 1 "_law_draw" sp_draw := by
  refine cl_of (k := 0) D sc_draw (fun vs H Q E h => ?_) (fun f cdv A outer s H vs Q E hr h => ?_)
  · obtain ⟨p, c, t, n, rfl, _⟩ := h
    rfl
  · obtain ⟨p, c, t, n, rfl, pu, t1, n1, n2, q⟩ := h
    refine ⟨_, (pss_cons (ps_asg (pv 0) (pg_unl (by rfl) (pgs_cons (pg_name (i := 2) sc_draw.nd rfl (.inl rfl)) (pgs_cons (pg_name (i := 3) sc_draw.nd rfl (.inl rfl)) pgs_nil))))
      (pss_cons (ps_set (i := 4) sc_draw.nd rfl (.inl rfl) (pe_op op_mod (pv 3) (pe_callB call_len_seq (by rfl) T.z_len PySem.boot_len (pa_cons (pv 2) pa_nil))))
      (pss_cons (ps_set (i := 5) sc_draw.nd rfl (.inl rfl) (pe_ix ix_list (pv 2) (pv 4) (fun _ _ => rfl)))
      (pss_cons (ps_asg (pe_op op_add (pv 3) pe_int) (pg_sub (pv 0) pe_int set_list))
      (pss_cons (ps_if (pt_cmpR op_ge (pv 5) (pe_op op_pow pe_int pe_int) (nomark _))
        (pss_cons (ps_asg (pe_op op_fdiv (pv 5) (pv 1)) (pg_sub (pv 2) (pv 4) set_list))
        (pss_one (ps_ret (pe_op op_mod (pv 5) (pv 1)))))
        pss_nil)
      (pss_cons (ps_set (i := 6) sc_draw.nd rfl (.inl rfl) (pe_op op_mod (pe_op op_add (pe_op op_add (pe_op op_mul (pe_op op_mod (pv 5) pe_int) pe_int) (pe_op op_mul (pe_op op_mul (pv 3) (pv 3)) pe_int)) pe_int) pe_int))
      (pss_cons (ps_set (i := 6) sc_draw.nd rfl (.inl rfl) (pe_op op_mod (pe_op op_mul (pv 6) (pv 6)) pe_int))
      (pss_cons (ps_set (i := 6) sc_draw.nd rfl (.inl rfl) (pe_op op_mod (pe_op op_mul (pv 6) (pv 6)) pe_int))
      (pss_one (ps_ret (pe_op op_mod (pv 6) (pv 1)))))))))))), ?_⟩
    have ne := pu.ne
    obtain ⟨hp, cs, cne, c63, hc⟩ := id pu
    -- cells, turn = purse
    refine ⟨.ref p, rfl, p, _, rfl, sq_of hp, rfl, _, _, rfl, _, _, rfl, rfl, ?_⟩
    have cl : 0 < cs.length := List.length_pos_iff.mpr cne
    have lenE : Ev (tCB (rLenS K) (tCons (tVar 2) tNil)) [some (.ref p), some (vi n), some (.ref c), some (vi t), none, none, none] H (.int (cs.length : Int)) := by
      have := ev_len (K := K) (σ := [some (.ref p), some (vi n), some (.ref c), some (vi t), none, none, none]) (ta := tVar 2) (ev_var rfl) (sq_of hc)
      rw [List.length_map] at this
      exact this
    refine q_asg (v := vi (t % cs.length)) (ev_is (ev_op (ev_var rfl) lenE (rv_I (by show (0 : Int) < (cs.length : Int); omega))) (by show V.int ((t : Int) % (cs.length : Int)) = V.int ((t % cs.length : Nat) : Int); rw [Int.natCast_emod])) fun H1 e1 => ?_
    have ai : t % cs.length < cs.length := Nat.mod_lt _ cl
    refine q_asg (v := .int cs[t % cs.length]) (ev_op (ev_var rfl) (ev_var rfl) (rv_ixL (ex_l e1 (sq_of hc)) (atI_vi (by rw [List.getElem?_map, List.getElem?_eq_getElem ai]; rfl)))) fun H2 e2 => ?_
    have e02 := e1.trans e2
    -- purse[1] = turn + 1
    refine q_setL (j := 1) (e02 _ _ hp) (ev_op (ev_var rfl) ev_c rv_I0) (ev_var rfl) ev_c (by show 1 < 2; decide) fun H3 e3 => ?_
    have e03 := e02.trans e3
    have hp4 : (upd H3 p (.lst [.ref c, vi (t + 1)])) p = some (.lst [.ref c, vi (t + 1)]) := upd_same
    have hc4 : (upd H3 p (.lst [.ref c, vi (t + 1)])) c = some (.lst (cs.map V.int)) := by rw [upd_ne (Ne.symm ne)]; exact e03 _ _ hc
    have off4 : Off H (upd H3 p (.lst [.ref c, vi (t + 1)])) p c := fun b o b1 b2 hb => by rw [upd_ne b1]; exact e03 _ _ hb
    have st : (upd H3 p (.lst (List.set [V.ref c, vi t] 1 (V.int ((t : Int) + 1))))) = upd H3 p (.lst [.ref c, vi (t + 1)]) := by
      show upd H3 p (.lst [.ref c, .int ((t : Int) + 1)]) = upd H3 p (.lst [.ref c, .int ((t + 1 : Nat) : Int)])
      rw [Int.natCast_add]
      rfl
    rw [st]
    generalize upd H3 p (.lst [.ref c, vi (t + 1)]) = H4 at hp4 hc4 off4
    have pu4 : Pur H4 p c (t + 1) := ⟨hp4, cs, cne, c63, hc4⟩
    refine q_when (et_test (ev_op (ev_var rfl) (ev_op ev_c ev_c (rv_I ⟨by decide, by decide, by decide⟩)) rv_I0)) (fun _ H5 e5 => ?_) (fun _ H5 e5 => ?_)
    · refine q_setL (e5 _ _ hc4) (ev_op (ev_var rfl) (ev_var rfl) (rv_I ⟨by omega, by omega⟩)) (ev_var rfl) (ev_var rfl) (by rw [List.length_map]; exact ai) fun H6 e6 => ?_
      obtain ⟨k, hk, ek⟩ := vi_mod (x := cs[t % cs.length]) n1
      refine s_ret (v := vi k) (ev_is (ev_op (ev_var rfl) (ev_var rfl) (rv_I (by show (0 : Int) < (n : Int); omega))) ek) fun H7 e7 => q k H7 hk (fun b o b1 b2 hb => e7 _ _ (by rw [upd_ne b2]; exact e6 _ _ (e5 _ _ (off4 b o b1 b2 hb)))) ⟨e7 _ _ (by rw [upd_ne ne]; exact e6 _ _ (e5 _ _ hp4)), cs.set (t % cs.length) (cs[t % cs.length] / (n : Int)), ?_, ?_, ?_⟩
      · intro z
        have := congrArg List.length z
        rw [List.length_set] at this
        have z0 : cs.length = 0 := this
        omega
      · rw [List.length_set]; exact c63
      · refine e7 _ _ ?_
        rw [upd_same, List.map_set]
    · refine q_asg (ev_op (ev_op (ev_op (ev_op (ev_op (ev_var rfl) ev_c (rv_I (by decide))) ev_c (rv_I (.inr ⟨by decide, by decide⟩))) (ev_op (ev_op (ev_var rfl) (ev_var rfl) (rv_I (.inl ⟨by omega, by omega⟩))) ev_c (rv_I (.inr ⟨by decide, by decide⟩))) rv_I0) ev_c rv_I0) ev_c (rv_I (by decide))) fun H6 e6 => ?_
      have small : ∀ x m : Int, 0 < m → m < 2 ^ 40 → CMul (x % m) (x % m) := fun x m h1 h2 => .inl ⟨by have := Int.emod_nonneg x (show m ≠ 0 by omega); omega, by have := Int.emod_lt_of_pos x h1; omega⟩
      refine q_asg (ev_op (ev_op (ev_var rfl) (ev_var rfl) (rv_I (small _ _ (by decide) (by decide)))) ev_c (rv_I (by decide))) fun H7 e7 => ?_
      refine q_asg (ev_op (ev_op (ev_var rfl) (ev_var rfl) (rv_I (small _ _ (by decide) (by decide)))) ev_c (rv_I (by decide))) fun H8 e8 => ?_
      · have e49 := ((e5.trans e6).trans e7).trans e8
        have fin : ∀ x : Int, tRet (tOp (rI (fun _ j => 0 < j) fun i j => .int (i % j)) (tVar 6) (tVar 1)) { nx := fun _ H' => Q .non H', rt := Q } [some (.ref p), some (vi n), some (.ref c), some (vi t), some (vi (t % cs.length)), some (.int cs[t % cs.length]), some (.int x)] H8 := fun x => by
          obtain ⟨k, hk, ek⟩ := vi_mod (x := x) n1
          exact s_ret (v := vi k) (ev_is (ev_op (ev_var rfl) (ev_var rfl) (rv_I (by show (0 : Int) < (n : Int); omega))) ek) fun Ha ea => q k Ha hk (fun b o b1 b2 hb => (e49.trans ea) _ _ (off4 b o b1 b2 hb)) (pu4.ex (e49.trans ea))
        exact fin _
/-- _law_draw(purse, e), e worth n -/
theorem do_draw {σ : L2.St} {H : Hp} {ta tb : TE} {p c : Addr} {t n : Nat} {E : XK} {Q : VK} (hp : Ev ta σ H (.ref p)) (hn : Ev tb σ H (vi n)) (pu : Pur H p c t) (t1 : t ≤ 100000) (n1 : 1 ≤ n) (n2 : n ≤ 1000) (q : ∀ k H', k < n → Off H H' p c → Pur H' p c (t + 1) → Q (vi k) H') :
    tCall sp_draw [] E (tCons ta (tCons tb tNil)) σ H Q :=
  ea_cons hp (ea_cons hn ea_nil) H (Ex.refl H) _ fun H1 e1 => ⟨p, c, t, n, rfl, pu.ex e1, t1, n1, n2, fun k H' hk o p' => q k H' hk ((Off.of_ex e1).trans o) p'⟩
end
end K70
end
section
namespace K70
open PySem PySem.Spec PyProof.Rows L2 Evl RZ Dw M20
theorem Off.sql {K : PySem.W.Frag} {H H' : Hp} {p c l : Addr} {xs : List V} (o : Off H H' p c) (h1 : l ≠ p) (h2 : l ≠ c) (h : SqL K H l xs) : SqL K H' l xs := by
  rcases h with (h | ⟨ob, h⟩) | h
  · exact .inl (.inl (o _ _ h1 h2 h))
  · exact .inl (.inr ⟨ob, o _ _ h1 h2 h⟩)
  · exact .inr h
theorem Off.upd {H H' : Hp} {p c l : Addr} {o : HO} (f : Off H H' p c) (n : H l = none) : Off H (upd H' l o) p c := fun b u b1 b2 h => by
  rw [upd_ne (ne_of_none h n)]
  exact f b u b1 b2 h
theorem Off.back {H H' : Hp} {p c l : Addr} (f : Off H H' p c) (h1 : l ≠ p) (h2 : l ≠ c) (n : H' l = none) : H l = none := by
  cases e : H l with
  | none => rfl
  | some o =>
    rw [f l o h1 h2 e] at n
    cases n
theorem Pur.upd {H : Hp} {p c l : Addr} {t : Nat} {o : HO} (h : Pur H p c t) (h1 : l ≠ p) (h2 : l ≠ c) : Pur (upd H l o) p c t := ⟨by rw [upd_ne (Ne.symm h1)]; exact h.1, let ⟨cs, a, b, d⟩ := h.2; ⟨cs, a, b, by rw [upd_ne (Ne.symm h2)]; exact d⟩⟩
section
variable {P : Program} {w : World} {K : PySem.W.Frag} {mg : Str → Option Value} {base : Heap}
section
variable {σ : L2.St} {H : Hp} {D : Ends} {tu tz : TS}
end
/-! ### a list mixed -/

end
/-- a comprehension whose element may do anything, by what holds between its turns -/
theorem do_lcIt {J : It} {n : Nat} {G : Hp → Prop} {Y : Nat → Hp → V → Hp → Prop} {wi : TI} {g : TG} {te : TE} {σ : L2.St} {H : Hp} {vs : List Nat} {Q : VK} (w : Walk J n G Y) (hw0 : ∀ R : It → Hp → Prop, (∀ H1, Ex H H1 → R J H1) → wi σ H R) (Pv : Addr → Nat → Hp → Prop)
    (h0 : ∀ D H1, Ex H H1 → H1 D = none → Pv D 0 (upd H1 D (.lst []))) (hG : ∀ D i H', i ≤ n → Pv D i H' → G H')
    (hs : ∀ D i x H' H'', i < n → Pv D i H' → Y i H' x H'' → g x (wipe σ vs) H'' fun σ2 H2 => wipe σ2 vs = wipe σ vs ∧ if true = true then te σ2 H2 fun y H4 => ∃ acc, H4 D = some (.lst acc) ∧ acc.length < sizeLine ∧ Pv D (i + 1) (upd H4 D (.lst (acc ++ [y]))) else Pv D (i + 1) H2)
    (hd : ∀ D H', Pv D n H' → Q (.ref D) H') : tLc wi g tYes te vs σ H Q :=
  hw0 _ fun H1 e1 Dl nD => lc_it w (Pv Dl) (h0 Dl H1 e1 nD) (hG Dl) (fun i x H2 H3 hi p y => hs Dl i x H2 H3 hi p y) (fun H2 p => hd Dl H2 p)
theorem do_set {i : Nat} {te : TE} {tz : TS} {D : Ends} {σ : L2.St} {H : Hp} (h : te σ H fun x H1 => tz D (σ.set i (some x)) H1) : tSeq (tAsg te (gName i)) tz D σ H := h
/-- something put behind a list -/
theorem do_app {K : PySem.W.Frag} {ta te : TE} {l : Addr} {xs : List V} {D : Ends} {σ : L2.St} {H : Hp} (hl : H l = some (.lst xs)) (ha : Ev ta σ H (.ref l))
    (h : ∀ H1, Ex H H1 → te σ H1 fun v H2 => ∃ a ys y, V.ref l = .ref a ∧ [v] = [y] ∧ H2 a = some (.lst ys) ∧ ys.length < sizeLine ∧ D.nx σ (upd H2 a (.lst (ys ++ [y])))) : tDrop (tBM K "list" rAppend ta (tCons te tNil)) D σ H :=
  ha H (Ex.refl H) _ fun H1 e1 => ⟨Or.inl ⟨rfl, xs, sq_of (e1 l _ hl)⟩, h H1 e1⟩
end K70
end
section
namespace K70
open PySem PySem.Spec PyProof.Rows L2 Evl RZ Dw M20 M25
section
variable {P : Program} {w : World} {K : PySem.W.Frag} {mg : Str → Option Value} {base : Heap}
/-! ### rows of numbers -/
/-- a list of rows -/
def RowsL (K : PySem.W.Frag) (H : Hp) (v : V) (rs : List (List Nat)) : Prop := ∃ a vs, v = .ref a ∧ H a = some (.lst vs) ∧ Paired (Nats K H) vs rs
theorem RowsL.ex {H H' : Hp} {v : V} {rs : List (List Nat)} (e : Ex H H') (h : RowsL K H v rs) : RowsL K H' v rs := let ⟨a, vs, q, s, p⟩ := h; ⟨a, vs, q, e _ _ s, paired_imp (fun _ _ z => z.ex e) p⟩
theorem pairs_rows (L : List (List Nat)) (m : Nat) : ((List.range L.length).flatMap fun i => (List.range m).map fun k => (i, k)).map (fun p => L.getD p.1 [] ++ [p.2]) = L.flatMap fun r => (List.range m).map fun k => r ++ [k] := by
  rw [List.map_flatMap]
  have e : (List.range L.length).map (fun i => L.getD i []) = L := by
    apply List.ext_getElem?
    intro i
    by_cases h : i < L.length
    · rw [List.getElem?_map, List.getElem?_range h]
      show some (L.getD i []) = _
      rw [List.getD_eq_getElem?_getD, List.getElem?_eq_getElem h]
      rfl
    · rw [List.getElem?_eq_none_iff.mpr (by simp; omega), List.getElem?_eq_none_iff.mpr (by omega)]
  conv => rhs; rw [← e, List.flatMap_map]
  congr 1
  funext i
  rw [List.map_map]
  rfl
theorem rows_length (n : Nat) : ∀ p, (rows n p).length = n ^ p
  | 0 => rfl
  | p + 1 => by
    show ((rows n p).flatMap _).length = _
    rw [List.length_flatMap, Nat.pow_succ]
    have : (rows n p).map (fun r => ((List.range n).map fun k => r ++ [k]).length) = List.replicate (rows n p).length n := by
      rw [List.eq_replicate_iff]
      refine ⟨by rw [List.length_map], fun b hb => ?_⟩
      obtain ⟨r, _, rfl⟩ := List.mem_map.mp hb
      simp
    rw [this, List.sum_replicate_nat, rows_length n p]
theorem stb_nats {β : Type} (f : β → List Nat) : StbB (fun v b H => Nats K H v (f b)) := fun _ _ _ _ e h => h.et e.et
def sp_rows_below (K : PySem.W.Frag) : Sp := spF (fun (p : Nat × Nat) vs _ => vs = [vi p.1, vi p.2] ∧ p.1 ≤ 6 ∧ p.2 ≤ 2) (fun p v H => RowsL K H v (rows p.1 p.2))
theorem c_rows_below (T : Txt mg) (D : Df K mg "rows_below" s_rows_below ["size", "many"]) : Cl P w K mg base 1 "rows_below" (sp_rows_below K) := by
  refine cl_of (k := 0) D sc_rows_below (fun vs H Q E h => ?_) (fun f cdv A outer s H vs Q E hr h => ?_)
  · obtain ⟨p, ⟨rfl, _⟩, _⟩ := h
    rfl
  · obtain ⟨⟨n, m⟩, ⟨rfl, hn, hm⟩, q⟩ := h
    refine ⟨_, (pss_cons (ps_set (i := 2) sc_rows_below.nd rfl (.inl rfl) (pe_lst (pa_cons (pe_tup pa_nil) pa_nil)))
      (pss_cons (ps_for PassesOwn.never (by rfl) (pi_range1 (by rfl) T.z_range (pa_cons (pv 1) pa_nil)) (pg_name (i := 3) sc_rows_below.nd rfl (.inl rfl))
        (pss_one (ps_setLc2 (i := 2) (own := [("row", 4), ("number", 5)]) (g := (gName 4)) (g1 := (gName 5)) (vs1 := [5]) (by rfl) sc_rows_below.nd rfl rfl (sw_true rfl rfl rfl (by decide +kernel)) (pi_list (pv 2)) (blkOk_by (own := [("row", 4), ("number", 5)]) (N := ["size", "many", "rows", "step", "row", "number"]) (sc := (defScope s_rows_below)) (by decide +kernel)) (by decide) (fun _ _ _ _ _ => (pg_name (i := 4) sc_rows_below.nd rfl (.inl rfl))) (fun _ _ _ _ _ => pts_nil) (fun _ _ _ _ _ => (pi_range1 (by rfl) T.z_range (pa_cons (pv 0) pa_nil))) (fun _ _ _ _ _ => (pg_name (i := 5) sc_rows_below.nd rfl (.inl rfl))) (fun _ _ _ _ _ => pts_nil) (fun _ _ _ _ _ => (pe_op (op_catAK K) (pv 4) (pe_tup (pa_cons (pv 5) pa_nil)))))))
      (pss_one (ps_ret (pv 2))))), ?_⟩
    replace hn : n ≤ 6 := hn
    replace hm : m ≤ 2 := hm
    refine do_set (do_lst (do_cons (do_tup (do_nil ⟨Nat.zero_le _, fun r nr => do_nil ⟨by show 1 ≤ sizeLine; decide, fun f0 nf0 => ?_⟩⟩))))
    have e1 : Ex H (upd (upd H r (.tup [])) f0 (.lst [.ref r])) := (Ex.new nr).trans (Ex.new nf0)
    have nfH : H f0 = none := fresh_back (Ex.new nr) nf0
    have hf0 : (upd (upd H r (.tup [])) f0 (.lst [.ref r])) f0 = some (.lst [.ref r]) := upd_same
    have hr0 : (upd (upd H r (.tup [])) f0 (.lst [.ref r])) r = some (.tup []) := Ex.new nf0 _ _ upd_same
    generalize upd (upd H r (.tup [])) f0 (.lst [.ref r]) = H1 at *
    refine q_forR1 (n := (m : Int)) (ea_cons (ev_var rfl) ea_nil) ⟨by omega, by omega⟩ (fun i σ H' => Ex H H' ∧ ∃ (v : V) (y3 : Option V), RowsL K H' v (rows n i) ∧ (∀ d, v = .ref d → H d = none) ∧ σ = [some (vi n), some (vi m), some v, y3, none, none])
      (fun H2 e2 => ⟨e1.trans e2, .ref f0, none, ⟨f0, [.ref r], rfl, e2 _ _ hf0, .cons ⟨r, rfl, st_of (e2 _ _ hr0)⟩ .nil⟩, (fun d z => V.ref.inj z ▸ nfH), rfl⟩) (fun i σ H2 hi ⟨e2, v, y3, hv, hnv, hσ⟩ => ?_) (fun σ H2 ⟨e2, v, y3, hv, hnv, hσ⟩ => ?_)
    · subst hσ
      obtain ⟨a, us, rfl, ha, pus⟩ := hv
      have li : us.length = n ^ i := by rw [paired_len pus, rows_length]
      have lu : us.length ≤ 10000 := by
        rw [li]
        have i1 : i ≤ 1 := by omega
        have : n ^ i ≤ n ^ 1 ∨ i = 0 := by
          rcases Nat.eq_zero_or_pos i with z | z
          · exact .inr z
          · have : i = 1 := by omega
            rw [this]; exact .inl (Nat.le_refl _)
        rcases this with z | z
        · rw [Nat.pow_one] at z; omega
        · rw [z, Nat.pow_zero]; omega
      refine s_asgLP (elp_lc2 (K := K) (ev_var rfl) (sq_of ha) (fun x H3 e3 => ea_cons (ev_var rfl) ea_nil) lu (by omega) (fun v p H' => Nats K H' v ((rows n i).getD p.1 [] ++ [p.2])) (stb_nats (K := K) _) (fun _ => rfl) (fun _ _ => rfl) (fun j x k H3 e3 hx hk => ?_)) fun p ws H3 np e3 hp hw => ⟨e2.trans e3, .ref p, _, ⟨p, ws, rfl, hp, ?_⟩, (fun d z => V.ref.inj z ▸ fresh_back e2 np), rfl⟩
      · obtain ⟨row, hrow, xa, rfl, hxa⟩ := paired_at pus hx
        have er : (rows n i).getD j [] = row := by rw [List.getD_eq_getElem?_getD, hrow]; rfl
        have lr : row.length = i := (rows_of (List.mem_iff_getElem?.mpr ⟨j, hrow⟩)).1
        rw [er]
        refine tv_nats (tv_is (tv_cat (tv_ev (ev_var rfl) (ex_t e3 hxa)) (tv_tup (ea_cons (ev_var rfl) ea_nil) (by show 1 ≤ 100000; decide)) ?_) ?_)
        · rw [List.length_map, lr]
          show i + 1 ≤ 100000
          omega
        · rw [List.map_append]
          rfl
      · rw [paired_len pus] at hw
        have := paired_map (S := Nats K H3) (f := fun p : Nat × Nat => (rows n i).getD p.1 [] ++ [p.2]) (fun _ _ z => z) hw
        rw [pairs_rows] at this
        exact this
    · subst hσ
      rw [Int.toNat_natCast] at hv
      exact s_ret (ev_var rfl) fun H3 e3 => q _ H3 (e2.trans e3) (hv.ex e3) hnv
end
end K70
end
section
namespace K70
open PySem PySem.Spec PyProof.Rows L2 Evl RZ Dw M20 M25 CL
section
variable {σ : L2.St} {H : Hp} {ta tb te : TE}
theorem ev_mulN {a b : Nat} (ha : Ev ta σ H (vi a)) (hb : Ev tb σ H (vi b)) (la : a ≤ 1000) (lb : b ≤ 1000) : Ev (tOp (rI CMul fun i j => .int (i * j)) ta tb) σ H (vi (a * b)) := ev_is (ev_op ha hb (rv_I (.inl ⟨by omega, by omega⟩))) (by show V.int ((a : Int) * (b : Int)) = V.int ((a * b : Nat) : Int); rw [Int.natCast_mul])
theorem ev_addN {a b : Nat} (ha : Ev ta σ H (vi a)) (hb : Ev tb σ H (vi b)) : Ev (tOp (rI0 fun i j => .int (i + j)) ta tb) σ H (vi (a + b)) := ev_is (ev_op ha hb rv_I0) (by show V.int ((a : Int) + (b : Int)) = V.int ((a + b : Nat) : Int); rw [Int.natCast_add])
end
section
variable {P : Program} {w : World} {K : PySem.W.Frag} {mg : Str → Option Value} {base : Heap}
def sp_place_of_row (K : PySem.W.Frag) : Sp := spX (fun (p : Nat × List Nat) vs H => (∃ l, vs = [vi p.1, .ref l] ∧ H l = some (.lst (p.2.map vi))) ∧ p.1 ≤ 6 ∧ p.2.length ≤ 2 ∧ ∀ k ∈ p.2, k < p.1) (fun p v _ => v = vi (plc p.1 p.2))
theorem c_place_of_row (T : Txt mg) (D : Df K mg "place_of_row" s_place_of_row ["size", "row"]) : Cl P w K mg base 1 "place_of_row" (sp_place_of_row K) := by
  refine cl_of (k := 0) D sc_place_of_row (fun vs H Q E h => ?_) (fun f cdv A outer s H vs Q E hr h => ?_)
  · obtain ⟨p, ⟨⟨l, rfl, _⟩, _⟩, _⟩ := h
    rfl
  · obtain ⟨⟨n, ns⟩, ⟨⟨l, rfl, hl⟩, n6, l2, low⟩, q⟩ := h
    refine ⟨_, (pss_cons (ps_set (i := 2) sc_place_of_row.nd rfl (.inl rfl) pe_int)
      (pss_cons (ps_for PassesOwn.never (by rfl) (pi_list (pv 1)) (pg_name (i := 3) sc_place_of_row.nd rfl (.inl rfl))
        (pss_one (ps_set (i := 2) sc_place_of_row.nd rfl (.inl rfl) (pe_op op_add (pe_op op_mul (pv 2) (pv 0)) (pv 3)))))
      (pss_one (ps_ret (pv 2))))), ?_⟩
    replace hl : H l = some (.lst (ns.map vi)) := hl
    replace n6 : n ≤ 6 := n6
    replace l2 : ns.length ≤ 2 := l2
    replace low : ∀ k ∈ ns, k < n := low
    refine q_asg (v := vi 0) ev_c fun H1 e1 => ?_
    refine q_forL (K := K) (ev_var rfl) (sq_of (e1 _ _ hl)) (fun i σ H' => Ex H H' ∧ ∃ y : Option V, σ = [some (vi n), some (.ref l), some (vi (plc n (ns.take i))), y]) (fun H2 e2 => ⟨e1.trans e2, none, rfl⟩) (fun i σ H' _ ⟨e, _⟩ => sq_of (e _ _ hl)) (fun i x σ H2 hx hP => ?_) (fun σ H2 hP => ?_)
    · obtain ⟨e2, y, hσ⟩ := hP
      subst hσ
      rw [List.getElem?_map] at hx
      cases hk : ns[i]? with
      | none =>
        rw [hk] at hx
        cases hx
      | some k =>
        rw [hk] at hx
        cases Option.some.inj hx
        have small : plc n (ns.take i) ≤ 1000 := by
          have a := plc_low (n := n) (ns := ns.take i) (fun k h => low k (List.mem_of_mem_take h)) (by rw [List.length_take]; omega)
          have b : n ^ (ns.take i).length ≤ 6 ^ (ns.take i).length := Nat.pow_le_pow_left n6 _
          have c : 6 ^ (ns.take i).length ≤ 6 ^ 2 := Nat.pow_le_pow_right (by decide) (by rw [List.length_take]; omega)
          omega
        refine s_asg (v := vi (plc n (ns.take (i + 1)))) (ev_is (ev_addN (ev_mulN (ev_var rfl) (ev_var rfl) small (by omega)) (ev_var rfl)) (by rw [plc_take hk])) fun H3 e3 => ?_
        exact ⟨e2.trans e3, _, rfl⟩
    · obtain ⟨e2, y, hσ⟩ := hP
      subst hσ
      rw [List.length_map, List.take_length]
      exact s_ret (ev_var rfl) fun H3 e3 => q _ H3 (e2.trans e3) rfl
def sp_is_row (K : PySem.W.Frag) : Sp := spX (fun (p : Nat × List Nat) vs H => (∃ v, vs = [v, vi p.2.length, vi p.1] ∧ Nats K H v p.2) ∧ (∀ k ∈ p.2, k < p.1) ∧ p.2.length ≤ 1000) (fun _ v _ => v = .bl true)
theorem c_is_row (T : Txt mg) (D : Df K mg "is_row" s_is_row ["thing", "many", "size"]) (c_is_below : Cl P w K mg base 2 "is_below" sp_is_below) : Cl P w K mg base 3 "is_row" (sp_is_row K) := by
  refine cl_of (k := 2) D sc_is_row (fun vs H Q E h => ?_) (fun f cdv A outer s H vs Q E hr h => ?_)
  · obtain ⟨p, ⟨⟨v, rfl, _⟩, _⟩, _⟩ := h
    rfl
  · obtain ⟨⟨n, ns⟩, ⟨⟨v, rfl, a, rfl, ha⟩, low, few⟩, q⟩ := h
    refine ⟨_, (pss_one (ps_ret (pe_and (pe_callB call_isi (by rfl) T.z_isinstance (by decide +kernel) (pa_cons (pv 0) (pa_cons (pe_ty "tuple" (by rfl) T.z_tuple (by decide +kernel)) pa_nil))) (pe_and (pe_cmpR op_eq (pe_callB call_len_seq (by rfl) T.z_len PySem.boot_len (pa_cons (pv 0) pa_nil)) (pv 1) (nomark _)) (pe_one (pe_callB (cr_all rfl) (by rfl) T.z_all (by decide +kernel) (pa_cons (pe_lc (own := [("number", 3)]) (g := (gName 3)) (by rfl) sc_is_row.nd (pi_tup (pv 0)) (blkOk_by (own := [("number", 3)]) (N := ["thing", "many", "size", "number"]) (sc := (defScope s_is_row)) (by decide +kernel)) (fun _ _ _ _ _ => (pg_name (i := 3) sc_is_row.nd rfl (.inl rfl))) (fun _ _ _ _ _ => pts_nil) (fun _ _ _ _ _ => (pe_cl c_is_below hr (by first | decide | omega) (by rfl) (pa_cons (pv 3) (pa_cons (pv 2) pa_nil))))) pa_nil))))))), ?_⟩
    replace ha : SqT K H a (ns.map vi) := ha
    replace low : ∀ k ∈ ns, k < n := low
    replace few : ns.length ≤ 1000 := few
    refine s_ret (v := .bl true) (ev_is (ev_andV (a := true) (ev_isi (ev_var rfl) ev_c (.ty _) (fun _ e => tyx_tup (ex_t e ha)) kit_tt) (fun _ => ev_andV (ev_op (ev_lenT (ev_var rfl) ha) (ev_var rfl) (rv_eq rfl)) (fun _ => ev_all (bs := List.replicate ns.length true) ?_))) ?_) fun H1 e1 => q _ H1 e1 rfl
    · have z := el_lcT (K := K) (tl := tVar 0) (te := tCall sp_is_below [] E0 (tCons (tVar 3) (tCons (tVar 2) tNil))) (σ := [some (.ref a), some (vi ns.length), some (vi n), none]) (j := 3) (vs := [3]) (ev_var rfl) ha (fun _ => V.bl true) (by rw [List.length_map]; omega) (fun _ => rfl) (fun i x H1 e1 hx => by
        rw [List.getElem?_map] at hx
        cases hk : ns[i]? with
        | none =>
          rw [hk] at hx
          cases hx
        | some k =>
          rw [hk] at hx
          cases Option.some.inj hx
          have lk := low k (List.mem_iff_getElem?.mpr ⟨i, hk⟩)
          exact ev_callV (v := .bl true) (((k : Nat) : Int), ((n : Nat) : Int)) (ea_cons (ev_var rfl) (ea_cons (ev_var rfl) ea_nil)) (fun _ _ => ⟨rfl, by show (0 : Int) ≤ (k : Int); omega, by show (k : Int) < (n : Int); omega⟩) (fun _ _ p => p))
      have e : (List.range (ns.map vi).length).map (fun _ => V.bl true) = (List.replicate ns.length true).map V.bl := by
        rw [List.length_map, List.map_replicate, List.map_const', List.length_range]
      rw [e] at z
      exact z
    · rw [List.length_map]
      simp
end
end K70
end
section
namespace K70
open PySem PySem.Spec PyProof.Rows L2 Evl RZ Dw M20 M25 CL
section
variable {P : Program} {w : World} {K : PySem.W.Frag} {mg : Str → Option Value} {base : Heap}
/-! ### rising lists -/
def sp_rising : Sp := fun vs H Q _ => ∃ n : Nat, vs = [vi n] ∧ n ≤ 6 ∧ ∀ a as H', Ex H H' → LLs H H' a as (sub n) → Q (.ref a) H'
theorem sub_few {n : Nat} (h : n ≤ 6) : (sub n).length ≤ 64 := by
  rw [subs_len]
  exact Nat.pow_le_pow_right (by decide) h
theorem c_rising_lists (T : Txt mg) (D : Df K mg "rising_lists" s_rising_lists ["size"]) : Cl P w K mg base 1 "rising_lists" sp_rising := by
  refine cl_of (k := 0) D sc_rising_lists (fun vs H Q E h => ?_) (fun f cdv A outer s H vs Q E hr h => ?_)
  · obtain ⟨n, rfl, _⟩ := h
    rfl
  · obtain ⟨n, rfl, n6, q⟩ := h
    refine ⟨_, (pss_cons (ps_set (i := 1) sc_rising_lists.nd rfl (.inl rfl) (pe_lst (pa_cons (pe_lst pa_nil) pa_nil)))
      (pss_cons (ps_for PassesOwn.never (by rfl) (pi_range1 (by rfl) T.z_range (pa_cons (pv 0) pa_nil)) (pg_name (i := 2) sc_rising_lists.nd rfl (.inr rfl))
        (pss_one (ps_set (i := 1) sc_rising_lists.nd rfl (.inl rfl) (pe_op op_cat (pv 1) (pe_lc (own := [("one", 3)]) (g := (gName 3)) (by rfl) sc_rising_lists.nd (pi_list (pv 1)) (blkOk_by (own := [("one", 3)]) (N := ["size", "lists", "number", "one"]) (sc := (defScope s_rising_lists)) (by decide +kernel)) (fun _ _ _ _ _ => (pg_name (i := 3) sc_rising_lists.nd rfl (.inl rfl))) (fun _ _ _ _ _ => pts_nil) (fun _ _ _ _ _ => (pe_op op_cat (pv 3) (pe_lst (pa_cons (pv 2) pa_nil)))))))))
      (pss_one (ps_ret (pv 1))))), ?_⟩
    refine do_set (do_lst (do_cons (do_lst (do_nil ⟨Nat.zero_le _, fun r nr => do_nil ⟨by show 1 ≤ sizeLine; decide, fun f0 nf0 => ?_⟩⟩))))
    have e1 : Ex H (upd (upd H r (.lst [])) f0 (.lst [.ref r])) := (Ex.new nr).trans (Ex.new nf0)
    have rf : r ≠ f0 := fun z => by rw [z, upd_same] at nf0; cases nf0
    have ll1 : LLs H (upd (upd H r (.lst [])) f0 (.lst [.ref r])) f0 [r] (sub 0) := ⟨upd_same, by
      have := nf0
      rw [upd_ne (Ne.symm rf)] at this
      exact this, .cons ⟨by rw [upd_ne rf, upd_same]; rfl, nr⟩ .nil, List.pairwise_singleton _ _, fun z => rf (List.mem_singleton.mp z).symm⟩
    generalize upd (upd H r (.lst [])) f0 (.lst [.ref r]) = H1 at *
    refine q_forR1 (n := (n : Int)) (ea_cons (ev_var rfl) ea_nil) ⟨by omega, by omega⟩ (fun i σ H' => Ex H H' ∧ ∃ a as y, LLs H H' a as (sub i) ∧ σ = [some (vi n), some (.ref a), y, none])
      (fun H2 e2 => ⟨e1.trans e2, f0, [r], none, ll1.ex e2, rfl⟩) (fun i σ H2 hi ⟨e2, a, as, y, ll, hσ⟩ => ?_) (fun σ H2 ⟨e2, a, as, y, ll, hσ⟩ => ?_)
    · subst hσ
      have hi' : i < n := by omega
      have ls : (sub i).length ≤ 64 := sub_few (by omega)
      have la := ll.len
      refine do_asg (do_op (do_ev (ev_var rfl) fun H3 e3 => do_lcNew (K := K) (a := a) (xs := as.map V.ref) (L := (sub i).map (· ++ [i])) (ev_var rfl) (sq_of (e3 _ _ ll.at_)) (by rw [List.length_map, List.length_map, la]) (by rw [List.length_map]; omega) (fun _ => rfl) (fun j x ns H4 e4 hx hns => ?_) (fun p bs H4 e4 l2 => ?_)))
      · rw [List.getElem?_map] at hx hns
        cases hb : as[j]? with
        | none => rw [hb] at hx; cases hx
        | some b =>
          rw [hb] at hx
          cases Option.some.inj hx
          obtain ⟨ms, hms, q, _⟩ := paired_at ll.each hb
          rw [hms] at hns
          cases Option.some.inj hns
          show EvL _ _ H4 ((ms ++ [i]).map vi)
          rw [List.map_append]
          have up := sub_up (List.mem_iff_getElem?.mpr ⟨j, hms⟩)
          have lm : ms.length ≤ i := by
            have := sub_le (R := ms) (F := List.range i) up.nodup fun k hk => List.mem_range.mpr (up.2 k hk)
            rw [List.length_range] at this
            exact this
          intro H5 e5 Q' q'
          refine do_op (do_ev (v := .ref b) (ev_var rfl) fun H6 e6 => do_evL (el_lst (ea_cons (ev_var rfl) ea_nil) (by show 1 ≤ 100000; decide)) fun r2 H7 nr2 e7 hr2 => ?_)
          exact ⟨b, r2, ms.map vi, [vi i], rfl, rfl, ((e3.trans e4).trans ((e5.trans e6).trans e7)) _ _ q, hr2, by rw [List.length_map]; exact sz_of (by show ms.length + 1 ≤ 100000; omega), fun l nl => q' l _ (fresh_back (e6.trans e7) nl) ((e6.trans e7).trans (Ex.new nl)) upd_same⟩
      · have l1 := ll.ex (e3.trans e4)
        have lb := l2.len
        rw [List.length_map] at lb
        refine ⟨a, p, as.map V.ref, bs.map V.ref, rfl, rfl, l1.at_, l2.at_, by rw [List.length_map, List.length_map]; exact sz_of (by omega), fun l nl => ?_⟩
        have e24 := (e3.trans e4).trans (Ex.new (o := .lst (as.map V.ref ++ bs.map V.ref)) nl)
        have e03 := e2.trans e3
        have dis : ∀ x ∈ as, ∀ y ∈ bs, x ≠ y := fun x hx y hy z => by
          obtain ⟨ns, _, q1, _⟩ := (ll.ex e3).some hx
          obtain ⟨_, _, _, q2⟩ := l2.some hy
          rw [← z, q1] at q2
          cases q2
        refine ⟨e2.trans e24, l, as ++ bs, _, ⟨by rw [upd_same, List.map_append], fresh_back ((e2.trans e3).trans e4) nl, ?_, List.nodup_append.mpr ⟨ll.nd, l2.nd, dis⟩, fun z => ?_⟩, rfl⟩
        · exact paired_app (paired_imp (fun _ _ z => ⟨Ex.new nl _ _ z.1, z.2⟩) l1.each) (paired_imp (fun _ _ z => ⟨Ex.new nl _ _ z.1, fresh_back e03 z.2⟩) l2.each)
        · rcases List.mem_append.mp z with z | z
          · obtain ⟨_, _, q1, _⟩ := l1.some z
            rw [q1] at nl; cases nl
          · obtain ⟨_, _, q1, _⟩ := l2.some z
            rw [q1] at nl; cases nl
    · subst hσ
      rw [Int.toNat_natCast] at ll
      exact s_ret (ev_var rfl) fun H3 e3 => q _ _ _ (e2.trans e3) (ll.ex e3)
/-! ### arguments among numbers -/
def sp_is_among (K : PySem.W.Frag) : Sp := spX (fun (p : List Nat × List Nat) vs H => (∃ u a, vs = [u, .ref a] ∧ Nats K H u p.1 ∧ SqL K H a (p.2.map vi)) ∧ p.1.length ≤ 1000) (fun p v _ => v = .bl (among p.1 p.2))
theorem all_map {α : Type} (f : α → Bool) : ∀ l : List α, (l.map f).all id = l.all f
  | [] => rfl
  | x :: l => by rw [List.map_cons, List.all_cons, List.all_cons, all_map f l]; rfl
theorem c_is_among (T : Txt mg) (D : Df K mg "is_among" s_is_among ["args", "numbers"]) : Cl P w K mg base 1 "is_among" (sp_is_among K) := by
  refine cl_of (k := 0) D sc_is_among (fun vs H Q E h => ?_) (fun f cdv A outer s H vs Q E hr h => ?_)
  · obtain ⟨p, ⟨⟨u, a, rfl, _⟩, _⟩, _⟩ := h
    rfl
  · obtain ⟨⟨r, S⟩, ⟨⟨u, a, rfl, ⟨ua, rfl, hu⟩, ha⟩, few⟩, q⟩ := h
    refine ⟨_, (pss_one (ps_ret (pe_callB (cr_all rfl) (by rfl) T.z_all (by decide +kernel) (pa_cons (pe_lc (own := [("arg", 2)]) (g := (gName 2)) (by rfl) sc_is_among.nd (pi_tup (pv 0)) (blkOk_by (own := [("arg", 2)]) (N := ["args", "numbers", "arg"]) (sc := (defScope s_is_among)) (by decide +kernel)) (fun _ _ _ _ _ => (pg_name (i := 2) sc_is_among.nd rfl (.inl rfl))) (fun _ _ _ _ _ => pts_nil) (fun _ _ _ _ _ => (pe_cmpR (op_in_seqK K) (pv 2) (pv 1) (by rfl)))) pa_nil)))), ?_⟩
    replace hu : SqT K H ua (r.map vi) := hu
    replace ha : SqL K H a (S.map vi) := ha
    replace few : r.length ≤ 1000 := few
    refine s_ret (v := .bl (among r S)) (ev_is (ev_all (bs := r.map fun k => decide (k ∈ S)) ?_) (by rw [all_map]; rfl)) fun H1 e1 => q _ H1 e1 rfl
    have z := el_lcT (K := K) (tl := tVar 0) (te := tOp (rIn K false) (tVar 2) (tVar 1)) (σ := [some (.ref ua), some (.ref a), none]) (j := 2) (vs := [2]) (ev_var rfl) hu (fun i => V.bl (decide (r.getD i 0 ∈ S))) (by rw [List.length_map]; omega) (fun _ => rfl) (fun i x H1 e1 hx => by
      rw [List.getElem?_map] at hx
      cases hk : r[i]? with
      | none => rw [hk] at hx; cases hx
      | some k =>
        rw [hk] at hx
        cases Option.some.inj hx
        rw [List.getD_eq_getElem?_getD, hk]
        exact ev_is (ev_op (ev_var rfl) (ev_var rfl) (rv_isL (K := K) (ex_l e1 ha) rfl (flat_vi S))) (by rw [inV_vi]; rfl))
    have e : (List.range (r.map vi).length).map (fun i => V.bl (decide (r.getD i 0 ∈ S))) = (r.map fun k => decide (k ∈ S)).map V.bl := by
      rw [List.length_map, List.map_map]
      apply List.ext_getElem?
      intro i
      by_cases hi : i < r.length
      · rw [List.getElem?_map, List.getElem?_range hi, List.getElem?_map, List.getElem?_eq_getElem hi]
        show some (V.bl (decide (r.getD i 0 ∈ S))) = some (V.bl (decide (r[i] ∈ S)))
        rw [List.getD_eq_getElem?_getD, List.getElem?_eq_getElem hi]
        rfl
      · rw [List.getElem?_eq_none_iff.mpr (by simp; omega), List.getElem?_eq_none_iff.mpr (by simp; omega)]
    rw [e] at z
    exact z
/-! ### the cells with their worths -/
def CellV (K : PySem.W.Frag) (H : Hp) (v : V) (c : Str × List Nat × Nat) : Prop := ∃ b x, v = .ref b ∧ SqT K H b [.str c.1, x, vi c.2.2] ∧ Nats K H x c.2.1
theorem CellV.et {H H' : Hp} {v : V} {c : Str × List Nat × Nat} (e : ET K H H') (h : CellV K H v c) : CellV K H' v c := let ⟨b, x, q, s, n⟩ := h; ⟨b, x, q, e _ _ s, n.et e⟩
/-- a list of cells -/
def CellsL (K : PySem.W.Frag) (H : Hp) (v : V) (cs : List (Str × List Nat × Nat)) : Prop := ∃ a vs, v = .ref a ∧ H a = some (.lst vs) ∧ Paired (CellV K H) vs cs
theorem CellsL.ex {H H' : Hp} {v : V} {cs : List (Str × List Nat × Nat)} (e : Ex H H') (h : CellsL K H v cs) : CellsL K H' v cs := let ⟨a, vs, q, s, p⟩ := h; ⟨a, vs, q, e _ _ s, paired_imp (fun _ _ z => CellV.et (Dw.Ex.et e) z) p⟩
abbrev MArg := List (Str × Nat) × Nat × List (List Nat)
def blk (n : Nat) (x : (Str × Nat) × List Nat) : List (Str × List Nat × Nat) := ((rows n x.1.2).zip x.2).map fun y => (x.1.1, y.1, y.2)
theorem blk_len {n : Nat} {x : (Str × Nat) × List Nat} (h : Tab n x.1.2 x.2) : (blk n x).length = n ^ x.1.2 := by
  unfold blk
  rw [List.length_map, List.length_zip, rows_len', h.len, Nat.min_self]
theorem pow_36 {n p : Nat} (n6 : n ≤ 6) (p2 : p ≤ 2) : n ^ p ≤ 36 := by
  have h1 : n ^ p ≤ 6 ^ p := Nat.pow_le_pow_left n6 p
  have h2 : 6 ^ p ≤ 6 ^ 2 := Nat.pow_le_pow_right (by decide) p2
  omega
theorem cws_few {n : Nat} {sg : List (Str × Nat)} {ts : List (List Nat)} (so : SigOk sg) (m : MdlOk sg n ts) (i : Nat) : (((sg.zip ts).take i).flatMap (blk n)).length ≤ 36 * i ∧ (((sg.zip ts).take i).flatMap (blk n)).length ≤ 144 := by
  have one : ∀ l : List ((Str × Nat) × List Nat), (∀ x ∈ l, x ∈ sg.zip ts) → (l.flatMap (blk n)).length ≤ 36 * l.length := fun l => by
    induction l with
    | nil => exact fun _ => Nat.zero_le _
    | cons x l ih =>
      intro h
      rw [List.flatMap_cons, List.length_append, List.length_cons]
      have a := ih fun y hy => h y (List.mem_cons_of_mem _ hy)
      obtain ⟨j, hj⟩ := List.mem_iff_getElem?.mp (h x (List.mem_cons_self ..))
      rw [List.getElem?_zip_eq_some] at hj
      obtain ⟨h1, e1⟩ := List.getElem?_eq_some_iff.mp hj.1
      obtain ⟨h2, e2⟩ := List.getElem?_eq_some_iff.mp hj.2
      have tb := m.tab j h1 h2
      rw [e1, e2] at tb
      have b := blk_len tb
      have c := pow_36 m.n6 (so.pl _ (List.mem_iff_getElem?.mpr ⟨j, hj.1⟩))
      omega
  have a := one ((sg.zip ts).take i) fun x hx => List.mem_of_mem_take hx
  have l4 := so.l4
  have lt : ((sg.zip ts).take i).length ≤ i := by rw [List.length_take]; omega
  have lz : ((sg.zip ts).take i).length ≤ 4 := by rw [List.length_take, List.length_zip]; omega
  constructor
  · exact Nat.le_trans a (Nat.mul_le_mul_left 36 lt)
  · exact Nat.le_trans a (Nat.mul_le_mul_left 36 lz)
def sp_cells (K : PySem.W.Frag) : Sp := spF (fun (p : MArg) vs H => (∃ u v, vs = [u, v] ∧ Sig K H u p.1 ∧ Mdl K H v p.2.1 p.2.2) ∧ SigOk p.1 ∧ MdlOk p.1 p.2.1 p.2.2) (fun p v H => CellsL K H v (cws p.2.1 p.1 p.2.2))
theorem c_cells_with_worths (T : Txt mg) (D : Df K mg "cells_with_worths" s_cells_with_worths ["signature", "model"]) (c_rows_below : Cl P w K mg base 1 "rows_below" (sp_rows_below K)) : Cl P w K mg base 2 "cells_with_worths" (sp_cells K) := by
  refine cl_of (k := 1) D sc_cells_with_worths (fun vs H Q E h => ?_) (fun f cdv A outer s H vs Q E hr h => ?_)
  · obtain ⟨p, ⟨⟨u, v, rfl, _⟩, _⟩, _⟩ := h
    rfl
  · obtain ⟨⟨sg, n, ts⟩, ⟨⟨u, v, rfl, hG, hM⟩, sok, mok⟩, q⟩ := h
    refine ⟨_, (pss_cons (ps_set (i := 2) sc_cells_with_worths.nd rfl (.inl rfl) (pe_lst pa_nil))
      (pss_cons (ps_for PassesOwn.never (by rfl) (pi_zipA (by rfl) T.z_zip (pa_cons (pv 0) (pa_cons (pe_ix ix_tup (pv 1) pe_int (fun _ _ => rfl)) pa_nil))) (pg_tup (by rfl) (pgs_cons (pg_tup (by rfl) (pgs_cons (pg_name (i := 3) sc_cells_with_worths.nd rfl (.inl rfl)) (pgs_cons (pg_name (i := 4) sc_cells_with_worths.nd rfl (.inl rfl)) pgs_nil))) (pgs_cons (pg_name (i := 5) sc_cells_with_worths.nd rfl (.inl rfl)) pgs_nil)))
        (pss_one (ps_for PassesOwn.never (by rfl) (pi_zipM (by rfl) T.z_zip (pa_cons (pe_cl c_rows_below hr (by first | decide | omega) (by rfl) (pa_cons (pe_ix ix_tup (pv 1) pe_int (fun _ _ => rfl)) (pa_cons (pv 4) pa_nil))) (pa_cons (pv 5) pa_nil))) (pg_tup (by rfl) (pgs_cons (pg_name (i := 6) sc_cells_with_worths.nd rfl (.inl rfl)) (pgs_cons (pg_name (i := 7) sc_cells_with_worths.nd rfl (.inl rfl)) pgs_nil)))
          (pss_one (ps_expr (pe_bm PySem.F.plainAttrs_list PySem.F.slot_list_append PySem.F.type_list_append mt_append (pv 2) (pa_cons (pe_tup (pa_cons (pv 3) (pa_cons (pv 6) (pa_cons (pv 7) pa_nil)))) pa_nil)))))))
      (pss_one (ps_ret (pv 2))))), ?_⟩
    replace sok : SigOk sg := sok
    replace mok : MdlOk sg n ts := mok
    have n6 := mok.n6
    obtain ⟨a, us, rfl, hS, hP⟩ := id hG
    obtain ⟨z, tv, rfl, hZ, hT⟩ := id hM
    obtain ⟨b, tvs, rfl, hB, hR⟩ := id hT
    replace hZ : SqT K H z [vi n, .ref b] := hZ
    replace hP : Paired (Deed K H) us sg := hP
    replace hR : Paired (Nats K H) tvs ts := hR
    have lS : us.length = sg.length := paired_len hP
    have lT : tvs.length = ts.length := paired_len hR
    have lM : ts.length = sg.length := mok.len
    refine q_asgL (el_lst ea_nil (Nat.zero_le _)) fun m H1 nm e1 hm => ?_
    refine q_zipT (ea_cons (ev_var rfl) (ea_cons (ev_op (ev_var rfl) ev_c (rv_ixT (K := K) (ex_t e1 hZ) (atI_vi (k := 1) rfl))) ea_nil)) (ex_t e1 hS) (ex_t e1 hB) (by rw [lS, lT, lM]) (fun i σ H' => Ex H H' ∧ (∃ ws, H' m = some (.lst ws) ∧ Paired (CellV K H') ws (((sg.zip ts).take i).flatMap (blk n))) ∧ ∃ y3 y4 y5 y6 y7, σ = [some (.ref a), some (.ref z), some (.ref m), y3, y4, y5, y6, y7])
      (fun H2 e2 => ⟨e1.trans e2, ⟨[], e2 _ _ hm, .nil⟩, none, none, none, none, none, rfl⟩) (fun i σ H' _ ⟨e, _⟩ => ⟨ex_t e hS, ex_t e hB⟩) (fun i d tv p σ H2 hd ht ⟨e2, ⟨ws, hws, pws⟩, y3, y4, y5, y6, y7, hσ⟩ np => ?_) (fun σ H2 ⟨e2, ⟨ws, hws, pws⟩, y3, y4, y5, y6, y7, hσ⟩ => ?_)
    · subst hσ
      have hi : i < sg.length := by rw [← lS]; exact (List.getElem?_eq_some_iff.mp hd).1
      have hi2 : i < ts.length := by rw [lM]; exact hi
      obtain ⟨d', ed', c, hc, dc⟩ := paired_get hP (List.getElem?_eq_getElem hi)
      have : d' = d := Option.some.inj (ed'.symm.trans hd)
      subst this
      subst hc
      obtain ⟨t', et', r, hr', nt⟩ := paired_get hR (List.getElem?_eq_getElem hi2)
      have : t' = tv := Option.some.inj (et'.symm.trans ht)
      subst this
      subst hr'
      have e3 : Ex H2 (upd H2 p (.tup [.ref c, .ref r])) := Ex.new np
      have e03 : Ex H (upd H2 p (.tup [.ref c, .ref r])) := e2.trans e3
      have p2 : sg[i].2 ≤ 2 := sok.pl _ (List.getElem_mem hi)
      have tab := mok.tab i hi hi2
      refine ⟨p, _, rfl, st_of upd_same, rfl, _, _, rfl, ⟨c, _, rfl, ex_t e03 dc, rfl, _, _, rfl, _, _, rfl, rfl, ?_⟩⟩
      refine ⟨_, _, rfl, rfl, ?_⟩
      have hzip : (sg.zip ts)[i]? = some (sg[i], ts[i]) := List.getElem?_zip_eq_some.mpr ⟨List.getElem?_eq_getElem hi, List.getElem?_eq_getElem hi2⟩
      have fw := (cws_few sok mok i).2
      have lws : ws.length ≤ 144 := by rw [paired_len pws]; exact fw
      refine s_zipM (do_cons (do_evP (ep_callF (n, sg[i].2) (ea_cons (ev_op (ev_var rfl) ev_c (rv_ixT (K := K) (ex_t e03 hZ) (atI_vi (k := 0) rfl))) (ea_cons (ev_var rfl) ea_nil)) (fun _ _ => ⟨rfl, n6, p2⟩)) fun rv H4 e4 ⟨⟨ra, rvs, hra, hrl, prs⟩, nra⟩ => do_cons (do_ev (ev_var rfl) fun H5 e5 => do_nil ?_)))
      subst hra
      replace prs : Paired (Nats K H4) rvs (rows n sg[i].2) := prs
      have e35 := e4.trans e5
      have lr : rvs.length = n ^ sg[i].2 := by rw [paired_len prs, rows_len']
      have big := pow_36 n6 p2
      refine ⟨ra, r, rvs, _, rfl, sq_of (e5 _ _ hrl), ex_t (e03.trans e35) nt, ?_⟩
      refine loops_zipM (by rw [List.length_map, lr, tab.len]) (fun j σ H' => Ex H H' ∧ H' ra = some (.lst rvs) ∧ Paired (Nats K H') rvs (rows n sg[i].2) ∧ (∃ ws2, H' m = some (.lst ws2) ∧ Paired (CellV K H') ws2 (((sg.zip ts).take i).flatMap (blk n) ++ (blk n (sg[i], ts[i])).take j)) ∧ ∃ y6 y7, σ = [some (.ref a), some (.ref z), some (.ref m), some (.str sg[i].1), some (vi sg[i].2), some (.ref r), y6, y7])
        ⟨e03.trans e35, e5 _ _ hrl, paired_imp (fun _ _ z => z.ex e5) prs, ⟨ws, (e3.trans e35) _ _ hws, by
          rw [List.take_zero, List.append_nil]
          exact paired_imp (fun _ _ z => CellV.et (Dw.Ex.et (e3.trans e35)) z) pws⟩, _, _, rfl⟩ (fun j σ' H' _ ⟨e, hr, _⟩ => ⟨sq_of hr, ex_t e nt⟩) (fun j x y T σ' H6 hx hy ⟨e6, hr6, pr6, ⟨ws2, hw2, pw2⟩, y6, y7, hσ⟩ nT => ?_) (fun σ' H6 ⟨e6, hr6, pr6, ⟨ws2, hw2, pw2⟩, y6, y7, hσ⟩ => ?_)
      · subst hσ
        have hj : j < n ^ sg[i].2 := by rw [← lr]; exact (List.getElem?_eq_some_iff.mp hx).1
        obtain ⟨row, hrow, xa, rfl, hxa⟩ := paired_at pr6 hx
        rw [List.getElem?_map] at hy
        cases hw : ts[i][j]? with
        | none => rw [hw] at hy; cases hy
        | some wv =>
        rw [hw] at hy
        cases Option.some.inj hy
        have e7 : Ex H6 (upd H6 T (.tup [.ref xa, vi wv])) := Ex.new nT
        have hblk : (blk n (sg[i], ts[i]))[j]? = some (sg[i].1, row, wv) := by
          unfold blk
          rw [List.getElem?_map, show ((rows n sg[i].2).zip ts[i])[j]? = some (row, wv) from List.getElem?_zip_eq_some.mpr ⟨hrow, hw⟩]
          rfl
        refine ⟨T, _, rfl, st_of upd_same, rfl, _, _, rfl, _, _, rfl, rfl, ?_⟩
        refine s_appP (e7 _ _ hw2) (ev_var rfl) (tv_tup (K := K) (ea_cons (ev_var rfl) (ea_cons (ev_var rfl) (ea_cons (ev_var rfl) ea_nil))) (by show 3 ≤ 100000; decide)) ?_ (fun v H8 e8 hv => ?_)
        · rw [paired_len pw2, List.length_append, List.length_take]
          omega
        · obtain ⟨va, rfl, hva⟩ := hv
          have e78 := e7.trans e8
          have hm8 : H8 m = some (.lst ws2) := e78 _ _ hw2
          have et : ET K H8 (upd H8 m (.lst (ws2 ++ [.ref va]))) := ET.refl.upd hm8
          have mra : ra ≠ m := fun zz => by
            have := nra _ rfl
            rw [zz, e3 _ _ hws] at this
            cases this
          refine ⟨(e6.trans e78).mut nm, by rw [upd_ne mra]; exact e78 _ _ hr6, paired_imp (fun _ _ z => (z.ex e78).et et) pr6, ⟨ws2 ++ [.ref va], upd_same, ?_⟩, _, _, rfl⟩
          rw [List.take_add_one, hblk]
          show Paired _ _ (_ ++ (_ ++ [(sg[i].1, row, wv)]))
          rw [← List.append_assoc]
          exact paired_snoc' (R := CellV K (upd H8 m (.lst (ws2 ++ [.ref va])))) (x := .ref va) (y := (sg[i].1, row, wv)) ⟨va, .ref xa, rfl, et _ _ hva, xa, rfl, et _ _ (ex_t e78 hxa)⟩ (paired_imp (fun _ _ z => CellV.et (ET.trans (Dw.Ex.et e78) et) z) pw2)
      · subst hσ
        refine ⟨e6, ⟨ws2, hw2, ?_⟩, _, _, _, _, _, rfl⟩
        rw [List.take_add_one, hzip, List.flatMap_append]
        have full : (blk n (sg[i], ts[i])).take rvs.length = blk n (sg[i], ts[i]) := List.take_of_length_le (by rw [blk_len tab, lr]; exact Nat.le_refl _)
        rw [full] at pw2
        show Paired _ _ (_ ++ (Option.toList (some (sg[i], ts[i]))).flatMap (blk n))
        rw [show (Option.toList (some (sg[i], ts[i]))).flatMap (blk n) = blk n (sg[i], ts[i]) from by simp [Option.toList]]
        exact pw2
    · subst hσ
      have full : (sg.zip ts).take us.length = sg.zip ts := List.take_of_length_le (by rw [List.length_zip]; omega)
      rw [full] at pws
      exact s_ret (ev_var rfl) fun H3 e3 => q _ H3 (e2.trans e3) ⟨m, ws, rfl, e3 _ _ hws, paired_imp (fun _ _ z => CellV.et (Dw.Ex.et e3) z) pws⟩ fun d z => V.ref.inj z ▸ nm
end
end K70
end
section
namespace K70
open PySem PySem.Spec PyProof.Rows L2 Evl RZ Dw M20 M25 CL
section
variable {P : Program} {w : World} {K : PySem.W.Frag} {mg : Str → Option Value} {base : Heap}
/-! ### closed lists -/
/-- a model and its signature as they are handed in -/
def MA (K : PySem.W.Frag) (H : Hp) (u v : V) (p : MArg) : Prop := Sig K H u p.1 ∧ Mdl K H v p.2.1 p.2.2
theorem MA.ex {H H' : Hp} {u v : V} {p : MArg} (e : Ex H H') (h : MA K H u v p) : MA K H' u v p := ⟨h.1.ex e, h.2.ex e⟩
theorem MA.et {H H' : Hp} {u v : V} {p : MArg} (e : ET K H H') (h : MA K H u v p) : MA K H' u v p := ⟨h.1.et e, h.2.et e⟩
def MOk (p : MArg) : Prop := SigOk p.1 ∧ MdlOk p.1 p.2.1 p.2.2
def cwm (p : MArg) : List (Str × List Nat × Nat) := cws p.2.1 p.1 p.2.2
theorem MOk.cells {p : MArg} (h : MOk p) : ∀ c ∈ cwm p, c.2.1.length ≤ 2 ∧ (∀ a ∈ c.2.1, a < p.2.1) ∧ c.2.2 < p.2.1 := fun c hc => by
  obtain ⟨i, d, t, j, r, h1, h2, h3, h4, h5, h6⟩ := cws_mem.mp hc
  have rr := rows_of (List.mem_iff_getElem?.mpr ⟨j, h3⟩)
  have p2 := h.1.pl d (List.mem_iff_getElem?.mpr ⟨i, h1⟩)
  have tt := h.2.low t (List.mem_iff_getElem?.mpr ⟨i, h2⟩)
  rw [h6]
  exact ⟨by rw [rr.1]; exact p2, rr.2, tt _ (List.mem_iff_getElem?.mpr ⟨j, h4⟩)⟩
theorem MOk.few {p : MArg} (h : MOk p) : (cwm p).length ≤ 144 := by
  have := (cws_few h.1 h.2 (p.1.zip p.2.2).length).2
  rw [List.take_length] at this
  exact this
def sp_has_worths (K : PySem.W.Frag) : Sp := spX (fun (p : MArg × List Nat) vs H => (∃ u v a, vs = [u, v, .ref a] ∧ MA K H u v p.1 ∧ SqL K H a (p.2.map vi)) ∧ MOk p.1) (fun p v _ => v = .bl (closed (cwm p.1) p.2))
theorem c_has_worths (T : Txt mg) (D : Df K mg "has_worths" s_has_worths ["signature", "model", "numbers"]) (c_cells_with_worths : Cl P w K mg base 2 "cells_with_worths" (sp_cells K)) (c_is_among : Cl P w K mg base 1 "is_among" (sp_is_among K)) : Cl P w K mg base 3 "has_worths" (sp_has_worths K) := by
  refine cl_of (k := 2) D sc_has_worths (fun vs H Q E h => ?_) (fun f cdv A outer s H vs Q E hr h => ?_)
  · obtain ⟨p, ⟨⟨u, v, a, rfl, _⟩, _⟩, _⟩ := h
    rfl
  · obtain ⟨⟨p, S⟩, ⟨⟨u, v, a, rfl, hm, ha⟩, ok⟩, q⟩ := h
    refine ⟨_, (pss_cons (ps_for PassesOwn.never (by rfl) (pi_list (pe_cl c_cells_with_worths hr (by first | decide | omega) (by rfl) (pa_cons (pv 0) (pa_cons (pv 1) pa_nil)))) (pg_tup (by rfl) (pgs_cons (pg_name (i := 3) sc_has_worths.nd rfl (.inl rfl)) (pgs_cons (pg_name (i := 4) sc_has_worths.nd rfl (.inl rfl)) (pgs_cons (pg_name (i := 5) sc_has_worths.nd rfl (.inl rfl)) pgs_nil))))
        (pss_one (ps_if (PW.pt (pw_and (pt_cmpR op_notIn_seq (pv 5) (pv 2) (by rfl)) (pw_and1 (pt_val (pe_cl c_is_among hr (by first | decide | omega) (by rfl) (pa_cons (pv 4) (pa_cons (pv 2) pa_nil)))))))
          (pss_one (ps_ret pe_bl))
          pss_nil)))
      (pss_one (ps_ret pe_bl))), ?_⟩
    replace hm : MA K H u v p := hm
    replace ha : SqL K H a (S.map vi) := ha
    replace ok : MOk p := ok
    refine q_forLs (do_evP (ep_callF p (ea_cons (ev_var rfl) (ea_cons (ev_var rfl) ea_nil)) (fun H1 e1 => ⟨⟨_, _, rfl, hm.1.ex e1, hm.2.ex e1⟩, ok.1, ok.2⟩)) fun cv H1 e1 ⟨⟨c, vs, hc, hl, pc⟩, _⟩ => ⟨c, hc, ⟨vs, sq_of hl⟩, ?_⟩)
    replace pc : Paired (CellV K H1) vs (cwm p) := pc
    refine qloops_list (K := K) (xs := vs) (fun i σ H' => Ex H1 H' ∧ ((cwm p).take i).all (fun c => !outs S c) = true ∧ ∃ y3 y4 y5, σ = [some u, some v, some (.ref a), y3, y4, y5]) ⟨Ex.refl _, by rw [List.take_zero]; rfl, none, none, none, rfl⟩ (fun i σ' H' _ ⟨e, _⟩ => sq_of (e _ _ hl)) (fun i x σ' H2 hx ⟨e2, al, y3, y4, y5, hσ⟩ => ?_) (fun σ' H2 ⟨e2, al, y3, y4, y5, hσ⟩ => ?_)
    · subst hσ
      obtain ⟨cl, hcl, b, xa, rfl, hb, hxa⟩ := paired_at pc hx
      have mem := List.mem_iff_getElem?.mpr ⟨i, hcl⟩
      have c2 := (ok.cells _ mem).1
      refine ⟨b, _, rfl, ex_t e2 hb, rfl, _, _, rfl, _, _, rfl, _, _, rfl, rfl, ?_⟩
      have e02 : Ex H H2 := e1.trans e2
      refine s_when (b := outs S cl) (et_is (et_and (et_test (ev_op (ev_var rfl) (ev_var rfl) (rv_niL (K := K) (ex_l e02 ha) rfl (flat_vi S)))) (fun _ => et_val (ev_callV (v := .bl (among cl.2.1 S)) (cl.2.1, S) (ea_cons (ev_var rfl) (ea_cons (ev_var rfl) ea_nil)) (fun H3 e3 => ⟨⟨_, _, rfl, hxa.ex (e2.trans e3), ex_l (e02.trans e3) ha⟩, by show cl.2.1.length ≤ 1000; omega⟩) (fun _ _ p => p)))) (by rw [inV_vi]; rfl)) (fun ho H3 e3 => s_ret ev_c fun H4 e4 => q _ H4 ((e02.trans e3).trans e4) ?_) (fun ho H3 e3 => ⟨e2.trans e3, ?_, _, _, _, rfl⟩)
      · show V.bl false = V.bl (closed (cwm p) S)
        cases hcc : closed (cwm p) S with
        | false => rfl
        | true =>
          unfold closed at hcc
          have := List.all_eq_true.mp hcc cl mem
          rw [ho] at this
          cases this
      · rw [List.take_add_one, hcl, List.all_append, al]
        show (true && ([cl].all _)) = true
        rw [List.all_cons, ho]
        rfl
    · subst hσ
      have full : (cwm p).take vs.length = cwm p := List.take_of_length_le (by rw [paired_len pc]; exact Nat.le_refl _)
      rw [full] at al
      refine s_ret ev_c fun H3 e3 => q _ H3 ((e1.trans e2).trans e3) ?_
      show V.bl true = V.bl (closed (cwm p) S)
      rw [show closed (cwm p) S = true from al]
def clsd (p : MArg) : List (List Nat) := (srtO (sub p.2.1)).filter fun S => closed (cwm p) S
def sp_closed_lists (K : PySem.W.Frag) : Sp := fun vs H Q _ => ∃ (p : MArg) (u v : V), vs = [u, v] ∧ MA K H u v p ∧ MOk p ∧ ∀ a as H', Ex H H' → LLs H H' a as (clsd p) → Q (.ref a) H'
theorem c_closed_lists (T : Txt mg) (D : Df K mg "closed_lists" s_closed_lists ["signature", "model"]) (c_need_model : Cl P w K mg base 7 "need_model" (sp_need_model K)) (c_rising_lists : Cl P w K mg base 1 "rising_lists" sp_rising) (c_has_worths : Cl P w K mg base 3 "has_worths" (sp_has_worths K)) : Cl P w K mg base 8 "closed_lists" (sp_closed_lists K) := by
  refine cl_of (k := 7) D sc_closed_lists (fun vs H Q E h => ?_) (fun f cdv A outer s H vs Q E hr h => ?_)
  · obtain ⟨p, u, v, rfl, _⟩ := h
    rfl
  · obtain ⟨p, u, v, rfl, hm, ok, q⟩ := h
    refine ⟨_, (pss_cons (ps_expr (pe_cl c_need_model hr (by first | decide | omega) (by rfl) (pa_cons (pv 0) (pa_cons (pv 1) pa_nil))))
      (pss_one (ps_ret (pe_callB (cr_sortD hr) (by rfl) T.z_sorted (by decide +kernel) (pa_cons (pe_lc (own := [("numbers", 2)]) (g := (gName 2)) (by rfl) sc_closed_lists.nd (pi_list (pe_cl c_rising_lists hr (by first | decide | omega) (by rfl) (pa_cons (pe_ix ix_tup (pv 1) pe_int (fun _ _ => rfl)) pa_nil))) (blkOk_by (own := [("numbers", 2)]) (N := ["signature", "model", "numbers"]) (sc := (defScope s_closed_lists)) (by decide +kernel)) (fun _ _ _ _ _ => (pg_name (i := 2) sc_closed_lists.nd rfl (.inl rfl))) (fun _ _ _ _ _ => (pts_one (pt_val (pe_cl c_has_worths hr (by first | decide | omega) (by rfl) (pa_cons (pv 0) (pa_cons (pv 1) (pa_cons (pv 2) pa_nil))))))) (fun _ _ _ _ _ => (pv 2))) pa_nil))))), ?_⟩
    obtain ⟨z, tv, hv, hZ, hT⟩ := id hm.2
    have n6 := ok.2.n6
    refine q_drop (v := .non) (ev_callV p (ea_cons (ev_var rfl) (ea_cons (ev_var rfl) ea_nil)) (fun H1 e1 => ⟨⟨_, _, rfl, hm.1.ex e1, hm.2.ex e1⟩, ok.1, ok.2⟩) (fun _ _ p => p)) fun H1 e1 => ?_
    have ev0 : ∀ H2, Ex H H2 → Ev (tOp (rIxT K) (tVar 1) (tC (.int 0))) [some u, some v, none] H2 (vi p.2.1) := fun H2 e2 => by
      subst hv
      exact ev_op (ev_var rfl) ev_c (rv_ixT (K := K) (ex_t e2 hZ) (atI_vi (k := 0) rfl))
    refine do_ret (cb1_src (lc_src (ea_cons (ev0 H1 e1) ea_nil H1 (Ex.refl _) _ fun H2 e2 => ⟨p.2.1, rfl, n6, fun a as H3 e3 ll => ?_⟩)))
    have ll1 := ll.low (e1.trans e2)
    have e03 := (e1.trans e2).trans e3
    refine do_lcFit (K := K) (f := fun S => closed (cwm p) S) (ev_c) ll1 e03 (by have := sub_few n6; omega) (fun _ => rfl) (fun _ => rfl) (fun b ns H4 e4 hns hb => et_val (ev_callV (v := .bl (closed (cwm p) ns)) (p, ns) (ea_cons (ev_var rfl) (ea_cons (ev_var rfl) (ea_cons (ev_var rfl) ea_nil))) (fun H5 e5 => ⟨⟨_, _, _, rfl, hm.ex ((e03.trans e4).trans e5), sq_of (e5 _ _ hb)⟩, ok⟩) (fun _ _ p => p))) (fun l bs H4 e4 sl l2 => ?_)
    refine do_sortL (K := K) l2 (e03.trans e4) fun l3 cs H5 e5 _ l4 => q _ cs H5 ((e03.trans e4).trans e5) ?_
    have : srtO ((sub p.2.1).filter fun S => closed (cwm p) S) = clsd p := srt_filter _ _
    rw [← this]
    exact l4
end
end K70
end
section
namespace K70
open PySem PySem.Spec PyProof.Rows L2 Evl RZ Dw M20 M25 CL
section
variable {P : Program} {w : World} {K : PySem.W.Frag} {mg : Str → Option Value} {base : Heap}
theorem kit_ll : PySem.W.kitOne K (.type "list") (.type "list") = some true := kit_ty (by decide +kernel)
/-! ### building -/
def sp_need_numbers (K : PySem.W.Frag) : Sp := spX (fun (p : MArg × List Nat) vs H => (∃ v a, vs = [v, .ref a] ∧ Mdl K H v p.1.2.1 p.1.2.2 ∧ H a = some (.lst (p.2.map vi))) ∧ (∀ k ∈ p.2, k < p.1.2.1) ∧ p.2.length ≤ 1000) (fun _ v _ => v = .non)
theorem c_need_numbers (T : Txt mg) (D : Df K mg "need_numbers" s_need_numbers ["model", "numbers"]) (c_is_below : Cl P w K mg base 2 "is_below" sp_is_below) : Cl P w K mg base 3 "need_numbers" (sp_need_numbers K) := by
  refine cl_of (k := 2) D sc_need_numbers (fun vs H Q E h => ?_) (fun f cdv A outer s H vs Q E hr h => ?_)
  · obtain ⟨p, ⟨⟨v, a, rfl, _⟩, _⟩, _⟩ := h
    rfl
  · obtain ⟨⟨p, ns⟩, ⟨⟨v, a, rfl, ⟨z, tv, rfl, hZ, hT⟩, ha⟩, low, few⟩, q⟩ := h
    refine ⟨_, (pss_one (ps_if (PW.pt (pw_or (pt_not (pt_val (pe_callB call_isi (by rfl) T.z_isinstance (by decide +kernel) (pa_cons (pv 1) (pa_cons (pe_ty "list" (by rfl) T.z_list (by decide +kernel)) pa_nil))))) (pw_or1 (pt_not (pt_val (pe_callB (cr_all rfl) (by rfl) T.z_all (by decide +kernel) (pa_cons (pe_lc (own := [("number", 2)]) (g := (gName 2)) (by rfl) sc_need_numbers.nd (pi_list (pv 1)) (blkOk_by (own := [("number", 2)]) (N := ["model", "numbers", "number"]) (sc := (defScope s_need_numbers)) (by decide +kernel)) (fun _ _ _ _ _ => (pg_name (i := 2) sc_need_numbers.nd rfl (.inl rfl))) (fun _ _ _ _ _ => pts_nil) (fun _ _ _ _ _ => (pe_cl c_is_below hr (by first | decide | omega) (by rfl) (pa_cons (pv 2) (pa_cons (pe_ix (ix_tupK K) (pv 0) pe_int (fun _ _ => rfl)) pa_nil))))) pa_nil)))))))
        (pss_one ps_never)
        pss_nil)), ?_⟩
    replace ha : H a = some (.lst (ns.map vi)) := ha
    replace hZ : SqT K H z [vi p.2.1, tv] := hZ
    replace low : ∀ k ∈ ns, k < p.2.1 := low
    replace few : ns.length ≤ 1000 := few
    refine s_when (b := false) (et_is (et_or (et_not (et_val (ev_isi (ev_var rfl) ev_c (.ty _) (fun _ e => .base (.lst (e _ _ ha))) kit_ll))) (fun _ => et_not (et_val (ev_all (bs := ns.map fun _ => true) ?_)))) ?_) (fun hb => by cases hb) (fun _ H1 e1 => q _ H1 e1 rfl)
    · have zz := Evl.el_lcL (K := K) (tl := tVar 1) (t := tYes) (te := tCall sp_is_below [] E0 (tCons (tVar 2) (tCons (tOp (rIxT K) (tVar 0) (tC (.int 0))) tNil))) (σ := [some (.ref z), some (.ref a), none]) (j := 2) (vs := [2]) (fun _ => true) (fun _ => V.bl true) (ev_var rfl) (sq_of ha) (by rw [List.length_map]; omega) (fun _ => rfl) (fun i x H1 e1 hx => et_yes) (fun i x H1 e1 hx _ => by
        rw [List.getElem?_map] at hx
        cases hk : ns[i]? with
        | none => rw [hk] at hx; cases hx
        | some k =>
          rw [hk] at hx
          cases Option.some.inj hx
          have lk := low k (List.mem_iff_getElem?.mpr ⟨i, hk⟩)
          exact ev_callV (v := .bl true) (((k : Nat) : Int), ((p.2.1 : Nat) : Int)) (ea_cons (ev_var rfl) (ea_cons (ev_op (ev_var rfl) ev_c (rv_ixT (K := K) (ex_t e1 hZ) (atI_vi (k := 0) rfl))) ea_nil)) (fun _ _ => ⟨rfl, by show (0 : Int) ≤ (k : Int); omega, by show (k : Int) < (p.2.1 : Int); omega⟩) (fun _ _ p => p))
      rw [given_all, List.length_map] at zz
      have e : (List.range ns.length).map (fun _ => V.bl true) = (ns.map fun _ => true).map V.bl := by
        rw [List.map_const', List.map_const', List.map_replicate, List.length_range]
      rw [e] at zz
      exact zz
    · rw [all_map]
      show (!true || !(ns.all fun _ => true)) = false
      rw [List.all_eq_true.mpr (fun _ _ => rfl)]
      rfl
abbrev Steps := List (Nat × Option (Str × List Nat))
def StepV (K : PySem.W.Frag) (H : Hp) (v : V) (s : Nat × Option (Str × List Nat)) : Prop := ∃ b x, v = .ref b ∧ SqT K H b [vi s.1, x] ∧ ((s.2 = none ∧ x = .non) ∨ ∃ nm r p y, s.2 = some (nm, r) ∧ x = .ref p ∧ SqT K H p [.str nm, y] ∧ Nats K H y r)
theorem StepV.et {H H' : Hp} {v : V} {s : Nat × Option (Str × List Nat)} (e : ET K H H') (h : StepV K H v s) : StepV K H' v s := let ⟨b, x, q, s, c⟩ := h; ⟨b, x, q, e _ _ s, c.imp id fun ⟨nm, r, p, y, a, b, c, d⟩ => ⟨nm, r, p, y, a, b, e _ _ c, d.et e⟩⟩
def StepsL (K : PySem.W.Frag) (H : Hp) (a : Addr) (st : Steps) : Prop := ∃ vs, H a = some (.lst vs) ∧ Paired (StepV K H) vs st
theorem StepsL.ex {H H' : Hp} {a : Addr} {st : Steps} (e : Ex H H') (h : StepsL K H a st) : StepsL K H' a st := let ⟨vs, s, p⟩ := h; ⟨vs, e _ _ s, paired_imp (fun _ _ z => StepV.et (Dw.Ex.et e) z) p⟩
def sp_build_from (K : PySem.W.Frag) : Sp := fun vs H Q _ => ∃ (p : MArg) (num : List Nat) (u v : V) (a : Addr), vs = [u, v, .ref a] ∧ MA K H u v p ∧ H a = some (.lst (num.map vi)) ∧ MOk p ∧ (∀ k ∈ num, k < p.2.1) ∧ num.length < 1000 ∧
  ∀ b st H', Ex H H' → H b = none → StepsL K H' b st → Built (cwm p) (ups p.2.1 num) st → closed (cwm p) (st.map (·.1)) = true → Q (.ref b) H'
theorem built_few {p : MArg} {num : List Nat} {st : Steps} (ok : MOk p) (h : Built (cwm p) (ups p.2.1 num) st) : st.length ≤ p.2.1 := by
  have := sub_le (R := st.map (·.1)) (F := List.range p.2.1) (h.nodup (ups_up _ _).nodup) fun k hk => List.mem_range.mpr (h.low (ups_up _ _).2 (fun c hc => (ok.cells c hc).2.2) k hk)
  rw [List.length_map, List.length_range] at this
  exact this
theorem ep_step {σ : L2.St} {H : Hp} {t1 t2 t3 : TE} {wn : Nat} {nm : Str} {y : V} {r : List Nat} (h1 : Ev t1 σ H (vi wn)) (h2 : Ev t2 σ H (.str nm)) (h3 : Ev t3 σ H y) (hy : Nats K H y r) : EvP (tTup (tCons t1 (tCons (tTup (tCons t2 (tCons t3 tNil))) tNil))) σ H (fun v H' => StepV K H' v (wn, some (nm, r))) := fun H1 e1 Q q =>
  do_tup (do_cons (h1 H1 e1 _ fun H2 e2 => do_cons (do_tup (do_cons (h2 H2 (e1.trans e2) _ fun H3 e3 => do_cons (h3 H3 ((e1.trans e2).trans e3) _ fun H4 e4 => do_nil ⟨by show 2 ≤ sizeLine; decide, fun p np => do_nil ⟨by show 2 ≤ sizeLine; decide, fun p2 np2 => q _ _ (((e2.trans e3).trans e4).trans ((Ex.new np).trans (Ex.new np2)))
    ⟨p2, .ref p, rfl, st_of upd_same, .inr ⟨nm, r, p, y, rfl, rfl, st_of (Ex.new np2 _ _ upd_same), (hy.ex (((e1.trans e2).trans e3).trans e4)).ex ((Ex.new np).trans (Ex.new np2))⟩⟩⟩⟩))))))
theorem c_build_from (T : Txt mg) (D : Df K mg "build_from" s_build_from ["signature", "model", "numbers"]) (c_cells_with_worths : Cl P w K mg base 2 "cells_with_worths" (sp_cells K)) (c_is_among : Cl P w K mg base 1 "is_among" (sp_is_among K)) : Cl P w K mg base 3 "build_from" (sp_build_from K) := by
  refine cl_of (k := 2) D sc_build_from (fun vs H Q E h => ?_) (fun f cdv A outer s H vs Q E hr h => ?_)
  · obtain ⟨p, num, u, v, a, rfl, _⟩ := h
    rfl
  · obtain ⟨p, num, u, v, a, rfl, hm, ha, ok, low, few, q⟩ := h
    refine ⟨_, (pss_cons (ps_setLc (i := 3) (own := [("number", 10)]) (g := (gName 10)) (by rfl) sc_build_from.nd rfl rfl (sw_true rfl rfl rfl (by decide +kernel)) (pi_list (pe_callB (cr_sortedSet rfl) (by rfl) T.z_sorted (by decide +kernel) (pa_cons (pe_callTy (cr_setI rfl) (by rfl) T.z_set (by decide +kernel) (pa_cons (pv 2) pa_nil)) pa_nil))) (blkOk_by (own := [("number", 10)]) (N := ["signature", "model", "numbers", "steps", "told", "cells", "grown", "name", "args", "worth", "number", "reason"]) (sc := (defScope s_build_from)) (by decide +kernel)) (fun _ _ _ _ _ => (pg_name (i := 10) sc_build_from.nd rfl (.inl rfl))) (fun _ _ _ _ _ => pts_nil) (fun _ _ _ _ _ => (pe_tup (pa_cons (pv 10) (pa_cons pe_non pa_nil)))))
      (pss_cons (ps_setLc (i := 4) (own := [("number", 10), ("reason", 11)]) (g := (gTup _ 2 (gCons (gName 10) (gCons (gName 11) gNil)))) (by rfl) sc_build_from.nd rfl rfl (sw_true rfl rfl rfl (by decide +kernel)) (pi_list (pv 3)) (blkOk_by (own := [("number", 10), ("reason", 11)]) (N := ["signature", "model", "numbers", "steps", "told", "cells", "grown", "name", "args", "worth", "number", "reason"]) (sc := (defScope s_build_from)) (by decide +kernel)) (fun _ _ _ _ _ => (pg_tup (by rfl) (pgs_cons (pg_name (i := 10) sc_build_from.nd rfl (.inl rfl)) (pgs_cons (pg_name (i := 11) sc_build_from.nd rfl (.inl rfl)) pgs_nil)))) (fun _ _ _ _ _ => pts_nil) (fun _ _ _ _ _ => (pv 10)))
      (pss_cons (ps_set (i := 5) sc_build_from.nd rfl (.inl rfl) (pe_cl c_cells_with_worths hr (by first | decide | omega) (by rfl) (pa_cons (pv 0) (pa_cons (pv 1) pa_nil))))
      (pss_cons (ps_set (i := 6) sc_build_from.nd rfl (.inl rfl) pe_bl)
      (pss_cons (ps_while PassesOwn.never (pt_val (pv 6))
        (pss_cons (ps_set (i := 6) sc_build_from.nd rfl (.inl rfl) pe_bl)
        (pss_one (ps_for PassesOwn.never (by rfl) (pi_list (pv 5)) (pg_tup (by rfl) (pgs_cons (pg_name (i := 7) sc_build_from.nd rfl (.inl rfl)) (pgs_cons (pg_name (i := 8) sc_build_from.nd rfl (.inl rfl)) (pgs_cons (pg_name (i := 9) sc_build_from.nd rfl (.inl rfl)) pgs_nil))))
          (pss_one (ps_if (PW.pt (pw_and (pt_cmpR op_notIn_seq (pv 9) (pv 4) (by rfl)) (pw_and1 (pt_val (pe_cl c_is_among hr (by first | decide | omega) (by rfl) (pa_cons (pv 8) (pa_cons (pv 4) pa_nil)))))))
            (pss_cons (ps_expr (pe_bm PySem.F.plainAttrs_list PySem.F.slot_list_append PySem.F.type_list_append mt_append (pv 3) (pa_cons (pe_tup (pa_cons (pv 9) (pa_cons (pe_tup (pa_cons (pv 7) (pa_cons (pv 8) pa_nil))) pa_nil))) pa_nil)))
            (pss_cons (ps_expr (pe_bm PySem.F.plainAttrs_list PySem.F.slot_list_append PySem.F.type_list_append mt_append (pv 4) (pa_cons (pv 9) pa_nil)))
            (pss_one (ps_set (i := 6) sc_build_from.nd rfl (.inl rfl) pe_bl))))
            pss_nil))))))
      (pss_one (ps_ret (pv 3)))))))), ?_⟩
    have n6 := ok.2.n6
    -- the numbers given
    refine do_set (lc_src (do_evL (el_sortSetV (K := K) (w := w) (ms := ups p.2.1 num) (ev_var rfl) (sq_of ha) few p.2.1 (by omega) low (ups_up _ _).1 (ups_mem low)) fun g0 H1 ng e1 hg => ?_))
    refine do_elp (elp_lcL (K := K) (σ := [some u, some v, some (.ref a), none, none, none, none, none, none, none, none, none]) (ev_c) (sq_of hg) (by rw [List.length_map]; have := sub_le (F := List.range p.2.1) (ups_up p.2.1 num).nodup fun k hk => List.mem_range.mpr ((ups_up p.2.1 num).2 k hk); rw [List.length_range] at this; omega) (fun _ => true) (fun v i H' => StepV K H' v ((ups p.2.1 num).getD i 0, none)) (fun v i H H' e h => StepV.et e.et h) (fun _ => rfl) (fun i x H2 e2 hx => ⟨et_yes, fun _ => ?_⟩)) fun sA ws H2 nS e2 hS pS => ?_
    · rw [List.getElem?_map] at hx
      cases hk : (ups p.2.1 num)[i]? with
      | none => rw [hk] at hx; cases hx
      | some k =>
        rw [hk] at hx
        cases Option.some.inj hx
        rw [List.getD_eq_getElem?_getD, hk]
        exact (tv_tup (K := K) (ea_cons (ev_var rfl) (ea_cons ev_c ea_nil)) (by show 2 ≤ 100000; decide)).imp fun v H' _ ⟨b, hb, sb⟩ => ⟨b, .non, hb, sb, .inl ⟨rfl, rfl⟩⟩
    · -- what is told
      have eqM : (List.range ((ups p.2.1 num).map vi).length).map (fun i => ((ups p.2.1 num).getD i 0, (none : Option (Str × List Nat)))) = (ups p.2.1 num).map fun k => (k, none) := by
        rw [List.length_map]
        apply List.ext_getElem?
        intro i
        by_cases hi : i < (ups p.2.1 num).length
        · rw [List.getElem?_map, List.getElem?_range hi, List.getElem?_map, List.getElem?_eq_getElem hi]
          show some ((ups p.2.1 num).getD i 0, none) = some ((ups p.2.1 num)[i], none)
          rw [List.getD_eq_getElem?_getD, List.getElem?_eq_getElem hi]
          rfl
        · rw [List.getElem?_eq_none_iff.mpr (by simp; omega), List.getElem?_eq_none_iff.mpr (by simp; omega)]
      rw [range_all] at pS
      have pS2 : Paired (StepV K H2) ws ((ups p.2.1 num).map fun k => (k, none)) := by
        rw [← eqM]
        exact paired_map (S := StepV K H2) (fun _ _ z => z) pS
      clear pS
      have b0 : Built (cwm p) (ups p.2.1 num) ((ups p.2.1 num).map fun k => (k, none)) := .base
      have lw := paired_len pS2
      have nSH : H sA = none := fresh_back e1 nS
      have e02 := e1.trans e2
      refine do_set (do_elp (elp_lcLg (K := K) (ev_var rfl) (sq_of hS) (by have := built_few ok b0; omega) (fun _ => true) (fun v i _ => v = vi ((ups p.2.1 num).getD i 0)) (fun _ _ _ _ _ z => z) (fun i x H3 e3 hx Φ kk => ?_)) fun tA us H3 nT e3 hT pT => ?_)
      · obtain ⟨s, hs, b, xx, rfl, hb, _⟩ := paired_at pS2 hx
        rw [List.getElem?_map] at hs
        cases hk : (ups p.2.1 num)[i]? with
        | none => rw [hk] at hs; cases hs
        | some k =>
        rw [hk] at hs
        cases Option.some.inj hs
        refine ⟨b, _, rfl, ex_t e3 hb, rfl, _, _, rfl, _, _, rfl, rfl, kk _ rfl et_yes fun _ => ep_ev (ev_var rfl) fun _ _ => ?_⟩
        show vi k = vi ((ups p.2.1 num).getD i 0)
        rw [List.getD_eq_getElem?_getD, hk]
        rfl
      rw [range_all] at pT
      have hT2 : H3 tA = some (.lst ((((ups p.2.1 num).map fun k => (k, (none : Option (Str × List Nat)))).map (·.1)).map vi)) := by
        rw [hT, paired_eqs pT]
        congr 2
        rw [← eqM, List.map_map, List.map_map, lw, ← eqM, List.length_map, List.length_range, List.length_map]
        rfl
      clear pT hT
      have e03 := e02.trans e3
      have nTH : H tA = none := fresh_back e02 nT
      have hST : sA ≠ tA := fun z => by rw [← z, hS] at nT; cases nT
      refine do_set (do_evP (ep_callF p (ea_cons (ev_var rfl) (ea_cons (ev_var rfl) ea_nil)) (fun H4 e4 => ⟨⟨_, _, rfl, hm.1.ex (e03.trans e4), hm.2.ex (e03.trans e4)⟩, ok.1, ok.2⟩)) fun cv H4 e4 ⟨⟨c, cvs, hc, hl, pc⟩, nC⟩ => ?_)
      subst hc
      replace pc : Paired (CellV K H4) cvs (cwm p) := pc
      have e04 := e03.trans e4
      have hSC : sA ≠ c := fun z => by have := nC _ rfl; rw [← z, e3 _ _ hS] at this; cases this
      have hTC : tA ≠ c := fun z => by have := nC _ rfl; rw [← z, hT2] at this; cases this
      refine q_asg (v := .bl true) ev_c fun H5 e5 => ?_
      refine q_while (fun m σ H' => Ex H H' ∧ ∃ (st : Steps) (g : Bool) (y7 y8 y9 : Option V), Built (cwm p) (ups p.2.1 num) st ∧ StepsL K H' sA st ∧ H' tA = some (.lst ((st.map (·.1)).map vi)) ∧ H' c = some (.lst cvs) ∧ Paired (CellV K H') cvs (cwm p) ∧ (g = false → closed (cwm p) (st.map (·.1)) = true) ∧ m = 2 * (p.2.1 - st.length) + (if g = true then 1 else 0) ∧ σ = [some u, some v, some (.ref a), some (.ref sA), some (.ref tA), some (.ref c), some (.bl g), y7, y8, y9, none, none])
        _ ⟨e04.trans e5, _, true, none, none, none, b0, ⟨ws, ((e3.trans e4).trans e5) _ _ hS, paired_imp (fun _ _ z => StepV.et (Dw.Ex.et ((e3.trans e4).trans e5)) z) pS2⟩, (e4.trans e5) _ _ hT2, e5 _ _ hl, paired_imp (fun _ _ z => CellV.et (Dw.Ex.et e5) z) pc, (fun z => by cases z), rfl, rfl⟩ (fun m σ H6 ⟨e6, st, g, y7, y8, y9, bu, hs6, ht6, hc6, pc6, cl6, hm6, hσ⟩ => ?_)
      subst hσ
      refine ⟨g, et_val (ev_var rfl), fun hg H7 e7 => ?_, fun hg H7 e7 => ?_⟩
      · subst hg
        have fs := built_few ok bu
        refine ⟨fun σ H' => Ex H H' ∧ ∃ (st' : Steps) (g : Bool) (y7 y8 y9 : Option V), Built (cwm p) (ups p.2.1 num) st' ∧ StepsL K H' sA st' ∧ H' tA = some (.lst ((st'.map (·.1)).map vi)) ∧ H' c = some (.lst cvs) ∧ Paired (CellV K H') cvs (cwm p) ∧ (g = false → st' = st ∧ closed (cwm p) (st.map (·.1)) = true) ∧ (g = true → st.length < st'.length) ∧ σ = [some u, some v, some (.ref a), some (.ref sA), some (.ref tA), some (.ref c), some (.bl g), y7, y8, y9, none, none],
          fun σ2 H8 ⟨e8, st', g, y7, y8, y9, bu8, hs8, ht8, hc8, pc8, g0, g1, hσ⟩ => ⟨2 * (p.2.1 - st'.length) + (if g = true then 1 else 0), ?_, e8, st', g, y7, y8, y9, bu8, hs8, ht8, hc8, pc8, (fun z => by rw [(g0 z).1]; exact (g0 z).2), rfl, hσ⟩, ?_⟩
        · rw [hm6, if_pos rfl]
          have fs8 := built_few ok bu8
          cases g with
          | true =>
            have := g1 rfl
            rw [if_pos rfl]
            omega
          | false =>
            rw [(g0 rfl).1, if_neg (by decide)]
            omega
        · refine q_asg (v := .bl false) ev_c fun H8 e8 => ?_
          refine s_forLs (do_ev (ev_var rfl) fun H9 e9 => ⟨c, rfl, ⟨cvs, sq_of ((e7.trans (e8.trans e9)) _ _ hc6)⟩, ?_⟩)
          have e69 := e7.trans (e8.trans e9)
          refine loops_list (K := K) (xs := cvs) (fun i σ H' => Ex H H' ∧ ∃ (st' : Steps) (g : Bool) (y7 y8 y9 : Option V), Built (cwm p) (ups p.2.1 num) st' ∧ StepsL K H' sA st' ∧ H' tA = some (.lst ((st'.map (·.1)).map vi)) ∧ H' c = some (.lst cvs) ∧ Paired (CellV K H') cvs (cwm p) ∧ (g = false → st' = st ∧ ((cwm p).take i).all (fun c => !outs (st.map (·.1)) c) = true) ∧ (g = true → st.length < st'.length) ∧ st.length ≤ st'.length ∧ σ = [some u, some v, some (.ref a), some (.ref sA), some (.ref tA), some (.ref c), some (.bl g), y7, y8, y9, none, none])
            ⟨e6.trans e69, st, false, y7, y8, y9, bu, hs6.ex e69, e69 _ _ ht6, e69 _ _ hc6, paired_imp (fun _ _ z => CellV.et (Dw.Ex.et e69) z) pc6, (fun _ => ⟨rfl, by rw [List.take_zero]; rfl⟩), (fun z => by cases z), Nat.le_refl _, rfl⟩ (fun i σ' H' _ ⟨_, _, _, _, _, _, _, _, _, hc', _⟩ => sq_of hc') (fun i x σ' Ha hx ⟨ea, st', g, y7, y8, y9, bua, ⟨vsa, hsa, psa⟩, hta, hca, pca, g0, g1, le, hσ⟩ => ?_) (fun σ' Ha ⟨ea, st', g, y7, y8, y9, bua, hsa, hta, hca, pca, g0, g1, le, hσ⟩ => ⟨ea, st', g, y7, y8, y9, bua, hsa, hta, hca, pca, (fun z => ⟨(g0 z).1, by
              have := (g0 z).2
              rw [List.take_of_length_le (by rw [paired_len pca]; exact Nat.le_refl _)] at this
              exact this⟩), g1, hσ⟩)
          subst hσ
          obtain ⟨cl, hcl, b, xa, rfl, hb, hxa⟩ := paired_at pca hx
          have mem := List.mem_iff_getElem?.mpr ⟨i, hcl⟩
          have c2 := (ok.cells _ mem).1
          have fa := built_few ok bua
          refine ⟨b, _, rfl, hb, rfl, _, _, rfl, _, _, rfl, _, _, rfl, rfl, ?_⟩
          refine s_when (b := outs (st'.map (·.1)) cl) (et_is (et_and (et_test (ev_op (ev_var rfl) (ev_var rfl) (rv_niL (K := K) (sq_of hta) rfl (flat_vi _)))) (fun _ => et_val (ev_callV (v := .bl (among cl.2.1 (st'.map (fun s : Nat × Option (Str × List Nat) => s.1)))) (cl.2.1, st'.map (fun s : Nat × Option (Str × List Nat) => s.1)) (ea_cons (ev_var rfl) (ea_cons (ev_var rfl) ea_nil)) (fun Hb eb => ⟨⟨_, _, rfl, hxa.ex eb, ex_l eb (sq_of hta)⟩, by show cl.2.1.length ≤ 1000; omega⟩) (fun _ _ p => p)))) (by rw [inV_vi]; rfl)) (fun ho Hb eb => ?_) (fun ho Hb eb => ⟨ea.trans eb, st', g, _, _, _, bua, StepsL.ex eb ⟨vsa, hsa, psa⟩, eb _ _ hta, eb _ _ hca, paired_imp (fun _ _ z => CellV.et (Dw.Ex.et eb) z) pca, (fun z => ⟨(g0 z).1, ?_⟩), g1, le, rfl⟩)
          · have ho' := ho
            unfold outs at ho'
            rw [Bool.and_eq_true] at ho'
            have hn : cl.2.2 ∉ st'.map (·.1) := by
              have := ho'.1
              intro z
              rw [decide_eq_true z] at this
              cases this
            have bu2 := Built.step bua mem hn (among_iff.mp ho'.2)
            refine q_appP' (eb _ _ hsa) (ev_var rfl) (ep_step (nm := cl.1) (r := cl.2.1) (ev_var rfl) (ev_var rfl) (ev_var rfl) (hxa.ex eb)) (by rw [paired_len psa]; omega) fun v1 Hc ec sv => ?_
            have ebc := eb.trans ec
            have hsc := ebc _ _ hsa
            have etc : ET K Hc (upd Hc sA (.lst (vsa ++ [v1]))) := ET.refl.upd hsc
            have hsd : (upd Hc sA (.lst (vsa ++ [v1]))) sA = some (.lst (vsa ++ [v1])) := upd_same
            have htd : (upd Hc sA (.lst (vsa ++ [v1]))) tA = some (.lst ((st'.map (·.1)).map vi)) := by rw [upd_ne (Ne.symm hST)]; exact ebc _ _ hta
            have hcd : (upd Hc sA (.lst (vsa ++ [v1]))) c = some (.lst cvs) := by rw [upd_ne (Ne.symm hSC)]; exact ebc _ _ hca
            have etd : ET K Ha (upd Hc sA (.lst (vsa ++ [v1]))) := ET.trans (Dw.Ex.et ebc) etc
            have exd : Ex H (upd Hc sA (.lst (vsa ++ [v1]))) := (ea.trans ebc).mut nSH
            replace sv := StepV.et etc sv
            generalize (upd Hc sA (.lst (vsa ++ [v1]))) = Hd at *
            refine q_appP' (P := fun v _ => v = vi cl.2.2) htd (ev_var rfl) (ep_ev (ev_var rfl) fun _ _ => rfl) (by rw [List.length_map, List.length_map]; omega) fun v2 He ee hv2 => ?_
            subst hv2
            have hte := ee _ _ htd
            have ete : ET K He (upd He tA (.lst ((st'.map (·.1)).map vi ++ [vi cl.2.2]))) := ET.refl.upd hte
            have hsf : (upd He tA (.lst ((st'.map (·.1)).map vi ++ [vi cl.2.2]))) sA = some (.lst (vsa ++ [v1])) := by rw [upd_ne hST]; exact ee _ _ hsd
            have hcf : (upd He tA (.lst ((st'.map (·.1)).map vi ++ [vi cl.2.2]))) c = some (.lst cvs) := by rw [upd_ne (Ne.symm hTC)]; exact ee _ _ hcd
            have htf : (upd He tA (.lst ((st'.map (·.1)).map vi ++ [vi cl.2.2]))) tA = some (.lst ((st'.map (·.1)).map vi ++ [vi cl.2.2])) := upd_same
            have exf : Ex H (upd He tA (.lst ((st'.map (·.1)).map vi ++ [vi cl.2.2]))) := (exd.trans ee).mut nTH
            have etf : ET K Hd (upd He tA (.lst ((st'.map (·.1)).map vi ++ [vi cl.2.2]))) := ET.trans (Dw.Ex.et ee) ete
            generalize (upd He tA (.lst ((st'.map (·.1)).map vi ++ [vi cl.2.2]))) = Hf at *
            refine s_asg (v := .bl true) ev_c fun Hg eg => ?_
            have etg : ET K Hf Hg := Dw.Ex.et eg
            refine ⟨exf.trans eg, st' ++ [(cl.2.2, some (cl.1, cl.2.1))], true, _, _, _, bu2, ⟨vsa ++ [v1], eg _ _ hsf, paired_snoc' (R := StepV K Hg) (x := v1) (y := (cl.2.2, some (cl.1, cl.2.1))) (StepV.et (ET.trans etf etg) sv) (paired_imp (fun _ _ z => StepV.et (ET.trans (ET.trans etd etf) etg) z) psa)⟩, ?_, eg _ _ hcf, paired_imp (fun _ _ z => CellV.et (ET.trans (ET.trans etd etf) etg) z) pca, (fun z => by cases z), (fun _ => by rw [List.length_append]; show _ < _ + 1; omega), (by rw [List.length_append]; omega), rfl⟩
            rw [eg _ _ htf, List.map_append, List.map_append]
            rfl
          · rw [List.take_add_one, hcl, List.all_append, (g0 z).2]
            show (true && ([cl].all _)) = true
            rw [List.all_cons, ← (g0 z).1, ho]
            rfl
      · have hcl := cl6 hg
        refine s_ret (ev_var rfl) fun H8 e8 => q sA st H8 (e6.trans (e7.trans e8)) nSH (hs6.ex (e7.trans e8)) bu hcl
end
end K70
end
section
namespace K70
open PySem PySem.Spec PyProof.Rows L2 Evl RZ Dw M20 M25 CL
section
variable {P : Program} {w : World} {K : PySem.W.Frag} {mg : Str → Option Value} {base : Heap}
/-! ### made by some numbers -/
theorem upFew {n : Nat} {S : List Nat} (h : Up n S) : S.length ≤ n := by
  have := sub_le (F := List.range n) h.nodup fun k hk => List.mem_range.mpr (h.2 k hk)
  rw [List.length_range] at this
  exact this
theorem upGd {n : Nat} {S : List Nat} (h : Up n S) (n6 : n ≤ 6) : (∀ k ∈ S, k ≤ 1000) ∧ S.length ≤ 36 := ⟨fun k hk => by have := h.2 k hk; omega, by have := upFew h; omega⟩
def sp_made_by (K : PySem.W.Frag) : Sp := fun vs H Q _ => ∃ (p : MArg) (num : List Nat) (u v : V) (a : Addr), vs = [u, v, .ref a] ∧ MA K H u v p ∧ H a = some (.lst (num.map vi)) ∧ MOk p ∧ (∀ k ∈ num, k < p.2.1) ∧ num.length < 1000 ∧
  ∀ b R H', Ex H H' → H b = none → H' b = some (.lst (R.map vi)) → Up p.2.1 R → Spread (cwm p) num R → Q (.ref b) H'
theorem c_made_by (T : Txt mg) (D : Df K mg "made_by" s_made_by ["signature", "model", "numbers"]) (c_need_model : Cl P w K mg base 7 "need_model" (sp_need_model K)) (c_need_numbers : Cl P w K mg base 3 "need_numbers" (sp_need_numbers K)) (c_build_from : Cl P w K mg base 3 "build_from" (sp_build_from K)) : Cl P w K mg base 8 "made_by" (sp_made_by K) := by
  refine cl_of (k := 7) D sc_made_by (fun vs H Q E h => ?_) (fun f cdv A outer s H vs Q E hr h => ?_)
  · obtain ⟨p, num, u, v, a, rfl, _⟩ := h
    rfl
  · obtain ⟨p, num, u, v, a, rfl, hm, ha, ok, low, few, q⟩ := h
    refine ⟨_, (pss_cons (ps_expr (pe_cl c_need_model hr (by first | decide | omega) (by rfl) (pa_cons (pv 0) (pa_cons (pv 1) pa_nil))))
      (pss_cons (ps_expr (pe_cl c_need_numbers hr (by first | decide | omega) (by rfl) (pa_cons (pv 1) (pa_cons (pv 2) pa_nil))))
      (pss_one (ps_ret (pe_callB (cr_sorted) (by rfl) T.z_sorted (by decide +kernel) (pa_cons (pe_lc (own := [("number", 3), ("reason", 4)]) (g := (gTup _ 2 (gCons (gName 3) (gCons (gName 4) gNil)))) (by rfl) sc_made_by.nd (pi_list (pe_cl c_build_from hr (by first | decide | omega) (by rfl) (pa_cons (pv 0) (pa_cons (pv 1) (pa_cons (pv 2) pa_nil))))) (blkOk_by (own := [("number", 3), ("reason", 4)]) (N := ["signature", "model", "numbers", "number", "reason"]) (sc := (defScope s_made_by)) (by decide +kernel)) (fun _ _ _ _ _ => (pg_tup (by rfl) (pgs_cons (pg_name (i := 3) sc_made_by.nd rfl (.inl rfl)) (pgs_cons (pg_name (i := 4) sc_made_by.nd rfl (.inl rfl)) pgs_nil)))) (fun _ _ _ _ _ => pts_nil) (fun _ _ _ _ _ => (pv 3))) pa_nil)))))), ?_⟩
    have n6 := ok.2.n6
    refine q_drop (v := .non) (ev_callV p (ea_cons (ev_var rfl) (ea_cons (ev_var rfl) ea_nil)) (fun H1 e1 => ⟨⟨_, _, rfl, hm.1.ex e1, hm.2.ex e1⟩, ok.1, ok.2⟩) (fun _ _ p => p)) fun H1 e1 => ?_
    refine q_drop (v := .non) (ev_callV (p, num) (ea_cons (ev_var rfl) (ea_cons (ev_var rfl) ea_nil)) (fun H2 e2 => ⟨⟨_, _, rfl, hm.2.ex (e1.trans e2), (e1.trans e2) _ _ ha⟩, low, by show num.length ≤ 1000; omega⟩) (fun _ _ p => p)) fun H2 e2 => ?_
    have e02 := e1.trans e2
    refine do_ret (cb1_src (lc_src (ea_cons (ev_var rfl) (ea_cons (ev_var rfl) (ea_cons (ev_var rfl) ea_nil)) H2 (Ex.refl _) _ fun H3 e3 => ⟨p, num, u, v, a, rfl, hm.ex (e02.trans e3), (e02.trans e3) _ _ ha, ok, low, few, fun b st H4 e4 nb hs bu hc => ?_⟩)))
    obtain ⟨vs, hvs, pvs⟩ := hs
    have fs := built_few ok bu
    refine do_elp (elp_lcLg (K := K) (ev_c) (sq_of hvs) (by rw [paired_len pvs]; omega) (fun _ => true) (fun v i _ => v = vi ((st.map (fun s : Nat × Option (Str × List Nat) => s.1)).getD i 0)) (fun _ _ _ _ _ z => z) (fun i x H5 e5 hx Φ kk => ?_)) fun tA us H5 nT e5 hT pT => ?_
    · obtain ⟨s, hs, b2, xx, rfl, hb, _⟩ := paired_at pvs hx
      refine ⟨b2, _, rfl, ex_t e5 hb, rfl, _, _, rfl, _, _, rfl, rfl, kk _ rfl et_yes fun _ => ep_ev (ev_var rfl) fun _ _ => ?_⟩
      show vi s.1 = vi ((st.map (fun s : Nat × Option (Str × List Nat) => s.1)).getD i 0)
      rw [List.getD_eq_getElem?_getD, List.getElem?_map, hs]
      rfl
    · rw [range_all] at pT
      have hT2 : H5 tA = some (.lst ((st.map (·.1)).map vi)) := by
        rw [hT, paired_eqs pT]
        congr 2
        apply List.ext_getElem?
        intro i
        rw [paired_len pvs]
        by_cases hi : i < st.length
        · rw [List.getElem?_map, List.getElem?_range hi, List.getElem?_map]
          show some (vi ((st.map _).getD i 0)) = _
          rw [List.getD_eq_getElem?_getD, List.getElem?_map, List.getElem?_eq_getElem hi]
          rfl
        · rw [List.getElem?_eq_none_iff.mpr (by simp; omega), List.getElem?_eq_none_iff.mpr (by simp; omega)]
      have lowst := bu.low (ups_up _ _).2 fun c hc => (ok.cells c hc).2.2
      have uR := ups_up p.2.1 (st.map (·.1))
      have mR := ups_mem lowst
      refine do_sortI (K := K) (ms := ups p.2.1 (st.map (·.1))) hT2 (by rw [List.length_map]; omega) ((List.perm_ext_iff_of_nodup (bu.nodup (ups_up _ _).nodup) uR.nodup).mpr fun k => (mR k).symm) uR.1 fun r H6 nr e6 hr6 => ?_
      exact q r _ H6 ((e02.trans (e3.trans e4)).trans (e5.trans e6)) (fresh_back (e02.trans (e3.trans (e4.trans e5))) nr) hr6 uR (bu.spread (ups_mem low) hc mR)
/-! ### parts -/
def sp_is_closed (K : PySem.W.Frag) : Sp := spX (fun (p : MArg × List Nat) vs H => (∃ u v a, vs = [u, v, .ref a] ∧ MA K H u v p.1 ∧ H a = some (.lst (p.2.map vi))) ∧ MOk p.1 ∧ Up p.1.2.1 p.2 ∧ closed (cwm p.1) p.2 = true) (fun _ v _ => v = .bl true)
theorem c_is_closed (T : Txt mg) (D : Df K mg "is_closed" s_is_closed ["signature", "model", "thing"]) (c_is_row : Cl P w K mg base 3 "is_row" (sp_is_row K)) (c_has_worths : Cl P w K mg base 3 "has_worths" (sp_has_worths K)) : Cl P w K mg base 4 "is_closed" (sp_is_closed K) := by
  refine cl_of (k := 3) D sc_is_closed (fun vs H Q E h => ?_) (fun f cdv A outer s H vs Q E hr h => ?_)
  · obtain ⟨p, ⟨⟨u, v, a, rfl, _⟩, _⟩, _⟩ := h
    rfl
  · obtain ⟨⟨p, S⟩, ⟨⟨u, v, a, rfl, hm, ha⟩, ok, up, cl⟩, q⟩ := h
    refine ⟨_, (pss_cons (ps_if (PW.pt (pw_or (pt_not (pt_val (pe_callB call_isi (by rfl) T.z_isinstance (by decide +kernel) (pa_cons (pv 2) (pa_cons (pe_ty "list" (by rfl) T.z_list (by decide +kernel)) pa_nil))))) (pw_or1 (pt_not (pt_val (pe_cl c_is_row hr (by first | decide | omega) (by rfl) (pa_cons (pe_callTy call_tuple_of (by rfl) T.z_tuple (by decide +kernel) (pa_cons (pv 2) pa_nil)) (pa_cons (pe_callB call_len_seq (by rfl) T.z_len PySem.boot_len (pa_cons (pv 2) pa_nil)) (pa_cons (pe_ix ix_tup (pv 1) pe_int (fun _ _ => rfl)) pa_nil)))))))))
        (pss_one (ps_ret pe_bl))
        pss_nil)
      (pss_one (ps_ret (pe_and (pe_cmpR (op_eqD hr.units) (pv 2) (pe_callB (cr_sortedSet rfl) (by rfl) T.z_sorted (by decide +kernel) (pa_cons (pe_callTy (cr_setI rfl) (by rfl) T.z_set (by decide +kernel) (pa_cons (pv 2) pa_nil)) pa_nil)) (nomark _)) (pe_one (pe_cl c_has_worths hr (by first | decide | omega) (by rfl) (pa_cons (pv 0) (pa_cons (pv 1) (pa_cons (pv 2) pa_nil))))))))), ?_⟩
    replace hm : MA K H u v p := hm
    replace ha : H a = some (.lst (S.map vi)) := ha
    replace ok : MOk p := ok
    replace up : Up p.2.1 S := up
    replace cl : closed (cwm p) S = true := cl
    have n6 := ok.2.n6
    have g := upGd up n6
    obtain ⟨z, tv, rfl, hZ, hT⟩ := id hm.2
    have ixe : ∀ H1, Ex H H1 → Ev (tOp (rIxT K) (tVar 1) (tC (.int 0))) [some u, some (.ref z), some (.ref a)] H1 (vi p.2.1) := fun H1 e1 => ev_op (ev_var rfl) ev_c (rv_ixT (K := K) (ex_t e1 hZ) (atI_vi (k := 0) rfl))
    refine q_when (b := false) (et_is (et_or (et_not (et_val (ev_isi (ev_var rfl) ev_c (.ty _) (fun _ e => .base (.lst (e _ _ ha))) kit_ll))) (fun _ => et_not (et_val (b := true) (ev_ep ((ep_callP (p.2.1, S) (eap_cons (P := fun v H' => Nats K H' v S) (R := fun vs _ => vs = [vi S.length, vi p.2.1]) (ep_nats (eu_tupL (K := K) (ev_var rfl) (sq_of ha)) rfl) (eap_ev (ea_cons (ev_lenL (K := K) (ev_var rfl) ha) (ea_cons (ixe _ (Ex.refl _)) ea_nil)) (fun _ _ => rfl)) (fun v H1 H2 e h => h.ex e)) (fun vs H1 e1 ⟨x, r, hvs, hx, hr⟩ => ⟨⟨x, by rw [hvs, hr], hx⟩, up.2, by show S.length ≤ 1000; omega⟩)).imp fun _ _ _ z => z))))) rfl) (fun hb => by cases hb) (fun _ H1 e1 => ?_)
    refine s_ret (v := .bl true) (ev_is (ev_andV (ev_eqLN (K := K) (xs := S) (ys := S) (ev_var rfl) (sq_of (e1 _ _ ha)) (el_sortSetV (K := K) (w := w) (ms := S) (ev_var rfl) (sq_of (e1 _ _ ha)) (by omega) p.2.1 (by omega) up.2 up.1 (fun _ => Iff.rfl)) g.1 g.1 g.2 g.2) (fun _ => ev_callV (v := .bl true) (p, S) (ea_cons (ev_var rfl) (ea_cons (ev_var rfl) (ea_cons (ev_var rfl) ea_nil))) (fun H2 e2 => ⟨⟨_, _, _, rfl, hm.ex (e1.trans e2), sq_of ((e1.trans e2) _ _ ha)⟩, ok⟩) (fun _ _ z => by rw [z]; exact congrArg V.bl cl))) (by rw [decide_eq_true rfl]; rfl)) fun H2 e2 => q _ H2 (e1.trans e2) rfl
/-- the model of a closed list -/
def prtT (n : Nat) (S : List Nat) (x : (Str × Nat) × List Nat) : List Nat := (rows S.length x.1.2).map fun r => S.idxOf (g x.2 (plc n (r.map (g S))))
def prt (p : MArg) (S : List Nat) : List (List Nat) := (p.1.zip p.2.2).map (prtT p.2.1 S)
theorem cell_in {p : MArg} (ok : MOk p) {S : List Nat} (cl : closed (cwm p) S = true) (low : ∀ k ∈ S, k < p.2.1) {i : Nat} (h1 : i < p.1.length) (h2 : i < p.2.2.length) {r : List Nat} (hr : r ∈ rows S.length p.1[i].2) :
    (∀ k ∈ r.map (g S), k < p.2.1) ∧ (r.map (g S)).length = p.1[i].2 ∧ plc p.2.1 (r.map (g S)) < p.2.2[i].length ∧ g p.2.2[i] (plc p.2.1 (r.map (g S))) ∈ S := by
  obtain ⟨lr, rl⟩ := rows_of hr
  have p2 := ok.1.pl _ (List.getElem_mem h1)
  have inS : ∀ k ∈ r.map (g S), k ∈ S := fun k hk => by
    obtain ⟨j, hj, rfl⟩ := List.mem_map.mp hk
    exact g_mem (rl j hj)
  have lw : ∀ k ∈ r.map (g S), k < p.2.1 := fun k hk => low k (inS k hk)
  have lm : (r.map (g S)).length = p.1[i].2 := by rw [List.length_map, lr]
  have pl := plc_low lw (by rw [lm]; exact p2)
  rw [lm] at pl
  have tb := ok.2.tab i h1 h2
  have pl' : plc p.2.1 (r.map (g S)) < p.2.2[i].length := by rw [tb.len]; exact pl
  refine ⟨lw, lm, pl', ?_⟩
  obtain ⟨row, hrow, ep⟩ := rows_plc p2 ok.2.n1 pl
  have erow : row = r.map (g S) := plc_inj p2 (rows_of (List.mem_iff_getElem?.mpr ⟨_, hrow⟩)) ⟨lm, lw⟩ ep
  refine closed_iff.mp cl (p.1[i].1, r.map (g S), g p.2.2[i] (plc p.2.1 (r.map (g S)))) (cws_mem.mpr ⟨i, p.1[i], p.2.2[i], plc p.2.1 (r.map (g S)), r.map (g S), List.getElem?_eq_getElem h1, List.getElem?_eq_getElem h2, by rw [erow] at hrow; exact hrow, ?_, rfl, rfl⟩) inS
  exact g_eq pl'
end
end K70
end
section
namespace K70
open PySem PySem.Spec PyProof.Rows L2 Evl RZ Dw M20 M25 CL
section
variable {P : Program} {w : World} {K : PySem.W.Frag} {mg : Str → Option Value} {base : Heap}
def sp_part_of (K : PySem.W.Frag) : Sp := spX (fun (p : MArg × List Nat) vs H => (∃ u v a, vs = [u, v, .ref a] ∧ MA K H u v p.1 ∧ H a = some (.lst (p.2.map vi))) ∧ MOk p.1 ∧ Up p.1.2.1 p.2 ∧ closed (cwm p.1) p.2 = true) (fun p v H => Mdl K H v p.2.length (prt p.1 p.2))
theorem c_part_of (T : Txt mg) (D : Df K mg "part_of" s_part_of ["signature", "model", "closed"]) (c_rows_below : Cl P w K mg base 1 "rows_below" (sp_rows_below K)) (c_place_of_row : Cl P w K mg base 1 "place_of_row" (sp_place_of_row K)) : Cl P w K mg base 2 "part_of" (sp_part_of K) := by
  refine cl_of (k := 1) D sc_part_of (fun vs H Q E h => ?_) (fun f cdv A outer s H vs Q E hr h => ?_)
  · obtain ⟨p, ⟨⟨u, v, a, rfl, _⟩, _⟩, _⟩ := h
    rfl
  · obtain ⟨⟨⟨sg, n, ts⟩, S⟩, ⟨⟨u, v, x, rfl, ⟨hG, hM⟩, hx⟩, ok, up, cl⟩, q⟩ := h
    refine ⟨_, (pss_cons (ps_asg (pv 1) (pg_tup (by rfl) (pgs_cons (pg_name (i := 3) sc_part_of.nd rfl (.inl rfl)) (pgs_cons (pg_name (i := 4) sc_part_of.nd rfl (.inl rfl)) pgs_nil))))
      (pss_cons (ps_set (i := 5) sc_part_of.nd rfl (.inl rfl) (pe_lst pa_nil))
      (pss_cons (ps_for PassesOwn.never (by rfl) (pi_zipA (by rfl) T.z_zip (pa_cons (pv 0) (pa_cons (pv 4) pa_nil))) (pg_tup (by rfl) (pgs_cons (pg_tup (by rfl) (pgs_cons (pg_name (i := 6) sc_part_of.nd rfl (.inl rfl)) (pgs_cons (pg_name (i := 7) sc_part_of.nd rfl (.inl rfl)) pgs_nil))) (pgs_cons (pg_name (i := 8) sc_part_of.nd rfl (.inl rfl)) pgs_nil)))
        (pss_cons (ps_set (i := 9) sc_part_of.nd rfl (.inl rfl) (pe_lst pa_nil))
        (pss_cons (ps_for PassesOwn.never (by rfl) (pi_list (pe_cl c_rows_below hr (by first | decide | omega) (by rfl) (pa_cons (pe_callB call_len_seq (by rfl) T.z_len PySem.boot_len (pa_cons (pv 2) pa_nil)) (pa_cons (pv 7) pa_nil)))) (pg_name (i := 10) sc_part_of.nd rfl (.inl rfl))
          (pss_one (ps_expr (pe_bm PySem.F.plainAttrs_list PySem.F.slot_list_append PySem.F.type_list_append mt_append (pv 9) (pa_cons (pe_bm PySem.F.plainAttrs_list PySem.F.slot_list_index PySem.F.type_list_index mt_index (pv 2) (pa_cons (pe_ix ix_tup (pv 8) (pe_cl c_place_of_row hr (by first | decide | omega) (by rfl) (pa_cons (pv 3) (pa_cons (pe_lc (own := [("arg", 11)]) (g := (gName 11)) (by rfl) sc_part_of.nd (pi_tup (pv 10)) (blkOk_by (own := [("arg", 11)]) (N := ["signature", "model", "closed", "size", "tables", "told", "name", "places", "table", "row", "args", "arg"]) (sc := (defScope s_part_of)) (by decide +kernel)) (fun _ _ _ _ _ => (pg_name (i := 11) sc_part_of.nd rfl (.inl rfl))) (fun _ _ _ _ _ => pts_nil) (fun _ _ _ _ _ => (pe_ix (ix_listK K) (pv 2) (pv 11) (fun _ _ => rfl)))) pa_nil))) (fun _ _ => rfl)) pa_nil)) pa_nil)))))
        (pss_one (ps_expr (pe_bm PySem.F.plainAttrs_list PySem.F.slot_list_append PySem.F.type_list_append mt_append (pv 5) (pa_cons (pe_callTy call_tuple_of (by rfl) T.z_tuple (by decide +kernel) (pa_cons (pv 9) pa_nil)) pa_nil)))))))
      (pss_one (ps_ret (pe_tup (pa_cons (pe_callB call_len_seq (by rfl) T.z_len PySem.boot_len (pa_cons (pv 2) pa_nil)) (pa_cons (pe_callTy call_tuple_of (by rfl) T.z_tuple (by decide +kernel) (pa_cons (pv 5) pa_nil)) pa_nil)))))))), ?_⟩
    replace hx : H x = some (.lst (S.map vi)) := hx
    replace ok : MOk (sg, n, ts) := ok
    replace up : Up n S := up
    replace cl : closed (cwm (sg, n, ts)) S = true := cl
    have sok : SigOk sg := ok.1
    have mok : MdlOk sg n ts := ok.2
    have n6 : n ≤ 6 := mok.n6
    have fS := upFew up
    obtain ⟨a, us, rfl, hS, hP⟩ := id hG
    obtain ⟨z, tv, rfl, hZ, hT⟩ := id hM
    obtain ⟨b, tvs, rfl, hB, hR⟩ := id hT
    replace hZ : SqT K H z [vi n, .ref b] := hZ
    replace hP : Paired (Deed K H) us sg := hP
    replace hR : Paired (Nats K H) tvs ts := hR
    have lS : us.length = sg.length := paired_len hP
    have lT : tvs.length = ts.length := paired_len hR
    have lM : ts.length = sg.length := mok.len
    have l4 := sok.l4
    refine ⟨.ref z, rfl, z, _, rfl, hZ, rfl, _, _, rfl, _, _, rfl, rfl, ?_⟩
    refine q_asgL (el_lst ea_nil (Nat.zero_le _)) fun m H1 nm e1 hm => ?_
    refine q_zipT (ea_cons (ev_var rfl) (ea_cons (ev_var rfl) ea_nil)) (ex_t e1 hS) (ex_t e1 hB) (by rw [lS, lT, lM]) (fun i σ H' => Ex H H' ∧ (∃ ws, H' m = some (.lst ws) ∧ Paired (Nats K H') ws (((sg.zip ts).take i).map (prtT n S))) ∧ ∃ y6 y7 y8 y9 y10, σ = [some (.ref a), some (.ref z), some (.ref x), some (vi n), some (.ref b), some (.ref m), y6, y7, y8, y9, y10, none])
      (fun H2 e2 => ⟨e1.trans e2, ⟨[], e2 _ _ hm, .nil⟩, none, none, none, none, none, rfl⟩) (fun i σ H' _ ⟨e, _⟩ => ⟨ex_t e hS, ex_t e hB⟩) (fun i d tv p σ H2 hd ht ⟨e2, ⟨ws, hws, pws⟩, y6, y7, y8, y9, y10, hσ⟩ np => ?_) (fun σ H2 ⟨e2, ⟨ws, hws, pws⟩, y6, y7, y8, y9, y10, hσ⟩ => ?_)
    · subst hσ
      have hi : i < sg.length := by rw [← lS]; exact (List.getElem?_eq_some_iff.mp hd).1
      have hi2 : i < ts.length := by rw [lM]; exact hi
      obtain ⟨d', ed', c, hc, dc⟩ := paired_get hP (List.getElem?_eq_getElem hi)
      have : d' = d := Option.some.inj (ed'.symm.trans hd)
      subst this
      subst hc
      obtain ⟨t', et', r, hr', nt⟩ := paired_get hR (List.getElem?_eq_getElem hi2)
      have : t' = tv := Option.some.inj (et'.symm.trans ht)
      subst this
      subst hr'
      have e3 : Ex H2 (upd H2 p (.tup [.ref c, .ref r])) := Ex.new np
      have e03 : Ex H (upd H2 p (.tup [.ref c, .ref r])) := e2.trans e3
      have p2 : sg[i].2 ≤ 2 := sok.pl _ (List.getElem_mem hi)
      have hzip : (sg.zip ts)[i]? = some (sg[i], ts[i]) := List.getElem?_zip_eq_some.mpr ⟨List.getElem?_eq_getElem hi, List.getElem?_eq_getElem hi2⟩
      refine ⟨p, _, rfl, st_of upd_same, rfl, _, _, rfl, ⟨c, _, rfl, ex_t e03 dc, rfl, _, _, rfl, _, _, rfl, rfl, ?_⟩⟩
      refine ⟨_, _, rfl, rfl, ?_⟩
      refine q_asgL (el_lst ea_nil (Nat.zero_le _)) fun ro H4 nro e4 hro => ?_
      have e04 := e03.trans e4
      have nroH : H ro = none := fresh_back e03 nro
      have rom : m ≠ ro := fun zz => by rw [← zz, e3 _ _ hws] at nro; cases nro
      refine q_forLs (do_evP (ep_callF (S.length, sg[i].2) (ea_cons (ev_lenL (K := K) (ev_var rfl) (e04 _ _ hx)) (ea_cons (ev_var rfl) ea_nil)) (fun _ _ => ⟨rfl, by show S.length ≤ 6; omega, p2⟩)) fun rv H5 e5 ⟨⟨ra, rvs, hra, hrl, prs⟩, nra⟩ => ⟨ra, hra, ⟨rvs, sq_of hrl⟩, ?_⟩)
      replace prs : Paired (Nats K H5) rvs (rows S.length sg[i].2) := prs
      have e05 := e04.trans e5
      have rar : ra ≠ ro := fun zz => by have := nra _ hra; rw [zz, hro] at this; cases this
      have ram : ra ≠ m := fun zz => by have := nra _ hra; rw [zz, (e3.trans e4) _ _ hws] at this; cases this
      have lrv := paired_len prs
      rw [rows_len'] at lrv
      have big : S.length ^ sg[i].2 ≤ 36 := pow_36 (by omega) p2
      refine qloops_list (K := K) (xs := rvs) (fun j σ H' => Ex H H' ∧ H' ra = some (.lst rvs) ∧ Paired (Nats K H') rvs (rows S.length sg[i].2) ∧ H' m = some (.lst ws) ∧ Paired (Nats K H') ws (((sg.zip ts).take i).map (prtT n S)) ∧ H' ro = some (.lst (((prtT n S (sg[i], ts[i])).take j).map vi)) ∧ ∃ y10, σ = [some (.ref a), some (.ref z), some (.ref x), some (vi n), some (.ref b), some (.ref m), some (.str sg[i].1), some (vi sg[i].2), some (.ref r), some (.ref ro), y10, none])
        ⟨e05, hrl, prs, ((e3.trans e4).trans e5) _ _ hws, paired_imp (fun _ _ zz => zz.ex ((e3.trans e4).trans e5)) pws, e5 _ _ hro, _, rfl⟩ (fun j σ' H' _ ⟨_, hr, _⟩ => sq_of hr) (fun j rv2 σ' H6 hx2 ⟨e6, hr6, pr6, hm6, pw6, hro6, y10', hσ⟩ => ?_) (fun σ' H6 ⟨e6, hr6, pr6, hm6, pw6, hro6, y10', hσ⟩ => ?_)
      · subst hσ
        obtain ⟨row, hrow, xa, rfl, hxa⟩ := paired_at pr6 hx2
        have rmem := List.mem_iff_getElem?.mpr ⟨j, hrow⟩
        obtain ⟨lw, lm, pl, gin⟩ := cell_in ok cl up.2 hi hi2 rmem
        obtain ⟨lr, rl⟩ := rows_of rmem
        have hj : j < rvs.length := (List.getElem?_eq_some_iff.mp hx2).1
        have lpt : (prtT n S (sg[i], ts[i])).length = S.length ^ sg[i].2 := by unfold prtT; rw [List.length_map, rows_len']
        have hpt : (prtT n S (sg[i], ts[i]))[j]? = some (S.idxOf (g ts[i] (plc n (row.map (g S))))) := by
          unfold prtT
          rw [List.getElem?_map, hrow]
          rfl
        have hcomp : EvL (tLc (iTup K (tVar 10)) (gName 11) tYes (tOp (rIxL K) (tVar 2) (tVar 11)) [11]) [some (.ref a), some (.ref z), some (.ref x), some (vi n), some (.ref b), some (.ref m), some (.str sg[i].1), some (vi sg[i].2), some (.ref r), some (.ref ro), some (.ref xa), none] H6 ((row.map (g S)).map vi) := by
          have zz := el_lcT (K := K) (tl := tVar 10) (te := tOp (rIxL K) (tVar 2) (tVar 11)) (σ := [some (.ref a), some (.ref z), some (.ref x), some (vi n), some (.ref b), some (.ref m), some (.str sg[i].1), some (vi sg[i].2), some (.ref r), some (.ref ro), some (.ref xa), none]) (j := 11) (vs := [11]) (ev_var rfl) hxa (fun k => vi (g S (row.getD k 0))) (by rw [List.length_map, lr]; omega) (fun _ => rfl) (fun k y H7 e7 hy => by
            rw [List.getElem?_map] at hy
            cases hk : row[k]? with
            | none => rw [hk] at hy; cases hy
            | some kk =>
              rw [hk] at hy
              cases Option.some.inj hy
              have lk := rl kk (List.mem_iff_getElem?.mpr ⟨k, hk⟩)
              rw [List.getD_eq_getElem?_getD, hk]
              exact ev_op (ev_var rfl) (ev_var rfl) (rv_ixL (K := K) (sq_of ((e6.trans e7) _ _ hx)) (atI_vi (k := kk) (by rw [List.getElem?_map, g_eq lk]; rfl))))
          have e : (List.range (row.map vi).length).map (fun k => vi (g S (row.getD k 0))) = (row.map (g S)).map vi := by
            rw [List.length_map, List.map_map]
            apply List.ext_getElem?
            intro k
            by_cases hk : k < row.length
            · rw [List.getElem?_map, List.getElem?_range hk, List.getElem?_map, List.getElem?_eq_getElem hk]
              show some (vi (g S (row.getD k 0))) = some (vi (g S row[k]))
              rw [List.getD_eq_getElem?_getD, List.getElem?_eq_getElem hk]
              rfl
            · rw [List.getElem?_eq_none_iff.mpr (by simp; omega), List.getElem?_eq_none_iff.mpr (by simp; omega)]
          rw [e] at zz
          exact zz
        have place : Ev (tCall (sp_place_of_row K) [] E0 (tCons (tVar 3) (tCons (tLc (iTup K (tVar 10)) (gName 11) tYes (tOp (rIxL K) (tVar 2) (tVar 11)) [11]) tNil))) [some (.ref a), some (.ref z), some (.ref x), some (vi n), some (.ref b), some (.ref m), some (.str sg[i].1), some (vi sg[i].2), some (.ref r), some (.ref ro), some (.ref xa), none] H6 (vi (plc n (row.map (g S)))) := fun H7 e7 Q' q' =>
          do_cons (do_ev (ev_var rfl) fun H8 e8 => do_cons (hcomp H8 (e7.trans e8) _ fun l H9 nl e9 hl => do_nil ⟨(n, row.map (g S)), ⟨⟨l, rfl, hl⟩, n6, by rw [lm]; exact p2, lw⟩, fun v H10 e10 hv => by rw [hv]; exact q' H10 ((e8.trans e9).trans e10)⟩))
        refine s_app (v := vi (S.idxOf (g ts[i] (plc n (row.map (g S)))))) hro6 (ev_var rfl) (ev_lindex (K := K) (S := S) (ev_var rfl) (e6 _ _ hx) (ev_op (ev_var rfl) place (rv_ixT (K := K) (ex_t e6 nt) (atI_vi (k := plc n (row.map (g S))) (by rw [List.getElem?_map, g_eq pl]; rfl)))) gin) (by rw [List.length_map, List.length_take]; omega) fun H7 e7 => ?_
        have et : ET K H7 (upd H7 ro (.lst (((prtT n S (sg[i], ts[i])).take j).map vi ++ [vi (S.idxOf (g ts[i] (plc n (row.map (g S)))))]))) := ET.refl.upd (e7 _ _ hro6)
        refine ⟨(e6.trans e7).mut nroH, by rw [upd_ne rar]; exact e7 _ _ hr6, paired_imp (fun _ _ zz => (zz.ex e7).et et) pr6, by rw [upd_ne rom]; exact e7 _ _ hm6, paired_imp (fun _ _ zz => (zz.ex e7).et et) pw6, ?_, _, rfl⟩
        rw [upd_same, List.take_add_one, hpt, List.map_append]
        rfl
      · subst hσ
        have full : (prtT n S (sg[i], ts[i])).take rvs.length = prtT n S (sg[i], ts[i]) := List.take_of_length_le (by unfold prtT; rw [List.length_map, rows_len', lrv]; exact Nat.le_refl _)
        rw [full] at hro6
        refine s_appU hm6 (ev_var rfl) (eu_tupL (K := K) (ev_var rfl) (sq_of hro6)) (by have l1 := paired_len pws; rw [List.length_map, List.length_take, List.length_zip] at l1; omega) fun r2 H7 nr2 e7 hr2 => ?_
        have et : ET K H7 (upd H7 m (.lst (ws ++ [.ref r2]))) := ET.refl.upd (e7 _ _ hm6)
        refine ⟨(e6.trans e7).mut nm, ⟨ws ++ [.ref r2], upd_same, ?_⟩, _, _, _, _, _, rfl⟩
        rw [List.take_add_one, hzip, List.map_append]
        exact paired_snoc' (R := Nats K (upd H7 m (.lst (ws ++ [.ref r2])))) (x := .ref r2) (y := prtT n S (sg[i], ts[i])) ⟨r2, rfl, et _ _ (st_of hr2)⟩ (paired_imp (fun _ _ zz => (zz.ex e7).et et) pw6)
    · subst hσ
      have full : (sg.zip ts).take us.length = sg.zip ts := List.take_of_length_le (by rw [List.length_zip]; omega)
      rw [full] at pws
      refine do_ret (do_tup (do_cons (do_ev (ev_lenL (K := K) (ev_var rfl) (e2 _ _ hx)) fun H3 e3 => do_cons (do_evU (eu_tupL (K := K) (ev_var rfl) (sq_of (e3 _ _ hws))) fun r H4 nr e4 hr4 => ⟨by show 2 ≤ sizeLine; decide, fun r2 nr2 => ?_⟩))))
      have e24 := (e3.trans e4).trans (Ex.new (o := .tup [vi S.length, .ref r]) nr2)
      exact q _ _ (e2.trans e24) ⟨r2, .ref r, rfl, st_of upd_same, r, ws, rfl, st_of (Ex.new nr2 _ _ hr4), paired_imp (fun _ _ zz => Nats.ex e24 zz) pws⟩
def sp_part (K : PySem.W.Frag) : Sp := spX (fun (p : MArg × List Nat) vs H => (∃ u v a, vs = [u, v, .ref a] ∧ MA K H u v p.1 ∧ H a = some (.lst (p.2.map vi))) ∧ MOk p.1 ∧ Up p.1.2.1 p.2 ∧ closed (cwm p.1) p.2 = true ∧ p.2 ≠ []) (fun p v H => Mdl K H v p.2.length (prt p.1 p.2))
theorem c_part (T : Txt mg) (D : Df K mg "part" s_part ["signature", "model", "closed"]) (c_need_model : Cl P w K mg base 7 "need_model" (sp_need_model K)) (c_is_closed : Cl P w K mg base 4 "is_closed" (sp_is_closed K)) (c_part_of : Cl P w K mg base 2 "part_of" (sp_part_of K)) :
    Cl P w K mg base 8 "part" (sp_part K) := by
  refine cl_of (k := 7) D sc_part (fun vs H Q E h => ?_) (fun f cdv A outer s H vs Q E hr h => ?_)
  · obtain ⟨p, ⟨⟨u, v, a, rfl, _⟩, _⟩, _⟩ := h
    rfl
  · obtain ⟨⟨p, S⟩, ⟨⟨u, v, a, rfl, hm, ha⟩, ok, up, cl, ne⟩, q⟩ := h
    refine ⟨_, (pss_cons (ps_expr (pe_cl c_need_model hr (by first | decide | omega) (by rfl) (pa_cons (pv 0) (pa_cons (pv 1) pa_nil))))
      (pss_cons (ps_if (PW.pt (pw_or (pt_cmpR (op_eqD hr.units) (pv 2) (pe_lst pa_nil) (nomark _)) (pw_or1 (pt_not (pt_val (pe_cl c_is_closed hr (by first | decide | omega) (by rfl) (pa_cons (pv 0) (pa_cons (pv 1) (pa_cons (pv 2) pa_nil)))))))))
        (pss_one ps_never)
        pss_nil)
      (pss_one (ps_ret (pe_cl c_part_of hr (by first | decide | omega) (by rfl) (pa_cons (pv 0) (pa_cons (pv 1) (pa_cons (pv 2) pa_nil)))))))), ?_⟩
    replace hm : MA K H u v p := hm
    replace ha : H a = some (.lst (S.map vi)) := ha
    replace ok : MOk p := ok
    replace up : Up p.2.1 S := up
    replace ne : S ≠ [] := ne
    have g := upGd up ok.2.n6
    refine q_drop (v := .non) (ev_callV p (ea_cons (ev_var rfl) (ea_cons (ev_var rfl) ea_nil)) (fun H1 e1 => ⟨⟨_, _, rfl, hm.1.ex e1, hm.2.ex e1⟩, ok.1, ok.2⟩) (fun _ _ p => p)) fun H1 e1 => ?_
    refine q_when (b := false) (et_is (et_or (et_test (ev_eqLN (K := K) (xs := S) (ys := []) (ev_var rfl) (sq_of (e1 _ _ ha)) (el_lst ea_nil (Nat.zero_le _)) g.1 (fun _ h => nomatch h) g.2 (Nat.zero_le _))) (fun _ => et_not (et_val (ev_callV (v := .bl true) (p, S) (ea_cons (ev_var rfl) (ea_cons (ev_var rfl) (ea_cons (ev_var rfl) ea_nil))) (fun H2 e2 => ⟨⟨_, _, _, rfl, hm.ex (e1.trans e2), (e1.trans e2) _ _ ha⟩, ok, up, cl⟩) (fun _ _ z => z))))) (by rw [decide_eq_false ne]; rfl)) (fun hb => by cases hb) (fun _ H2 e2 => ?_)
    refine s_retP (ep_call (p, S) (ea_cons (ev_var rfl) (ea_cons (ev_var rfl) (ea_cons (ev_var rfl) ea_nil))) (fun H3 e3 => ⟨⟨_, _, _, rfl, hm.ex ((e1.trans e2).trans e3), ((e1.trans e2).trans e3) _ _ ha⟩, ok, up, cl⟩)) fun v H3 e3 hv => q v H3 ((e1.trans e2).trans e3) hv
end
end K70
end
section
namespace K70
open PySem PySem.Spec PyProof.Rows L2 Evl RZ Dw M20 M25 CL
theorem Off.seq {K : PySem.W.Frag} {H H' : Hp} {p c l : Addr} {t : Nat} {xs : List V} (o : Off H H' p c) (pu : Pur H p c t) (h1 : l ≠ p) (h2 : l ≠ c) (h : SqL K H l xs ∨ SqT K H l xs) : SqL K H' l xs ∨ SqT K H' l xs := h.imp (o.sql h1 h2) (o.et pu l xs)
section
variable {P : Program} {w : World} {K : PySem.W.Frag} {mg : Str → Option Value} {base : Heap}
/-! ### pick -/
def sp_pick (K : PySem.W.Frag) : Sp := fun vs H Q _ => ∃ (p c : Addr) (t : Nat), Pur H p c t ∧ t ≤ 90000 ∧
  ((∃ z : Str, vs = [.ref p, .str z] ∧ 1 ≤ z.length ∧ z.length ≤ 1000 ∧ ∀ (k d : Nat) H', z.cps[k]? = some d → Off H H' p c → Pur H' p c (t + 1) → Q (.str ⟨#[d]⟩) H') ∨
   (∃ (l : Addr) (xs : List V), vs = [.ref p, .ref l] ∧ (SqL K H l xs ∨ SqT K H l xs) ∧ l ≠ p ∧ l ≠ c ∧ 1 ≤ xs.length ∧ xs.length ≤ 1000 ∧ ∀ (k : Nat) x H', xs[k]? = some x → Off H H' p c → Pur H' p c (t + 1) → Q x H'))
theorem c_pick (T : Txt mg) (D : Df K mg "_law_pick" s_pick ["_law_purse_here", "_law_some"]) (c_draw : Cl P w K mg base 1 "_law_draw" sp_draw) : Cl P w K mg base 2 "_law_pick" (sp_pick K) := by
  refine cl_of (k := 1) D sc_pick (fun vs H Q E h => ?_) (fun f cdv A outer s H vs Q E hr h => ?_)
  · obtain ⟨p, c, t, _, _, ⟨z, rfl, _⟩ | ⟨l, xs, rfl, _⟩⟩ := h <;> rfl
  · obtain ⟨p, c, t, pu, t1, h⟩ := h
    refine ⟨_, (pss_one (ps_ret (pe_ix (ix_or (ix_or ix_tup ix_list) ix_str) (pv 1) (pe_cl c_draw hr (by first | decide | omega) (by rfl) (pa_cons (pv 0) (pa_cons (pe_callB (call_or call_len_seq call_len_str) (by rfl) T.z_len PySem.boot_len (pa_cons (pv 1) pa_nil)) pa_nil))) (fun _ _ => rfl)))), ?_⟩
    rcases h with ⟨z, rfl, z1, z2, q⟩ | ⟨l, xs, rfl, hx, lp, lc, x1, x2, q⟩
    · refine do_ret (do_op (do_ev (ev_var rfl) fun H1 e1 => do_draw (n := z.length) (ev_var rfl) (fun H2 e2 Q2 q2 => ev_var rfl H2 (Ex.refl _) _ fun H3 e3 => .inr ⟨z, rfl, sz_of (by omega), q2 H3 e3⟩) (pu.ex e1) (by omega) z1 z2 fun k H2 hk o2 pu2 => ?_))
      have hz : z.cps[k]? = some z.cps[k] := Array.getElem?_eq_getElem hk
      exact .inr ⟨z, (k : Int), z.cps[k], rfl, rfl, sz_of (by omega), atI_nat (by rw [Array.getElem?_toList]; exact hz), q k _ H2 hz ((Off.of_ex e1).trans o2) pu2⟩
    · refine do_ret (do_op (do_ev (ev_var rfl) fun H1 e1 => do_draw (n := xs.length) (ev_var rfl) (fun H2 e2 Q2 q2 => ev_var rfl H2 (Ex.refl _) _ fun H3 e3 => .inl ⟨l, xs, rfl, hx.imp (ex_l ((e1.trans e2).trans e3)) (ex_t ((e1.trans e2).trans e3)), q2 H3 e3⟩) (pu.ex e1) (by omega) x1 x2 fun k H2 hk o2 pu2 => ?_))
      have hk' : xs[k]? = some xs[k] := List.getElem?_eq_getElem hk
      have o02 := (Off.of_ex e1).trans o2
      have got := q k _ H2 hk' o02 pu2
      rcases o02.seq pu lp lc hx with a | a
      · exact .inl (.inr ⟨l, xs, (k : Int), xs[k], rfl, rfl, a, atI_nat hk', got⟩)
      · exact .inl (.inl ⟨l, xs, (k : Int), xs[k], rfl, rfl, a, atI_nat hk', got⟩)
end
section
variable {K : PySem.W.Frag} {σ : L2.St} {H H' : Hp} {R : V → Hp → Prop} {n m t : Nat} {p c : Addr} {ta : TA} {te : TE}
/-! a new list of things of one kind; a pick out of it -/
def EvAs (R : V → Hp → Prop) (n : Nat) (ta : TA) (σ : L2.St) (H : Hp) : Prop := ∀ H1, Ex H H1 → ∀ Q : List V → Hp → Prop, (∀ vs H2, Ex H1 H2 → vs.length = n → (∀ x ∈ vs, R x H2) → Q vs H2) → ta σ H1 Q
theorem eas_nil : EvAs R 0 tNil σ H := fun H1 _ Q q => q [] H1 (Ex.refl _) rfl (fun x hx => by cases hx)
theorem eas_cons (st : ∀ v H H', Ex H H' → R v H → R v H') (h : EvP te σ H R) (hr : EvAs R n ta σ H) : EvAs R (n + 1) (tCons te ta) σ H := fun H1 e Q q => do_cons (h H1 e _ fun v H2 e2 hv => hr H2 (e.trans e2) _ fun vs H3 e3 ln hvs => q _ H3 (e2.trans e3) (by rw [List.length_cons, ln]) (fun x hx => by
  rcases List.mem_cons.mp hx with z | z
  · rw [z]
    exact st _ _ _ e3 hv
  · exact hvs x z))
def LsR (R : V → Hp → Prop) (p c : Addr) (n : Nat) (v : V) (H : Hp) : Prop := ∃ (l : Addr) (xs : List V), v = .ref l ∧ H l = some (.lst xs) ∧ l ≠ p ∧ l ≠ c ∧ xs.length = n ∧ ∀ x ∈ xs, R x H
theorem LsR.ex (st : ∀ v H H', Ex H H' → R v H → R v H') (e : Ex H H') (h : LsR R p c n v H) : LsR R p c n v H' := let ⟨l, xs, q, hx, a, b, ln, all⟩ := h; ⟨l, xs, q, e _ _ hx, a, b, ln, fun x hx => st _ _ _ e (all x hx)⟩
theorem ep_lstR (st : ∀ v H H', Ex H H' → R v H → R v H') (h : EvAs R n ta σ H) (l : n ≤ 1000) (pu : Pur H p c m) : EvP (tLst ta) σ H (LsR R p c n) := fun H1 e Q q => do_lst (h H1 e _ fun vs H2 e2 ln hv => ⟨sz_of (by omega), fun a na => by
  obtain ⟨ap, ac⟩ := (pu.ex (e.trans e2)).fresh na
  exact q _ _ (e2.trans (Ex.new na)) ⟨a, vs, rfl, upd_same, ap, ac, ln, fun x hx => st _ _ _ (Ex.new na) (hv x hx)⟩⟩)
/-- the one list behind the other -/
theorem ep_catR {t1 t2 : TE} {n1 n2 : Nat} (st : ∀ v H H', Ex H H' → R v H → R v H') (h1 : EvP t1 σ H (LsR R p c n1)) (h2 : EvP t2 σ H (LsR R p c n2)) (l : n1 + n2 ≤ 1000) (pu : Pur H p c m) : EvP (tOp rCat t1 t2) σ H (LsR R p c (n1 + n2)) := fun H1 e Q q => do_op (h1 H1 e _ fun v H2 e2 hv => h2 H2 (e.trans e2) _ fun u H3 e3 hu => by
  obtain ⟨l1, xs, rfl, hx, _, _, ln, all⟩ := LsR.ex st e3 hv
  obtain ⟨l2, ys, rfl, hy, _, _, ln2, all2⟩ := hu
  refine ⟨l1, l2, xs, ys, rfl, rfl, hx, hy, sz_of (by omega), fun r nr => ?_⟩
  obtain ⟨ap, ac⟩ := (pu.ex ((e.trans e2).trans e3)).fresh nr
  refine q _ _ ((e2.trans e3).trans (Ex.new nr)) ⟨r, xs ++ ys, rfl, upd_same, ap, ac, by rw [List.length_append, ln, ln2], fun x hx => ?_⟩
  rcases List.mem_append.mp hx with z | z
  · exact st _ _ _ (Ex.new nr) (all x z)
  · exact st _ _ _ (Ex.new nr) (all2 x z))
/-- a pick out of a list -/
theorem do_pickR {tp tl : TE} {Q : VK} (hp : Ev tp σ H (.ref p)) (pu : Pur H p c t) (l9 : t ≤ 90000) (hl : EvP tl σ H (LsR R p c n)) (n1 : 1 ≤ n) (n2 : n ≤ 1000) (so : ∀ v H2 H', Pur H2 p c t → Off H2 H' p c → R v H2 → R v H')
    (q : ∀ v H', Off H H' p c → Pur H' p c (t + 1) → R v H' → Q v H') : tCall (sp_pick K) [] E0 (tCons tp (tCons tl tNil)) σ H Q :=
  do_cons (hp H (Ex.refl _) _ fun H1 e1 => do_cons (hl H1 e1 _ fun v H2 e2 hv => do_nil (by
    obtain ⟨l, xs, rfl, hx, lp, lc, ln, all⟩ := hv
    have pu2 := pu.ex (e1.trans e2)
    exact ⟨p, c, t, pu2, l9, .inr ⟨l, xs, rfl, .inl (sq_of hx), lp, lc, by omega, by omega, fun k x H3 hk o3 pu3 => q x H3 ((Off.of_ex (e1.trans e2)).trans o3) pu3 (so _ _ _ pu2 o3 (all x (List.mem_of_getElem? hk)))⟩⟩)))
/-- the name's worth set where something is so -/
theorem q_mayset {i : Nat} {C : V → Prop} {v0 : V} {b : Bool} {tt : TT} {tz : TS} {D : Ends} (h : EvT tt σ H b) (hv : C v0) (h0 : σ.set i (some v0) = σ) (he : b = true → ∀ H1, Ex H H1 → EvP te σ H1 (fun v _ => C v)) (k : ∀ v H1, Ex H H1 → C v → tz D (σ.set i (some v)) H1) : tSeq (tIfS tt (tAsg te (gName i)) tNext) tz D σ H :=
  q_when h (fun hb H1 e1 => he hb H1 e1 H1 (Ex.refl _) _ fun v H2 e2 c => k v H2 (e1.trans e2) c) fun _ H1 e1 => by
    have := k v0 H1 e1 hv
    rw [h0] at this
    exact this
end
end K70
end
section
namespace K70
open PySem PySem.Spec PyProof.Rows L2 Evl RZ Dw M20 M25 CL
/-! ### a signature picked -/
def SgV (K : PySem.W.Frag) (v : V) (H : Hp) : Prop := ∃ sg, Sig K H v sg ∧ SigOk sg
theorem SgV.et {K : PySem.W.Frag} {v : V} {H H' : Hp} (e : ET K H H') (h : SgV K v H) : SgV K v H' := let ⟨sg, a, b⟩ := h; ⟨sg, a.et e, b⟩
theorem st_sg {K : PySem.W.Frag} : ∀ v H H', Ex H H' → SgV K v H → SgV K v H' := fun _ _ _ e h => h.et (Dw.Ex.et e)
def sigOkB (sg : List (Str × Nat)) : Bool := decide (1 ≤ sg.length) && decide (sg.length ≤ 4) && sg.all (fun p => decide (1 ≤ p.1.length) && decide (p.1.length ≤ 4) && p.1.cps.toList.all (fun c => decide (c ∈ letters.cps.toList)) && decide (p.2 ≤ 2)) && decide ((sg.map (·.1)).Nodup)
theorem sigOk_of {sg : List (Str × Nat)} (h : sigOkB sg = true) : SigOk sg := by
  unfold sigOkB at h
  simp only [Bool.and_eq_true, decide_eq_true_eq, List.all_eq_true] at h
  obtain ⟨⟨⟨a, b⟩, c⟩, d⟩ := h
  exact ⟨a, b, fun p hp => ⟨(c p hp).1.1.1, (c p hp).1.1.2, (c p hp).1.2⟩, fun p hp => (c p hp).2, d⟩
def EvDs (K : PySem.W.Frag) (sg : List (Str × Nat)) (ta : TA) (σ : L2.St) (H : Hp) : Prop := ∀ H1, Ex H H1 → ∀ Q : List V → Hp → Prop, (∀ vs H2, Ex H1 H2 → Paired (Deed K H2) vs sg → Q vs H2) → ta σ H1 Q
section
variable {K : PySem.W.Frag} {σ : L2.St} {H : Hp} {ta : TA}
theorem eds_nil : EvDs K [] tNil σ H := fun H1 _ Q q => q [] H1 (Ex.refl _) .nil
theorem eds_cons {z : Str} {k : Nat} {sg : List (Str × Nat)} (h : EvDs K sg ta σ H) : EvDs K ((z, k) :: sg) (tCons (tTup (tCons (tC (.str z)) (tCons (tC (.int (k : Int))) tNil))) ta) σ H := fun H1 e Q q =>
  do_cons (tv_tup (K := K) (xs := [.str z, vi k]) (ea_cons ev_c (ea_cons ev_c ea_nil)) (by show 2 ≤ 100000; decide) H1 e _ fun v H2 e2 ⟨b, hv, hb⟩ => h H2 (e.trans e2) _ fun vs H3 e3 hvs => q _ H3 (e2.trans e3) (.cons ⟨b, hv, ex_t e3 hb⟩ hvs))
theorem ep_sgT {sg : List (Str × Nat)} (h : EvDs K sg ta σ H) (l : sg.length ≤ 100000) (ok : sigOkB sg = true) : EvP (tTup ta) σ H (SgV K) := fun H1 e Q q =>
  do_tup (h H1 e _ fun vs H2 e2 hvs => ⟨by rw [paired_len hvs]; exact sz_of l, fun p np => q _ _ (e2.trans (Ex.new np)) ⟨sg, ⟨p, vs, rfl, st_of upd_same, paired_imp (fun _ _ z => Deed.et (Dw.Ex.et (Ex.new np)) z) hvs⟩, sigOk_of ok⟩⟩)
end
section
variable {P : Program} {w : World} {K : PySem.W.Frag} {mg : Str → Option Value} {base : Heap}
def sp_signature (K : PySem.W.Frag) : Sp := fun vs H Q _ => ∃ (p c : Addr) (t : Nat), vs = [.ref p] ∧ Pur H p c t ∧ t ≤ 80000 ∧ ∀ v sg H', Off H H' p c → Pur H' p c (t + 1) → Sig K H' v sg → SigOk sg → Q v H'
theorem c_signature (T : Txt mg) (D : Df K mg "_law_signature" s_signature ["_law_purse_here"]) (c_pick : Cl P w K mg base 2 "_law_pick" (sp_pick K)) : Cl P w K mg base 3 "_law_signature" (sp_signature K) := by
  refine cl_of (k := 2) D sc_signature (fun vs H Q E h => ?_) (fun f cdv A outer s H vs Q E hr h => ?_)
  · obtain ⟨p, c, t, rfl, _⟩ := h
    rfl
  · obtain ⟨p, c, t, rfl, pu, t1, q⟩ := h
    refine ⟨_, (pss_cons (ps_set (i := 1) sc_signature.nd rfl (.inl rfl) (pe_lst (pa_cons (pe_tup (pa_cons (pe_tup (pa_cons pe_str (pa_cons pe_int pa_nil))) pa_nil)) (pa_cons (pe_tup (pa_cons (pe_tup (pa_cons pe_str (pa_cons pe_int pa_nil))) pa_nil)) (pa_cons (pe_tup (pa_cons (pe_tup (pa_cons pe_str (pa_cons pe_int pa_nil))) (pa_cons (pe_tup (pa_cons pe_str (pa_cons pe_int pa_nil))) pa_nil))) (pa_cons (pe_tup (pa_cons (pe_tup (pa_cons pe_str (pa_cons pe_int pa_nil))) (pa_cons (pe_tup (pa_cons pe_str (pa_cons pe_int pa_nil))) pa_nil))) (pa_cons (pe_tup (pa_cons (pe_tup (pa_cons pe_str (pa_cons pe_int pa_nil))) (pa_cons (pe_tup (pa_cons pe_str (pa_cons pe_int pa_nil))) (pa_cons (pe_tup (pa_cons pe_str (pa_cons pe_int pa_nil))) pa_nil)))) pa_nil)))))))
      (pss_cons (ps_set (i := 1) sc_signature.nd rfl (.inl rfl) (pe_op op_cat (pv 1) (pe_lst (pa_cons (pe_tup (pa_cons (pe_tup (pa_cons pe_str (pa_cons pe_int pa_nil))) (pa_cons (pe_tup (pa_cons pe_str (pa_cons pe_int pa_nil))) pa_nil))) (pa_cons (pe_tup (pa_cons (pe_tup (pa_cons pe_str (pa_cons pe_int pa_nil))) (pa_cons (pe_tup (pa_cons pe_str (pa_cons pe_int pa_nil))) (pa_cons (pe_tup (pa_cons pe_str (pa_cons pe_int pa_nil))) (pa_cons (pe_tup (pa_cons pe_str (pa_cons pe_int pa_nil))) pa_nil))))) pa_nil)))))
      (pss_one (ps_ret (pe_cl c_pick hr (by first | decide | omega) (by rfl) (pa_cons (pv 0) (pa_cons (pe_op op_cat (pv 1) (pe_lst (pa_cons (pe_tup (pa_cons (pe_tup (pa_cons pe_str (pa_cons pe_int pa_nil))) (pa_cons (pe_tup (pa_cons pe_str (pa_cons pe_int pa_nil))) pa_nil))) (pa_cons (pe_tup (pa_cons (pe_tup (pa_cons pe_str (pa_cons pe_int pa_nil))) (pa_cons (pe_tup (pa_cons pe_str (pa_cons pe_int pa_nil))) pa_nil))) (pa_cons (pe_tup (pa_cons (pe_tup (pa_cons pe_str (pa_cons pe_int pa_nil))) (pa_cons (pe_tup (pa_cons pe_str (pa_cons pe_int pa_nil))) (pa_cons (pe_tup (pa_cons pe_str (pa_cons pe_int pa_nil))) pa_nil)))) pa_nil))))) pa_nil))))))), ?_⟩
    refine q_asgP (ep_lstR (st_sg (K := K)) (eas_cons (st_sg (K := K)) (ep_sgT (K := K) (sg := [("f", 2)]) (eds_cons eds_nil) (by decide) (by decide +kernel)) (eas_cons (st_sg (K := K)) (ep_sgT (K := K) (sg := [("g", 1)]) (eds_cons eds_nil) (by decide) (by decide +kernel)) (eas_cons (st_sg (K := K)) (ep_sgT (K := K) (sg := [("g", 1), ("h", 1)]) (eds_cons (eds_cons eds_nil)) (by decide) (by decide +kernel)) (eas_cons (st_sg (K := K)) (ep_sgT (K := K) (sg := [("c", 0), ("f", 2)]) (eds_cons (eds_cons eds_nil)) (by decide) (by decide +kernel)) (eas_cons (st_sg (K := K)) (ep_sgT (K := K) (sg := [("g", 1), ("c", 0), ("d", 0)]) (eds_cons (eds_cons (eds_cons eds_nil))) (by decide) (by decide +kernel)) eas_nil))))) (by decide) pu) fun v1 H1 e1 hv1 => ?_
    have pu1 := pu.ex e1
    have e01 := e1
    refine q_asgP (ep_catR (n1 := 5) (n2 := 2) (st_sg (K := K)) (ep_ev (ev_var rfl) fun _ e => LsR.ex (st_sg (K := K)) e hv1) (ep_lstR (st_sg (K := K)) (eas_cons (st_sg (K := K)) (ep_sgT (K := K) (sg := [("f", 2), ("fa", 2)]) (eds_cons (eds_cons eds_nil)) (by decide) (by decide +kernel)) (eas_cons (st_sg (K := K)) (ep_sgT (K := K) (sg := [("c", 0), ("g", 1), ("f", 2), ("h", 1)]) (eds_cons (eds_cons (eds_cons (eds_cons eds_nil)))) (by decide) (by decide +kernel)) eas_nil)) (by decide) pu1) (by decide) pu1) fun v2 H2 e2 hv2 => ?_
    have pu2 := pu1.ex e2
    have e02 := e01.trans e2
    refine do_ret (do_pickR (K := K) (R := SgV K) (n := 10) (ev_var rfl) pu2 (by omega) (ep_catR (n1 := 7) (n2 := 3) (st_sg (K := K)) (ep_ev (ev_var rfl) fun _ e => LsR.ex (st_sg (K := K)) e hv2) (ep_lstR (st_sg (K := K)) (eas_cons (st_sg (K := K)) (ep_sgT (K := K) (sg := [("f", 2), ("g", 1)]) (eds_cons (eds_cons eds_nil)) (by decide) (by decide +kernel)) (eas_cons (st_sg (K := K)) (ep_sgT (K := K) (sg := [("c", 0), ("d", 0)]) (eds_cons (eds_cons eds_nil)) (by decide) (by decide +kernel)) (eas_cons (st_sg (K := K)) (ep_sgT (K := K) (sg := [("f", 2), ("c", 0), ("g", 1)]) (eds_cons (eds_cons (eds_cons eds_nil))) (by decide) (by decide +kernel)) eas_nil))) (by decide) pu2) (by decide) pu2) (by decide) (by decide) (fun v H2 H' pu2 o2 h => h.et (o2.et pu2)) fun v H' o pu' ⟨sg, hs, so⟩ => q v sg H' ((Off.of_ex e02).trans o) pu' hs so)
/-! ### ways -/
def sp_ways (K : PySem.W.Frag) : Sp := spF (fun (p : Nat × Nat) vs _ => vs = [vi p.2, vi p.1] ∧ p.1 ≤ 6 ∧ p.2 ≤ 2) (fun p v H => RowsL K H v (rows p.1 p.2))
theorem c_ways (T : Txt mg) (D : Df K mg "_law_ways" s_ways ["_law_many", "_law_size"]) : Cl P w K mg base 1 "_law_ways" (sp_ways K) := by
  refine cl_of (k := 0) D sc_ways (fun vs H Q E h => ?_) (fun f cdv A outer s H vs Q E hr h => ?_)
  · obtain ⟨p, ⟨rfl, _⟩, _⟩ := h
    rfl
  · obtain ⟨⟨n, m⟩, ⟨rfl, hn, hm⟩, q⟩ := h
    refine ⟨_, (pss_cons (ps_set (i := 2) sc_ways.nd rfl (.inl rfl) (pe_lst (pa_cons (pe_tup pa_nil) pa_nil)))
      (pss_cons (ps_for PassesOwn.never (by rfl) (pi_range1 (by rfl) T.z_range (pa_cons (pv 0) pa_nil)) (pg_name (i := 3) sc_ways.nd rfl (.inl rfl))
        (pss_cons (ps_set (i := 4) sc_ways.nd rfl (.inl rfl) (pe_lst pa_nil))
        (pss_cons (ps_for PassesOwn.never (by rfl) (pi_list (pv 2)) (pg_name (i := 5) sc_ways.nd rfl (.inr rfl))
          (pss_one (ps_set (i := 4) sc_ways.nd rfl (.inl rfl) (pe_op op_cat (pv 4) (pe_lc (own := [("_law_number", 6)]) (g := (gName 6)) (by rfl) sc_ways.nd (pi_range1 (by rfl) T.z_range (pa_cons (pv 1) pa_nil)) (blkOk_by (own := [("_law_number", 6)]) (N := ["_law_many", "_law_size", "_law_found", "_law_k", "_law_longer", "_law_way_here", "_law_number"]) (sc := (defScope s_ways)) (by decide +kernel)) (fun _ _ _ _ _ => (pg_name (i := 6) sc_ways.nd rfl (.inl rfl))) (fun _ _ _ _ _ => pts_nil) (fun _ _ _ _ _ => (pe_op (op_catAK K) (pv 5) (pe_tup (pa_cons (pv 6) pa_nil)))))))))
        (pss_one (ps_set (i := 2) sc_ways.nd rfl (.inl rfl) (pv 4))))))
      (pss_one (ps_ret (pv 2))))), ?_⟩
    replace hn : n ≤ 6 := hn
    replace hm : m ≤ 2 := hm
    refine do_set (do_lst (do_cons (do_tup (do_nil ⟨Nat.zero_le _, fun r nr => do_nil ⟨by show 1 ≤ sizeLine; decide, fun f0 nf0 => ?_⟩⟩))))
    have e1 : Ex H (upd (upd H r (.tup [])) f0 (.lst [.ref r])) := (Ex.new nr).trans (Ex.new nf0)
    have nfH : H f0 = none := fresh_back (Ex.new nr) nf0
    have hf0 : (upd (upd H r (.tup [])) f0 (.lst [.ref r])) f0 = some (.lst [.ref r]) := upd_same
    have hr0 : (upd (upd H r (.tup [])) f0 (.lst [.ref r])) r = some (.tup []) := Ex.new nf0 _ _ upd_same
    generalize upd (upd H r (.tup [])) f0 (.lst [.ref r]) = H1 at *
    refine q_forR1 (n := (m : Int)) (ea_cons (ev_var rfl) ea_nil) ⟨by omega, by omega⟩ (fun i σ H' => Ex H H' ∧ ∃ (v : V) (y3 y4 y5 : Option V), RowsL K H' v (rows n i) ∧ (∀ d, v = .ref d → H d = none) ∧ σ = [some (vi m), some (vi n), some v, y3, y4, y5, none])
      (fun H2 e2 => ⟨e1.trans e2, .ref f0, none, none, none, ⟨f0, [.ref r], rfl, e2 _ _ hf0, .cons ⟨r, rfl, st_of (e2 _ _ hr0)⟩ .nil⟩, (fun d z => V.ref.inj z ▸ nfH), rfl⟩) (fun i σ H2 hi ⟨e2, v, y3, y4, y5, hv, hnv, hσ⟩ => ?_) (fun σ H2 ⟨e2, v, y3, y4, y5, hv, hnv, hσ⟩ => ?_)
    · subst hσ
      obtain ⟨a, us, rfl, ha, pus⟩ := hv
      have hi' : i < m := by omega
      have li : us.length = n ^ i := by rw [paired_len pus, rows_length]
      have b36 : n ^ i ≤ 36 := pow_36 hn (by omega)
      refine q_asgL (el_lst ea_nil (Nat.zero_le _)) fun lo H3 nlo e3 hlo => ?_
      refine q_forLs (do_ev (ev_var rfl) fun H4 e4 => ⟨a, rfl, ⟨us, sq_of ((e3.trans e4) _ _ ha)⟩, ?_⟩)
      have e24 := e3.trans e4
      refine qloops_list (K := K) (xs := us) (fun j σ H' => Ex H2 H' ∧ ∃ (l : Addr) (ws : List V) (y5 : Option V), H' l = some (.lst ws) ∧ H2 l = none ∧ Paired (Nats K H') ws (((rows n i).take j).flatMap fun r => (List.range n).map fun k => r ++ [k]) ∧ σ = [some (vi m), some (vi n), some (.ref a), some (vi i), some (.ref l), y5, none])
        ⟨e24, lo, [], y5, e4 _ _ hlo, nlo, .nil, rfl⟩ (fun j σ' H' _ ⟨e, _⟩ => sq_of (e _ _ ha)) (fun j x σ' H5 hx ⟨e5, l, ws, y5', hl, nl, pw, hσ⟩ => ?_) (fun σ' H5 ⟨e5, l, ws, y5', hl, nl, pw, hσ⟩ => ?_)
      · subst hσ
        obtain ⟨row, hrow, xa, rfl, hxa⟩ := paired_at pus hx
        have hj := (List.getElem?_eq_some_iff.mp hx).1
        have lr : row.length = i := (rows_of (List.mem_iff_getElem?.mpr ⟨j, hrow⟩)).1
        have lw : ws.length ≤ 36 * 6 := by
          rw [paired_len pw]
          have : ∀ L : List (List Nat), (L.flatMap fun r => (List.range n).map fun k => r ++ [k]).length = L.length * n := fun L => by
            induction L with
            | nil => simp
            | cons r L ih => rw [List.flatMap_cons, List.length_append, ih, List.length_map, List.length_range, List.length_cons, Nat.add_mul, Nat.one_mul, Nat.add_comm]
          rw [this, List.length_take]
          exact Nat.mul_le_mul (by omega) hn
        refine s_asgLP (elp_cat (ta := tVar 4) (ev_var rfl) hl (elp_lcR (n := n) (ea_cons (ev_var rfl) ea_nil) (by omega) (fun _ => true) (fun v k H' => Nats K H' v (row ++ [k])) (stb_nats (K := K) _) (fun _ => rfl) (fun k H6 hk e6 => ⟨et_yes, fun _ => tv_nats (tv_is (tv_cat (tv_ev (ev_var rfl) (ex_t (e5.trans e6) hxa)) (tv_tup (ea_cons (ev_var rfl) ea_nil) (by show 1 ≤ 100000; decide)) (by rw [List.length_map, lr]; show i + 1 ≤ 100000; omega)) (by rw [List.map_append]; rfl))⟩)) (fun ws2 H' p2 => by have := paired_len p2; rw [range_all, List.length_range] at this; omega) (fun ws2 H6 H7 e6 p2 => paired_imp (fun _ _ z => z.ex e6) p2)) fun l2 us2 H6 nl2 e6 hl2 ⟨ws2, hu2, p2⟩ => ?_
        subst hu2
        refine ⟨e5.trans e6, l2, ws ++ ws2, _, hl2, fresh_back e5 nl2, ?_, rfl⟩
        rw [List.take_add_one, hrow, List.flatMap_append]
        rw [range_all] at p2
        show Paired _ _ (_ ++ ([row].flatMap fun r => (List.range n).map fun k => r ++ [k]))
        rw [List.flatMap_singleton]
        exact paired_app (paired_imp (fun _ _ z => z.ex e6) pw) (paired_map (S := Nats K H6) (f := fun k => row ++ [k]) (fun _ _ z => z) p2)
      · subst hσ
        have full : (rows n i).take us.length = rows n i := List.take_of_length_le (by rw [paired_len pus]; exact Nat.le_refl _)
        rw [full] at pw
        refine s_asg (ev_var rfl) fun H6 e6 => ⟨e2.trans (e5.trans e6), .ref l, _, _, _, ⟨l, ws, rfl, e6 _ _ hl, paired_imp (fun _ _ z => z.ex e6) pw⟩, (fun d z => V.ref.inj z ▸ fresh_back e2 nl), rfl⟩
    · subst hσ
      rw [Int.toNat_natCast] at hv
      exact s_ret (ev_var rfl) fun H3 e3 => q _ H3 (e2.trans e3) (hv.ex e3) hnv
end
end K70
end
section
namespace K70
open PySem PySem.Spec PyProof.Rows L2 Evl RZ Dw M20 M25 CL
section
variable {P : Program} {w : World} {K : PySem.W.Frag} {mg : Str → Option Value} {base : Heap}
/-! ### a table -/
theorem tab_of {n pl : Nat} {ks : List Nat} (h1 : ks.length = n ^ pl) (h2 : ∀ k ∈ ks, k < n) : Tab n pl ks := ⟨h1, fun k hk => h2 _ (List.mem_iff_getElem?.mpr ⟨k, g_eq (by rw [h1]; exact hk)⟩)⟩
theorem mem_low {n x : Nat} {row : List Nat} (hx : x < n) (h : ∀ k ∈ row, k < n) : ∀ k ∈ x :: row, k < n := fun k hk => by
  rcases List.mem_cons.mp hk with z | z
  · omega
  · exact h k z
def sp_table (K : PySem.W.Frag) : Sp := fun vs H Q _ => ∃ (p c : Addr) (t n m : Nat), vs = [.ref p, vi m, vi n] ∧ Pur H p c t ∧ t ≤ 80000 ∧ 1 ≤ n ∧ n ≤ 6 ∧ m ≤ 2 ∧ ∀ v tb t' H', Off H H' p c → Pur H' p c t' → t' ≤ t + 100 → Nats K H' v tb → Tab n m tb → Q v H'
theorem c_table (T : Txt mg) (D : Df K mg "_law_table" s_table ["_law_purse_here", "_law_many", "_law_size"]) (c_draw : Cl P w K mg base 1 "_law_draw" sp_draw) (c_ways : Cl P w K mg base 1 "_law_ways" (sp_ways K)) : Cl P w K mg base 2 "_law_table" (sp_table K) := by
  refine cl_of (k := 1) D sc_table (fun vs H Q E h => ?_) (fun f cdv A outer s H vs Q E hr h => ?_)
  · obtain ⟨p, c, t, n, m, rfl, _⟩ := h
    rfl
  · obtain ⟨p, c, t, n, m, rfl, pu, t1, n1, n6, m2, q⟩ := h
    refine ⟨_, (pss_cons (ps_set (i := 3) sc_table.nd rfl (.inl rfl) (pe_cl c_draw hr (by first | decide | omega) (by rfl) (pa_cons (pv 0) (pa_cons pe_int pa_nil))))
      (pss_cons (ps_set (i := 4) sc_table.nd rfl (.inl rfl) (pe_cl c_draw hr (by first | decide | omega) (by rfl) (pa_cons (pv 0) (pa_cons (pv 2) pa_nil))))
      (pss_cons (ps_set (i := 5) sc_table.nd rfl (.inl rfl) (pe_lst pa_nil))
      (pss_cons (ps_for PassesOwn.never (by rfl) (pi_list (pe_cl c_ways hr (by first | decide | omega) (by rfl) (pa_cons (pv 1) (pa_cons (pv 2) pa_nil)))) (pg_name (i := 6) sc_table.nd rfl (.inl rfl))
        (pss_cons (ps_set (i := 7) sc_table.nd rfl (.inl rfl) (pe_cl c_draw hr (by first | decide | omega) (by rfl) (pa_cons (pv 0) (pa_cons (pv 2) pa_nil))))
        (pss_cons (ps_if (pt_cmpR op_eq (pv 3) pe_int (nomark _))
          (pss_one (ps_set (i := 7) sc_table.nd rfl (.inl rfl) (pv 4)))
          pss_nil)
        (pss_cons (ps_if (pt_cmpR op_eq (pv 3) pe_int (nomark _))
          (pss_one (ps_set (i := 7) sc_table.nd rfl (.inl rfl) (pe_op op_mod (pe_op op_add (pe_callB (cr_sumT rfl) (by rfl) T.z_sum (by decide +kernel) (pa_cons (pv 6) pa_nil)) (pv 4)) (pv 2))))
          pss_nil)
        (pss_cons (ps_if (pt_cmpR op_eq (pv 3) pe_int (nomark _))
          (pss_one (ps_set (i := 7) sc_table.nd rfl (.inl rfl) (pe_callB (cr_maxT rfl hr) (by rfl) T.z_max (by decide +kernel) (pa_cons (pe_op op_catA (pe_tup (pa_cons pe_int pa_nil)) (pv 6)) pa_nil))))
          pss_nil)
        (pss_cons (ps_if (pt_cmpR op_eq (pv 3) pe_int (nomark _))
          (pss_one (ps_set (i := 7) sc_table.nd rfl (.inl rfl) (pe_callB (cr_minT rfl hr) (by rfl) T.z_min (by decide +kernel) (pa_cons (pe_op op_catA (pe_tup (pa_cons (pe_op op_sub (pv 2) pe_int) pa_nil)) (pv 6)) pa_nil))))
          pss_nil)
        (pss_cons (ps_if (PW.pt (pw_and (pt_cmpR op_eq (pv 3) pe_int (nomark _)) (pw_and1 (pt_cmpR op_gt (pv 1) pe_int (nomark _)))))
          (pss_one (ps_set (i := 7) sc_table.nd rfl (.inl rfl) (pe_ix ix_tup (pv 6) (pe_un un_neg pe_int) (fun _ _ => rfl))))
          pss_nil)
        (pss_cons (ps_if (pt_cmpR op_eq (pv 3) pe_int (nomark _))
          (pss_one (ps_set (i := 7) sc_table.nd rfl (.inl rfl) (pe_op op_mod (pe_op op_add (pe_op op_mul pe_int (pe_callB (cr_sumT rfl) (by rfl) T.z_sum (by decide +kernel) (pa_cons (pv 6) pa_nil))) (pv 4)) (pv 2))))
          pss_nil)
        (pss_one (ps_expr (pe_bm PySem.F.plainAttrs_list PySem.F.slot_list_append PySem.F.type_list_append mt_append (pv 5) (pa_cons (pv 7) pa_nil))))))))))))
      (pss_one (ps_ret (pe_callTy call_tuple_of (by rfl) T.z_tuple (by decide +kernel) (pa_cons (pv 5) pa_nil)))))))), ?_⟩
    refine do_set (do_draw (ev_var rfl) (ev_c (v := vi 8)) pu (by omega) (by decide) (by decide) fun wy H1 hw o1 pu1 => ?_)
    refine do_set (do_draw (ev_var rfl) (ev_var rfl) pu1 (by omega) n1 (by omega) fun b H2 hb o2 pu2 => ?_)
    have o02 := o1.trans o2
    refine q_asgL (el_lst ea_nil (Nat.zero_le _)) fun fo H3 nfo e3 hfo => ?_
    have pu3 := pu2.ex e3
    obtain ⟨fp, fc⟩ := pu2.fresh nfo
    refine q_forLs (ea_cons (ev_var rfl) (ea_cons (ev_var rfl) ea_nil) H3 (Ex.refl _) _ fun H4 e4 => ⟨(n, m), ⟨rfl, n6, m2⟩, fun v H5 e5 ⟨ra, rvs, hra, hrl, prs⟩ nra => ⟨ra, hra, ⟨rvs, sq_of hrl⟩, ?_⟩⟩)
    subst hra
    have e35 := e4.trans e5
    replace prs : Paired (Nats K H5) rvs (rows n m) := prs
    have lrv := paired_len prs
    rw [rows_len'] at lrv
    have big := pow_36 n6 m2
    have nra4 := nra _ rfl
    have raf : ra ≠ fo := fun z => by rw [z, e4 _ _ hfo] at nra4; cases nra4
    have pu5 := pu3.ex e35
    obtain ⟨rp, rc⟩ := (pu3.ex e4).fresh nra4
    have nfoH : H fo = none := o02.back fp fc nfo
    have o05 : Off H H5 p c := o02.trans (.of_ex (e3.trans e35))
    refine qloops_list (K := K) (xs := rvs) (fun j σ H' => Off H H' p c ∧ Pur H' p c (t + 2 + j) ∧ H' ra = some (.lst rvs) ∧ (∃ ks : List Nat, H' fo = some (.lst (ks.map vi)) ∧ ks.length = j ∧ ∀ k ∈ ks, k < n) ∧ Paired (Nats K H') rvs (rows n m) ∧ ∃ y6 y7, σ = [some (.ref p), some (vi m), some (vi n), some (vi wy), some (vi b), some (.ref fo), y6, y7])
      ⟨o05, pu5, hrl, ⟨[], e35 _ _ hfo, rfl, fun _ z => nomatch z⟩, prs, none, none, rfl⟩ (fun j σ' H' _ ⟨_, _, hr, _⟩ => sq_of hr) (fun j x σ' H6 hx ⟨o6, pu6, hr6, ⟨ks, hks, lks, low⟩, pr6, y6, y7, hσ⟩ => ?_) (fun σ' H6 ⟨o6, pu6, hr6, ⟨ks, hks, lks, low⟩, pr6, y6, y7, hσ⟩ => ?_)
    · subst hσ
      obtain ⟨row, hrow, xa, rfl, hxa⟩ := paired_at pr6 hx
      obtain ⟨lr, rl⟩ := rows_of (List.mem_iff_getElem?.mpr ⟨j, hrow⟩)
      have hj := (List.getElem?_eq_some_iff.mp hx).1
      show tSeq _ _ _ [some (.ref p), some (vi m), some (vi n), some (vi wy), some (vi b), some (.ref fo), some (.ref xa), y7] H6
      refine do_set (do_draw (ev_var rfl) (ev_var rfl) pu6 (by omega) n1 (by omega) fun w0 H7 hw0 o7 pu7 => ?_)
      show tSeq _ _ _ [some (.ref p), some (vi m), some (vi n), some (vi wy), some (vi b), some (.ref fo), some (.ref xa), some (vi w0)] H7
      have hxa7 : SqT K H7 xa (row.map vi) := o7.et pu6 _ _ hxa
      refine q_mayset (C := fun v => ∃ k, k < n ∧ v = vi k) (et_test (ev_op (ev_var rfl) ev_c (rv_eq rfl))) ⟨w0, hw0, rfl⟩ rfl (fun _ H8 e8 => ep_ev (ev_var rfl) fun _ _ => ⟨b, hb, rfl⟩) fun v1 H8 e8 ⟨w1, hw1, hv1⟩ => ?_
      subst hv1
      have sumE : ∀ (v : Option V) H9, Ex H7 H9 → Ev (tCB (rSumT K) (tCons (tVar 6) tNil)) [some (.ref p), some (vi m), some (vi n), some (vi wy), some (vi b), some (.ref fo), some (.ref xa), v] H9 (vi row.sum) := fun v H9 e9 => ep_sumT (P := fun v H' => Nats K H' v row) (ep_ev (ev_var rfl) fun H1 e => ⟨xa, rfl, ex_t (e9.trans e) hxa7⟩) (fun _ _ h => h)
      show tSeq _ _ _ [some (.ref p), some (vi m), some (vi n), some (vi wy), some (vi b), some (.ref fo), some (.ref xa), some (vi w1)] H8
      refine q_mayset (C := fun v => ∃ k, k < n ∧ v = vi k) (et_test (ev_op (ev_var rfl) ev_c (rv_eq rfl))) ⟨w1, hw1, rfl⟩ rfl (fun _ H9 e9 => ep_ev (ev_modM (ev_addM (sumE _ H9 (e8.trans e9)) (ev_var rfl)) (ev_var rfl) n1) fun _ _ => ⟨_, Nat.mod_lt _ n1, rfl⟩) fun v2 H9 e9 ⟨w2, hw2, hv2⟩ => ?_
      subst hv2
      show tSeq _ _ _ [some (.ref p), some (vi m), some (vi n), some (vi wy), some (vi b), some (.ref fo), some (.ref xa), some (vi w2)] H9
      have e79 := e8.trans e9
      refine q_mayset (C := fun v => ∃ k, k < n ∧ v = vi k) (et_test (ev_op (ev_var rfl) ev_c (rv_eq rfl))) ⟨w2, hw2, rfl⟩ rfl (fun _ Ha ea => (ep_maxT (K := K) (ns := 0 :: row) (tv_nats (tv_is (tv_cat (tv_tup (xs := [vi 0]) (ea_cons ev_c ea_nil) (by show 1 ≤ 100000; decide)) (tv_ev (ev_var rfl) (ex_t (e79.trans ea) hxa7)) (by rw [List.length_map, lr]; show 1 + m ≤ 100000; omega)) rfl)) (by simp)).imp fun v H' _ ⟨k, hk, hv⟩ => ⟨k, mem_low n1 rl k hk, hv⟩) fun v3 Ha ea ⟨w3, hw3, hv3⟩ => ?_
      subst hv3
      show tSeq _ _ _ [some (.ref p), some (vi m), some (vi n), some (vi wy), some (vi b), some (.ref fo), some (.ref xa), some (vi w3)] Ha
      have e7a := e79.trans ea
      refine q_mayset (C := fun v => ∃ k, k < n ∧ v = vi k) (et_test (ev_op (ev_var rfl) ev_c (rv_eq rfl))) ⟨w3, hw3, rfl⟩ rfl (fun _ Hb eb => (ep_minT (K := K) (ns := (n - 1) :: row) (tv_nats (tv_is (tv_cat (tv_tup (xs := [vi (n - 1)]) (ea_cons (ev_subM (b := 1) (ev_var rfl) ev_c n1) ea_nil) (by show 1 ≤ 100000; decide)) (tv_ev (ev_var rfl) (ex_t (e7a.trans eb) hxa7)) (by rw [List.length_map, lr]; show 1 + m ≤ 100000; omega)) rfl)) (by simp)).imp fun v H' _ ⟨k, hk, hv⟩ => ⟨k, mem_low (by omega) rl k hk, hv⟩) fun v4 Hb eb ⟨w4, hw4, hv4⟩ => ?_
      subst hv4
      show tSeq _ _ _ [some (.ref p), some (vi m), some (vi n), some (vi wy), some (vi b), some (.ref fo), some (.ref xa), some (vi w4)] Hb
      have e7b := e7a.trans eb
      refine q_mayset (C := fun v => ∃ k, k < n ∧ v = vi k) (et_and (et_test (ev_op (ev_var rfl) ev_c (rv_eq rfl))) (fun _ => et_test (ev_op (ev_var rfl) ev_c rv_I0))) ⟨w4, hw4, rfl⟩ rfl (fun hbb Hc ec => ?_) fun v5 Hc ec ⟨w5, hw5, hv5⟩ => ?_
      · rw [Bool.and_eq_true] at hbb
        have m0 : 0 < m := by
          have := of_decide_eq_true hbb.2
          omega
        have ne : row ≠ [] := fun z => by rw [z] at lr; have : (0 : Nat) = m := lr; omega
        have eL : row.map vi = (row.dropLast.map vi) ++ [vi (row.getLast ne)] := by
          conv => lhs; rw [← List.dropLast_concat_getLast ne, List.map_append]
          rfl
        exact ep_ev (ev_op (ev_var rfl) (ev_un ev_c ru_neg) (rv_ixT (K := K) (ex_t (e7b.trans ec) hxa7) (by rw [eL]; exact atI_last _ _))) fun _ _ => ⟨_, rl _ (List.getLast_mem ne), rfl⟩
      subst hv5
      show tSeq _ _ _ [some (.ref p), some (vi m), some (vi n), some (vi wy), some (vi b), some (.ref fo), some (.ref xa), some (vi w5)] Hc
      have e7c := e7b.trans ec
      refine q_mayset (C := fun v => ∃ k, k < n ∧ v = vi k) (et_test (ev_op (ev_var rfl) ev_c (rv_eq rfl))) ⟨w5, hw5, rfl⟩ rfl (fun _ Hd ed => ep_ev (ev_modM (ev_addM (ev_mulM (a := 2) ev_c (sumE _ Hd (e7c.trans ed)) (by decide)) (ev_var rfl)) (ev_var rfl) n1) fun _ _ => ⟨_, Nat.mod_lt _ n1, rfl⟩) fun v6 Hd ed ⟨w6, hw6, hv6⟩ => ?_
      subst hv6
      show tDrop _ _ [some (.ref p), some (vi m), some (vi n), some (vi wy), some (vi b), some (.ref fo), some (.ref xa), some (vi w6)] Hd
      have e7d := e7c.trans ed
      have fo7 := o7 _ _ fp fc hks
      refine s_app (e7d _ _ fo7) (ev_var rfl) (ev_var rfl) (by rw [List.length_map]; omega) fun He ee => ?_
      have e7e := e7d.trans ee
      have o6e : Off H6 He p c := o7.trans (.of_ex e7e)
      have et : ET K He (upd He fo (.lst (ks.map vi ++ [vi w6]))) := ET.refl.upd (e7e _ _ fo7)
      refine ⟨(o6.trans o6e).upd nfoH, (pu7.ex e7e).upd fp fc, by rw [upd_ne raf]; exact o6e _ _ rp rc hr6, ⟨ks ++ [w6], by rw [upd_same, List.map_append]; rfl, by rw [List.length_append, lks]; rfl, fun k hk => ?_⟩, paired_imp (fun _ _ z => z.et ((o6e.et pu6).trans et)) pr6, _, _, rfl⟩
      rcases List.mem_append.mp hk with z | z
      · exact low k z
      · rw [List.mem_singleton.mp z]; exact hw6
    · subst hσ
      refine s_retU (eu_tupL (K := K) (ev_var rfl) (sq_of hks)) fun r H7 nr e7 hr7 => q _ ks _ H7 (o6.trans (.of_ex e7)) (pu6.ex e7) (by rw [lrv]; omega) ⟨r, rfl, st_of hr7⟩ (tab_of (by rw [lks, lrv]) low)
/-! ### a model drawn -/
def sp_model (K : PySem.W.Frag) : Sp := fun vs H Q _ => ∃ (p c : Addr) (t n : Nat) (u : V) (sg : List (Str × Nat)), vs = [.ref p, u, vi n] ∧ Pur H p c t ∧ t ≤ 70000 ∧ 1 ≤ n ∧ n ≤ 6 ∧ Sig K H u sg ∧ SigOk sg ∧ ∀ v ts t' H', Off H H' p c → Pur H' p c t' → t' ≤ t + 400 → Mdl K H' v n ts → MdlOk sg n ts → Q v H'
theorem c_model (T : Txt mg) (D : Df K mg "_law_model" s_mdl ["_law_purse_here", "_law_signature_here", "_law_size"]) (c_table : Cl P w K mg base 2 "_law_table" (sp_table K)) : Cl P w K mg base 3 "_law_model" (sp_model K) := by
  refine cl_of (k := 2) D sc_mdl (fun vs H Q E h => ?_) (fun f cdv A outer s H vs Q E hr h => ?_)
  · obtain ⟨p, c, t, n, u, sg, rfl, _⟩ := h
    rfl
  · obtain ⟨p, c, t, n, u, sg, rfl, pu, t1, n1, n6, hG, sok, q⟩ := h
    refine ⟨_, (pss_one (ps_ret (pe_tup (pa_cons (pv 2) (pa_cons (pe_callTy call_tuple_of (by rfl) T.z_tuple (by decide +kernel) (pa_cons (pe_lc (own := [("_law_name", 3), ("_law_many", 4)]) (g := (gTup _ 2 (gCons (gName 3) (gCons (gName 4) gNil)))) (by rfl) sc_mdl.nd (pi_tup (pv 1)) (blkOk_by (own := [("_law_name", 3), ("_law_many", 4)]) (N := ["_law_purse_here", "_law_signature_here", "_law_size", "_law_name", "_law_many"]) (sc := (defScope s_mdl)) (by decide +kernel)) (fun _ _ _ _ _ => (pg_tup (by rfl) (pgs_cons (pg_name (i := 3) sc_mdl.nd rfl (.inl rfl)) (pgs_cons (pg_name (i := 4) sc_mdl.nd rfl (.inl rfl)) pgs_nil)))) (fun _ _ _ _ _ => pts_nil) (fun _ _ _ _ _ => (pe_cl c_table hr (by first | decide | omega) (by rfl) (pa_cons (pv 0) (pa_cons (pv 4) (pa_cons (pv 2) pa_nil)))))) pa_nil)) pa_nil))))), ?_⟩
    obtain ⟨a, us, rfl, hS, hP⟩ := id hG
    have lS : us.length = sg.length := paired_len hP
    have l4 := sok.l4
    refine do_ret (do_tup (do_cons (do_ev (ev_var rfl) fun H1 e1 => do_cons (do_cb (do_cons ?_)))))
    have hS1 : SqT K H1 a us := ex_t e1 hS
    have pu1 := pu.ex e1
    refine do_lcIt walk_tup (fun R r => w_tup (K := K) (ev_var rfl) hS1 H1 (Ex.refl _) R r) (fun Dl i H' => H1 Dl = none ∧ Off H1 H' p c ∧ (∃ t', Pur H' p c t' ∧ t' ≤ t + 100 * i) ∧ ∃ ws ts, H' Dl = some (.lst ws) ∧ Paired (Nats K H') ws ts ∧ ts.length = i ∧ ∀ (j : Nat) d tb, sg[j]? = some d → ts[j]? = some tb → Tab n d.2 tb)
      (fun Dl H2 e2 nD => ⟨fresh_back e2 nD, .of_ex (e2.trans (Ex.new nD)), ⟨t, pu1.ex (e2.trans (Ex.new nD)), by omega⟩, [], [], upd_same, .nil, rfl, fun j d tb _ h2 => by rw [List.getElem?_nil] at h2; cases h2⟩) (fun Dl i H' _ ⟨_, o, _⟩ => o.et pu1 _ _ hS1) (fun Dl i x H2 H3 hi ⟨nD, o2, ⟨t', pu2, lt'⟩, ws, ts, hws, pws, lts, tabs⟩ y => ?_) (fun Dl H2 ⟨nD, o2, ⟨t', pu2, lt'⟩, ws, ts, hws, pws, lts, tabs⟩ => ?_)
    · obtain ⟨rfl, hx⟩ := y
      have hi2 : i < sg.length := by rw [← lS]; exact hi
      obtain ⟨x', ex', b, hb, db⟩ := paired_get hP (List.getElem?_eq_getElem hi2)
      have : x' = x := Option.some.inj (ex'.symm.trans hx)
      subst this
      subst hb
      obtain ⟨Dp1, Dc1⟩ := pu1.fresh nD
      have db3 : SqT K H3 b [.str sg[i].1, vi sg[i].2] := o2.et pu1 _ _ (ex_t e1 db)
      refine ⟨b, _, rfl, db3, rfl, _, _, rfl, _, _, rfl, rfl, rfl, iteT ?_⟩
      refine ea_cons (ev_var rfl) (ea_cons (ev_var rfl) (ea_cons (ev_var rfl) ea_nil)) H3 (Ex.refl H3) _ fun H4 e4 => ⟨p, c, t', n, sg[i].2, rfl, pu2.ex e4, by omega, n1, n6, sok.pl _ (List.getElem_mem hi2), fun v tb t2 H5 o5 pu5 l5 nt tt => ?_⟩
      have o35 : Off H3 H5 p c := (Off.of_ex e4).trans o5
      have hws5 : H5 Dl = some (.lst ws) := o35 _ _ Dp1 Dc1 hws
      have lw : ws.length = i := by rw [paired_len pws, lts]
      have et : ET K H5 (upd H5 Dl (.lst (ws ++ [v]))) := ET.refl.upd hws5
      refine ⟨ws, hws5, sz_lt (by omega), nD, (o2.trans o35).upd nD, ⟨t2, pu5.upd Dp1 Dc1, by omega⟩, ws ++ [v], ts ++ [tb], upd_same, paired_snoc (nt.et et) (paired_imp (fun _ _ z => z.et ((o35.et pu2).trans et)) pws), by rw [List.length_append, lts]; rfl, fun j d tb' h1 h2 => ?_⟩
      by_cases hj : j < ts.length
      · rw [List.getElem?_append_left hj] at h2
        exact tabs j d tb' h1 h2
      · have hj2 : j < (ts ++ [tb]).length := (List.getElem?_eq_some_iff.mp h2).1
        rw [List.length_append, List.length_singleton] at hj2
        have ej : j = ts.length := by omega
        subst ej
        rw [List.getElem?_append_right (Nat.le_refl _), Nat.sub_self] at h2
        cases Option.some.inj h2
        rw [lts, List.getElem?_eq_getElem hi2] at h1
        cases Option.some.inj h1
        exact tt
    · refine ⟨Dl, ws, rfl, .inl ⟨sq_of hws, fun r nr => ⟨by show 2 ≤ sizeLine; decide, fun m nm => ?_⟩⟩⟩
      have e24 : Ex H2 (upd (upd H2 r (.tup ws)) m (.tup [vi n, .ref r])) := (Ex.new nr).trans (Ex.new nm)
      refine q _ ts t' _ (((Off.of_ex e1).trans o2).trans (.of_ex e24)) (pu2.ex e24) (by omega) ⟨m, .ref r, rfl, st_of upd_same, r, ws, rfl, st_of (Ex.new nm _ _ upd_same), paired_imp (fun _ _ z => z.ex e24) pws⟩ ?_
      exact { len := by rw [lts, lS], n1 := n1, n6 := n6, tab := fun i h1 h2 => tabs i _ _ (List.getElem?_eq_getElem h1) (List.getElem?_eq_getElem h2) }
end
end K70
end
section
namespace K70
open PySem PySem.Spec PyProof.Rows L2 Evl RZ Dw M20 M25 CL
section
variable {P : Program} {w : World} {K : PySem.W.Frag} {mg : Str → Option Value} {base : Heap}
/-! ### what a cell comes to -/
def sp_did (K : PySem.W.Frag) : Sp := spX (fun (p : MArg × (Str × Nat) × Nat × List Nat) vs H => (∃ u v x, vs = [u, v, .str p.2.1.1, x] ∧ MA K H u v p.1 ∧ Nats K H x p.2.2.2) ∧ MOk p.1 ∧ p.1.1[p.2.2.1]? = some p.2.1 ∧ p.2.2.2.length = p.2.1.2 ∧ ∀ k ∈ p.2.2.2, k < p.1.2.1)
  (fun p v _ => v = vi (g (p.1.2.2.getD p.2.2.1 []) (plc p.1.2.1 p.2.2.2)))
theorem c_did (T : Txt mg) (D : Df K mg "_law_did" s_did ["_law_signature_here", "_law_model_here", "_law_name", "_law_args"]) : Cl P w K mg base 1 "_law_did" (sp_did K) := by
  refine cl_of (k := 0) D sc_did (fun vs H Q E h => ?_) (fun f cdv A outer s H vs Q E hr h => ?_)
  · obtain ⟨p, ⟨⟨u, v, x, rfl, _⟩, _⟩, _⟩ := h
    rfl
  · obtain ⟨⟨⟨sg, n, ts⟩, d, i, r⟩, ⟨⟨u, v, x, rfl, ⟨hG, hM⟩, hx⟩, ok, hi, lr, low⟩, q⟩ := h
    refine ⟨_, (pss_cons (ps_asg (pv 1) (pg_tup (by rfl) (pgs_cons (pg_name (i := 4) sc_did.nd rfl (.inl rfl)) (pgs_cons (pg_name (i := 5) sc_did.nd rfl (.inl rfl)) pgs_nil))))
      (pss_cons (ps_set (i := 6) sc_did.nd rfl (.inl rfl) (pe_bm PySem.F.plainAttrs_list PySem.F.slot_list_index PySem.F.type_list_index mt_index (pe_lc (own := [("_law_word", 9), ("_law_many", 10)]) (g := (gTup _ 2 (gCons (gName 9) (gCons (gName 10) gNil)))) (by rfl) sc_did.nd (pi_tup (pv 0)) (blkOk_by (own := [("_law_word", 9), ("_law_many", 10)]) (N := ["_law_signature_here", "_law_model_here", "_law_name", "_law_args", "_law_size", "_law_tables_here", "_law_k", "_law_at", "_law_arg", "_law_word", "_law_many"]) (sc := (defScope s_did)) (by decide +kernel)) (fun _ _ _ _ _ => (pg_tup (by rfl) (pgs_cons (pg_name (i := 9) sc_did.nd rfl (.inl rfl)) (pgs_cons (pg_name (i := 10) sc_did.nd rfl (.inl rfl)) pgs_nil)))) (fun _ _ _ _ _ => pts_nil) (fun _ _ _ _ _ => (pv 9))) (pa_cons (pv 2) pa_nil)))
      (pss_cons (ps_set (i := 7) sc_did.nd rfl (.inl rfl) pe_int)
      (pss_cons (ps_for PassesOwn.never (by rfl) (pi_tup (pv 3)) (pg_name (i := 8) sc_did.nd rfl (.inl rfl))
        (pss_one (ps_set (i := 7) sc_did.nd rfl (.inl rfl) (pe_op op_add (pe_op op_mul (pv 7) (pv 4)) (pv 8)))))
      (pss_one (ps_ret (pe_ix ix_tup (pe_ix ix_tup (pv 5) (pv 6) (fun _ _ => rfl)) (pv 7) (fun _ _ => rfl)))))))), ?_⟩
    replace ok : MOk (sg, n, ts) := ok
    replace hi : sg[i]? = some d := hi
    replace lr : r.length = d.2 := lr
    replace low : ∀ k ∈ r, k < n := low
    have sok : SigOk sg := ok.1
    have mok : MdlOk sg n ts := ok.2
    have n6 : n ≤ 6 := mok.n6
    obtain ⟨il, ed⟩ := List.getElem?_eq_some_iff.mp hi
    have il2 : i < ts.length := by rw [mok.len]; exact il
    have p2 := sok.pl d (List.mem_iff_getElem?.mpr ⟨i, hi⟩)
    obtain ⟨a, us, rfl, hS, hP⟩ := id hG
    obtain ⟨z, tv, rfl, hZ, hT⟩ := id hM
    obtain ⟨b, tvs, rfl, hB, hR⟩ := id hT
    obtain ⟨xa, rfl, hxa⟩ := id hx
    replace hZ : SqT K H z [vi n, .ref b] := hZ
    replace hP : Paired (Deed K H) us sg := hP
    replace hR : Paired (Nats K H) tvs ts := hR
    replace hxa : SqT K H xa (r.map vi) := hxa
    have lS : us.length = sg.length := paired_len hP
    have l4 := sok.l4
    refine ⟨.ref z, rfl, z, _, rfl, hZ, rfl, _, _, rfl, _, _, rfl, rfl, ?_⟩
    have names : ∀ H1, Ex H H1 → EvL (tLc (iTup K (tVar 0)) (gTup K 2 (gCons (gName 9) (gCons (gName 10) gNil))) tYes (tVar 9) [9, 10]) [some (.ref a), some (.ref z), some (.str d.1), some (.ref xa), some (vi n), some (.ref b), none, none, none, none, none] H1 ((sg.map (·.1)).map V.str) := fun H1 e1 H2 e2 Q' q' => by
      refine (elp_lcTg (K := K) (ev_var rfl) (ex_t (e1.trans e2) hS) (by omega) (fun _ => true) (fun v i _ => v = .str ((sg.map (·.1)).getD i "")) (fun _ _ _ _ _ z => z) (fun j y H3 e3 hy Φ kk => ?_)) H2 (Ex.refl _) _ fun l ws H3 nl e3 hl pw => q' l H3 nl e3 ?_
      · obtain ⟨dd, hdd, c, rfl, hc⟩ := paired_at hP hy
        refine ⟨c, _, rfl, ex_t ((e1.trans e2).trans e3) hc, rfl, _, _, rfl, _, _, rfl, rfl, kk _ rfl et_yes fun _ => ep_ev (ev_var rfl) fun _ _ => ?_⟩
        rw [List.getD_eq_getElem?_getD, List.getElem?_map, hdd]
        rfl
      · rw [range_all] at pw
        rw [hl, paired_eqs pw]
        congr 2
        apply List.ext_getElem?
        intro j
        rw [lS]
        by_cases hj : j < sg.length
        · rw [List.getElem?_map, List.getElem?_range hj, List.getElem?_map, List.getElem?_map, List.getElem?_eq_getElem hj]
          show some (V.str ((sg.map _).getD j "")) = _
          rw [List.getD_eq_getElem?_getD, List.getElem?_map, List.getElem?_eq_getElem hj]
          rfl
        · rw [List.getElem?_eq_none_iff.mpr (by simp; omega), List.getElem?_eq_none_iff.mpr (by simp; omega)]
    have mem : d.1 ∈ sg.map (·.1) := List.mem_map.mpr ⟨d, List.mem_iff_getElem?.mpr ⟨i, hi⟩, rfl⟩
    have idx : (sg.map (·.1)).idxOf d.1 = i := by
      have h1 : (sg.map (·.1))[i]? = some d.1 := by rw [List.getElem?_map, hi]; rfl
      have h2 := List.getElem_idxOf (List.idxOf_lt_length_iff.mpr mem)
      obtain ⟨h3, h4⟩ := List.getElem?_eq_some_iff.mp h1
      exact (List.getElem_inj sok.nd).mp (h2.trans h4.symm)
    refine q_asg (v := vi i) (ev_is (ev_sindex (K := K) (names H (Ex.refl _)) (ev_var rfl) mem) (by rw [idx])) fun H1 e1 => ?_
    refine q_asg (v := vi 0) ev_c fun H2 e2 => ?_
    have e02 := e1.trans e2
    refine q_forT (K := K) (ev_var rfl) (ex_t e02 hxa) (fun j σ H' => Ex H H' ∧ ∃ y, σ = [some (.ref a), some (.ref z), some (.str d.1), some (.ref xa), some (vi n), some (.ref b), some (vi i), some (vi (plc n (r.take j))), y, none, none]) (fun H3 e3 => ⟨e02.trans e3, none, rfl⟩) (fun j σ' H' _ ⟨e, _⟩ => ex_t e hxa) (fun j y σ' H3 hy ⟨e3, y8, hσ⟩ => ?_) (fun σ' H3 ⟨e3, y8, hσ⟩ => ?_)
    · subst hσ
      rw [List.getElem?_map] at hy
      cases hk : r[j]? with
      | none => rw [hk] at hy; cases hy
      | some k =>
      rw [hk] at hy
      cases Option.some.inj hy
      have small : plc n (r.take j) ≤ 1000 := by
        have a := plc_low (n := n) (ns := r.take j) (fun k h => low k (List.mem_of_mem_take h)) (by rw [List.length_take]; omega)
        have b := pow_36 (p := (r.take j).length) n6 (by rw [List.length_take]; omega)
        omega
      refine s_asg (v := vi (plc n (r.take (j + 1)))) (ev_is (ev_addN (ev_mulN (ev_var rfl) (ev_var rfl) small (by omega)) (ev_var rfl)) (by rw [plc_take hk])) fun H4 e4 => ⟨e3.trans e4, _, rfl⟩
    · subst hσ
      rw [List.length_map, List.take_length]
      have pl := plc_low low (by rw [lr]; exact p2)
      rw [lr] at pl
      have tb := mok.tab i il il2
      obtain ⟨t', et', ta, rfl, hta⟩ := paired_get hR (List.getElem?_eq_getElem il2)
      have egd : ts.getD i [] = ts[i] := by rw [List.getD_eq_getElem?_getD, List.getElem?_eq_getElem il2]; rfl
      refine s_ret (ev_op (ev_op (ev_var rfl) (ev_var rfl) (rv_ixT (K := K) (ex_t e3 hB) (atI_vi (k := i) et'))) (ev_var rfl) (rv_ixT (K := K) (ex_t e3 hta) (atI_vi (k := plc n r) (v := vi (g ts[i] (plc n r))) (by rw [List.getElem?_map, g_eq (show plc n r < ts[i].length by rw [tb.len, ed]; exact pl)]; rfl)))) fun H4 e4 => q _ H4 (e3.trans e4) ?_
      show _ = vi (g (ts.getD i []) (plc n r))
      rw [egd]
/-! ### all cells of a signature -/
def allc (n : Nat) (sg : List (Str × Nat)) : List (Str × List Nat) := sg.flatMap fun d => (rows n d.2).map fun r => (d.1, r)
abbrev Fnd := Int × Nat × Str × List Nat
def FndV (K : PySem.W.Frag) (v : V) (c : Fnd) (H : Hp) : Prop := ∃ b x, v = .ref b ∧ SqT K H b [.int c.1, vi c.2.1, x, .str c.2.2.1] ∧ Nats K H x c.2.2.2
theorem FndV.et {v : V} {c : Fnd} {H H' : Hp} (e : ET K H H') (h : FndV K v c H) : FndV K v c H' := let ⟨b, x, q, s, n⟩ := h; ⟨b, x, q, e _ _ s, n.et e⟩
def dF (c : Fnd) : PyData := .tuple [.int c.1, .int (c.2.1 : Int), dN c.2.2.2, .str c.2.2.1]
theorem FndV.dp {v : V} {c : Fnd} {H : Hp} (h : FndV K v c H) : Dp K H v (dF c) := let ⟨b, x, q, s, n⟩ := h; by
  subst q
  exact .tup s (.cons (.int _) (.cons (.int _) (.cons n.dp (.cons (.str _) .nil))))
def ArgV (K : PySem.W.Frag) (H : Hp) (v : V) (c : Str × List Nat) : Prop := ∃ b x, v = .ref b ∧ SqT K H b [.str c.1, x] ∧ Nats K H x c.2
theorem ArgV.et {v : V} {c : Str × List Nat} {H H' : Hp} (e : ET K H H') (h : ArgV K H v c) : ArgV K H' v c := let ⟨b, x, q, s, n⟩ := h; ⟨b, x, q, e _ _ s, n.et e⟩
def sp_lcells (K : PySem.W.Frag) : Sp := fun vs H Q _ => ∃ (sg : List (Str × Nat)) (n : Nat) (u : V), vs = [u, vi n] ∧ Sig K H u sg ∧ SigOk sg ∧ n ≤ 6 ∧ ∀ a cs vs' H', Ex H H' → H a = none → H' a = some (.lst vs') → Paired (ArgV K H') vs' cs → cs.Perm (allc n sg) → Q (.ref a) H'
theorem allc_few {n : Nat} {sg : List (Str × Nat)} (n6 : n ≤ 6) (so : SigOk sg) (i : Nat) : (allc n (sg.take i)).length ≤ 144 := by
  have one : ∀ l : List (Str × Nat), (∀ d ∈ l, d.2 ≤ 2) → (allc n l).length ≤ 36 * l.length := fun l => by
    induction l with
    | nil => exact fun _ => Nat.zero_le _
    | cons d l ih =>
      intro h
      have a := ih fun x hx => h x (List.mem_cons_of_mem _ hx)
      have b := pow_36 n6 (h d (List.mem_cons_self ..))
      unfold allc at a ⊢
      rw [List.flatMap_cons, List.length_append, List.length_map, rows_len', List.length_cons]
      omega
  have a := one (sg.take i) fun d hd => so.pl d (List.mem_of_mem_take hd)
  have l4 := so.l4
  have lt : (sg.take i).length ≤ 4 := by rw [List.length_take]; omega
  exact Nat.le_trans a (Nat.mul_le_mul_left 36 lt)
end
end K70
end
section
namespace K70
open PySem PySem.Spec PyProof.Rows L2 Evl RZ Dw M20 M25 CL PySem.W
section
variable {P : Program} {w : World} {K : PySem.W.Frag} {mg : Str → Option Value} {base : Heap}
theorem dF_al (a b : Fnd) : alike (dF a) (dF b) = true := by
  have e : ∀ l : List Nat, dN l = .tuple ((ia l).map .int) := fun l => by
    unfold dN ia
    rw [List.map_map]
    rfl
  unfold dF
  rw [e, e]
  simp [alike, alikeAll, alike_ints]
theorem dF_dep (a : Fnd) : (dF a).depth ≤ 40 := by
  have : ∀ l : List Nat, PyData.depthAll (l.map fun n => PyData.int ((n : Nat) : Int)) ≤ 0 := fun l => by
    induction l with
    | nil => simp [PyData.depthAll]
    | cons x l ih =>
      rw [List.map_cons, PyData.depthAll, PyData.depth]
      omega
  have h := this a.2.2.2
  unfold dF dN
  simp only [PyData.depth, PyData.depthAll]
  omega
theorem c_cells (T : Txt mg) (D : Df K mg "_law_cells" s_cells ["_law_signature_here", "_law_size"]) (c_ways : Cl P w K mg base 1 "_law_ways" (sp_ways K)) : Cl P w K mg base 2 "_law_cells" (sp_lcells K) := by
  refine cl_of (k := 1) D sc_cells (fun vs H Q E h => ?_) (fun f cdv A outer s H vs Q E hr h => ?_)
  · obtain ⟨sg, n, u, rfl, _⟩ := h
    rfl
  · obtain ⟨sg, n, u, rfl, hG, sok, n6, q⟩ := h
    refine ⟨_, (pss_cons (ps_set (i := 2) sc_cells.nd rfl (.inl rfl) (pe_lst pa_nil))
      (pss_cons (ps_for PassesOwn.never (by rfl) (pi_enumT (by rfl) T.z_enumerate (pa_cons (pv 0) pa_nil)) (pg_tup (by rfl) (pgs_cons (pg_name (i := 3) sc_cells.nd rfl (.inl rfl)) (pgs_cons (pg_tup (by rfl) (pgs_cons (pg_name (i := 4) sc_cells.nd rfl (.inl rfl)) (pgs_cons (pg_name (i := 5) sc_cells.nd rfl (.inl rfl)) pgs_nil))) pgs_nil)))
        (pss_one (ps_for PassesOwn.never (by rfl) (pi_list (pe_cl c_ways hr (by first | decide | omega) (by rfl) (pa_cons (pv 5) (pa_cons (pv 1) pa_nil)))) (pg_name (i := 6) sc_cells.nd rfl (.inl rfl))
          (pss_one (ps_expr (pe_bm PySem.F.plainAttrs_list PySem.F.slot_list_append PySem.F.type_list_append mt_append (pv 2) (pa_cons (pe_tup (pa_cons (pe_callB (cr_maxT rfl hr) (by rfl) T.z_max (by decide +kernel) (pa_cons (pe_op op_catA (pe_tup (pa_cons (pe_un un_neg pe_int) pa_nil)) (pv 6)) pa_nil)) (pa_cons (pv 3) (pa_cons (pv 6) (pa_cons (pv 4) pa_nil))))) pa_nil)))))))
      (pss_one (ps_ret (pe_lc (own := [("_law_greatest", 7), ("_law_k", 3), ("_law_args", 6), ("_law_name", 4)]) (g := (gTup _ 4 (gCons (gName 7) (gCons (gName 3) (gCons (gName 6) (gCons (gName 4) gNil)))))) (by rfl) sc_cells.nd (pi_list (pe_callB (cr_sortD hr) (by rfl) T.z_sorted (by decide +kernel) (pa_cons (pv 2) pa_nil))) (blkOk_by (own := [("_law_greatest", 7), ("_law_k", 3), ("_law_args", 6), ("_law_name", 4)]) (N := ["_law_signature_here", "_law_size", "_law_found", "_law_k", "_law_name", "_law_many", "_law_args", "_law_greatest"]) (sc := (defScope s_cells)) (by decide +kernel)) (fun _ _ _ _ _ => (pg_tup (by rfl) (pgs_cons (pg_name (i := 7) sc_cells.nd rfl (.inl rfl)) (pgs_cons (pg_name (i := 3) sc_cells.nd rfl (.inl rfl)) (pgs_cons (pg_name (i := 6) sc_cells.nd rfl (.inl rfl)) (pgs_cons (pg_name (i := 4) sc_cells.nd rfl (.inl rfl)) pgs_nil)))))) (fun _ _ _ _ _ => pts_nil) (fun _ _ _ _ _ => (pe_tup (pa_cons (pv 4) (pa_cons (pv 6) pa_nil))))))))), ?_⟩
    obtain ⟨a, us, rfl, hS, hP⟩ := id hG
    have lS : us.length = sg.length := paired_len hP
    refine q_asgL (el_lst ea_nil (Nat.zero_le _)) fun m H1 nm e1 hm => ?_
    refine q_enumTs (ea_cons (ev_var rfl) ea_nil H1 (Ex.refl _) _ fun H2 e2 => ⟨a, us, rfl, ex_t (e1.trans e2) hS, ?_⟩)
    have e02 := e1.trans e2
    refine qloops_enumT (K := K) (fun i σ H' => Ex H H' ∧ (∃ ws L, H' m = some (.lst ws) ∧ Paired (fun v c => FndV K v c H') ws L ∧ L.map (fun c : Fnd => (c.2.2.1, c.2.2.2)) = allc n (sg.take i)) ∧ ∃ y3 y4 y5 y6, σ = [some (.ref a), some (vi n), some (.ref m), y3, y4, y5, y6, none])
      ⟨e02, ⟨[], [], e2 _ _ hm, .nil, rfl⟩, none, none, none, none, rfl⟩ (fun i σ' H' _ ⟨e, _⟩ => ex_t e hS) (fun i x t σ' H3 hx ⟨e3, ⟨ws, L, hws, pw, hL⟩, y3, y4, y5, y6, hσ⟩ nt => ?_) (fun σ' H3 ⟨e3, ⟨ws, L, hws, pw, hL⟩, y3, y4, y5, y6, hσ⟩ => ?_)
    · subst hσ
      obtain ⟨d, hd, b, rfl, hb⟩ := paired_at hP hx
      have mem := List.mem_iff_getElem?.mpr ⟨i, hd⟩
      have p2 := sok.pl d mem
      have nx : Ex H3 (upd H3 t (.tup [vi i, .ref b])) := Ex.new nt
      have e03 := e3.trans nx
      refine ⟨t, _, rfl, st_of upd_same, rfl, _, _, rfl, _, _, rfl, ⟨b, _, rfl, ex_t e03 hb, rfl, _, _, rfl, _, _, rfl, rfl, rfl, ?_⟩⟩
      refine s_forLs (ea_cons (ev_var rfl) (ea_cons (ev_var rfl) ea_nil) _ (Ex.refl _) _ fun H4 e4 => ⟨(n, d.2), ⟨rfl, n6, p2⟩, fun v H5 e5 ⟨ra, rvs, hra, hrl, prs⟩ nra => ⟨ra, hra, ⟨rvs, sq_of hrl⟩, ?_⟩⟩)
      subst hra
      replace prs : Paired (Nats K H5) rvs (rows n d.2) := prs
      have lrv := paired_len prs
      rw [rows_len'] at lrv
      have big := pow_36 n6 p2
      have e35 := (nx.trans e4).trans e5
      have ram : ra ≠ m := fun zz => by have := nra _ rfl; rw [zz, (nx.trans e4) _ _ hws] at this; cases this
      have lL := paired_len pw
      have fw := allc_few n6 sok i
      rw [← hL, List.length_map] at fw
      refine loops_list (K := K) (xs := rvs) (fun j σ H' => Ex H H' ∧ H' ra = some (.lst rvs) ∧ Paired (Nats K H') rvs (rows n d.2) ∧ (∃ ws2 L2, H' m = some (.lst ws2) ∧ Paired (fun v c => FndV K v c H') ws2 L2 ∧ ws2.length = ws.length + j ∧ L2.map (fun c : Fnd => (c.2.2.1, c.2.2.2)) = allc n (sg.take i) ++ ((rows n d.2).take j).map fun r => (d.1, r)) ∧ ∃ y6, σ = [some (.ref a), some (vi n), some (.ref m), some (vi i), some (.str d.1), some (vi d.2), y6, none])
        ⟨e03.trans (e4.trans e5), hrl, prs, ⟨ws, L, e35 _ _ hws, paired_imp (fun _ _ z => FndV.et (Dw.Ex.et e35) z) pw, rfl, by rw [hL, List.take_zero]; simp⟩, _, rfl⟩ (fun j σ' H' _ ⟨_, hr, _⟩ => sq_of hr) (fun j y σ' H6 hy ⟨e6, hr6, pr6, ⟨ws2, L2, hw2, pw2, lw2, hL2⟩, y6', hσ⟩ => ?_) (fun σ' H6 ⟨e6, hr6, pr6, ⟨ws2, L2, hw2, pw2, lw2, hL2⟩, y6', hσ⟩ => ?_)
      · subst hσ
        obtain ⟨row, hrow, xa, rfl, hxa⟩ := paired_at pr6 hy
        have hj := (List.getElem?_eq_some_iff.mp hy).1
        obtain ⟨lr, rl⟩ := rows_of (List.mem_iff_getElem?.mpr ⟨j, hrow⟩)
        have mx : ∀ H7, Ex H6 H7 → EvP (tCB (rMaxT K) (tCons (tOp (rCatA K) (tTup (tCons (tUn (rU fun i => .int (-i)) (tC (.int 1))) tNil)) (tVar 6)) tNil)) [some (.ref a), some (vi n), some (.ref m), some (vi i), some (.str d.1), some (vi d.2), some (.ref xa), none] H7 (fun v _ => ∃ k : Int, v = .int k) := fun H7 e7 => by
          refine (ep_maxI (K := K) (xs := (-1) :: row.map fun k => ((k : Nat) : Int)) (tv_is (tv_cat (tv_tup (xs := [.int (-1)]) (ea_cons (ev_un ev_c ru_neg) ea_nil) (by show 1 ≤ 100000; decide)) (tv_ev (ev_var rfl) (ex_t e7 hxa)) (by rw [List.length_map, lr]; show 1 + d.2 ≤ 100000; omega)) (by rw [List.map_cons, List.map_map]; rfl)) (by simp)).imp fun v H' _ ⟨k, _, hv⟩ => ⟨k, hv⟩
        refine do_app hw2 (ev_var rfl) fun H7 e7 => do_tup (do_cons (do_evP (mx H7 e7) fun v H8 e8 ⟨k, hk⟩ => do_cons (do_ev (ev_var rfl) fun H9 e9 => do_cons (do_ev (ev_var rfl) fun Ha ea => do_cons (do_ev (ev_var rfl) fun Hb eb => do_nil ⟨by show 4 ≤ sizeLine; decide, fun r2 nr2 => ?_⟩)))))
        subst hk
        have e6b := (e7.trans (e8.trans (e9.trans (ea.trans eb)))).trans (Ex.new (o := .tup [.int k, vi i, .ref xa, .str d.1]) nr2)
        have hm9 := e6b _ _ hw2
        have hr2 : (upd Hb r2 (.tup [.int k, vi i, .ref xa, .str d.1])) r2 = some (.tup [.int k, vi i, .ref xa, .str d.1]) := upd_same
        generalize (upd Hb r2 (.tup [.int k, vi i, .ref xa, .str d.1])) = Hc at *
        refine ⟨m, ws2, .ref r2, rfl, rfl, hm9, sz_lt (by omega), ?_⟩
        have et : ET K Hc (upd Hc m (.lst (ws2 ++ [.ref r2]))) := ET.refl.upd hm9
        refine ⟨(e6.trans e6b).mut nm, by rw [upd_ne ram]; exact e6b _ _ hr6, paired_imp (fun _ _ z => (z.ex e6b).et et) pr6, ⟨ws2 ++ [.ref r2], L2 ++ [(k, i, d.1, row)], upd_same, paired_snoc' (R := fun v c => FndV K v c (upd Hc m (.lst (ws2 ++ [.ref r2])))) (x := .ref r2) (y := (k, i, d.1, row)) ⟨r2, .ref xa, rfl, et _ _ (st_of hr2), xa, rfl, et _ _ (ex_t e6b hxa)⟩ (paired_imp (fun _ _ z => FndV.et (ET.trans (Dw.Ex.et e6b) et) z) pw2), by rw [List.length_append, lw2]; rfl, ?_⟩, _, rfl⟩
        rw [List.map_append, hL2, List.take_add_one, hrow, List.append_assoc]
        congr 1
        rw [List.map_append]
        rfl
      · subst hσ
        refine ⟨e6, ⟨ws2, L2, hw2, pw2, ?_⟩, _, _, _, _, rfl⟩
        rw [hL2, show (rows n d.2).take rvs.length = rows n d.2 from List.take_of_length_le (by rw [lrv, rows_len']; exact Nat.le_refl _), List.take_add_one, hd]
        unfold allc
        rw [List.flatMap_append]
        simp
    · subst hσ
      rw [lS, List.take_of_length_le (Nat.le_refl _)] at hL
      have fw := allc_few n6 sok sg.length
      rw [List.take_of_length_le (Nat.le_refl _), ← hL, List.length_map] at fw
      refine do_ret (lc_src (cb1_src (do_ev (ev_var rfl) fun H4 e4 => ?_)))
      refine do_sortP (K := K) (R := FndV K) (f := dF) (e4 _ _ hws) (paired_imp (fun _ _ z => FndV.et (Dw.Ex.et e4) z) pw) (fun v b h => h.dp) (AllAlike.of fun b b' => dF_al b b') (Sortable.tuples fun b => ⟨_, _, rfl⟩) (fun b _ => dF_dep b) (fun v b H1 e h => FndV.et (Dw.Ex.et e) h) fun p vs' L' H5 np e5 hp pm pv => ?_
      have lv := paired_len pv
      have lp := pm.length_eq
      refine do_elp (elp_lcLg (K := K) (ev_c) (sq_of hp) (by omega) (fun _ => true) (fun v i H' => ArgV K H' v ((L'.map (fun c : Fnd => (c.2.2.1, c.2.2.2))).getD i ("", []))) (fun v b H H' e h => ArgV.et e.et h) (fun i x H6 e6 hx Φ kk => ?_)) fun tA us2 H6 nT e6 hT pT => ?_
      · obtain ⟨c, hc, b, xa, rfl, hb, hxa⟩ := paired_at pv hx
        refine ⟨b, _, rfl, ex_t e6 hb, rfl, _, _, rfl, _, _, rfl, _, _, rfl, _, _, rfl, rfl, kk _ rfl et_yes fun _ => ?_⟩
        rw [List.getD_eq_getElem?_getD, List.getElem?_map, hc]
        exact (tv_tup (K := K) (ea_cons (ev_var rfl) (ea_cons (ev_var rfl) ea_nil)) (by show 2 ≤ 100000; decide)).imp fun v H' e7 ⟨b2, hb2, sb⟩ => ⟨b2, xa, hb2, sb, hxa.ex (e6.trans e7)⟩
      · rw [range_all] at pT
        have e46 := (e4.trans e5).trans e6
        refine q tA (L'.map (fun c : Fnd => (c.2.2.1, c.2.2.2))) us2 H6 (e3.trans e46) (fresh_back (e3.trans (e4.trans e5)) nT) hT ?_ (by rw [← hL]; exact pm.map _)
        have eqM : (List.range vs'.length).map (fun i => (L'.map (fun c : Fnd => (c.2.2.1, c.2.2.2))).getD i ("", [])) = L'.map (fun c : Fnd => (c.2.2.1, c.2.2.2)) := by
          apply List.ext_getElem?
          intro i
          rw [lv]
          by_cases hi : i < L'.length
          · rw [List.getElem?_map, List.getElem?_range hi, List.getElem?_map, List.getElem?_eq_getElem hi]
            show some ((L'.map _).getD i _) = _
            rw [List.getD_eq_getElem?_getD, List.getElem?_map, List.getElem?_eq_getElem hi]
            rfl
          · rw [List.getElem?_eq_none_iff.mpr (by simp; omega), List.getElem?_eq_none_iff.mpr (by simp; omega)]
        rw [← eqM]
        exact paired_map (S := ArgV K H6) (fun _ _ z => z) pT
/-! ### closed, as the law looks -/
theorem closed_all {p : MArg} (ok : MOk p) {S : List Nat} {cs : List (Str × List Nat)} (hp : cs.Perm (allc p.2.1 p.1)) : closed (cwm p) S = true ↔ ∀ c ∈ cs, ∀ (i : Nat) (d : Str × Nat), p.1[i]? = some d → c.1 = d.1 → c.2 ∈ rows p.2.1 d.2 → among c.2 S = true → g (p.2.2.getD i []) (plc p.2.1 c.2) ∈ S := by
  rw [closed_iff]
  constructor
  · intro h c hc i d hi he hr ha
    obtain ⟨j, hj⟩ := List.mem_iff_getElem?.mp hr
    have p2 := ok.1.pl d (List.mem_iff_getElem?.mpr ⟨i, hi⟩)
    obtain ⟨pe, jl⟩ := rows_plc' p2 ok.2.n1 hj
    obtain ⟨il, ed⟩ := List.getElem?_eq_some_iff.mp hi
    have il2 : i < p.2.2.length := by rw [ok.2.len]; exact il
    have tb := ok.2.tab i il il2
    have egd : p.2.2.getD i [] = p.2.2[i] := by rw [List.getD_eq_getElem?_getD, List.getElem?_eq_getElem il2]; rfl
    rw [egd, pe]
    refine h (d.1, c.2, g p.2.2[i] j) (cws_mem.mpr ⟨i, d, p.2.2[i], j, c.2, hi, List.getElem?_eq_getElem il2, hj, g_eq (by rw [tb.len, ed]; exact jl), rfl, rfl⟩) (among_iff.mp ha)
  · intro h c hc ha
    obtain ⟨i, d, t, j, r, h1, h2, h3, h4, h5, h6⟩ := cws_mem.mp hc
    have p2 := ok.1.pl d (List.mem_iff_getElem?.mpr ⟨i, h1⟩)
    obtain ⟨pe, jl⟩ := rows_plc' p2 ok.2.n1 h3
    have mem : (d.1, r) ∈ cs := by
      rw [hp.mem_iff]
      unfold allc
      exact List.mem_flatMap.mpr ⟨d, List.mem_iff_getElem?.mpr ⟨i, h1⟩, List.mem_map.mpr ⟨r, List.mem_iff_getElem?.mpr ⟨j, h3⟩, rfl⟩⟩
    have := h _ mem i d h1 rfl (List.mem_iff_getElem?.mpr ⟨j, h3⟩) (among_iff.mpr (by rw [← h6]; exact ha))
    have egd : p.2.2.getD i [] = t := by rw [List.getD_eq_getElem?_getD, h2]; rfl
    rw [egd, pe] at this
    have e4 : g t j = c.2.2 := by
      show t.getD j 0 = c.2.2
      rw [List.getD_eq_getElem?_getD, h4]
      rfl
    rw [e4] at this
    exact this
end
end K70
end
section
namespace K70
open PySem PySem.Spec PyProof.Rows L2 Evl RZ Dw M20 M25 CL
section
variable {P : Program} {w : World} {K : PySem.W.Frag} {mg : Str → Option Value} {base : Heap}
theorem sig_at {p : MArg} (ok : MOk p) {c : Str × List Nat} (h : c ∈ allc p.2.1 p.1) : ∃ (i : Nat) (d : Str × Nat), p.1[i]? = some d ∧ c.1 = d.1 ∧ c.2 ∈ rows p.2.1 d.2 := by
  unfold allc at h
  obtain ⟨d, hd, hc⟩ := List.mem_flatMap.mp h
  obtain ⟨i, hi⟩ := List.mem_iff_getElem?.mp hd
  obtain ⟨r, hr, rfl⟩ := List.mem_map.mp hc
  exact ⟨i, d, hi, rfl, hr⟩
theorem sig_one {p : MArg} (ok : MOk p) {i j : Nat} {d e : Str × Nat} (hi : p.1[i]? = some d) (hj : p.1[j]? = some e) (h : d.1 = e.1) : i = j ∧ d = e := by
  obtain ⟨il, ed⟩ := List.getElem?_eq_some_iff.mp hi
  obtain ⟨jl, ee⟩ := List.getElem?_eq_some_iff.mp hj
  have : i = j := (List.getElem_inj (h₀ := by rw [List.length_map]; exact il) (h₁ := by rw [List.length_map]; exact jl) ok.1.nd).mp (by rw [List.getElem_map, List.getElem_map, ed, ee]; exact h)
  subst this
  exact ⟨rfl, by rw [← ed, ← ee]⟩
def sp_lclosed (K : PySem.W.Frag) : Sp := spX (fun (p : MArg × List Nat) vs H => (∃ u v a, vs = [u, v, .ref a] ∧ MA K H u v p.1 ∧ SqL K H a (p.2.map vi)) ∧ MOk p.1) (fun p v _ => v = .bl (closed (cwm p.1) p.2))
theorem c_closed (T : Txt mg) (D : Df K mg "_law_closed" s_lclosed ["_law_signature_here", "_law_model_here", "_law_some"]) (c_cells : Cl P w K mg base 2 "_law_cells" (sp_lcells K)) (c_did : Cl P w K mg base 1 "_law_did" (sp_did K)) : Cl P w K mg base 3 "_law_closed" (sp_lclosed K) := by
  refine cl_of (k := 2) D sc_lclosed (fun vs H Q E h => ?_) (fun f cdv A outer s H vs Q E hr h => ?_)
  · obtain ⟨p, ⟨⟨u, v, a, rfl, _⟩, _⟩, _⟩ := h
    rfl
  · obtain ⟨⟨p, S⟩, ⟨⟨u, v, a, rfl, hm, ha⟩, ok⟩, q⟩ := h
    refine ⟨_, (pss_cons (ps_for PassesOwn.never (by rfl) (pi_list (pe_cl c_cells hr (by first | decide | omega) (by rfl) (pa_cons (pv 0) (pa_cons (pe_ix ix_tup (pv 1) pe_int (fun _ _ => rfl)) pa_nil)))) (pg_tup (by rfl) (pgs_cons (pg_name (i := 3) sc_lclosed.nd rfl (.inl rfl)) (pgs_cons (pg_name (i := 4) sc_lclosed.nd rfl (.inl rfl)) pgs_nil)))
        (pss_one (ps_if (PW.pt (pw_and (pt_cmpR (op_eqD hr.units) (pe_lc (own := [("_law_arg", 5)]) (g := (gName 5)) (by rfl) sc_lclosed.nd (pi_tup (pv 4)) (blkOk_by (own := [("_law_arg", 5)]) (N := ["_law_signature_here", "_law_model_here", "_law_some", "_law_name", "_law_args", "_law_arg"]) (sc := (defScope s_lclosed)) (by decide +kernel)) (fun _ _ _ _ _ => (pg_name (i := 5) sc_lclosed.nd rfl (.inl rfl))) (fun _ _ _ _ _ => (pts_one (pt_cmpR (op_notIn_seqK K) (pv 5) (pv 2) (by rfl)))) (fun _ _ _ _ _ => (pv 5))) (pe_lst pa_nil) (nomark _)) (pw_and1 (pt_cmpR op_notIn_seq (pe_cl c_did hr (by first | decide | omega) (by rfl) (pa_cons (pv 0) (pa_cons (pv 1) (pa_cons (pv 3) (pa_cons (pv 4) pa_nil))))) (pv 2) (by rfl)))))
          (pss_one (ps_ret pe_bl))
          pss_nil)))
      (pss_one (ps_ret pe_bl))), ?_⟩
    replace hm : MA K H u v p := hm
    replace ha : SqL K H a (S.map vi) := ha
    replace ok : MOk p := ok
    have n6 := ok.2.n6
    obtain ⟨z, tv, hv, hZ, hT⟩ := id hm.2
    have ev0 : Ev (tOp (rIxT K) (tVar 1) (tC (.int 0))) [some u, some v, some (.ref a), none, none, none] H (vi p.2.1) := by
      subst hv
      exact ev_op (ev_var rfl) ev_c (rv_ixT (K := K) hZ (atI_vi (k := 0) rfl))
    refine q_forLs (ea_cons (ev_var rfl) (ea_cons ev0 ea_nil) H (Ex.refl _) _ fun H1 e1 => ⟨p.1, p.2.1, u, rfl, hm.1.ex e1, ok.1, n6, fun cA cs cvs H2 e2 _ hc pc pm => ⟨cA, rfl, ⟨cvs, sq_of hc⟩, ?_⟩⟩)
    have key := closed_all ok (S := S) pm
    have e02 := e1.trans e2
    let good : Str × List Nat → Prop := fun c => ∀ (i : Nat) (d : Str × Nat), p.1[i]? = some d → c.1 = d.1 → c.2 ∈ rows p.2.1 d.2 → among c.2 S = true → g (p.2.2.getD i []) (plc p.2.1 c.2) ∈ S
    refine qloops_list (K := K) (xs := cvs) (fun j σ H' => Ex H2 H' ∧ (∀ c ∈ cs.take j, good c) ∧ ∃ y3 y4, σ = [some u, some v, some (.ref a), y3, y4, none]) ⟨Ex.refl _, (fun _ z => nomatch z), none, none, rfl⟩ (fun j σ' H' _ ⟨e, _⟩ => sq_of (e _ _ hc)) (fun j x σ' H3 hx ⟨e3, gd, y3, y4, hσ⟩ => ?_) (fun σ' H3 ⟨e3, gd, y3, y4, hσ⟩ => ?_)
    · subst hσ
      obtain ⟨c, hcj, b, xa, rfl, hb, ⟨xaa, rfl, hxa⟩⟩ := paired_at pc hx
      have mem := List.mem_iff_getElem?.mpr ⟨j, hcj⟩
      obtain ⟨i, d, hi, hcd, hr⟩ := sig_at ok (pm.mem_iff.mp mem)
      have p2 := ok.1.pl d (List.mem_iff_getElem?.mpr ⟨i, hi⟩)
      obtain ⟨lr, rl⟩ := rows_of hr
      have e03 := e02.trans e3
      refine ⟨b, _, rfl, ex_t e3 hb, rfl, _, _, rfl, _, _, rfl, rfl, ?_⟩
      refine s_when (b := among c.2 S && !decide (g (p.2.2.getD i []) (plc p.2.1 c.2) ∈ S)) (et_and (et_test (ev_is (ev_eqLL (K := K) (xs := c.2.filter fun x => !decide (x ∈ S)) (ys := []) (el_notIn (K := K) (fun _ => rfl) rfl (fun _ => rfl) (fun _ => rfl) (ex_t e3 hxa) (ex_l e03 ha) (by omega)) (el_lst ea_nil (Nat.zero_le _)) (fun k hk => by have := rl k (List.mem_filter.mp hk).1; omega) (fun _ h => nomatch h) (by have := List.length_filter_le (fun x => !decide (x ∈ S)) c.2; omega) (Nat.zero_le _)) (by rw [none_out]))) (fun _ => et_is (et_test (ev_op (ev_callV (v := vi (g (p.2.2.getD i []) (plc p.2.1 c.2))) (p, d, i, c.2) (ea_cons (ev_var rfl) (ea_cons (ev_var rfl) (ea_cons (ev_var rfl) (ea_cons (ev_var rfl) ea_nil)))) (fun H4 e4 => ⟨⟨_, _, _, by rw [hcd], hm.ex (e03.trans e4), ⟨xaa, rfl, ex_t (e3.trans e4) hxa⟩⟩, ok, hi, lr, rl⟩) (fun _ _ z => z)) (ev_var rfl) (rv_niL (K := K) (ex_l e03 ha) rfl (flat_vi S)))) (by rw [inV_vi]))) (fun ho H4 e4 => s_ret ev_c fun H5 e5 => q _ H5 ((e03.trans e4).trans e5) ?_) (fun ho H4 e4 => ⟨e3.trans e4, fun c' hc' => ?_, _, _, rfl⟩)
      · show V.bl false = V.bl (closed (cwm p) S)
        rw [Bool.and_eq_true] at ho
        cases hcl : closed (cwm p) S with
        | false => rfl
        | true =>
          have := key.mp hcl c mem i d hi hcd hr ho.1
          rw [decide_eq_true this] at ho
          cases ho.2
      · rw [List.take_add_one, hcj] at hc'
        rcases List.mem_append.mp hc' with z | z
        · exact gd c' z
        · rw [List.mem_singleton.mp z]
          intro i2 d2 hi2 hcd2 hr2 ha2
          obtain ⟨ei, _⟩ := sig_one ok hi hi2 (hcd.symm.trans hcd2)
          subst ei
          rw [ha2, Bool.true_and] at ho
          have := ho
          rw [Bool.not_eq_false', decide_eq_true_iff] at this
          exact this
    · subst hσ
      have full : cs.take cvs.length = cs := List.take_of_length_le (by rw [paired_len pc]; exact Nat.le_refl _)
      rw [full] at gd
      refine s_ret ev_c fun H4 e4 => q _ H4 ((e02.trans e3).trans e4) ?_
      show V.bl true = V.bl (closed (cwm p) S)
      rw [key.mpr gd]
/-! ### all lists of numbers, sorted -/
def sp_subsets : Sp := fun vs H Q _ => ∃ n : Nat, vs = [vi n] ∧ n ≤ 6 ∧ ∀ a as H', Ex H H' → LLs H H' a as (srtO (sub n)) → Q (.ref a) H'
theorem c_subsets (T : Txt mg) (D : Df K mg "_law_subsets" s_subsets ["_law_size"]) : Cl P w K mg base 1 "_law_subsets" sp_subsets := by
  refine cl_of (k := 0) D sc_subsets (fun vs H Q E h => ?_) (fun f cdv A outer s H vs Q E hr h => ?_)
  · obtain ⟨n, rfl, _⟩ := h
    rfl
  · obtain ⟨n, rfl, n6, q⟩ := h
    refine ⟨_, (pss_cons (ps_set (i := 1) sc_subsets.nd rfl (.inl rfl) (pe_lst (pa_cons (pe_lst pa_nil) pa_nil)))
      (pss_cons (ps_for PassesOwn.never (by rfl) (pi_range1 (by rfl) T.z_range (pa_cons (pv 0) pa_nil)) (pg_name (i := 2) sc_subsets.nd rfl (.inr rfl))
        (pss_one (ps_set (i := 1) sc_subsets.nd rfl (.inl rfl) (pe_op op_cat (pv 1) (pe_lc (own := [("_law_some", 3)]) (g := (gName 3)) (by rfl) sc_subsets.nd (pi_list (pv 1)) (blkOk_by (own := [("_law_some", 3)]) (N := ["_law_size", "_law_found", "_law_number", "_law_some"]) (sc := (defScope s_subsets)) (by decide +kernel)) (fun _ _ _ _ _ => (pg_name (i := 3) sc_subsets.nd rfl (.inl rfl))) (fun _ _ _ _ _ => pts_nil) (fun _ _ _ _ _ => (pe_op op_cat (pv 3) (pe_lst (pa_cons (pv 2) pa_nil)))))))))
      (pss_one (ps_ret (pe_callB (cr_sortD hr) (by rfl) T.z_sorted (by decide +kernel) (pa_cons (pv 1) pa_nil)))))), ?_⟩
    refine do_set (do_lst (do_cons (do_lst (do_nil ⟨Nat.zero_le _, fun r nr => do_nil ⟨by show 1 ≤ sizeLine; decide, fun f0 nf0 => ?_⟩⟩))))
    have e1 : Ex H (upd (upd H r (.lst [])) f0 (.lst [.ref r])) := (Ex.new nr).trans (Ex.new nf0)
    have rf : r ≠ f0 := fun z => by rw [z, upd_same] at nf0; cases nf0
    have ll1 : LLs H (upd (upd H r (.lst [])) f0 (.lst [.ref r])) f0 [r] (sub 0) := ⟨upd_same, by
      have := nf0
      rw [upd_ne (Ne.symm rf)] at this
      exact this, .cons ⟨by rw [upd_ne rf, upd_same]; rfl, nr⟩ .nil, List.pairwise_singleton _ _, fun z => rf (List.mem_singleton.mp z).symm⟩
    generalize upd (upd H r (.lst [])) f0 (.lst [.ref r]) = H1 at *
    refine q_forR1 (n := (n : Int)) (ea_cons (ev_var rfl) ea_nil) ⟨by omega, by omega⟩ (fun i σ H' => Ex H H' ∧ ∃ a as y, LLs H H' a as (sub i) ∧ σ = [some (vi n), some (.ref a), y, none])
      (fun H2 e2 => ⟨e1.trans e2, f0, [r], none, ll1.ex e2, rfl⟩) (fun i σ H2 hi ⟨e2, a, as, y, ll, hσ⟩ => ?_) (fun σ H2 ⟨e2, a, as, y, ll, hσ⟩ => ?_)
    · subst hσ
      have hi' : i < n := by omega
      have ls : (sub i).length ≤ 64 := sub_few (by omega)
      have la := ll.len
      refine do_asg (do_op (do_ev (ev_var rfl) fun H3 e3 => do_lcNew (K := K) (a := a) (xs := as.map V.ref) (L := (sub i).map (· ++ [i])) (ev_var rfl) (sq_of (e3 _ _ ll.at_)) (by rw [List.length_map, List.length_map, la]) (by rw [List.length_map]; omega) (fun _ => rfl) (fun j x ns H4 e4 hx hns => ?_) (fun p bs H4 e4 l2 => ?_)))
      · rw [List.getElem?_map] at hx hns
        cases hb : as[j]? with
        | none => rw [hb] at hx; cases hx
        | some b =>
          rw [hb] at hx
          cases Option.some.inj hx
          obtain ⟨ms, hms, q, _⟩ := paired_at ll.each hb
          rw [hms] at hns
          cases Option.some.inj hns
          show EvL _ _ H4 ((ms ++ [i]).map vi)
          rw [List.map_append]
          have up := sub_up (List.mem_iff_getElem?.mpr ⟨j, hms⟩)
          have lm : ms.length ≤ i := by
            have := sub_le (R := ms) (F := List.range i) up.nodup fun k hk => List.mem_range.mpr (up.2 k hk)
            rw [List.length_range] at this
            exact this
          intro H5 e5 Q' q'
          refine do_op (do_ev (v := .ref b) (ev_var rfl) fun H6 e6 => do_evL (el_lst (ea_cons (ev_var rfl) ea_nil) (by show 1 ≤ 100000; decide)) fun r2 H7 nr2 e7 hr2 => ?_)
          exact ⟨b, r2, ms.map vi, [vi i], rfl, rfl, ((e3.trans e4).trans ((e5.trans e6).trans e7)) _ _ q, hr2, by rw [List.length_map]; exact sz_of (by show ms.length + 1 ≤ 100000; omega), fun l nl => q' l _ (fresh_back (e6.trans e7) nl) ((e6.trans e7).trans (Ex.new nl)) upd_same⟩
      · have l1 := ll.ex (e3.trans e4)
        have lb := l2.len
        rw [List.length_map] at lb
        refine ⟨a, p, as.map V.ref, bs.map V.ref, rfl, rfl, l1.at_, l2.at_, by rw [List.length_map, List.length_map]; exact sz_of (by omega), fun l nl => ?_⟩
        have e24 := (e3.trans e4).trans (Ex.new (o := .lst (as.map V.ref ++ bs.map V.ref)) nl)
        have e03 := e2.trans e3
        have dis : ∀ x ∈ as, ∀ y ∈ bs, x ≠ y := fun x hx y hy z => by
          obtain ⟨ns, _, q1, _⟩ := (ll.ex e3).some hx
          obtain ⟨_, _, _, q2⟩ := l2.some hy
          rw [← z, q1] at q2
          cases q2
        refine ⟨e2.trans e24, l, as ++ bs, _, ⟨by rw [upd_same, List.map_append], fresh_back ((e2.trans e3).trans e4) nl, ?_, List.nodup_append.mpr ⟨ll.nd, l2.nd, dis⟩, fun z => ?_⟩, rfl⟩
        · exact paired_app (paired_imp (fun _ _ z => ⟨Ex.new nl _ _ z.1, z.2⟩) l1.each) (paired_imp (fun _ _ z => ⟨Ex.new nl _ _ z.1, fresh_back e03 z.2⟩) l2.each)
        · rcases List.mem_append.mp z with z | z
          · obtain ⟨_, _, q1, _⟩ := l1.some z
            rw [q1] at nl; cases nl
          · obtain ⟨_, _, q1, _⟩ := l2.some z
            rw [q1] at nl; cases nl
    · subst hσ
      rw [Int.toNat_natCast] at ll
      exact do_ret (cb1_src (do_ev (ev_var rfl) fun H3 e3 => do_sortL (K := K) (ll.ex e3) (e2.trans e3) fun p bs H4 e4 _ l2 => q p bs H4 ((e2.trans e3).trans e4) l2))
end
end K70
end
section
namespace K70
open PySem PySem.Spec PyProof.Rows L2 Evl RZ Dw M20 M25 CL
section
variable {P : Program} {w : World} {K : PySem.W.Frag} {mg : Str → Option Value} {base : Heap}
/-! ### the least of them about some numbers -/
def sp_spread (K : PySem.W.Frag) : Sp := fun vs H Q _ => ∃ (p : MArg) (num : List Nat) (u v : V) (a : Addr), vs = [u, v, .ref a] ∧ MA K H u v p ∧ H a = some (.lst (num.map vi)) ∧ MOk p ∧ (∀ k ∈ num, k < p.2.1) ∧ num.length ≤ 36 ∧
  ∀ b F H', Ex H H' → H b = none → H' b = some (.lst (F.map vi)) → Up p.2.1 F → closed (cwm p) F = true → (∀ k ∈ num, k ∈ F) → (∀ S, Up p.2.1 S → closed (cwm p) S = true → (∀ k ∈ num, k ∈ S) → F.length ≤ S.length) → Q (.ref b) H'
theorem clsd_mem {p : MArg} {S : List Nat} : S ∈ clsd p ↔ Up p.2.1 S ∧ closed (cwm p) S = true := by
  unfold clsd
  rw [List.mem_filter, srt_mem]
  exact ⟨fun h => ⟨sub_up h.1, h.2⟩, fun h => ⟨up_sub h.1, h.2⟩⟩
theorem full_up (n : Nat) : Up n (List.range n) := ⟨List.pairwise_lt_range, fun k hk => List.mem_range.mp hk⟩
theorem full_closed {p : MArg} (ok : MOk p) : closed (cwm p) (List.range p.2.1) = true := closed_iff.mpr fun c hc _ => List.mem_range.mpr (ok.cells c hc).2.2
theorem c_spread (T : Txt mg) (D : Df K mg "_law_spread" s_spread ["_law_signature_here", "_law_model_here", "_law_some"]) (c_subsets : Cl P w K mg base 1 "_law_subsets" sp_subsets) (c_closed : Cl P w K mg base 3 "_law_closed" (sp_lclosed K)) : Cl P w K mg base 4 "_law_spread" (sp_spread K) := by
  refine cl_of (k := 3) D sc_spread (fun vs H Q E h => ?_) (fun f cdv A outer s H vs Q E hr h => ?_)
  · obtain ⟨p, num, u, v, a, rfl, _⟩ := h
    rfl
  · obtain ⟨p, num, u, v, a, rfl, hm, ha, ok, low, few, q⟩ := h
    refine ⟨_, (pss_cons (ps_setLc (i := 3) (own := [("_law_one", 5)]) (g := (gName 5)) (by rfl) sc_spread.nd rfl rfl (sw_true rfl rfl rfl (by decide +kernel)) (pi_list (pe_cl c_subsets hr (by first | decide | omega) (by rfl) (pa_cons (pe_ix ix_tup (pv 1) pe_int (fun _ _ => rfl)) pa_nil))) (blkOk_by (own := [("_law_one", 5)]) (N := ["_law_signature_here", "_law_model_here", "_law_some", "_law_fits", "_law_sizes", "_law_one", "_law_number"]) (sc := (defScope s_spread)) (by decide +kernel)) (fun _ _ _ _ _ => (pg_name (i := 5) sc_spread.nd rfl (.inl rfl))) (fun _ _ _ _ _ => (pts_one (pt_val (pe_cl c_closed hr (by first | decide | omega) (by rfl) (pa_cons (pv 0) (pa_cons (pv 1) (pa_cons (pv 5) pa_nil))))))) (fun _ _ _ _ _ => (pv 5)))
      (pss_cons (ps_setLc (i := 3) (own := [("_law_one", 5)]) (g := (gName 5)) (by rfl) sc_spread.nd rfl rfl (sw_true rfl rfl rfl (by decide +kernel)) (pi_list (pv 3)) (blkOk_by (own := [("_law_one", 5)]) (N := ["_law_signature_here", "_law_model_here", "_law_some", "_law_fits", "_law_sizes", "_law_one", "_law_number"]) (sc := (defScope s_spread)) (by decide +kernel)) (fun _ _ _ _ _ => (pg_name (i := 5) sc_spread.nd rfl (.inr rfl))) (fun _ _ _ _ _ => (pts_one (pt_cmpR (op_eqDK K hr.units) (pe_lc (own := [("_law_number", 6)]) (g := (gName 6)) (by rfl) sc_spread.nd (pi_listK K (pv 2)) (blkOk_by (own := [("_law_number", 6)]) (N := ["_law_signature_here", "_law_model_here", "_law_some", "_law_fits", "_law_sizes", "_law_one", "_law_number"]) (sc := { kind := .function, names := [(".0", .local), ("_law_one", .cell), ("_law_some", .cell)], isGenerator := false, isCoroutine := false }) (by decide +kernel)) (fun _ _ _ _ _ => (pg_name (i := 6) sc_spread.nd rfl (.inl rfl))) (fun _ _ _ _ _ => (pts_one (pt_cmpR (op_notIn_seqK K) (pv 6) (pv 5) (by rfl)))) (fun _ _ _ _ _ => (pv 6))) (pe_lst pa_nil) (nomark _)))) (fun _ _ _ _ _ => (pv 5)))
      (pss_cons (ps_setLc (i := 4) (own := [("_law_one", 5)]) (g := (gName 5)) (by rfl) sc_spread.nd rfl rfl (sw_true rfl rfl rfl (by decide +kernel)) (pi_list (pv 3)) (blkOk_by (own := [("_law_one", 5)]) (N := ["_law_signature_here", "_law_model_here", "_law_some", "_law_fits", "_law_sizes", "_law_one", "_law_number"]) (sc := (defScope s_spread)) (by decide +kernel)) (fun _ _ _ _ _ => (pg_name (i := 5) sc_spread.nd rfl (.inl rfl))) (fun _ _ _ _ _ => pts_nil) (fun _ _ _ _ _ => (pe_callB (call_len_seqK K) (by rfl) T.z_len PySem.boot_len (pa_cons (pv 5) pa_nil))))
      (pss_one (ps_ret (pe_ix ix_list (pv 3) (pe_bm PySem.F.plainAttrs_list PySem.F.slot_list_index PySem.F.type_list_index mt_index (pv 4) (pa_cons (pe_callB (cr_min rfl) (by rfl) T.z_min (by decide +kernel) (pa_cons (pv 4) pa_nil)) pa_nil)) (fun _ _ => rfl))))))), ?_⟩
    have n6 := ok.2.n6
    obtain ⟨z, tv, hv, hZ, hT⟩ := id hm.2
    have ev0 : Ev (tOp (rIxT K) (tVar 1) (tC (.int 0))) [some u, some v, some (.ref a), none, none, none, none] H (vi p.2.1) := by
      subst hv
      exact ev_op (ev_var rfl) ev_c (rv_ixT (K := K) hZ (atI_vi (k := 0) rfl))
    have sl : (srtO (sub p.2.1)).length ≤ 64 := by rw [srt_len]; exact sub_few n6
    refine do_set (lc_src (ea_cons ev0 ea_nil H (Ex.refl _) _ fun H1 e1 => ⟨p.2.1, rfl, n6, fun a0 as0 H2 e2 ll0 => ?_⟩))
    have e02 := e1.trans e2
    refine do_lcFit (K := K) (f := fun S => closed (cwm p) S) (σ := [some u, some v, some (.ref a), none, none, none, none]) (ev_c) (ll0.low e1) e02 (by omega) (fun _ => rfl) (fun _ => rfl) (fun b ns H4 e4 hns hb => et_val (ev_callV (v := .bl (closed (cwm p) ns)) (p, ns) (ea_cons (ev_var rfl) (ea_cons (ev_var rfl) (ea_cons (ev_var rfl) ea_nil))) (fun H5 e5 => ⟨⟨_, _, _, rfl, hm.ex ((e02.trans e4).trans e5), sq_of (e5 _ _ hb)⟩, ok⟩) (fun _ _ p => p))) (fun a1 as1 H3 e3 sl1 ll1 => ?_)
    have e03 := e02.trans e3
    replace ll1 : LLs H H3 a1 as1 (clsd p) := ll1
    have cl1 : (clsd p).length ≤ 64 := Nat.le_trans (List.length_filter_le _ _) sl
    refine do_set (do_lcFit (K := K) (f := fun S => among num S) (ev_var rfl) ll1 e03 (by omega) (fun _ => rfl) (fun _ => rfl) (fun b ns H4 e4 hns hb => ?_) (fun a2 as2 H4 e4 sl2 ll2 => ?_))
    · have up := (clsd_mem.mp hns).1
      exact et_test (ev_is (ev_eqLL (K := K) (xs := num.filter fun x => !decide (x ∈ ns)) (ys := []) (el_notInL (K := K) (fun _ => rfl) rfl (fun _ => rfl) (fun _ => rfl) (sq_of ((e03.trans e4) _ _ ha)) (sq_of hb) (by omega)) (el_lst ea_nil (Nat.zero_le _)) (fun k hk => by have := low k (List.mem_filter.mp hk).1; omega) (fun _ h => nomatch h) (Nat.le_trans (List.length_filter_le _ _) few) (Nat.zero_le _)) (by rw [none_out]))
    · have e04 := e03.trans e4
      generalize hL2 : (clsd p).filter (fun S => among num S) = L2 at *
      have memL : ∀ S, S ∈ L2 ↔ Up p.2.1 S ∧ closed (cwm p) S = true ∧ ∀ k ∈ num, k ∈ S := fun S => by
        rw [← hL2, List.mem_filter, clsd_mem, among_iff, and_assoc]
      have ne : L2 ≠ [] := fun z => by
        have := (memL (List.range p.2.1)).mpr ⟨full_up _, full_closed ok, fun k hk => List.mem_range.mpr (low k hk)⟩
        rw [z] at this
        cases this
      have l2 : L2.length ≤ 64 := by rw [← hL2]; exact Nat.le_trans (List.length_filter_le _ _) cl1
      have la := ll2.len
      refine do_set (do_evL (xs := (L2.map (·.length)).map vi) (fun H5 e5 Q' q' => ?_) fun a3 H5 n3 e5 h3 => ?_)
      · refine (elp_lcLg (K := K) (ev_var rfl) (sq_of (e5 _ _ ll2.at_)) (by rw [List.length_map]; omega) (fun _ => true) (fun v i _ => v = vi ((L2.map (·.length)).getD i 0)) (fun _ _ _ _ _ z => z) (fun i x H6 e6 hx Φ kk => ?_)) H5 (Ex.refl _) _ fun l ws H6 nl e6 hl pw => q' l H6 nl e6 ?_
        · rw [List.getElem?_map] at hx
          cases hb : as2[i]? with
          | none => rw [hb] at hx; cases hx
          | some b =>
          rw [hb] at hx
          cases Option.some.inj hx
          obtain ⟨ns, hns, hbn, _⟩ := paired_at ll2.each hb
          refine kk _ rfl et_yes fun _ => ep_ev (ev_lenL (K := K) (S := ns) (ev_var rfl) ((e5.trans e6) _ _ hbn)) fun _ _ => ?_
          rw [List.getD_eq_getElem?_getD, List.getElem?_map, hns]
          rfl
        · rw [range_all] at pw
          rw [hl, paired_eqs pw, List.length_map, la, ← List.length_map (f := fun S : List Nat => S.length) (as := L2)]
          congr 2
          conv => rhs; rw [← Dw.range_getD 0 (L2.map (·.length))]
          rw [List.map_map]
          rfl
      · obtain ⟨k0, hk0, le0⟩ := exists_min (l := L2.map (·.length)) (by simpa using ne)
        have e05 := e04.trans e5
        have hi : (L2.map (·.length)).idxOf k0 < (L2.map (·.length)).length := List.idxOf_lt_length_iff.mpr hk0
        have hi2 : (L2.map (·.length)).idxOf k0 < L2.length := by rw [List.length_map] at hi; exact hi
        have gi := List.getElem_idxOf hi
        have gi2 : L2[(L2.map (·.length)).idxOf k0].length = k0 := by
          rw [List.getElem_map] at gi
          exact gi
        have hns := List.getElem?_eq_getElem hi2
        obtain ⟨b, hb, hbn, nbH⟩ := paired_get ll2.each hns
        have ha3 : H5 a3 = some (.lst ((L2.map (·.length)).map vi)) := h3
        refine s_ret (ev_op (ev_var rfl) (ev_lindex (K := K) (S := L2.map (·.length)) (ev_var rfl) ha3 (ev_min (K := K) (ns := L2.map (·.length)) (ev_var rfl) (sq_of ha3) hk0 le0) hk0) (rv_ixL (K := K) (sq_of (e5 _ _ ll2.at_)) (atI_vi (k := (L2.map (·.length)).idxOf k0) (v := .ref b) (by rw [List.getElem?_map, hb]; rfl)))) fun H6 e6 => ?_
        obtain ⟨u1, c1, n1⟩ := (memL _).mp (List.mem_iff_getElem?.mpr ⟨_, hns⟩)
        exact q b _ H6 (e05.trans e6) nbH ((e5.trans e6) _ _ hbn) u1 c1 n1 fun S hS cS nS => by
          rw [gi2]
          exact le0 _ (List.mem_map.mpr ⟨S, (memL S).mpr ⟨hS, cS, nS⟩, rfl⟩)
/-! ### the part, as the law makes it -/
theorem c_sub (T : Txt mg) (D : Df K mg "_law_sub" s_lsub ["_law_signature_here", "_law_model_here", "_law_some"]) (c_ways : Cl P w K mg base 1 "_law_ways" (sp_ways K)) (c_did : Cl P w K mg base 1 "_law_did" (sp_did K)) : Cl P w K mg base 2 "_law_sub" (sp_part_of K) := by
  refine cl_of (k := 1) D sc_lsub (fun vs H Q E h => ?_) (fun f cdv A outer s H vs Q E hr h => ?_)
  · obtain ⟨p, ⟨⟨u, v, a, rfl, _⟩, _⟩, _⟩ := h
    rfl
  · obtain ⟨⟨⟨sg, n, ts⟩, S⟩, ⟨⟨u, v, x, rfl, ⟨hG, hM⟩, hx⟩, ok, up, cl⟩, q⟩ := h
    refine ⟨_, (pss_cons (ps_set (i := 3) sc_lsub.nd rfl (.inl rfl) (pe_lst pa_nil))
      (pss_cons (ps_for PassesOwn.never (by rfl) (pi_tup (pv 0)) (pg_tup (by rfl) (pgs_cons (pg_name (i := 4) sc_lsub.nd rfl (.inr rfl)) (pgs_cons (pg_name (i := 5) sc_lsub.nd rfl (.inl rfl)) pgs_nil)))
        (pss_cons (ps_setLc (i := 6) (own := [("_law_args", 7)]) (g := (gName 7)) (by rfl) sc_lsub.nd rfl rfl (sw_true rfl rfl rfl (by decide +kernel)) (pi_list (pe_cl c_ways hr (by first | decide | omega) (by rfl) (pa_cons (pv 5) (pa_cons (pe_callB call_len_seq (by rfl) T.z_len PySem.boot_len (pa_cons (pv 2) pa_nil)) pa_nil)))) (blkOk_by (own := [("_law_args", 7)]) (N := ["_law_signature_here", "_law_model_here", "_law_some", "_law_tables_here", "_law_name", "_law_many", "_law_cells_here_here", "_law_args", "_law_arg"]) (sc := (defScope s_lsub)) (by decide +kernel)) (fun _ _ _ _ _ => (pg_name (i := 7) sc_lsub.nd rfl (.inl rfl))) (fun _ _ _ _ _ => pts_nil) (fun _ _ _ _ _ => (pe_callTy (call_tuple_ofK K) (by rfl) T.z_tuple (by decide +kernel) (pa_cons (pe_lc (own := [("_law_arg", 8)]) (g := (gName 8)) (by rfl) sc_lsub.nd (pi_tupK K (pv 7)) (blkOk_by (own := [("_law_arg", 8)]) (N := ["_law_signature_here", "_law_model_here", "_law_some", "_law_tables_here", "_law_name", "_law_many", "_law_cells_here_here", "_law_args", "_law_arg"]) (sc := { kind := .function, names := [(".0", .local), ("_law_args", .local), ("tuple", .globalImplicit), ("_law_some", .cell)], isGenerator := false, isCoroutine := false }) (by decide +kernel)) (fun _ _ _ _ _ => (pg_name (i := 8) sc_lsub.nd rfl (.inl rfl))) (fun _ _ _ _ _ => pts_nil) (fun _ _ _ _ _ => (pe_ix (ix_listK K) (pv 2) (pv 8) (fun _ _ => rfl)))) pa_nil))))
        (pss_one (ps_expr (pe_bm PySem.F.plainAttrs_list PySem.F.slot_list_append PySem.F.type_list_append mt_append (pv 3) (pa_cons (pe_callTy call_tuple_of (by rfl) T.z_tuple (by decide +kernel) (pa_cons (pe_lc (own := [("_law_args", 7)]) (g := (gName 7)) (by rfl) sc_lsub.nd (pi_list (pv 6)) (blkOk_by (own := [("_law_args", 7)]) (N := ["_law_signature_here", "_law_model_here", "_law_some", "_law_tables_here", "_law_name", "_law_many", "_law_cells_here_here", "_law_args", "_law_arg"]) (sc := (defScope s_lsub)) (by decide +kernel)) (fun _ _ _ _ _ => (pg_name (i := 7) sc_lsub.nd rfl (.inl rfl))) (fun _ _ _ _ _ => pts_nil) (fun _ _ _ _ _ => (pe_bmK K PySem.F.plainAttrs_list PySem.F.slot_list_index PySem.F.type_list_index (mt_indexK K) (pv 2) (pa_cons (pe_cl c_did hr (by first | decide | omega) (by rfl) (pa_cons (pv 0) (pa_cons (pv 1) (pa_cons (pv 4) (pa_cons (pv 7) pa_nil))))) pa_nil)))) pa_nil)) pa_nil))))))
      (pss_one (ps_ret (pe_tup (pa_cons (pe_callB call_len_seq (by rfl) T.z_len PySem.boot_len (pa_cons (pv 2) pa_nil)) (pa_cons (pe_callTy call_tuple_of (by rfl) T.z_tuple (by decide +kernel) (pa_cons (pv 3) pa_nil)) pa_nil))))))), ?_⟩
    replace hx : H x = some (.lst (S.map vi)) := hx
    replace ok : MOk (sg, n, ts) := ok
    replace up : Up n S := up
    replace cl : closed (cwm (sg, n, ts)) S = true := cl
    have sok : SigOk sg := ok.1
    have mok : MdlOk sg n ts := ok.2
    have n6 : n ≤ 6 := mok.n6
    have fS := upFew up
    obtain ⟨a, us, rfl, hS, hP⟩ := id hG
    replace hP : Paired (Deed K H) us sg := hP
    have lS : us.length = sg.length := paired_len hP
    have lM : ts.length = sg.length := mok.len
    have l4 := sok.l4
    have hmA : MA K H (.ref a) v (sg, n, ts) := ⟨hG, hM⟩
    refine q_asgL (el_lst ea_nil (Nat.zero_le _)) fun m H1 nm e1 hm => ?_
    refine q_forT (K := K) (ev_var rfl) (ex_t e1 hS) (fun i σ H' => Ex H H' ∧ (∃ ws, H' m = some (.lst ws) ∧ Paired (Nats K H') ws (((sg.zip ts).take i).map (prtT n S))) ∧ ∃ y4 y5 y6, σ = [some (.ref a), some v, some (.ref x), some (.ref m), y4, y5, y6, none, none])
      (fun H2 e2 => ⟨e1.trans e2, ⟨[], e2 _ _ hm, .nil⟩, none, none, none, rfl⟩) (fun i σ' H' _ ⟨e, _⟩ => ex_t e hS) (fun i d σ' H2 hd ⟨e2, ⟨ws, hws, pws⟩, y4, y5, y6, hσ⟩ => ?_) (fun σ' H2 ⟨e2, ⟨ws, hws, pws⟩, y4, y5, y6, hσ⟩ => ?_)
    · subst hσ
      have hi : i < sg.length := by rw [← lS]; exact (List.getElem?_eq_some_iff.mp hd).1
      have hi2 : i < ts.length := by rw [lM]; exact hi
      obtain ⟨d', ed', c, hc, dc⟩ := paired_get hP (List.getElem?_eq_getElem hi)
      have : d' = d := Option.some.inj (ed'.symm.trans hd)
      subst this
      subst hc
      have p2 : sg[i].2 ≤ 2 := sok.pl _ (List.getElem_mem hi)
      have hzip : (sg.zip ts)[i]? = some (sg[i], ts[i]) := List.getElem?_zip_eq_some.mpr ⟨List.getElem?_eq_getElem hi, List.getElem?_eq_getElem hi2⟩
      refine ⟨c, _, rfl, ex_t e2 dc, rfl, _, _, rfl, _, _, rfl, rfl, ?_⟩
      refine do_set (lc_src (ea_cons (ev_var rfl) (ea_cons (ev_lenL (K := K) (ev_var rfl) (e2 _ _ hx)) ea_nil) H2 (Ex.refl _) _ fun H3 e3 => ⟨(S.length, sg[i].2), ⟨rfl, by show S.length ≤ 6; omega, p2⟩, fun rv H4 e4 ⟨ra, rvs, hra, hrl, prs⟩ nra => ?_⟩))
      subst hra
      replace prs : Paired (Nats K H4) rvs (rows S.length sg[i].2) := prs
      have lrv := paired_len prs
      have lrv2 := lrv
      rw [rows_len'] at lrv2
      have big : S.length ^ sg[i].2 ≤ 36 := pow_36 (by omega) p2
      have e24 := e3.trans e4
      refine do_elp (elp_lcL (K := K) (σ := [some (.ref a), some v, some (.ref x), some (.ref m), some (.str sg[i].1), some (vi sg[i].2), y6, none, none]) (ev_c) (sq_of hrl) (by omega) (fun _ => true) (fun v j H' => Nats K H' v (((rows S.length sg[i].2).getD j []).map (g S))) (fun v j H H' e h => Nats.et e.et h) (fun _ => rfl) (fun j y H5 e5 hy => ⟨et_yes, fun _ => ?_⟩)) fun cA cs H5 ncA e5 hcA pcA => ?_
      · obtain ⟨row, hrow, xa, rfl, hxa⟩ := paired_at prs hy
        obtain ⟨lr, rl⟩ := rows_of (List.mem_iff_getElem?.mpr ⟨j, hrow⟩)
        rw [List.getD_eq_getElem?_getD, hrow]
        exact ep_nats (eu_tupN (K := K) (el_getS (K := K) (row := row) (S := S) (fun _ => rfl) rfl (fun _ => rfl) (fun _ => rfl) (ex_t e5 hxa) (sq_of (((e2.trans e24).trans e5) _ _ hx)) rl (by omega))) rfl
      · rw [range_all] at pcA
        have e25 := e24.trans e5
        have lcs := paired_len pcA
        rw [List.length_range] at lcs
        have hm5 : H5 m = some (.lst ws) := e25 _ _ hws
        refine s_appU hm5 (ev_var rfl) (eu_tupN (K := K) (xs := (prtT n S (sg[i], ts[i])).map vi) (fun H6 e6 Q' q' => ?_)) (by have l1 := paired_len pws; rw [List.length_map, List.length_take, List.length_zip] at l1; omega) fun r2 H6 nr2 e6 hr2 => ?_
        · refine Evl.el_lcL (K := K) (fun _ => true) (fun j => vi (S.idxOf (g ts[i] (plc n (((rows S.length sg[i].2).getD j []).map (g S)))))) (ev_var rfl) (sq_of (e6 _ _ hcA)) (by omega) (fun _ => rfl) (fun j y H7 e7 hy => et_yes) (fun j y H7 e7 hy _ => ?_) H6 (Ex.refl _) _ fun l H7 nl e7 hl => q' l H7 nl e7 ?_
          · obtain ⟨j2, hj2, xa, rfl, hxa⟩ := paired_at pcA hy
            have hjl := (List.getElem?_eq_some_iff.mp hy).1
            rw [List.getElem?_range (by omega)] at hj2
            cases Option.some.inj hj2
            have hjr : j < (rows S.length sg[i].2).length := by omega
            have egd : (rows S.length sg[i].2).getD j [] = (rows S.length sg[i].2)[j] := by rw [List.getD_eq_getElem?_getD, List.getElem?_eq_getElem hjr]; rfl
            rw [egd] at hxa ⊢
            obtain ⟨lw, lm, pl, gin⟩ := cell_in ok cl up.2 hi hi2 (List.getElem_mem hjr)
            have e07 := e2.trans (e25.trans (e6.trans e7))
            have egt : ts.getD i [] = ts[i] := by rw [List.getD_eq_getElem?_getD, List.getElem?_eq_getElem hi2]; rfl
            refine ev_lindex (K := K) (S := S) (ev_var rfl) (e07 _ _ hx) (ev_callV (v := vi (g ts[i] (plc n (((rows S.length sg[i].2)[j]).map (g S))))) ((sg, n, ts), sg[i], i, ((rows S.length sg[i].2)[j]).map (g S)) (ea_cons (ev_var rfl) (ea_cons (ev_var rfl) (ea_cons (ev_var rfl) (ea_cons (ev_var rfl) ea_nil)))) (fun H8 e8 => ⟨⟨_, _, _, rfl, hmA.ex (e07.trans e8), ⟨xa, rfl, ex_t (e6.trans (e7.trans e8)) hxa⟩⟩, ok, List.getElem?_eq_getElem hi, lm, lw⟩) (fun u H' z => by rw [z]; exact congrArg (fun t => vi (g t _)) egt)) gin
          · rw [hl, given_all, lcs, lrv]
            congr 2
            unfold prtT
            conv => rhs; rw [← Dw.range_getD [] (rows S.length sg[i].2)]
            rw [List.map_map, List.map_map]
            rfl
        · have et : ET K H6 (upd H6 m (.lst (ws ++ [.ref r2]))) := ET.refl.upd (e6 _ _ hm5)
          refine ⟨((e2.trans e25).trans e6).mut nm, ⟨ws ++ [.ref r2], upd_same, ?_⟩, _, _, _, rfl⟩
          rw [List.take_add_one, hzip, List.map_append]
          exact paired_snoc' (R := Nats K (upd H6 m (.lst (ws ++ [.ref r2])))) (x := .ref r2) (y := prtT n S (sg[i], ts[i])) ⟨r2, rfl, et _ _ (st_of hr2)⟩ (paired_imp (fun _ _ zz => (zz.ex (e25.trans e6)).et et) pws)
    · subst hσ
      have full : (sg.zip ts).take us.length = sg.zip ts := List.take_of_length_le (by rw [List.length_zip]; omega)
      rw [full] at pws
      refine do_ret (do_tup (do_cons (do_ev (ev_lenL (K := K) (ev_var rfl) (e2 _ _ hx)) fun H3 e3 => do_cons (do_evU (eu_tupL (K := K) (ev_var rfl) (sq_of (e3 _ _ hws))) fun r H4 nr e4 hr4 => ⟨by show 2 ≤ sizeLine; decide, fun r2 nr2 => ?_⟩))))
      have e24 := (e3.trans e4).trans (Ex.new (o := .tup [vi S.length, .ref r]) nr2)
      exact q _ _ (e2.trans e24) ⟨r2, .ref r, rfl, st_of upd_same, r, ws, rfl, st_of (Ex.new nr2 _ _ hr4), paired_imp (fun _ _ zz => Nats.ex e24 zz) pws⟩
/-! ### something put behind a list -/
def sp_spoil : Sp := fun vs H Q _ => ∃ (a : Addr) (xs : List V), vs = [.ref a] ∧ H a = some (.lst xs) ∧ xs.length < 1000 ∧ ∀ H1 H', Ex H H1 → Ex (upd H1 a (.lst (xs ++ [vi 9]))) H' → Q .non H'
theorem c_spoil (T : Txt mg) (D : Df K mg "_law_spoil" s_spoil ["_law_one"]) : Cl P w K mg base 1 "_law_spoil" sp_spoil := by
  refine cl_of (k := 0) D sc_spoil (fun vs H Q E h => ?_) (fun f cdv A outer s H vs Q E hr h => ?_)
  · obtain ⟨a, xs, rfl, _⟩ := h
    rfl
  · obtain ⟨a, xs, rfl, ha, few, q⟩ := h
    refine ⟨_, (pss_one (ps_expr (pe_bm PySem.F.plainAttrs_list PySem.F.slot_list_append PySem.F.type_list_append mt_append (pv 0) (pa_cons pe_int pa_nil)))), ?_⟩
    exact s_app ha (ev_var rfl) (v := vi 9) ev_c (by omega) fun H1 e1 => q H1 _ e1 (Ex.refl _)
end
end K70
end
section
namespace K70
open PySem PySem.Spec PyProof.Rows L2 Evl RZ Dw M20 M25 CL
section
variable {P : Program} {w : World} {K : PySem.W.Frag} {mg : Str → Option Value} {base : Heap}
theorem prt_gd {p : MArg} (ok : MOk p) {S : List Nat} (up : Up p.2.1 S) (cl : closed (cwm p) S = true) : Gd 3 3178 (dM S.length (prt p S)) := by
  have n6 := ok.2.n6
  have f := upFew up
  refine gd_mdl (by omega) (fun t ht => ?_) (by unfold prt; rw [List.length_map, List.length_zip]; have := ok.1.l4; omega)
  unfold prt at ht
  obtain ⟨x, hx, rfl⟩ := List.mem_map.mp ht
  obtain ⟨i, hi⟩ := List.mem_iff_getElem?.mp hx
  rw [List.getElem?_zip_eq_some] at hi
  obtain ⟨h1, e1⟩ := List.getElem?_eq_some_iff.mp hi.1
  obtain ⟨h2, e2⟩ := List.getElem?_eq_some_iff.mp hi.2
  refine ⟨fun k hk => ?_, by unfold prtT; rw [List.length_map, rows_len']; exact pow_36 (by omega) (ok.1.pl _ (List.mem_iff_getElem?.mpr ⟨i, hi.1⟩))⟩
  unfold prtT at hk
  obtain ⟨r, hr, rfl⟩ := List.mem_map.mp hk
  obtain ⟨_, _, _, gin⟩ := cell_in ok cl up.2 h1 h2 (r := r) (by rw [e1]; exact hr)
  rw [e2] at gin
  have := List.idxOf_lt_length_iff.mpr gin
  omega
theorem clsd_gd {p : MArg} (ok : MOk p) : Gd 2 (720 * 397) (.list ((clsd p).map dL)) := gd_lls (fun o ho => upGd (clsd_mem.mp ho).1 ok.2.n6) (by
  have a : (clsd p).length ≤ (srtO (sub p.2.1)).length := List.length_filter_le _ _
  have b := sub_few ok.2.n6
  rw [srt_len] at a
  omega)
theorem spread_same {p : MArg} {num R R' : List Nat} (h : Spread (cwm p) num R) (h' : Spread (cwm p) num R') (u : Up p.2.1 R) (u' : Up p.2.1 R') : R' = R :=
  up_eq u'.1 u.1 fun x => ⟨h'.least R h.shut h.has x, h.least R' h'.shut h'.has x⟩
/-- nothing has changed but at some places -/
def OffL (as : List Addr) (H H' : Hp) : Prop := ∀ b o, b ∉ as → H b = some o → H' b = some o
theorem OffL.trans {as : List Addr} {H H1 H2 : Hp} (a : OffL as H H1) (b : OffL as H1 H2) : OffL as H H2 := fun x o n h => b x o n (a x o n h)
theorem OffL.of {as : List Addr} {H H' : Hp} (e : Ex H H') : OffL as H H' := fun b o _ h => e b o h
theorem OffL.et {as : List Addr} {H H' : Hp} (e : OffL as H H') (h : ∀ b ∈ as, ∃ xs, H b = some (.lst xs)) : ET K H H' := fun a xs q => by
  have no : ∀ o, H a = some o → (∀ ys, o ≠ .lst ys) → a ∉ as := fun o ho hn z => by
    obtain ⟨ys, hy⟩ := h a z
    rw [hy] at ho
    exact hn ys (Option.some.inj ho).symm
  rcases q with (q | ⟨o, q⟩) | q
  · exact .inl (.inl (e _ _ (no _ q (fun _ z => by cases z)) q))
  · exact .inl (.inr ⟨o, e _ _ (no _ q (fun _ z => by cases z)) q⟩)
  · exact .inr q
def Turn (a p c : Addr) (i : Nat) (σ : L2.St) (H : Hp) : Prop := (∃ t, Pur H p c t ∧ t ≤ 600 * i) ∧ ∃ y2 y3 y4 y5 y6 y7 y8 y9 y10 y11 y12, σ = [some (.ref a), some (.ref p), y2, y3, y4, y5, y6, y7, y8, y9, y10, y11, y12]
theorem law_ok (T : Txt mg) (c_purse : Cl P w K mg base 1 "_law_purse" (sp_purse K)) (c_draw : Cl P w K mg base 1 "_law_draw" sp_draw) (c_signature : Cl P w K mg base 3 "_law_signature" (sp_signature K)) (c_model : Cl P w K mg base 3 "_law_model" (sp_model K)) (c_subsets : Cl P w K mg base 1 "_law_subsets" sp_subsets) (c_closed : Cl P w K mg base 3 "_law_closed" (sp_lclosed K))
    (c_closed_lists : Cl P w K mg base 8 "closed_lists" (sp_closed_lists K)) (c_part : Cl P w K mg base 8 "part" (sp_part K)) (c_sub : Cl P w K mg base 2 "_law_sub" (sp_part_of K)) (c_spoil : Cl P w K mg base 1 "_law_spoil" sp_spoil) (c_made_by : Cl P w K mg base 8 "made_by" (sp_made_by K)) (c_spread : Cl P w K mg base 4 "_law_spread" (sp_spread K))
    (room : Room 9 callerA) (s : Shared) (H : Hp) (fa : Addr) (cdv : Value) (a : Addr) (ns : List Int) (len : ns.length ≤ 63) (seq : SqL K H a (ns.map V.int)) :
    ∃ t, PSs (cxOf CX0 P w K mg base ["_law_script", "_law_purse_here", "_law_time", "_law_signature_here", "_law_size_here", "_law_model_here", "_law_due", "_law_told_here", "_law_some", "_law_kept", "_law_again", "_law_found", "_law_k"] "law" (defScope s_law) fa cdv callerA [] s H E0).nox (defBody s_law) t ∧ t { nx := fun _ _ => False, rt := fun v _ => v = .bl true } (start ["_law_script", "_law_purse_here", "_law_time", "_law_signature_here", "_law_size_here", "_law_model_here", "_law_due", "_law_told_here", "_law_some", "_law_kept", "_law_again", "_law_found", "_law_k"] [.ref a]) H := by
  have hr : Room 8 (callerA.deeper (envOfC "law" (defScope s_law) s.heap.objs.size fa cdv)) := room.deeper _
  refine ⟨_, (pss_cons (ps_set (i := 1) sc_law.nd rfl (.inr rfl) (pe_cl c_purse hr (by first | decide | omega) (by rfl) (pa_cons (pv 0) pa_nil)))
      (pss_cons (ps_for PassesOwn.never (by rfl) (pi_range1 (by rfl) T.z_range (pa_cons pe_int pa_nil)) (pg_name (i := 2) sc_law.nd rfl (.inl rfl))
        (pss_cons (ps_set (i := 3) sc_law.nd rfl (.inr rfl) (pe_cl c_signature hr (by first | decide | omega) (by rfl) (pa_cons (pv 1) pa_nil)))
        (pss_cut (ps_set (i := 4) sc_law.nd rfl (.inl rfl) (pe_ix ix_list (pe_lst (pa_cons (pe_op op_add pe_int (pe_cl c_draw hr (by first | decide | omega) (by rfl) (pa_cons (pv 1) (pa_cons pe_int pa_nil)))) (pa_cons pe_int pa_nil))) (pe_callTy call_int1 (by rfl) T.z_int (by decide +kernel) (pa_cons (pe_cmpR op_eq (pe_cl c_draw hr (by first | decide | omega) (by rfl) (pa_cons (pv 1) (pa_cons pe_int pa_nil))) pe_int (nomark _)) pa_nil)) (fun _ _ => rfl)))
        (pss_cons (ps_set (i := 5) sc_law.nd rfl (.inr rfl) (pe_cl c_model hr (by first | decide | omega) (by rfl) (pa_cons (pv 1) (pa_cons (pv 3) (pa_cons (pv 4) pa_nil)))))
        (pss_cons (ps_setLc (i := 6) (own := [("_law_some", 8)]) (g := (gName 8)) (by rfl) sc_law.nd rfl rfl (sw_true rfl rfl rfl (by decide +kernel)) (pi_list (pe_cl c_subsets hr (by first | decide | omega) (by rfl) (pa_cons (pe_ix ix_tup (pv 5) pe_int (fun _ _ => rfl)) pa_nil))) (blkOk_by (own := [("_law_some", 8)]) (N := ["_law_script", "_law_purse_here", "_law_time", "_law_signature_here", "_law_size_here", "_law_model_here", "_law_due", "_law_told_here", "_law_some", "_law_kept", "_law_again", "_law_found", "_law_k"]) (sc := (defScope s_law)) (by decide +kernel)) (fun _ _ _ _ _ => (pg_name (i := 8) sc_law.nd rfl (.inl rfl))) (fun _ _ _ _ _ => (pts_one (pt_val (pe_cl c_closed hr (by first | decide | omega) (by rfl) (pa_cons (pv 3) (pa_cons (pv 5) (pa_cons (pv 8) pa_nil))))))) (fun _ _ _ _ _ => (pv 8)))
        (pss_cons (ps_set (i := 7) sc_law.nd rfl (.inl rfl) (pe_cl c_closed_lists hr (by first | decide | omega) (by rfl) (pa_cons (pv 3) (pa_cons (pv 5) pa_nil))))
        (pss_cons (ps_if (PW.pt (pw_or (pt_not (pt_val (pe_callB call_isi (by rfl) T.z_isinstance (by decide +kernel) (pa_cons (pv 7) (pa_cons (pe_ty "list" (by rfl) T.z_list (by decide +kernel)) pa_nil))))) (pw_or1 (pt_cmpR op_ne (pe_callB (call_reprW hr) (by rfl) T.z_repr (by decide +kernel) (pa_cons (pv 7) pa_nil)) (pe_callB (call_reprW hr) (by rfl) T.z_repr (by decide +kernel) (pa_cons (pv 6) pa_nil)) (nomark _)))))
          (pss_one (ps_ret pe_bl))
          pss_nil)
        (pss_cons (ps_for PassesOwn.never (by rfl) (pi_list (pv 7)) (pg_name (i := 8) sc_law.nd rfl (.inl rfl))
          (pss_cons (ps_set (i := 9) sc_law.nd rfl (.inl rfl) (pe_callTy call_list_of (by rfl) T.z_list (by decide +kernel) (pa_cons (pv 8) pa_nil)))
          (pss_cut (ps_if (pt_cmpR (op_neD hr.units) (pv 8) (pe_lst pa_nil) (nomark _))
            (pss_one (ps_if (pt_cmpR op_ne (pe_callB (call_reprW hr) (by rfl) T.z_repr (by decide +kernel) (pa_cons (pe_cl c_part hr (by first | decide | omega) (by rfl) (pa_cons (pv 3) (pa_cons (pv 5) (pa_cons (pv 8) pa_nil)))) pa_nil)) (pe_callB (call_reprW hr) (by rfl) T.z_repr (by decide +kernel) (pa_cons (pe_cl c_sub hr (by first | decide | omega) (by rfl) (pa_cons (pv 3) (pa_cons (pv 5) (pa_cons (pv 8) pa_nil)))) pa_nil)) (nomark _))
              (pss_one (ps_ret pe_bl))
              pss_nil))
            pss_nil)
          (pss_cons (ps_if (pt_cmpR (op_neD hr.units) (pv 8) (pv 9) (nomark _))
            (pss_one (ps_ret pe_bl))
            pss_nil)
          (pss_one (ps_expr (pe_cl c_spoil hr (by first | decide | omega) (by rfl) (pa_cons (pv 8) pa_nil))))))))
        (pss_cons (ps_expr (pe_bm PySem.F.plainAttrs_list PySem.F.slot_list_append PySem.F.type_list_append mt_append (pv 7) (pa_cons (pe_lst (pa_cons pe_int pa_nil)) pa_nil)))
        (pss_cons (ps_for PassesOwn.never (by rfl) (pi_range1 (by rfl) T.z_range (pa_cons pe_int pa_nil)) (pg_name (i := 10) sc_law.nd rfl (.inl rfl))
          (pss_cons (ps_setLc (i := 8) (own := [("_law_k", 12)]) (g := (gName 12)) (by rfl) sc_law.nd rfl rfl (sw_true rfl rfl rfl (by decide +kernel)) (pi_range1 (by rfl) T.z_range (pa_cons (pe_cl c_draw hr (by first | decide | omega) (by rfl) (pa_cons (pv 1) (pa_cons pe_int pa_nil))) pa_nil)) (blkOk_by (own := [("_law_k", 12)]) (N := ["_law_script", "_law_purse_here", "_law_time", "_law_signature_here", "_law_size_here", "_law_model_here", "_law_due", "_law_told_here", "_law_some", "_law_kept", "_law_again", "_law_found", "_law_k"]) (sc := (defScope s_law)) (by decide +kernel)) (fun _ _ _ _ _ => (pg_name (i := 12) sc_law.nd rfl (.inl rfl))) (fun _ _ _ _ _ => pts_nil) (fun _ _ _ _ _ => (pe_cl c_draw hr (by first | decide | omega) (by rfl) (pa_cons (pv 1) (pa_cons (pe_ix (ix_tupK K) (pv 5) pe_int (fun _ _ => rfl)) pa_nil)))))
          (pss_cons (ps_set (i := 9) sc_law.nd rfl (.inl rfl) (pe_callTy call_list_of (by rfl) T.z_list (by decide +kernel) (pa_cons (pv 8) pa_nil)))
          (pss_cons (ps_set (i := 11) sc_law.nd rfl (.inl rfl) (pe_cl c_made_by hr (by first | decide | omega) (by rfl) (pa_cons (pv 3) (pa_cons (pv 5) (pa_cons (pv 8) pa_nil)))))
          (pss_cons (ps_if (PW.pt (pw_or (pt_cmpR op_ne (pe_callB (call_reprW hr) (by rfl) T.z_repr (by decide +kernel) (pa_cons (pv 11) pa_nil)) (pe_callB (call_reprW hr) (by rfl) T.z_repr (by decide +kernel) (pa_cons (pe_cl c_spread hr (by first | decide | omega) (by rfl) (pa_cons (pv 3) (pa_cons (pv 5) (pa_cons (pv 8) pa_nil)))) pa_nil)) (nomark _)) (pw_or1 (pt_cmpR (op_neD hr.units) (pv 8) (pv 9) (nomark _)))))
            (pss_one (ps_ret pe_bl))
            pss_nil)
          (pss_cons (ps_expr (pe_bm PySem.F.plainAttrs_list PySem.F.slot_list_append PySem.F.type_list_append mt_append (pv 11) (pa_cons pe_int pa_nil)))
          (pss_one (ps_if (pt_cmpR (op_neD hr.units) (pe_cl c_made_by hr (by first | decide | omega) (by rfl) (pa_cons (pv 3) (pa_cons (pv 5) (pa_cons (pv 8) pa_nil)))) (pe_slice sl_list (pv 11) po_none (po_some (pe_un un_neg pe_int))) (nomark _))
            (pss_one (ps_ret pe_bl))
            pss_nil))))))))
        (pss_one (ps_if (PW.pt (pw_or (pt_cmpR (op_neD hr.units) (pe_cl c_closed_lists hr (by first | decide | omega) (by rfl) (pa_cons (pv 3) (pa_cons (pv 5) pa_nil))) (pv 6) (nomark _)) (pw_or1 (pt_cmpR op_ne (pe_callB call_len_seq (by rfl) T.z_len PySem.boot_len (pa_cons (pv 7) pa_nil)) (pe_op op_add (pe_callB call_len_seq (by rfl) T.z_len PySem.boot_len (pa_cons (pv 6) pa_nil)) pe_int) (nomark _)))))
          (pss_one (ps_ret pe_bl))
          pss_nil))))))))))))
      (pss_one (ps_ret pe_bl)))), ?_⟩
  refine do_set (ea_cons (ev_var rfl) ea_nil H (Ex.refl H) _ fun H0 e0 => ⟨a, ns, rfl, ex_l e0 seq, len, fun p c H1 e1 np nc pu => ?_⟩)
  refine q_forR1 (n := ((4 : Nat) : Int)) (ea_cons ev_c ea_nil) ⟨by decide, by decide⟩ (Turn a p c) (fun H2 e2 => ⟨⟨0, pu.ex e2, Nat.zero_le _⟩, none, none, none, none, none, none, none, none, none, none, none, rfl⟩) (fun i σ H2 hi tn => ?_) (fun σ H2 tn => ?_)
  · obtain ⟨⟨t, pu2, lt⟩, y2, y3, y4, y5, y6, y7, y8, y9, y10, y11, y12, hσ⟩ := tn
    subst hσ
    have i4 : i < 4 := by omega
    -- the signature
    refine do_set (ea_cons (ev_var rfl) ea_nil H2 (Ex.refl H2) _ fun H3 e3 => ⟨p, c, t, rfl, pu2.ex e3, by omega, fun sv sg H4 o4 pu4 hG4 sok => ?_⟩)
    show tCut _ _ _ [some (.ref a), some (.ref p), some (vi i), some sv, y4, y5, y6, y7, y8, y9, y10, y11, y12] H4
    -- the size
    refine q_cut (M := fun σ H' => ∃ n, 1 ≤ n ∧ n ≤ 6 ∧ Off H4 H' p c ∧ Pur H' p c (t + 3) ∧ σ = [some (.ref a), some (.ref p), some (vi i), some sv, some (vi n), y5, y6, y7, y8, y9, y10, y11, y12]) ?_ (fun σ H6 ⟨n, n1, n6, o46, pu6, hσ⟩ => ?_)
    · refine do_asg (do_op (do_lst (do_cons (do_op (do_ev ev_c fun H5 e5 => do_draw (ev_var rfl) (ev_c (v := vi 5)) (pu4.ex e5) (by omega) (by decide) (by decide) fun k H6 hk o6 pu6 => ⟨1, (k : Int), rfl, rfl, ?_⟩)))))
      refine do_cons (do_ev ev_c fun H7 e7 => do_nil ⟨by show 2 ≤ sizeLine; decide, fun l nl => ?_⟩)
      have pu7 := (pu6.ex e7).ex (Ex.new (o := .lst [.int ((1 : Int) + (k : Int)), .int 6]) nl)
      obtain ⟨lp, lc⟩ := (pu6.ex e7).fresh nl
      have o47 : Off H4 _ p c := ((Off.of_ex e5).trans o6).trans (.of_ex (e7.trans (Ex.new (o := .lst [.int ((1 : Int) + (k : Int)), .int 6]) nl)))
      have hl : (upd H7 l (.lst [.int ((1 : Int) + (k : Int)), .int 6])) l = some (.lst [.int ((1 : Int) + (k : Int)), .int 6]) := upd_same
      generalize upd H7 l (.lst [.int ((1 : Int) + (k : Int)), .int 6]) = H8 at *
      refine do_cb (do_cons (do_op (do_draw (ev_var rfl) (ev_c (v := vi 8)) pu7 (by omega) (by decide) (by decide) fun k2 H9 hk2 o9 pu9 => do_ev ev_c fun Ha ea => ⟨rfl, do_nil (.inr ⟨_, rfl, ?_⟩)⟩)))
      have hla : Ha l = some (.lst [.int ((1 : Int) + (k : Int)), .int 6]) := ea _ _ (o9 _ _ lp lc hl)
      have o4a : Off H4 Ha p c := (o47.trans o9).trans (.of_ex ea)
      have pua := pu9.ex ea
      by_cases hz : vi k2 = V.int 0
      · rw [decide_eq_true hz]
        exact ⟨l, _, 1, .int 6, rfl, rfl, sq_of hla, rfl, 6, by decide, by decide, o4a, pua, rfl⟩
      · rw [decide_eq_false hz]
        refine ⟨l, _, 0, .int ((1 : Int) + (k : Int)), rfl, rfl, sq_of hla, rfl, k + 1, by omega, by omega, o4a, pua, ?_⟩
        show [some (V.ref a), some (.ref p), some (vi i), some sv, some (V.int ((1 : Int) + (k : Int))), y5, y6, y7, y8, y9, y10, y11, y12] = _
        rw [show V.int ((1 : Int) + (k : Int)) = vi (k + 1) from by
          show V.int _ = V.int (((k + 1 : Nat)) : Int)
          rw [Int.natCast_add, Int.add_comm]
          rfl]
    · subst hσ
      have hG6 : Sig K H6 sv sg := hG4.et (o46.et pu4)
      -- the model
      refine do_set (ea_cons (ev_var rfl) (ea_cons (ev_var rfl) (ea_cons (ev_var rfl) ea_nil)) H6 (Ex.refl H6) _ fun H7 e7 => ⟨p, c, _, n, sv, sg, rfl, pu6.ex e7, by omega, n1, n6, hG6.ex e7, sok, fun mv ts t8 H8 o8 pu8 l8 hM8 mok => ?_⟩)
      have hG8 : Sig K H8 sv sg := (hG6.ex e7).et (o8.et (pu6.ex e7))
      show tSeq _ _ _ [some (.ref a), some (.ref p), some (vi i), some sv, some (vi n), some mv, y6, y7, y8, y9, y10, y11, y12] H8
      obtain ⟨q, hq⟩ : ∃ q : MArg, q = (sg, n, ts) := ⟨_, rfl⟩
      have ok : MOk q := by rw [hq]; exact ⟨sok, mok⟩
      have hm8 : MA K H8 sv mv q := by rw [hq]; exact ⟨hG8, hM8⟩
      have hn : q.2.1 = n := by rw [hq]
      rw [← hn] at n1 n6
      rw [← hn]
      clear hG4 hG6 hG8 hM8 sok mok hq
      obtain ⟨z, tv, hz, hZ, hT⟩ := id hm8.2
      subst hz
      have ix0 : ∀ {H' : Hp} {tw : V} (σ : L2.St), σ[5]? = some (some (.ref z)) → SqT K H' z [vi q.2.1, tw] → Ev (tOp (rIxT K) (tVar 5) (tC (.int 0))) σ H' (vi q.2.1) := fun {H' tw} σ hσ h => ev_op (ev_var hσ) ev_c (rv_ixT (K := K) h (atI_vi (k := 0) rfl))
      have cl1 : (clsd q).length ≤ 64 := by
        have a : (clsd q).length ≤ (srtO (sub q.2.1)).length := List.length_filter_le _ _
        have b := sub_few n6
        rw [srt_len] at a
        omega
      -- what is due
      refine do_set (lc_src (ea_cons (ix0 _ rfl hZ) ea_nil H8 (Ex.refl _) _ fun H9 e9 => ⟨q.2.1, rfl, n6, fun a0 as0 H10 e10 ll0 => ?_⟩))
      have e80 := e9.trans e10
      refine do_lcFit (K := K) (f := fun S => closed (cwm q) S) (σ := [some (.ref a), some (.ref p), some (vi i), some sv, some (vi q.2.1), some (.ref z), y6, y7, y8, y9, y10, y11, y12]) (ev_c) (ll0.low e9) e80 (by rw [srt_len]; have := sub_few n6; omega) (fun _ => rfl) (fun _ => rfl) (fun b ns H4 e4 hns hb => et_val (ev_callV (v := .bl (closed (cwm q) ns)) (q, ns) (ea_cons (ev_var rfl) (ea_cons (ev_var rfl) (ea_cons (ev_var rfl) ea_nil))) (fun H5 e5 => ⟨⟨_, _, _, rfl, hm8.ex ((e80.trans e4).trans e5), sq_of (e5 _ _ hb)⟩, ok⟩) (fun _ _ p => p))) (fun a6 as6 H11 e11 _ ll6 => ?_)
      replace ll6 : LLs H8 H11 a6 as6 (clsd q) := ll6
      have e8b := e80.trans e11
      have hm11 := hm8.ex e8b
      have pu11 := pu8.ex e8b
      show tSeq _ _ _ [some (.ref a), some (.ref p), some (vi i), some sv, some (vi q.2.1), some (.ref z), some (.ref a6), y7, y8, y9, y10, y11, y12] H11
      -- what is told
      refine do_set (ea_cons (ev_var rfl) (ea_cons (ev_var rfl) ea_nil) H11 (Ex.refl _) _ fun H12 e12 => ⟨q, sv, .ref z, rfl, hm11.ex e12, ok, fun a7 as7 H13 e13 ll7 => ?_⟩)
      have at11 : ∀ {b : Addr} {o : HO}, H11 b = some o → ∀ x ∈ as7, x ≠ b := fun {b o} hb x hx zz => by
        obtain ⟨_, _, _, nn⟩ := ll7.some hx
        have := fresh_back e12 nn
        rw [zz, hb] at this
        cases this
      have ne11 : ∀ {b : Addr} {o : HO}, H11 b = some o → a7 ≠ b := fun {b o} hb zz => by
        have := fresh_back e12 ll7.new
        rw [zz, hb] at this
        cases this
      have h6 := ll6
      replace ll7 := ll7.low e12
      have eb3 := e12.trans e13
      replace ll6 := ll6.ex eb3
      have hm13 := hm11.ex eb3
      have pu13 := pu11.ex eb3
      have gC := clsd_gd ok
      show tSeq _ _ _ [some (.ref a), some (.ref p), some (vi i), some sv, some (vi q.2.1), some (.ref z), some (.ref a6), some (.ref a7), y8, y9, y10, y11, y12] H13
      refine q_when (b := false) (et_is (et_or (et_not (et_val (ev_isi (ev_var rfl) ev_c (.ty _) (fun _ e => .base (.lst (e _ _ ll7.at_))) kit_ll))) (fun _ => et_test (ev_op (ev_reprW (K := K) rfl rfl (ep_ev (ev_var rfl) fun H' e' => (ll7.ex e').dp) gC (by decide) (by decide)) (ev_reprW (K := K) rfl rfl (ep_ev (ev_var rfl) fun H' e' => (ll6.ex e').dp) gC (by decide) (by decide)) (rv_ne' rfl rfl)))) rfl) (fun hb => by cases hb) (fun _ H14 e14 => ?_)
      replace ll6 := ll6.ex e14
      replace ll7 := ll7.ex e14
      have hm14 := hm13.ex e14
      have pu14 := pu13.ex e14
      -- each of them looked at, then spoilt
      refine q_forLs (do_ev (ev_var rfl) fun H15 e15 => ⟨a7, rfl, ⟨_, sq_of (e15 _ _ ll7.at_)⟩, ?_⟩)
      replace ll6 := ll6.ex e15
      replace ll7 := ll7.ex e15
      have hm15 := hm14.ex e15
      have pu15 := pu14.ex e15
      have lists : ∀ b ∈ as7, ∃ xs, H15 b = some (.lst xs) := fun b hb => by
        obtain ⟨ns, _, q1, _⟩ := ll7.some hb
        exact ⟨_, q1⟩
      refine qloops_list (K := K) (xs := as7.map V.ref) (fun j σ H' => OffL as7 H15 H' ∧ (∀ (k : Nat) b ns, j ≤ k → as7[k]? = some b → (clsd q)[k]? = some ns → H' b = some (.lst (ns.map vi))) ∧ ∃ y8 y9, σ = [some (.ref a), some (.ref p), some (vi i), some sv, some (vi q.2.1), some (.ref z), some (.ref a6), some (.ref a7), y8, y9, y10, y11, y12])
        ⟨.of (Ex.refl _), fun k b ns _ hb hns => by
          obtain ⟨ns2, h2, q2, _⟩ := paired_at ll7.each hb
          rw [hns] at h2
          rw [Option.some.inj h2]
          exact q2, y8, y9, rfl⟩ (fun j σ' H' _ ⟨o, _⟩ => sq_of (o _ _ ll7.ne ll7.at_)) (fun j x σ' H16 hx ⟨o16, st16, y8', y9', hσ⟩ => ?_) (fun σ' H16 ⟨o16, _, y8', y9', hσ⟩ => ?_)
      · subst hσ
        rw [List.getElem?_map] at hx
        cases hbj : as7[j]? with
        | none => rw [hbj] at hx; cases hx
        | some b =>
        rw [hbj] at hx
        cases Option.some.inj hx
        obtain ⟨S, hSj, _⟩ := paired_at ll7.each hbj
        have hb := st16 j b S (Nat.le_refl _) hbj hSj
        obtain ⟨upS, clS⟩ := clsd_mem.mp (List.mem_iff_getElem?.mpr ⟨j, hSj⟩)
        have gS := upGd upS n6
        have hm16 := hm15.et (o16.et lists)
        have bmem := List.mem_iff_getElem?.mpr ⟨j, hbj⟩
        show tSeq _ _ _ [some (.ref a), some (.ref p), some (vi i), some sv, some (vi q.2.1), some (.ref z), some (.ref a6), some (.ref a7), some (.ref b), y9', y10, y11, y12] H16
        refine q_asgL (el_list (K := K) (ev_var rfl) (sq_of hb)) fun kA H17 nk e17 hk => ?_
        refine q_cut (M := fun σ H' => Ex H17 H' ∧ σ = [some (.ref a), some (.ref p), some (vi i), some sv, some (vi q.2.1), some (.ref z), some (.ref a6), some (.ref a7), some (.ref b), some (.ref kA), y10, y11, y12]) ?_ (fun σ H18 ⟨e18, hσ⟩ => ?_)
        · refine s_when (b := !decide (S = [])) (et_test (ev_neLN (K := K) (xs := S) (ys := []) (ev_var rfl) (sq_of (e17 _ _ hb)) (el_lst ea_nil (Nat.zero_le _)) gS.1 (fun _ h => nomatch h) gS.2 (Nat.zero_le _))) (fun hne H18 e18 => ?_) (fun _ H18 e18 => ⟨e18, rfl⟩)
          have ne : S ≠ [] := fun zz => by rw [decide_eq_true zz] at hne; cases hne
          have e68 := e17.trans e18
          refine s_when (b := false) (et_test (ev_op (ev_reprW (K := K) (d := dM S.length (prt q S)) rfl rfl ((ep_call (q, S) (ea_cons (ev_var rfl) (ea_cons (ev_var rfl) (ea_cons (ev_var rfl) ea_nil))) (fun H' e' => ⟨⟨_, _, _, rfl, hm16.ex (e68.trans e'), (e68.trans e') _ _ hb⟩, ok, upS, clS, ne⟩)).imp fun v H' _ hv => Mdl.dp hv) (prt_gd ok upS clS) (by decide) (by decide)) (ev_reprW (K := K) (d := dM S.length (prt q S)) rfl rfl ((ep_call (q, S) (ea_cons (ev_var rfl) (ea_cons (ev_var rfl) (ea_cons (ev_var rfl) ea_nil))) (fun H' e' => ⟨⟨_, _, _, rfl, hm16.ex (e68.trans e'), (e68.trans e') _ _ hb⟩, ok, upS, clS⟩)).imp fun v H' _ hv => Mdl.dp hv) (prt_gd ok upS clS) (by decide) (by decide)) (rv_ne' rfl rfl))) (fun hb => by cases hb) (fun _ H19 e19 => ⟨e18.trans e19, rfl⟩)
        · subst hσ
          have e68 := e17.trans e18
          refine q_when (b := false) (et_is (et_test (ev_neL (K := K) (xs := S) (ys := S) (ev_var rfl) (ev_var rfl) (sq_of (e68 _ _ hb)) (sq_of (e18 _ _ hk)) gS.1 gS.1 gS.2 gS.2)) (by rw [decide_eq_true rfl]; rfl)) (fun hb => by cases hb) (fun _ H19 e19 => ?_)
          have e69 := e68.trans e19
          refine do_drop (ea_cons (ev_var rfl) ea_nil H19 (Ex.refl _) _ fun H20 e20 => ⟨b, S.map vi, rfl, (e69.trans e20) _ _ hb, by rw [List.length_map]; have := gS.2; omega, fun H21 H22 e21 e22 => ?_⟩)
          have e6b := e69.trans (e20.trans e21)
          refine ⟨fun x o hx ho => e22 _ _ (by rw [upd_ne (show x ≠ b from fun zz => hx (by rw [zz]; exact bmem))]; exact e6b _ _ (o16 _ _ hx ho)), fun k b' ns hk hb' hns => e22 _ _ ?_, _, _, rfl⟩
          have nb : b' ≠ b := fun zz => by
            obtain ⟨h1, e1⟩ := List.getElem?_eq_some_iff.mp hb'
            obtain ⟨h2, e2⟩ := List.getElem?_eq_some_iff.mp hbj
            have := (List.getElem_inj ll7.nd).mp (e1.trans (zz.trans e2.symm))
            omega
          rw [upd_ne nb]
          exact e6b _ _ (st16 k b' ns (by omega) hb' hns)
      · subst hσ
        have hm16 := hm15.et (o16.et lists)
        have h67 := o16 _ _ ll7.ne ll7.at_
        have pu16 : Pur H16 p c t8 := by
          obtain ⟨hp1, cs, cne, c63, hc1⟩ := pu15
          obtain ⟨qp, cs2, _, _, qc⟩ := pu11
          exact ⟨o16 _ _ (fun zz => at11 qp _ zz rfl) hp1, cs, cne, c63, o16 _ _ (fun zz => at11 qc _ zz rfl) hc1⟩
        have ll16 : LLs H8 H16 a6 as6 (clsd q) := ⟨o16 _ _ (fun zz => at11 h6.at_ _ zz rfl) ll6.at_, ll6.new, by
          have : ∀ {as : List Addr} {L : List (List Nat)}, (∀ b ∈ as, b ∈ as6) → Paired (fun b ns => H15 b = some (.lst (ns.map vi)) ∧ H8 b = none) as L → Paired (fun b ns => H16 b = some (.lst (ns.map vi)) ∧ H8 b = none) as L := fun {as L} hs pr => by
            induction pr with
            | nil => exact .nil
            | cons x r ih => exact .cons ⟨o16 _ _ (fun zz => by
                obtain ⟨_, _, q1, _⟩ := h6.some (hs _ (List.mem_cons_self ..))
                exact at11 q1 _ zz rfl) x.1, x.2⟩ (ih fun b hb => hs b (List.mem_cons_of_mem _ hb))
          exact this (fun _ h => h) ll6.each, ll6.nd, ll6.ne⟩
        refine q_appL h67 (ev_var rfl) (el_lst (vs := [.int 9]) (ea_cons ev_c ea_nil) (by show 1 ≤ 100000; decide)) (by rw [List.length_map, ll7.len]; omega) fun l9 H17 n9 e17 h9 => ?_
        have hm17 := hm16.ex e17
        have et18 : ET K H17 (upd H17 a7 (.lst (as7.map V.ref ++ [.ref l9]))) := ET.refl.upd (e17 _ _ h67)
        have hm18 := hm17.et et18
        have at18 : (upd H17 a7 (.lst (as7.map V.ref ++ [.ref l9]))) a7 = some (.lst (as7.map V.ref ++ [.ref l9])) := upd_same
        have pu18 : Pur (upd H17 a7 (.lst (as7.map V.ref ++ [.ref l9]))) p c t8 := (pu16.ex e17).upd (fun zz => by obtain ⟨qp, _⟩ := pu11; exact ne11 qp zz) (fun zz => by obtain ⟨_, cs2, _, _, qc⟩ := pu11; exact ne11 qc zz)
        have ll18 : LLs H8 (upd H17 a7 (.lst (as7.map V.ref ++ [.ref l9]))) a6 as6 (clsd q) := ⟨by rw [upd_ne (Ne.symm (ne11 h6.at_))]; exact e17 _ _ ll16.at_, ll6.new, by
          have : ∀ {as : List Addr} {L : List (List Nat)}, (∀ b ∈ as, b ∈ as6) → Paired (fun b ns => H16 b = some (.lst (ns.map vi)) ∧ H8 b = none) as L → Paired (fun b ns => (upd H17 a7 (.lst (as7.map V.ref ++ [.ref l9]))) b = some (.lst (ns.map vi)) ∧ H8 b = none) as L := fun {as L} hs pr => by
            induction pr with
            | nil => exact .nil
            | cons x r ih => exact .cons ⟨by
                obtain ⟨_, _, q1, _⟩ := h6.some (hs _ (List.mem_cons_self ..))
                rw [upd_ne (Ne.symm (ne11 q1))]
                exact e17 _ _ x.1, x.2⟩ (ih fun b hb => hs b (List.mem_cons_of_mem _ hb))
          exact this (fun _ h => h) ll16.each, ll6.nd, ll6.ne⟩
        have a7p : a7 ≠ p := fun zz => by obtain ⟨qp, _⟩ := pu11; exact ne11 qp zz
        have a7c : a7 ≠ c := fun zz => by obtain ⟨_, cs2, _, _, qc⟩ := pu11; exact ne11 qc zz
        have p6 : ∀ {b : Addr} {ns : List V}, (b = a6 ∨ b ∈ as6) → b ≠ p ∧ b ≠ c := fun {b ns} hb => by
          have nb : H8 b = none := by
            rcases hb with zz | zz
            · rw [zz]; exact ll6.new
            · obtain ⟨_, _, _, nn⟩ := h6.some zz
              exact nn
          exact pu8.fresh nb
        generalize upd H17 a7 (.lst (as7.map V.ref ++ [.ref l9])) = H18 at *
        have lc7 : as7.length = (clsd q).length := ll7.len
        clear ll7 ll6 ll16 hm17 hm16 et18 lists hm15 hm14 hm13 hm11
        refine q_forR1 (n := ((4 : Nat) : Int)) (ea_cons ev_c ea_nil) ⟨by decide, by decide⟩ (fun j σ H' => Off H18 H' p c ∧ (∃ t', Pur H' p c t' ∧ t' ≤ t8 + 7 * j) ∧ ∃ y8 y9 y10 y11, σ = [some (.ref a), some (.ref p), some (vi i), some sv, some (vi q.2.1), some (.ref z), some (.ref a6), some (.ref a7), y8, y9, y10, y11, y12])
          (fun H19 e19 => ⟨.of_ex e19, ⟨t8, pu18.ex e19, Nat.le_refl _⟩, y8', y9', y10, y11, rfl⟩) (fun j σ H19 hj ⟨o19, ⟨t9, pu19, lt9⟩, z8, z9, z10, z11, hσ⟩ => ?_) (fun σ H19 ⟨o19, ⟨t9, pu19, lt9⟩, z8, z9, z10, z11, hσ⟩ => ?_)
        · subst hσ
          have hj4 : j < 4 := by omega
          have hm19 := hm18.et (o19.et pu18)
          obtain ⟨z', tv', hz', hZ19, _⟩ := id hm19.2
          cases hz'
          show tSeq _ _ _ [some (.ref a), some (.ref p), some (vi i), some sv, some (vi q.2.1), some (.ref z), some (.ref a6), some (.ref a7), z8, z9, some (vi j), z11, y12] H19
          -- the numbers drawn
          refine do_set (lc_rsrc (do_cons (do_draw (ev_var rfl) (ev_c (v := vi 7)) pu19 (by omega) (by decide) (by decide) fun m H20 hmk o20 pu20 => do_nil ?_)))
          have hZ20 : SqT K H20 z [vi q.2.1, tv'] := o20.et pu19 _ _ hZ19
          refine do_lcIt walk_range (fun R r => w_rng (n := m) (ea_kon) (by omega) H20 (Ex.refl _) R r) (fun D i H' => H20 D = none ∧ Off H20 H' p c ∧ Pur H' p c (t9 + 1 + i) ∧ ∃ ks : List Nat, H' D = some (.lst (ks.map vi)) ∧ ks.length = i ∧ ∀ k ∈ ks, k < q.2.1)
            (fun D H5 e5 nD => ⟨fresh_back e5 nD, .of_ex (e5.trans (Ex.new nD)), (pu20.ex (e5.trans (Ex.new nD))), [], upd_same, rfl, fun _ z => nomatch z⟩) (fun _ _ _ _ _ => trivial) (fun D i x H5 H6 hi ⟨nD, o5, pu5, ks, hks, lk, low⟩ y => ?_) (fun D H21 ⟨nD, o21, pu21, ks, hks, lk, low⟩ => ?_)
          · obtain ⟨rfl, rfl⟩ := y
            obtain ⟨Dp, Dc⟩ := pu20.fresh nD
            refine ⟨rfl, iteT (do_draw (ev_var rfl) (ix0 _ rfl (o5.et pu20 _ _ hZ20)) pu5 (by omega) n1 (by omega) fun k H7 hk o7 pu7 => ⟨ks.map vi, o7 _ _ Dp Dc hks, sz_lt (by rw [List.length_map]; omega), nD, (o5.trans o7).upd nD, pu7.upd Dp Dc, ks ++ [k], ?_, by rw [List.length_append, lk]; rfl, fun x hx => ?_⟩)⟩
            · rw [upd_same, List.map_append]
              rfl
            · rcases List.mem_append.mp hx with zz | zz
              · exact low x zz
              · rw [List.mem_singleton.mp zz]
                exact hk
          · have o91 : Off H19 H21 p c := o20.trans o21
            have hm21 := hm19.et (o91.et pu19)
            show tSeq _ _ _ [some (.ref a), some (.ref p), some (vi i), some sv, some (vi q.2.1), some (.ref z), some (.ref a6), some (.ref a7), some (.ref D), z9, some (vi j), z11, y12] H21
            refine q_asgL (el_list (K := K) (ev_var rfl) (sq_of hks)) fun kA H22 nk e22 hk => ?_
            have hD22 := e22 _ _ hks
            have hm22 := hm21.ex e22
            refine do_set (ea_cons (ev_var rfl) (ea_cons (ev_var rfl) (ea_cons (ev_var rfl) ea_nil)) H22 (Ex.refl _) _ fun H23 e23 => ⟨q, ks, sv, .ref z, D, rfl, hm22.ex e23, e23 _ _ hD22, ok, low, by omega, fun b R H24 e24 nb hb uR sR => ?_⟩)
            have e44 := e23.trans e24
            have gR := upGd uR n6
            have gK : (∀ k ∈ ks, k ≤ 1000) ∧ ks.length ≤ 36 := ⟨fun k hk => by have := low k hk; omega, by omega⟩
            have sprE : ∀ H25, Ex H24 H25 → EvP (tCall (sp_spread K) [] E0 (tCons (tVar 3) (tCons (tVar 5) (tCons (tVar 8) tNil)))) [some (.ref a), some (.ref p), some (vi i), some sv, some (vi q.2.1), some (.ref z), some (.ref a6), some (.ref a7), some (.ref D), some (.ref kA), some (vi j), some (.ref b), y12] H25 (fun v H' => LN H' v R) := fun H25 e25 H26 e26 Q' q' =>
              ea_cons (ev_var rfl) (ea_cons (ev_var rfl) (ea_cons (ev_var rfl) ea_nil)) H26 (Ex.refl _) _ fun H27 e27 => ⟨q, ks, sv, .ref z, D, rfl, hm22.ex (e44.trans (e25.trans (e26.trans e27))), (e44.trans (e25.trans (e26.trans e27))) _ _ hD22, ok, low, by omega, fun b2 F H28 e28 nb2 hF uF cF nF leF => q' _ _ (e27.trans e28) ⟨b2, rfl, by
                rw [hF, spread_one sR uR uF cF nF (leF R uR sR.shut sR.has)]⟩⟩
            have gdR : Gd 1 396 (dL R) := gd_dL gR.1 gR.2
            refine q_when (b := false) (et_is (et_or (et_test (ev_op (ev_reprW (K := K) (d := dL R) rfl rfl (ep_ev (ev_var rfl) fun H' e' => dp_ln (e' _ _ hb)) gdR (by decide) (by decide)) (ev_reprW (K := K) (d := dL R) rfl rfl ((sprE _ (Ex.refl _)).imp fun v H' _ ⟨b2, hv, hF⟩ => by rw [hv]; exact dp_ln hF) gdR (by decide) (by decide)) (rv_ne' rfl rfl))) (fun _ => et_test (ev_neL (K := K) (xs := ks) (ys := ks) (ev_var rfl) (ev_var rfl) (sq_of (e44 _ _ hD22)) (sq_of (e44 _ _ hk)) gK.1 gK.1 gK.2 gK.2))) (by rw [decide_eq_true rfl]; rfl)) (fun hb => by cases hb) (fun _ H25 e25 => ?_)
            have hb25 := e25 _ _ hb
            refine q_app (v := .int 9) hb25 (ev_var rfl) ev_c (by rw [List.length_map]; have := gR.2; omega) fun H26 e26 => ?_
            have nb22 : H22 b = none := fresh_back e23 nb
            have e26' := (e44.trans e25).trans e26
            have x2 : Ex H22 (upd H26 b (.lst (R.map vi ++ [.int 9]))) := e26'.mut nb22
            have hbb : (upd H26 b (.lst (R.map vi ++ [.int 9]))) b = some (.lst (R.map vi ++ [.int 9])) := upd_same
            generalize upd H26 b (.lst (R.map vi ++ [.int 9])) = H27 at *
            have mdE : EvP (tCall (sp_made_by K) [] E0 (tCons (tVar 3) (tCons (tVar 5) (tCons (tVar 8) tNil)))) [some (.ref a), some (.ref p), some (vi i), some sv, some (vi q.2.1), some (.ref z), some (.ref a6), some (.ref a7), some (.ref D), some (.ref kA), some (vi j), some (.ref b), y12] H27 (fun v H' => LN H' v R) := fun H28 e28 Q' q' =>
              ea_cons (ev_var rfl) (ea_cons (ev_var rfl) (ea_cons (ev_var rfl) ea_nil)) H28 (Ex.refl _) _ fun H29 e29 => ⟨q, ks, sv, .ref z, D, rfl, hm22.ex (x2.trans (e28.trans e29)), (x2.trans (e28.trans e29)) _ _ hD22, ok, low, by omega, fun b2 R2 H30 e30 nb2 hR2 uR2 sR2 => q' _ _ (e29.trans e30) ⟨b2, rfl, by rw [hR2, spread_same sR sR2 uR uR2]⟩⟩
            have slE : EvP (tSl (rSlL K) (tVar 11) tNoPart (tPart (tUn (rU fun i => .int (-i)) (tC (.int 1))))) [some (.ref a), some (.ref p), some (vi i), some sv, some (vi q.2.1), some (.ref z), some (.ref a6), some (.ref a7), some (.ref D), some (.ref kA), some (vi j), some (.ref b), y12] H27 (fun v H' => LN H' v R) := fun H28 e28 Q' q' =>
              el_sl (K := K) (ev_var rfl) eo_none (eo_some (i := -1) (ev_un ev_c ru_neg)) (sq_of hbb) H28 e28 _ fun l H29 nl e29 hl => q' _ _ e29 ⟨l, rfl, by
                rw [hl, (cut_last (by simp)).1, List.dropLast_concat]⟩
            refine s_when (b := false) (et_test (ev_neSame (K := K) mdE slE (fun v H1 H2 e h => h.ex e) (fun v H1 ⟨b2, hv, h2⟩ => by rw [hv]; exact dp_ln h2) (fun v H1 ⟨b2, hv, h2⟩ => by rw [hv]; exact dp_ln h2) gdR (by decide))) (fun hb => by cases hb) (fun _ H28 e28 => ?_)
            refine ⟨(o19.trans o91).trans (.of_ex ((e22.trans x2).trans e28)), ⟨_, pu21.ex ((e22.trans x2).trans e28), by omega⟩, _, _, _, _, rfl⟩
        · subst hσ
          have hm19 := hm18.et (o19.et pu18)
          have ll19 : LLs H8 H19 a6 as6 (clsd q) := by
            obtain ⟨x1, x2⟩ := p6 (b := a6) (ns := []) (.inl rfl)
            refine ⟨o19 _ _ x1 x2 ll18.at_, ll18.new, ?_, ll18.nd, ll18.ne⟩
            have : ∀ {as : List Addr} {L : List (List Nat)}, (∀ b ∈ as, b ∈ as6) → Paired (fun b ns => H18 b = some (.lst (ns.map vi)) ∧ H8 b = none) as L → Paired (fun b ns => H19 b = some (.lst (ns.map vi)) ∧ H8 b = none) as L := fun {as L} hs pr => by
              induction pr with
              | nil => exact .nil
              | cons x r ih =>
                obtain ⟨x1, x2⟩ := p6 (ns := []) (.inr (hs _ (List.mem_cons_self ..)))
                exact .cons ⟨o19 _ _ x1 x2 x.1, x.2⟩ (ih fun b hb => hs b (List.mem_cons_of_mem _ hb))
            exact this (fun _ h => h) ll18.each
          have at19 := o19 _ _ a7p a7c at18
          have clE : EvP (tCall (sp_closed_lists K) [] E0 (tCons (tVar 3) (tCons (tVar 5) tNil))) [some (.ref a), some (.ref p), some (vi i), some sv, some (vi q.2.1), some (.ref z), some (.ref a6), some (.ref a7), z8, z9, z10, z11, y12] H19 (fun v H' => ∃ H0 b bs, v = .ref b ∧ LLs H0 H' b bs (clsd q)) := fun H28 e28 Q' q' =>
            ea_cons (ev_var rfl) (ea_cons (ev_var rfl) ea_nil) H28 (Ex.refl _) _ fun H29 e29 => ⟨q, sv, .ref z, rfl, hm19.ex (e28.trans e29), ok, fun b bs H30 e30 l => q' _ _ (e29.trans e30) ⟨H29, b, bs, rfl, l⟩⟩
          refine s_when (b := false) (et_is (et_or (et_test (ev_neSame (K := K) clE (ep_ev (P := fun v H' => v = .ref a6 ∧ LLs H8 H' a6 as6 (clsd q)) (ev_var rfl) fun H' e' => ⟨rfl, ll19.ex e'⟩) (fun v H1 H2 e ⟨H0, b, bs, hv, l⟩ => ⟨H0, b, bs, hv, l.ex e⟩) (fun v H1 ⟨H0, b, bs, hv, l⟩ => by rw [hv]; exact l.dp) (fun v H1 ⟨hv, l⟩ => by rw [hv]; exact l.dp) gC (by decide))) (fun _ => et_test (ev_op (ev_len (K := K) (ev_var rfl) (sq_of at19)) (ev_op (ev_len (K := K) (ev_var rfl) (sq_of ll19.at_)) ev_c rv_I0) (rv_ne' rfl (by
            rw [List.length_append, List.length_map, List.length_map, lc7, ll19.len]
            rfl))))) rfl) (fun hb => by cases hb) (fun _ H20 e20 => ?_)
          exact ⟨⟨t9, pu19.ex e20, by omega⟩, _, _, _, _, _, _, _, _, _, _, _, rfl⟩
  · obtain ⟨_, y2, y3, y4, y5, y6, y7, y8, y9, y10, y11, y12, hσ⟩ := tn
    subst hσ
    exact s_ret ev_c fun H3 e3 => rfl
end
end K70
end
section
namespace K70
open PySem PySem.Spec PyProof.Rows L2 Evl RZ Dw M20
section
variable {K : PySem.W.Frag} {h : Heap} {mg : Str → Option Value}
/-- a def by what the top has written -/
structure Wr (K : PySem.W.Frag) (x : Str) (st : Stmt) (f : Addr) : Prop where
  ex : ∃ (fd : FuncData), Fun K x x st f fd
  at_ : PySem.W.nsIn K mainGlobals x = some (some (.ref f))
theorem wr_mk {x : Str} {st : Stmt} {f : Addr} {od an : Option Addr} {sl : Array (Option Value)} {oc kV dc pm cd ct : Value} (a1 : PySem.W.nsIn K mainGlobals x = some (some (.ref f)))
    (l1 : K.lookup f = some ⟨oc, od, .func (PySem.W.fnOf x x (defArgs st) (defBody st) (defScope st) .none kV dc pm an cd ct), sl⟩) (c1 : PySem.W.codeIn K cd x = true) (k1 : PySem.W.keepIn K (.ref f) = true) : Wr K x st f := ⟨⟨_, fun_mk l1 c1 k1⟩, a1⟩
theorem Wr.df {x : Str} {st : Stmt} {f : Addr} {ps : List Str} (W : Wr K x st f) (X : K.In h) (G : h.Ns mainGlobals mg) (b : ∀ fd, Fun K x x st f fd → Binds K fd ps []) : Df K mg x st ps := by
  obtain ⟨fd, F⟩ := W.ex
  exact ⟨f, fd, F, PySem.W.mg_of X G W.at_, b fd F⟩
end

theorem all_mk {P : Program} {w : World} {K : PySem.W.Frag} {h : Heap} {mg : Str → Option Value} {fa : Addr} (X : K.In h) (G : h.Ns mainGlobals mg) (hfa : mg "law" = some (.ref fa)) (room : Room 9 callerA)
    {fl : Addr} {f0 : Addr} {f1 : Addr} {f2 : Addr} {f3 : Addr} {f4 : Addr} {f5 : Addr} {f6 : Addr} {f7 : Addr} {f8 : Addr} {f9 : Addr} {f10 : Addr} {f11 : Addr} {f12 : Addr} {f13 : Addr} {f14 : Addr} {f15 : Addr} {f16 : Addr} {f17 : Addr} {f18 : Addr} {f19 : Addr} {f20 : Addr} {f21 : Addr} {f22 : Addr} {f23 : Addr} {f24 : Addr} {f25 : Addr} {f26 : Addr} {f27 : Addr} {f28 : Addr} {f29 : Addr} {f30 : Addr} {f31 : Addr} {f32 : Addr} {f33 : Addr} {f34 : Addr} {f35 : Addr} {f36 : Addr} {f37 : Addr} {f38 : Addr}
    {t_NAME_LETTERS : Tok} {t_MOST_NAME : Tok} {t_MOST_DEEDS : Tok} {t_MOST_PLACES : Tok} {t_MOST_SIZE : Tok}
    (w0 : Wr K "_law_purse" s_purse f0)
    (w1 : Wr K "_law_draw" s_draw f1)
    (w2 : Wr K "_law_pick" s_pick f2)
    (w3 : Wr K "_law_signature" s_signature f3)
    (w4 : Wr K "_law_ways" s_ways f4)
    (w5 : Wr K "_law_table" s_table f5)
    (w6 : Wr K "_law_model" s_mdl f6)
    (w7 : Wr K "_law_subsets" s_subsets f7)
    (w8 : Wr K "_law_cells" s_cells f8)
    (w9 : Wr K "_law_did" s_did f9)
    (w10 : Wr K "_law_closed" s_lclosed f10)
    (w11 : Wr K "is_name" s_is_name f11)
    (w12 : Wr K "is_whole" s_is_whole f12)
    (w13 : Wr K "is_below" s_is_below f13)
    (w14 : Wr K "is_deed" s_is_deed f14)
    (w15 : Wr K "signature_wrong" s_signature_wrong f15)
    (w16 : Wr K "need_signature" s_need_signature f16)
    (w17 : Wr K "is_size" s_is_size f17)
    (w18 : Wr K "power" s_power f18)
    (w19 : Wr K "first_odd_cell" s_first_odd_cell f19)
    (w20 : Wr K "model_wrong" s_model_wrong f20)
    (w21 : Wr K "need_model" s_need_model f21)
    (w22 : Wr K "rising_lists" s_rising_lists f22)
    (w23 : Wr K "rows_below" s_rows_below f23)
    (w24 : Wr K "cells_with_worths" s_cells_with_worths f24)
    (w25 : Wr K "is_among" s_is_among f25)
    (w26 : Wr K "has_worths" s_has_worths f26)
    (w27 : Wr K "closed_lists" s_closed_lists f27)
    (w28 : Wr K "is_row" s_is_row f28)
    (w29 : Wr K "is_closed" s_is_closed f29)
    (w30 : Wr K "place_of_row" s_place_of_row f30)
    (w31 : Wr K "part_of" s_part_of f31)
    (w32 : Wr K "part" s_part f32)
    (w33 : Wr K "_law_sub" s_lsub f33)
    (w34 : Wr K "_law_spoil" s_spoil f34)
    (w35 : Wr K "need_numbers" s_need_numbers f35)
    (w36 : Wr K "build_from" s_build_from f36)
    (w37 : Wr K "made_by" s_made_by f37)
    (w38 : Wr K "_law_spread" s_spread f38)
    (wl : Wr K "law" s_law fl)
    (z_abs : PySem.W.nsIn K mainGlobals "abs" = some none)
    (z_all : PySem.W.nsIn K mainGlobals "all" = some none)
    (z_bool : PySem.W.nsIn K mainGlobals "bool" = some none)
    (z_enumerate : PySem.W.nsIn K mainGlobals "enumerate" = some none)
    (z_int : PySem.W.nsIn K mainGlobals "int" = some none)
    (z_isinstance : PySem.W.nsIn K mainGlobals "isinstance" = some none)
    (z_len : PySem.W.nsIn K mainGlobals "len" = some none)
    (z_list : PySem.W.nsIn K mainGlobals "list" = some none)
    (z_max : PySem.W.nsIn K mainGlobals "max" = some none)
    (z_min : PySem.W.nsIn K mainGlobals "min" = some none)
    (z_range : PySem.W.nsIn K mainGlobals "range" = some none)
    (z_repr : PySem.W.nsIn K mainGlobals "repr" = some none)
    (z_set : PySem.W.nsIn K mainGlobals "set" = some none)
    (z_sorted : PySem.W.nsIn K mainGlobals "sorted" = some none)
    (z_str : PySem.W.nsIn K mainGlobals "str" = some none)
    (z_sum : PySem.W.nsIn K mainGlobals "sum" = some none)
    (z_tuple : PySem.W.nsIn K mainGlobals "tuple" = some none)
    (z_zip : PySem.W.nsIn K mainGlobals "zip" = some none)
    (k_NAME_LETTERS : PySem.W.nsIn K mainGlobals "NAME_LETTERS" = some (some (.str "abcdefghijklmnopqrst" t_NAME_LETTERS)))
    (k_MOST_NAME : PySem.W.nsIn K mainGlobals "MOST_NAME" = some (some (.int 4 t_MOST_NAME)))
    (k_MOST_DEEDS : PySem.W.nsIn K mainGlobals "MOST_DEEDS" = some (some (.int 4 t_MOST_DEEDS)))
    (k_MOST_PLACES : PySem.W.nsIn K mainGlobals "MOST_PLACES" = some (some (.int 2 t_MOST_PLACES)))
    (k_MOST_SIZE : PySem.W.nsIn K mainGlobals "MOST_SIZE" = some (some (.int 6 t_MOST_SIZE))) :
    ∃ (fd : FuncData) (st : Stmt) (N : List Str), Fun K "law" "law" st fa fd ∧ FnScope N ["_law_script"] (defScope st) ∧ (∀ (s : Shared) (u : Value), BindsTo s fd ⟨[u], []⟩ [("_law_script", u)]) ∧
      ∀ (base : Heap) (s : Shared) (H : Hp) (cdv : Value) (a : Addr) (ns : List Int), K.In base → base.Ns mainGlobals mg → ns.length ≤ 63 → SqL K H a (ns.map V.int) →
        ∃ t, PSs (cxOf CX0 P w K mg base N "law" (defScope st) fa cdv callerA [] s H E0).nox (defBody st) t ∧ t { nx := fun _ _ => False, rt := fun v _ => v = .bl true } (L2.start N [.ref a]) H := by
  have e := hfa.symm.trans (PySem.W.mg_of X G wl.at_)
  cases e
  have T : Txt mg := {
    z_abs := PySem.W.mg_none_of X G z_abs
    z_all := PySem.W.mg_none_of X G z_all
    z_bool := PySem.W.mg_none_of X G z_bool
    z_enumerate := PySem.W.mg_none_of X G z_enumerate
    z_int := PySem.W.mg_none_of X G z_int
    z_isinstance := PySem.W.mg_none_of X G z_isinstance
    z_len := PySem.W.mg_none_of X G z_len
    z_list := PySem.W.mg_none_of X G z_list
    z_max := PySem.W.mg_none_of X G z_max
    z_min := PySem.W.mg_none_of X G z_min
    z_range := PySem.W.mg_none_of X G z_range
    z_repr := PySem.W.mg_none_of X G z_repr
    z_set := PySem.W.mg_none_of X G z_set
    z_sorted := PySem.W.mg_none_of X G z_sorted
    z_str := PySem.W.mg_none_of X G z_str
    z_sum := PySem.W.mg_none_of X G z_sum
    z_tuple := PySem.W.mg_none_of X G z_tuple
    z_zip := PySem.W.mg_none_of X G z_zip
    c_NAME_LETTERS := ⟨_, PySem.W.mg_of X G k_NAME_LETTERS⟩
    c_MOST_NAME := ⟨_, PySem.W.mg_of X G k_MOST_NAME⟩
    c_MOST_DEEDS := ⟨_, PySem.W.mg_of X G k_MOST_DEEDS⟩
    c_MOST_PLACES := ⟨_, PySem.W.mg_of X G k_MOST_PLACES⟩
    c_MOST_SIZE := ⟨_, PySem.W.mg_of X G k_MOST_SIZE⟩ }
  have D0 : Df K mg "_law_purse" s_purse ["_law_script"] := w0.df X G fun fd F => by
    obtain ⟨oc, od, kV, doc, pm, an, cdv, ct, osl, e, _⟩ := F.ex
    subst e
    exact F.binds fun _ _ _ _ _ _ us hl => match us, hl with | [_], _ => rfl
  have D1 : Df K mg "_law_draw" s_draw ["_law_purse_here", "_law_out_of"] := w1.df X G fun fd F => by
    obtain ⟨oc, od, kV, doc, pm, an, cdv, ct, osl, e, _⟩ := F.ex
    subst e
    exact F.binds fun _ _ _ _ _ _ us hl => match us, hl with | [_, _], _ => rfl
  have D2 : Df K mg "_law_pick" s_pick ["_law_purse_here", "_law_some"] := w2.df X G fun fd F => by
    obtain ⟨oc, od, kV, doc, pm, an, cdv, ct, osl, e, _⟩ := F.ex
    subst e
    exact F.binds fun _ _ _ _ _ _ us hl => match us, hl with | [_, _], _ => rfl
  have D3 : Df K mg "_law_signature" s_signature ["_law_purse_here"] := w3.df X G fun fd F => by
    obtain ⟨oc, od, kV, doc, pm, an, cdv, ct, osl, e, _⟩ := F.ex
    subst e
    exact F.binds fun _ _ _ _ _ _ us hl => match us, hl with | [_], _ => rfl
  have D4 : Df K mg "_law_ways" s_ways ["_law_many", "_law_size"] := w4.df X G fun fd F => by
    obtain ⟨oc, od, kV, doc, pm, an, cdv, ct, osl, e, _⟩ := F.ex
    subst e
    exact F.binds fun _ _ _ _ _ _ us hl => match us, hl with | [_, _], _ => rfl
  have D5 : Df K mg "_law_table" s_table ["_law_purse_here", "_law_many", "_law_size"] := w5.df X G fun fd F => by
    obtain ⟨oc, od, kV, doc, pm, an, cdv, ct, osl, e, _⟩ := F.ex
    subst e
    exact F.binds fun _ _ _ _ _ _ us hl => match us, hl with | [_, _, _], _ => rfl
  have D6 : Df K mg "_law_model" s_mdl ["_law_purse_here", "_law_signature_here", "_law_size"] := w6.df X G fun fd F => by
    obtain ⟨oc, od, kV, doc, pm, an, cdv, ct, osl, e, _⟩ := F.ex
    subst e
    exact F.binds fun _ _ _ _ _ _ us hl => match us, hl with | [_, _, _], _ => rfl
  have D7 : Df K mg "_law_subsets" s_subsets ["_law_size"] := w7.df X G fun fd F => by
    obtain ⟨oc, od, kV, doc, pm, an, cdv, ct, osl, e, _⟩ := F.ex
    subst e
    exact F.binds fun _ _ _ _ _ _ us hl => match us, hl with | [_], _ => rfl
  have D8 : Df K mg "_law_cells" s_cells ["_law_signature_here", "_law_size"] := w8.df X G fun fd F => by
    obtain ⟨oc, od, kV, doc, pm, an, cdv, ct, osl, e, _⟩ := F.ex
    subst e
    exact F.binds fun _ _ _ _ _ _ us hl => match us, hl with | [_, _], _ => rfl
  have D9 : Df K mg "_law_did" s_did ["_law_signature_here", "_law_model_here", "_law_name", "_law_args"] := w9.df X G fun fd F => by
    obtain ⟨oc, od, kV, doc, pm, an, cdv, ct, osl, e, _⟩ := F.ex
    subst e
    exact F.binds fun _ _ _ _ _ _ us hl => match us, hl with | [_, _, _, _], _ => rfl
  have D10 : Df K mg "_law_closed" s_lclosed ["_law_signature_here", "_law_model_here", "_law_some"] := w10.df X G fun fd F => by
    obtain ⟨oc, od, kV, doc, pm, an, cdv, ct, osl, e, _⟩ := F.ex
    subst e
    exact F.binds fun _ _ _ _ _ _ us hl => match us, hl with | [_, _, _], _ => rfl
  have D11 : Df K mg "is_name" s_is_name ["thing"] := w11.df X G fun fd F => by
    obtain ⟨oc, od, kV, doc, pm, an, cdv, ct, osl, e, _⟩ := F.ex
    subst e
    exact F.binds fun _ _ _ _ _ _ us hl => match us, hl with | [_], _ => rfl
  have D12 : Df K mg "is_whole" s_is_whole ["thing"] := w12.df X G fun fd F => by
    obtain ⟨oc, od, kV, doc, pm, an, cdv, ct, osl, e, _⟩ := F.ex
    subst e
    exact F.binds fun _ _ _ _ _ _ us hl => match us, hl with | [_], _ => rfl
  have D13 : Df K mg "is_below" s_is_below ["thing", "size"] := w13.df X G fun fd F => by
    obtain ⟨oc, od, kV, doc, pm, an, cdv, ct, osl, e, _⟩ := F.ex
    subst e
    exact F.binds fun _ _ _ _ _ _ us hl => match us, hl with | [_, _], _ => rfl
  have D14 : Df K mg "is_deed" s_is_deed ["thing"] := w14.df X G fun fd F => by
    obtain ⟨oc, od, kV, doc, pm, an, cdv, ct, osl, e, _⟩ := F.ex
    subst e
    exact F.binds fun _ _ _ _ _ _ us hl => match us, hl with | [_], _ => rfl
  have D15 : Df K mg "signature_wrong" s_signature_wrong ["thing"] := w15.df X G fun fd F => by
    obtain ⟨oc, od, kV, doc, pm, an, cdv, ct, osl, e, _⟩ := F.ex
    subst e
    exact F.binds fun _ _ _ _ _ _ us hl => match us, hl with | [_], _ => rfl
  have D16 : Df K mg "need_signature" s_need_signature ["signature"] := w16.df X G fun fd F => by
    obtain ⟨oc, od, kV, doc, pm, an, cdv, ct, osl, e, _⟩ := F.ex
    subst e
    exact F.binds fun _ _ _ _ _ _ us hl => match us, hl with | [_], _ => rfl
  have D17 : Df K mg "is_size" s_is_size ["thing"] := w17.df X G fun fd F => by
    obtain ⟨oc, od, kV, doc, pm, an, cdv, ct, osl, e, _⟩ := F.ex
    subst e
    exact F.binds fun _ _ _ _ _ _ us hl => match us, hl with | [_], _ => rfl
  have D18 : Df K mg "power" s_power ["base", "many"] := w18.df X G fun fd F => by
    obtain ⟨oc, od, kV, doc, pm, an, cdv, ct, osl, e, _⟩ := F.ex
    subst e
    exact F.binds fun _ _ _ _ _ _ us hl => match us, hl with | [_, _], _ => rfl
  have D19 : Df K mg "first_odd_cell" s_first_odd_cell ["size", "tables"] := w19.df X G fun fd F => by
    obtain ⟨oc, od, kV, doc, pm, an, cdv, ct, osl, e, _⟩ := F.ex
    subst e
    exact F.binds fun _ _ _ _ _ _ us hl => match us, hl with | [_, _], _ => rfl
  have D20 : Df K mg "model_wrong" s_model_wrong ["signature", "thing"] := w20.df X G fun fd F => by
    obtain ⟨oc, od, kV, doc, pm, an, cdv, ct, osl, e, _⟩ := F.ex
    subst e
    exact F.binds fun _ _ _ _ _ _ us hl => match us, hl with | [_, _], _ => rfl
  have D21 : Df K mg "need_model" s_need_model ["signature", "model"] := w21.df X G fun fd F => by
    obtain ⟨oc, od, kV, doc, pm, an, cdv, ct, osl, e, _⟩ := F.ex
    subst e
    exact F.binds fun _ _ _ _ _ _ us hl => match us, hl with | [_, _], _ => rfl
  have D22 : Df K mg "rising_lists" s_rising_lists ["size"] := w22.df X G fun fd F => by
    obtain ⟨oc, od, kV, doc, pm, an, cdv, ct, osl, e, _⟩ := F.ex
    subst e
    exact F.binds fun _ _ _ _ _ _ us hl => match us, hl with | [_], _ => rfl
  have D23 : Df K mg "rows_below" s_rows_below ["size", "many"] := w23.df X G fun fd F => by
    obtain ⟨oc, od, kV, doc, pm, an, cdv, ct, osl, e, _⟩ := F.ex
    subst e
    exact F.binds fun _ _ _ _ _ _ us hl => match us, hl with | [_, _], _ => rfl
  have D24 : Df K mg "cells_with_worths" s_cells_with_worths ["signature", "model"] := w24.df X G fun fd F => by
    obtain ⟨oc, od, kV, doc, pm, an, cdv, ct, osl, e, _⟩ := F.ex
    subst e
    exact F.binds fun _ _ _ _ _ _ us hl => match us, hl with | [_, _], _ => rfl
  have D25 : Df K mg "is_among" s_is_among ["args", "numbers"] := w25.df X G fun fd F => by
    obtain ⟨oc, od, kV, doc, pm, an, cdv, ct, osl, e, _⟩ := F.ex
    subst e
    exact F.binds fun _ _ _ _ _ _ us hl => match us, hl with | [_, _], _ => rfl
  have D26 : Df K mg "has_worths" s_has_worths ["signature", "model", "numbers"] := w26.df X G fun fd F => by
    obtain ⟨oc, od, kV, doc, pm, an, cdv, ct, osl, e, _⟩ := F.ex
    subst e
    exact F.binds fun _ _ _ _ _ _ us hl => match us, hl with | [_, _, _], _ => rfl
  have D27 : Df K mg "closed_lists" s_closed_lists ["signature", "model"] := w27.df X G fun fd F => by
    obtain ⟨oc, od, kV, doc, pm, an, cdv, ct, osl, e, _⟩ := F.ex
    subst e
    exact F.binds fun _ _ _ _ _ _ us hl => match us, hl with | [_, _], _ => rfl
  have D28 : Df K mg "is_row" s_is_row ["thing", "many", "size"] := w28.df X G fun fd F => by
    obtain ⟨oc, od, kV, doc, pm, an, cdv, ct, osl, e, _⟩ := F.ex
    subst e
    exact F.binds fun _ _ _ _ _ _ us hl => match us, hl with | [_, _, _], _ => rfl
  have D29 : Df K mg "is_closed" s_is_closed ["signature", "model", "thing"] := w29.df X G fun fd F => by
    obtain ⟨oc, od, kV, doc, pm, an, cdv, ct, osl, e, _⟩ := F.ex
    subst e
    exact F.binds fun _ _ _ _ _ _ us hl => match us, hl with | [_, _, _], _ => rfl
  have D30 : Df K mg "place_of_row" s_place_of_row ["size", "row"] := w30.df X G fun fd F => by
    obtain ⟨oc, od, kV, doc, pm, an, cdv, ct, osl, e, _⟩ := F.ex
    subst e
    exact F.binds fun _ _ _ _ _ _ us hl => match us, hl with | [_, _], _ => rfl
  have D31 : Df K mg "part_of" s_part_of ["signature", "model", "closed"] := w31.df X G fun fd F => by
    obtain ⟨oc, od, kV, doc, pm, an, cdv, ct, osl, e, _⟩ := F.ex
    subst e
    exact F.binds fun _ _ _ _ _ _ us hl => match us, hl with | [_, _, _], _ => rfl
  have D32 : Df K mg "part" s_part ["signature", "model", "closed"] := w32.df X G fun fd F => by
    obtain ⟨oc, od, kV, doc, pm, an, cdv, ct, osl, e, _⟩ := F.ex
    subst e
    exact F.binds fun _ _ _ _ _ _ us hl => match us, hl with | [_, _, _], _ => rfl
  have D33 : Df K mg "_law_sub" s_lsub ["_law_signature_here", "_law_model_here", "_law_some"] := w33.df X G fun fd F => by
    obtain ⟨oc, od, kV, doc, pm, an, cdv, ct, osl, e, _⟩ := F.ex
    subst e
    exact F.binds fun _ _ _ _ _ _ us hl => match us, hl with | [_, _, _], _ => rfl
  have D34 : Df K mg "_law_spoil" s_spoil ["_law_one"] := w34.df X G fun fd F => by
    obtain ⟨oc, od, kV, doc, pm, an, cdv, ct, osl, e, _⟩ := F.ex
    subst e
    exact F.binds fun _ _ _ _ _ _ us hl => match us, hl with | [_], _ => rfl
  have D35 : Df K mg "need_numbers" s_need_numbers ["model", "numbers"] := w35.df X G fun fd F => by
    obtain ⟨oc, od, kV, doc, pm, an, cdv, ct, osl, e, _⟩ := F.ex
    subst e
    exact F.binds fun _ _ _ _ _ _ us hl => match us, hl with | [_, _], _ => rfl
  have D36 : Df K mg "build_from" s_build_from ["signature", "model", "numbers"] := w36.df X G fun fd F => by
    obtain ⟨oc, od, kV, doc, pm, an, cdv, ct, osl, e, _⟩ := F.ex
    subst e
    exact F.binds fun _ _ _ _ _ _ us hl => match us, hl with | [_, _, _], _ => rfl
  have D37 : Df K mg "made_by" s_made_by ["signature", "model", "numbers"] := w37.df X G fun fd F => by
    obtain ⟨oc, od, kV, doc, pm, an, cdv, ct, osl, e, _⟩ := F.ex
    subst e
    exact F.binds fun _ _ _ _ _ _ us hl => match us, hl with | [_, _, _], _ => rfl
  have D38 : Df K mg "_law_spread" s_spread ["_law_signature_here", "_law_model_here", "_law_some"] := w38.df X G fun fd F => by
    obtain ⟨oc, od, kV, doc, pm, an, cdv, ct, osl, e, _⟩ := F.ex
    subst e
    exact F.binds fun _ _ _ _ _ _ us hl => match us, hl with | [_, _, _], _ => rfl
  obtain ⟨fd, F⟩ := wl.ex
  refine ⟨fd, s_law, ["_law_script", "_law_purse_here", "_law_time", "_law_signature_here", "_law_size_here", "_law_model_here", "_law_due", "_law_told_here", "_law_some", "_law_kept", "_law_again", "_law_found", "_law_k"], F, sc_law, fun s u => ?_, fun base s H cdv a ns inB nsB len seq => ?_⟩
  · obtain ⟨oc, od, kV, doc, pm, an, cdv, ct, osl, e, _⟩ := F.ex
    subst e
    exact .of_eq rfl
  · have c_purse := c_purse (P := P) (w := w) (base := base) T D0 
    have c_draw := c_draw (P := P) (w := w) (base := base) T D1 
    have c_pick := c_pick (P := P) (w := w) (base := base) T D2 c_draw
    have c_signature := c_signature (P := P) (w := w) (base := base) T D3 c_pick
    have c_ways := c_ways (P := P) (w := w) (base := base) T D4 
    have c_table := c_table (P := P) (w := w) (base := base) T D5 c_draw c_ways
    have c_model := c_model (P := P) (w := w) (base := base) T D6 c_table
    have c_subsets := c_subsets (P := P) (w := w) (base := base) T D7 
    have c_cells := c_cells (P := P) (w := w) (base := base) T D8 c_ways
    have c_did := c_did (P := P) (w := w) (base := base) T D9 
    have c_closed := c_closed (P := P) (w := w) (base := base) T D10 c_cells c_did
    have c_is_name := c_is_name (P := P) (w := w) (base := base) T D11 
    have c_is_whole := c_is_whole (P := P) (w := w) (base := base) T D12 
    have c_is_below := c_is_below (P := P) (w := w) (base := base) T D13 c_is_whole
    have c_is_deed := c_is_deed (P := P) (w := w) (base := base) T D14 c_is_name c_is_below
    have c_signature_wrong := c_signature_wrong (P := P) (w := w) (base := base) T D15 c_is_deed
    have c_need_signature := c_need_signature (P := P) (w := w) (base := base) T D16 c_signature_wrong
    have c_is_size := c_is_size (P := P) (w := w) (base := base) T D17 c_is_whole
    have c_power := c_power (P := P) (w := w) (base := base) T D18 
    have c_first_odd_cell := c_first_odd_cell (P := P) (w := w) (base := base) T D19 c_is_below
    have c_model_wrong := c_model_wrong (P := P) (w := w) (base := base) T D20 c_need_signature c_is_size c_power c_first_odd_cell
    have c_need_model := c_need_model (P := P) (w := w) (base := base) T D21 c_model_wrong
    have c_rising_lists := c_rising_lists (P := P) (w := w) (base := base) T D22 
    have c_rows_below := c_rows_below (P := P) (w := w) (base := base) T D23 
    have c_cells_with_worths := c_cells_with_worths (P := P) (w := w) (base := base) T D24 c_rows_below
    have c_is_among := c_is_among (P := P) (w := w) (base := base) T D25 
    have c_has_worths := c_has_worths (P := P) (w := w) (base := base) T D26 c_cells_with_worths c_is_among
    have c_closed_lists := c_closed_lists (P := P) (w := w) (base := base) T D27 c_need_model c_rising_lists c_has_worths
    have c_is_row := c_is_row (P := P) (w := w) (base := base) T D28 c_is_below
    have c_is_closed := c_is_closed (P := P) (w := w) (base := base) T D29 c_is_row c_has_worths
    have c_place_of_row := c_place_of_row (P := P) (w := w) (base := base) T D30 
    have c_part_of := c_part_of (P := P) (w := w) (base := base) T D31 c_rows_below c_place_of_row
    have c_part := c_part (P := P) (w := w) (base := base) T D32 c_need_model c_is_closed c_part_of
    have c_sub := c_sub (P := P) (w := w) (base := base) T D33 c_ways c_did
    have c_spoil := c_spoil (P := P) (w := w) (base := base) T D34 
    have c_need_numbers := c_need_numbers (P := P) (w := w) (base := base) T D35 c_is_below
    have c_build_from := c_build_from (P := P) (w := w) (base := base) T D36 c_cells_with_worths c_is_among
    have c_made_by := c_made_by (P := P) (w := w) (base := base) T D37 c_need_model c_need_numbers c_build_from
    have c_spread := c_spread (P := P) (w := w) (base := base) T D38 c_subsets c_closed
    exact law_ok T c_purse c_draw c_signature c_model c_subsets c_closed c_closed_lists c_part c_sub c_spoil c_made_by c_spread room s H fa cdv a ns len seq
end K70
end
open PySem PySem.W PyProof.Rows
set_option maxHeartbeats 0 in
theorem PySem.Challenge.cw_deedworlds_k70_closed_lists_holds : PySem.Challenge.rw_deedworlds_k70_closed_lists.Holds := by
  w_on; o_law; k_head; (case hw => w_witness2)
  k_fill
  refine Dw.walkG (l := PySem.Challenge.rw_deedworlds_k70_closed_lists) (n := 63) (k := 8) (x := "_law_script") rfl (by decide) rfl ⟨rfl, by decide, by decide⟩ (fun w h Y => PySem.W.kIn_of Y) ?F
  case F =>
    intro w mg fa h KX G hmg
    refine' K70.all_mk KX G hmg ⟨rfl, by decide, by decide⟩ (K70.wr_mk ?a0 ?l0 ?c0 ?k0) (K70.wr_mk ?a1 ?l1 ?c1 ?k1) (K70.wr_mk ?a2 ?l2 ?c2 ?k2) (K70.wr_mk ?a3 ?l3 ?c3 ?k3) (K70.wr_mk ?a4 ?l4 ?c4 ?k4) (K70.wr_mk ?a5 ?l5 ?c5 ?k5) (K70.wr_mk ?a6 ?l6 ?c6 ?k6) (K70.wr_mk ?a7 ?l7 ?c7 ?k7) (K70.wr_mk ?a8 ?l8 ?c8 ?k8) (K70.wr_mk ?a9 ?l9 ?c9 ?k9) (K70.wr_mk ?a10 ?l10 ?c10 ?k10) (K70.wr_mk ?a11 ?l11 ?c11 ?k11) (K70.wr_mk ?a12 ?l12 ?c12 ?k12) (K70.wr_mk ?a13 ?l13 ?c13 ?k13) (K70.wr_mk ?a14 ?l14 ?c14 ?k14) (K70.wr_mk ?a15 ?l15 ?c15 ?k15) (K70.wr_mk ?a16 ?l16 ?c16 ?k16) (K70.wr_mk ?a17 ?l17 ?c17 ?k17) (K70.wr_mk ?a18 ?l18 ?c18 ?k18) (K70.wr_mk ?a19 ?l19 ?c19 ?k19) (K70.wr_mk ?a20 ?l20 ?c20 ?k20) (K70.wr_mk ?a21 ?l21 ?c21 ?k21) (K70.wr_mk ?a22 ?l22 ?c22 ?k22) (K70.wr_mk ?a23 ?l23 ?c23 ?k23) (K70.wr_mk ?a24 ?l24 ?c24 ?k24) (K70.wr_mk ?a25 ?l25 ?c25 ?k25) (K70.wr_mk ?a26 ?l26 ?c26 ?k26) (K70.wr_mk ?a27 ?l27 ?c27 ?k27) (K70.wr_mk ?a28 ?l28 ?c28 ?k28) (K70.wr_mk ?a29 ?l29 ?c29 ?k29) (K70.wr_mk ?a30 ?l30 ?c30 ?k30) (K70.wr_mk ?a31 ?l31 ?c31 ?k31) (K70.wr_mk ?a32 ?l32 ?c32 ?k32) (K70.wr_mk ?a33 ?l33 ?c33 ?k33) (K70.wr_mk ?a34 ?l34 ?c34 ?k34) (K70.wr_mk ?a35 ?l35 ?c35 ?k35) (K70.wr_mk ?a36 ?l36 ?c36 ?k36) (K70.wr_mk ?a37 ?l37 ?c37 ?k37) (K70.wr_mk ?a38 ?l38 ?c38 ?k38) (K70.wr_mk ?al ?ll ?cl ?kl) ?z_abs ?z_all ?z_bool ?z_enumerate ?z_int ?z_isinstance ?z_len ?z_list ?z_max ?z_min ?z_range ?z_repr ?z_set ?z_sorted ?z_str ?z_sum ?z_tuple ?z_zip ?k_NAME_LETTERS ?k_MOST_NAME ?k_MOST_DEEDS ?k_MOST_PLACES ?k_MOST_SIZE
    (case a0 => k_is); (case l0 => k_is); (case c0 => k_is); (case k0 => k_is)
    (case a1 => k_is); (case l1 => k_is); (case c1 => k_is); (case k1 => k_is)
    (case a2 => k_is); (case l2 => k_is); (case c2 => k_is); (case k2 => k_is)
    (case a3 => k_is); (case l3 => k_is); (case c3 => k_is); (case k3 => k_is)
    (case a4 => k_is); (case l4 => k_is); (case c4 => k_is); (case k4 => k_is)
    (case a5 => k_is); (case l5 => k_is); (case c5 => k_is); (case k5 => k_is)
    (case a6 => k_is); (case l6 => k_is); (case c6 => k_is); (case k6 => k_is)
    (case a7 => k_is); (case l7 => k_is); (case c7 => k_is); (case k7 => k_is)
    (case a8 => k_is); (case l8 => k_is); (case c8 => k_is); (case k8 => k_is)
    (case a9 => k_is); (case l9 => k_is); (case c9 => k_is); (case k9 => k_is)
    (case a10 => k_is); (case l10 => k_is); (case c10 => k_is); (case k10 => k_is)
    (case a11 => k_is); (case l11 => k_is); (case c11 => k_is); (case k11 => k_is)
    (case a12 => k_is); (case l12 => k_is); (case c12 => k_is); (case k12 => k_is)
    (case a13 => k_is); (case l13 => k_is); (case c13 => k_is); (case k13 => k_is)
    (case a14 => k_is); (case l14 => k_is); (case c14 => k_is); (case k14 => k_is)
    (case a15 => k_is); (case l15 => k_is); (case c15 => k_is); (case k15 => k_is)
    (case a16 => k_is); (case l16 => k_is); (case c16 => k_is); (case k16 => k_is)
    (case a17 => k_is); (case l17 => k_is); (case c17 => k_is); (case k17 => k_is)
    (case a18 => k_is); (case l18 => k_is); (case c18 => k_is); (case k18 => k_is)
    (case a19 => k_is); (case l19 => k_is); (case c19 => k_is); (case k19 => k_is)
    (case a20 => k_is); (case l20 => k_is); (case c20 => k_is); (case k20 => k_is)
    (case a21 => k_is); (case l21 => k_is); (case c21 => k_is); (case k21 => k_is)
    (case a22 => k_is); (case l22 => k_is); (case c22 => k_is); (case k22 => k_is)
    (case a23 => k_is); (case l23 => k_is); (case c23 => k_is); (case k23 => k_is)
    (case a24 => k_is); (case l24 => k_is); (case c24 => k_is); (case k24 => k_is)
    (case a25 => k_is); (case l25 => k_is); (case c25 => k_is); (case k25 => k_is)
    (case a26 => k_is); (case l26 => k_is); (case c26 => k_is); (case k26 => k_is)
    (case a27 => k_is); (case l27 => k_is); (case c27 => k_is); (case k27 => k_is)
    (case a28 => k_is); (case l28 => k_is); (case c28 => k_is); (case k28 => k_is)
    (case a29 => k_is); (case l29 => k_is); (case c29 => k_is); (case k29 => k_is)
    (case a30 => k_is); (case l30 => k_is); (case c30 => k_is); (case k30 => k_is)
    (case a31 => k_is); (case l31 => k_is); (case c31 => k_is); (case k31 => k_is)
    (case a32 => k_is); (case l32 => k_is); (case c32 => k_is); (case k32 => k_is)
    (case a33 => k_is); (case l33 => k_is); (case c33 => k_is); (case k33 => k_is)
    (case a34 => k_is); (case l34 => k_is); (case c34 => k_is); (case k34 => k_is)
    (case a35 => k_is); (case l35 => k_is); (case c35 => k_is); (case k35 => k_is)
    (case a36 => k_is); (case l36 => k_is); (case c36 => k_is); (case k36 => k_is)
    (case a37 => k_is); (case l37 => k_is); (case c37 => k_is); (case k37 => k_is)
    (case a38 => k_is); (case l38 => k_is); (case c38 => k_is); (case k38 => k_is)
    (case al => k_is); (case ll => k_is); (case cl => k_is); (case kl => k_is)
    (case z_abs => k_is); (case z_all => k_is); (case z_bool => k_is); (case z_enumerate => k_is); (case z_int => k_is); (case z_isinstance => k_is); (case z_len => k_is); (case z_list => k_is); (case z_max => k_is); (case z_min => k_is); (case z_range => k_is); (case z_repr => k_is); (case z_set => k_is); (case z_sorted => k_is); (case z_str => k_is); (case z_sum => k_is); (case z_tuple => k_is); (case z_zip => k_is)
    (case k_NAME_LETTERS => k_is); (case k_MOST_NAME => k_is); (case k_MOST_DEEDS => k_is); (case k_MOST_PLACES => k_is); (case k_MOST_SIZE => k_is)
