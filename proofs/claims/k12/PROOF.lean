import PyProof.Rows.All
import Wide.All
import OpenK.AllK
import Wide.FinOn
import PySem.Challenge.RW_deedworlds_k12_models_looked_at
import HandS.Base
import HandS.Call
import HandS.List
import HandS.Comp
import HandS.Iter
import HandS.Evl
import HandS.Words
import KE.GoesMore
import KE.GoesEnum
import PyProof.ReprRoads
import PyProof.AutoIntOps
import HandS.Ends
import HandS.ForMost
import HandS.IsInst
import HandS.Zip
import HandS.TupAny
import HandS.Conv
import HandS.NoneIn
import HandS.More
import HandS.Wide
import HandS.Walk
import HandS.ReCall
import KE.KIndexOf
import PyProof.Rows.RegFStrParts
import KE.KDictPairs
import KE.KDictZip
import HandS.Dict
import HandS.Set
import HandS.SetFor
import HandS.TupSets
import PyProof.Rows.SortStr
import HandS.Strs
import HandS.Style
import KE.GoesZip
import PyProof.ListStr
import HandS.FStr
import HandS.DictComp
import HandS.ListItems
import HandS.Text
import KE.KEqDict
import KE.KDictItemsList
import HandS.TupMul
import HandS.Exc
import HandS.ExcOwn
import HandS.WordsExc
import KE.KExcIs
import HandS.ExcIs
import PyProof.RowDictHeap
import PyProof.ReprLen
import HandS.RaiseMore
import HandS.Deep
import HandS.Codes
import HandS.RevRange
import HandS.SetKeys
import HandS.Flow
import PyProof.CallFns
import KE.RegKIsAll
set_option Elab.async false
set_option linter.all false
set_option maxRecDepth 100000
set_option maxHeartbeats  4000000
section
/-! a rule of our own over the hand layer: for .. in enumerate(a tuple) -/
namespace Dw
open PySem PySem.Spec PyProof.Rows L2
/-- the walker of a tuple, and what counts beside it, as enumerate lays them -/
abbrev tupWalker (tp : Addr) : Obj := { cls := .type "tuple_iterator", data := .fields #[.ref tp, .int 0 0] }
abbrev counter (wk : Addr) : Obj := { cls := .type "enumerate", data := .fields #[.none, .bool false, .ref wk, rawInt 0, .none, .none] }
theorem new_enumT (tp : Addr) (cells : Array Value) (cap : Nat) (dc : Option Addr) (osl : Array (Option Value)) :
    Meets (Builtin.«enumerate.__new__» ⟨[.type "enumerate", .ref tp], []⟩) (fun _ R s => s.heap.get? tp = some { cls := .type "tuple", dict := dc, data := .seq cells cap, slots := osl } ∧
      R (.ok (.ret (.ref (s.heap.push (tupWalker tp)).objs.size))) { s with heap := (s.heap.push (tupWalker tp)).push (counter s.heap.objs.size) }) := by
  refine .of_wp fun prog w A R s pre => ?_
  obtain ⟨hp, glo, dep, tk, os⟩ := s
  obtain ⟨at_, goal⟩ := pre
  have isSub := sub_enumerate
  have isTup : Heap.IsTuple (Shared.heap ⟨hp, glo, dep, tk, os⟩) tp cells := ⟨_, at_, rfl, cap, rfl⟩
  wp_walk using AutoSeq1.wpAny_loadPart' at_
  refine wpAny_stack_any (fun _ => wpAny_pure ?_)
  split
  case h_1 cl _ _ _ _ _ =>
    generalize (cl == Value.type "enumerate") = same
    cases same <;> (wp_walk using AutoSeq1.wpAny_loadPart' at_, wpAny_pyIter_tuple isTup; exact ⟨_, rfl, goal⟩)
  case h_2 =>
    wp_walk using AutoSeq1.wpAny_loadPart' at_, wpAny_pyIter_tuple isTup
    exact ⟨_, rfl, goal⟩
/-- what stands behind enumerate(tuple): two new objects, all else as it was -/
structure Laid (old new : Heap) (tp : Addr) : Prop where
  cnt : IsEnum new (old.objs.size + 1) old.objs.size 0 .none
  wlk : new.IsTupleIter old.objs.size tp 0
  kept : ∀ b o, old.get? b = some o → new.get? b = some o
theorem laid_mk (old : Heap) (tp : Addr) : Laid old ((old.push (tupWalker tp)).push (counter old.objs.size)) tp := by
  have size1 : (old.push (tupWalker tp)).objs.size = old.objs.size + 1 := Heap.size_push ..
  have last := Heap.get?_push_size (old.push (tupWalker tp)) (o := counter old.objs.size) rfl
  rw [size1] at last
  exact ⟨last, ⟨tupWalker tp, Heap.get?_push_of_some _ (Heap.get?_push_size _ rfl), rfl, rfl⟩, fun b o q => Heap.get?_push_of_some _ (Heap.get?_push_of_some _ q)⟩
theorem call_enumT {prog : Program} {w : World} {A : Around} {E Q : Value → Shared → Prop} {s : Shared} {tp : Addr} {cells : Array Value} (isTup : s.heap.IsTuple tp cells)
    (next : ∀ new, Laid s.heap new tp → Q (.ref (s.heap.objs.size + 1)) { s with heap := new }) : wpAny (model prog w) A (call (.type "enumerate") [.ref tp]) Q E s := by
  obtain ⟨⟨cl, dc, dat, osl⟩, at_, isT, cap, isSeq⟩ := isTup
  have e1 : cl = .type "tuple" := isT
  have e2 : dat = .seq cells cap := isSeq
  subst e1
  subst e2
  have made := laid_mk s.heap tp
  have size1 : (s.heap.push (tupWalker tp)).objs.size = s.heap.objs.size + 1 := Heap.size_push ..
  refine callType_new F.called_enumerate (by decide) (F.typeCall_enumerate_1 _) (F.newCall_enumerate_1 _) (fun ob => F.args_object_init_2 ob _) F.entry_enumerate_new (new_enumT tp cells cap dc osl) (And.intro at_ ?_)
  have e3 : Value.ref (s.heap.push (tupWalker tp)).objs.size = .ref (s.heap.objs.size + 1) := by rw [size1]
  show _ ∧ _
  rw [e3]
  exact And.intro ⟨_, made.cnt, rfl⟩ (next _ made)
/-- the tuple at tp: its items, each in a new pair behind its place -/
def IteT (K : PySem.W.Frag) (tp : Addr) : It :=
  ⟨fun i H => ∃ (xs : List V) (x : V), SqT K H tp xs ∧ xs[i]? = some x, fun i H v H' => ∃ pr x, v = .ref pr ∧ H pr = none ∧ H' = upd H pr (.tup [.int (i : Nat), x]) ∧ ∀ xs, SqT K H tp xs → xs[i]? = some x, fun i H => ∃ xs : List V, SqT K H tp xs ∧ xs.length ≤ i⟩
/-- how the two objects stand ahead of turn i -/
def StandsT (tp cn wk : Addr) (i : Nat) (hp : Heap) : Prop := (∃ old, IsEnum hp cn wk ((i : Nat) : Int) old) ∧ hp.IsTupleIter wk tp i ∧ cn ≠ wk ∧ tp ≠ cn ∧ tp ≠ wk
theorem two {b x y : Addr} {P : Addr → Prop} (hb : b ∈ [x, y]) (px : P x) (py : P y) : P b := by
  rcases List.mem_cons.mp hb with same | same
  · exact same ▸ px
  · exact (List.mem_singleton.mp same) ▸ py
theorem turn_enumT {P : Program} {w : World} {K : PySem.W.Frag} {elts : List Expr} {kk : Nat} {tpos : Pos} (tp cn wk : Addr) : Turn P w K (.Tuple elts kk tpos) (IteT K tp) [cn, wk] cn (StandsT tp cn wk) where
  mem := List.mem_cons_self ..
  obj := by
    intro i hp st b hb
    obtain ⟨⟨_, isE⟩, ⟨o, at_, _, dat⟩, _⟩ := st
    exact two (P := fun b => ∃ o, hp.get? b = some o ∧ ∀ v, o.data ≠ .cell v) hb ⟨_, isE, fun _ q => nomatch q⟩ ⟨o, at_, fun v q => by rw [dat] at q; cases q⟩
  keep := by
    intro i hp hp' st same
    obtain ⟨⟨old, isE⟩, isI, far⟩ := st
    exact ⟨⟨old, same cn (List.mem_cons_self ..) _ isE⟩, isI.at fun o q => same wk (List.mem_cons_of_mem _ (List.mem_singleton.mpr rfl)) o q, far⟩
  item := by
    intro X eP ew eK calm i pins s σ H E I free st here
    subst eP ew eK
    obtain ⟨⟨old, isE⟩, isI, ne1, ne2, ne3⟩ := st
    obtain ⟨xs, x, isT, atx⟩ := here
    obtain ⟨cells, rel, isTup, _⟩ := I.tuple isT
    obtain ⟨u, atu, ru⟩ := rel.get atx
    have low : i < cells.toArray.size := by
      rw [List.size_toArray]
      exact (List.getElem?_eq_some_iff.mp atu).1
    have inCn : cn < s.heap.objs.size := Heap.lt_size isE
    have inWk : wk < s.heap.objs.size := let ⟨_, q, _⟩ := isI; Heap.lt_size q
    have far : cn ∉ [wk, tp] := fun z => by
      rcases List.mem_cons.mp z with one | one
      · exact ne1 one
      · exact ne2 (List.mem_singleton.mp one).symm
    have quiet : X.A.in1.handled = none := I.ok.hd calm
    refine wpAny_pyNext_enum_itemD (Draws.tuple (prog := X.prog) (w := X.w) quiet wk tp ne3 cells.toArray) isE ⟨isI, isTup⟩ low ne1 far fun v hp1 tk isv out st1 pair _ same => ?_
    have ev : v = u := by
      have q : cells.toArray[i]? = some v := isv
      rw [List.getElem?_toArray, atu] at q
      cases q
      rfl
    subst ev
    refine ⟨_, rfl, wpAny_letOwnedTupleGo_enum (s := { s with heap := hp1, toks := tk + 1 }) out fun hp2 isE2 but => ?_⟩
    have pair2 : hp2.get? s.heap.objs.size = some { cls := .type "tuple", data := .seq #[.int i tk, v] } := (but.2 _ (Nat.ne_of_gt inCn)).trans pair
    have fine : ObjOk X.prog X.w (upd H s.heap.objs.size (.tup [.int (i : Nat), x])) hp2 s.heap.objs.size (.tup [.int (i : Nat), x]) :=
      And.intro (show 2 ≤ sizeLine by decide) ⟨[.int i tk, v], .cons ⟨_, rfl⟩ (.cons ru .nil), _, pair2, rfl, _, rfl⟩
    have still : ∀ b ob, b ∉ [cn, wk] → s.heap.get? b = some ob → hp2.get? b = some ob := fun b ob nb q => by
      have n1 : b ≠ cn := fun z => nb (z ▸ List.mem_cons_self ..)
      have n2 : b ≠ wk := fun z => nb (z ▸ List.mem_cons_of_mem _ (List.mem_singleton.mpr rfl))
      rw [but.2 b n1]
      exact same b ob n1 n2 q
    have J := I.turnedNew (ch := [cn, wk]) (t' := tk + 1) still free (Nat.le_refl s.heap.objs.size) fine
    have up : (i : Int) + 1 = ((i + 1 : Nat) : Int) := (Int.natCast_succ i).symm
    rw [up] at isE2
    refine ⟨.ref s.heap.objs.size, _, J, rfl, ⟨_, x, rfl, I.hok.fresh (Nat.le_refl _), rfl, fun ys isY => ?_⟩, ⟨⟨v, isE2⟩, st1.1.at fun o q => (but.2 wk ne1.symm).trans q, ne1, ne2, ne3⟩, fun b hb => ?_⟩
    · rw [I.tuple_inj isY isT]
      exact atx
    · have inB : b < s.heap.objs.size := two (P := fun b => b < s.heap.objs.size) hb inCn inWk
      rw [upd_ne (Nat.ne_of_lt inB)]
      exact (free b hb).1
  done := by
    intro X eP ew eK calm i pins s σ H E I free st over
    subst eP ew eK
    obtain ⟨⟨old, isE⟩, isI, ne1, ne2, ne3⟩ := st
    obtain ⟨xs, isT, short⟩ := over
    obtain ⟨cells, rel, isTup, _⟩ := I.tuple isT
    obtain ⟨g0, g1, g2, g3, g4, g5⟩ := free wk (List.mem_cons_of_mem _ (List.mem_singleton.mpr rfl))
    have many : cells.toArray.size ≤ i := by
      rw [List.size_toArray, ← rel.length]
      exact short
    have quiet : X.A.in1.handled = none := I.ok.hd calm
    have D : Draws X.prog X.w X.A.in1 wk [wk, tp] i (fun _ _ => False) (fun j hp => j = i ∧ hp.IsTupleIter wk tp i ∧ hp.IsTuple tp cells.toArray) :=
      { live := fun _ _ q => let ⟨o, z, _⟩ := q.2.1; ⟨o, z⟩
        frame := fun _ _ _ q same => ⟨q.1, q.2.1.at fun o z => same wk (List.mem_cons_self ..) o z, q.2.2.at fun o z => same tp (List.mem_cons_of_mem _ (List.mem_singleton.mpr rfl)) o z⟩
        item := fun _ _ _ _ less q _ => absurd q.1 (Nat.ne_of_lt less)
        done := fun _ _ _ q ends => wpAny_nextOf_tuple_end quiet q.2.1 q.2.2 (Array.getElem?_eq_none many) ends }
    exact wpAny_pyNext_enum_endD D isE ⟨rfl, isI, isTup⟩ fun hp1 ext => ⟨rfl, I.turned (t' := s.toks) (fun b o nb q => ext b o nb q) g0 g1 g3 g4 g5⟩
  self := by
    intro A i s Q E st q
    obtain ⟨⟨_, isE⟩, _⟩ := st
    exact wpAny_pyIter_enum isE q
def iEnumT (K : PySem.W.Frag) (ta : TA) : TI := fun σ H R => ta σ H fun vs H1 => ∃ tp xs, vs = [.ref tp] ∧ SqT K H1 tp xs ∧ R (IteT K tp) H1
theorem pi_enumT {X : Cx} {e : Expr} {ta : TA} {p pos tpos : Pos} {elts : List Expr} {kk : Nat} (glob : Gl X "enumerate") (none_ : X.mg "enumerate" = none) (arg : PA X [e] ta) (star : starEach [e] X.env = [(false, eval e X.env)] := by rfl) :
    PI X (.Tuple elts kk tpos) (.Call (.Name "enumerate" p) [e] [] pos) (iEnumT X.K ta) := by
  constructor
  intro pins s σ H R I q0
  have given := arg.run pos pins s σ H _ I q0
  refine Call_ (ld_blt I glob none_ boot_enumerate (callWith_type1 (thn given fun us s1 got => ?_) star rfl))
  obtain ⟨vs, H1, J, rel, tp, xs, isOne, isT, q1⟩ := got
  subst isOne
  obtain ⟨u, isU, ru⟩ := vals1 rel
  subst isU
  cases (show u = Value.ref tp from ru)
  obtain ⟨cells, _, isTup, _⟩ := J.tuple isT
  have inTp : tp < s1.heap.objs.size := let ⟨_, at_, _⟩ := (show s1.heap.IsTuple tp cells.toArray from isTup); Heap.lt_size at_
  refine call_enumT isTup fun new made => wpAny_pyIter_enum made.cnt ?_
  have J2 : Inv X pins σ H1 { s1 with heap := new } := J.kept (t' := s1.toks) made.kept
  have stands : StandsT tp (s1.heap.objs.size + 1) s1.heap.objs.size 0 new := ⟨⟨.none, made.cnt⟩, made.wlk, Nat.succ_ne_self _, Nat.ne_of_lt (Nat.lt_succ_of_lt inTp), Nat.ne_of_lt inTp⟩
  refine ⟨s1.heap.objs.size + 1, [s1.heap.objs.size + 1, s1.heap.objs.size], _, _, H1, rfl, J2, turn_enumT tp _ _, stands, fun b hb => ?_, q1⟩
  have late : s1.heap.objs.size ≤ b := two (P := fun b => s1.heap.objs.size ≤ b) hb (Nat.le_succ _) (Nat.le_refl _)
  exact J.fpOk late (J.hok.fresh late)
end Dw
end
section
namespace Dw
open PySem PySem.Spec PyProof.Rows L2
/-! ### repr of data, where nothing is being shown around -/
/-! ### ** of a base that op_pow does not take -/
theorem op_powG {b e : Int} (h0 : 0 < e) (h1 : 1 < b) (hz : Builtin.Int.intTooBig (((Builtin.Int.intBits b : Nat) : Int) * e) = false) {X : Cx} :
    OpR X (binaryOp .Pow) (fun x y H Q => x = .int b ∧ y = .int e ∧ Q (.int (b ^ e.toNat)) H) := by
  intro pins s σ H x y v u Q I rx ry h
  obtain ⟨rfl, rfl, q⟩ := h
  obtain ⟨t1, rfl⟩ := (show ∃ t, v = Value.int b t from rx)
  obtain ⟨t2, rfl⟩ := (show ∃ t, u = Value.int e t from ry)
  refine AutoIntOps.pow_4 (by omega) (by simp; omega) (by simp; omega) (by simp; omega) (by rw [hz]; decide) ?_
  exact ⟨.int (b ^ e.toNat), H, I.tok _, ⟨_, rfl⟩, q⟩
end Dw
end
section
/-! the law's own def, entered from the caller's place itself (so that it is known there that nothing is being shown) -/
namespace Dw
open PySem PySem.Spec PyProof.Rows L2
/-- a def of one parameter, entered at a told place A -/
theorem enter1 {P : Program} {w : World} {K : PySem.W.Frag} {mg : Str → Option Value} {base : Heap} {k : Nat} {x qual : Str} {st : Stmt} {f : Addr} {fd : FuncData} {N : List Str} {A : Around} {outer : List Env} {s : Shared} {H : Hp} {v : V} {u : Value} {Q : VK}
    (F : Fun K qual qual st f fd) (S : FnScope N [x] (defScope st)) (bd : BindsTo s fd ⟨[u], []⟩ [(x, u)]) (room : Room (k + 1) A) (e0 : Env0 P w K mg base A outer s H) (rv : RelV v u)
    (body : ∀ cdv : Value, ∃ t, PSs (cxOf CX0 P w K mg base N qual (defScope st) f cdv A outer s H E0).nox (defBody st) t ∧ t { nx := fun _ H' => Q .non H', rt := Q } (start N [v]) H) :
    codeAny (model P w) A (.call (.ref f) ⟨[u], []⟩) (CR CX0 outer P w H s Q E0) s := by
  obtain ⟨oc, od, kV, doc, pm, an, cdv, ct, osl, efd, look, code⟩ := F.ex
  subst efd
  obtain ⟨t, der, rd⟩ := body cdv
  have kept : ∀ b o, base.get? b = some o → s.heap.get? b = some o := fun b o e => (e0.bs b o e).1
  have inK : K.In s.heap := e0.mod.kin.keeps kept
  refine codeAny_call_function room.depth (inK f _ look) rfl S.co S.gen rfl (PySem.W.codeRec_of inK code) (bd _ _ _ _ ?_)
  have kinds : ∀ y ∈ [(x, u)], (defScope st).names.lookup y.1 = some .local ∨ ((defScope st).names.lookup y.1 = some .cell ∧ ((cellsFrom (s.heap.objs.size + 1) (defScope st).names []).lookup y.1).isSome = true) := by
    intro y hy
    rw [List.mem_singleton.mp hy]
    cases S.par x (List.mem_singleton.mpr rfl) with
    | inl one => exact Or.inl one
    | inr one => exact Or.inr ⟨one, PySem.W.cellsFrom_some _ _ _ (Or.inl one)⟩
  refine wpAny_newFunctionEnv_cells S.kind kinds (fun env isEnv s1 ic => ?_)
  subst isEnv
  have noLim : s.heap.NoLimit := e0.mod.nolimit.keeps kept
  refine ⟨noLim.keeps ic.toInCall.keep, codeAny_func ?_⟩
  have start0 : Inv (cxOf CX0 P w K mg base N qual (defScope st) f cdv A outer s H E0) [] (start N [v]) H s1 := inv_start S room.hd e0 rfl (.cons rv .nil) ic
  refine wpAny_mono (der.nox.run [] s1 (start N [v]) H _ start0 rd) (fun flow s2 done => ?_) (fun _ _ bad => bad)
  match flow, done with
  | .next, ⟨_, H2, inv, q⟩ => exact ⟨.non, H2, inv.os, inv.bare, inv.base, inv.hok, rfl, q⟩
  | .ret _, ⟨v2, _, H2, inv, rel, q⟩ => exact ⟨v2, H2, inv.os, inv.bare, inv.base, inv.hok, rel, q⟩
  | .brk, ⟨_, _, _, q⟩ => exact q.elim
  | .cont, ⟨_, _, _, q⟩ => exact q.elim
/-- how the script stands ahead of the law: tracked as locked, or one of the written part's own -/
def scriptHp (K : PySem.W.Frag) (a : Addr) (ob : Obj) (ns : List Int) : Hp := fun b => if b = a ∧ K.lookup a = none then some (.frz ob (.lst (ns.map V.int))) else none
section
variable {K : PySem.W.Frag} {a : Addr} {ob : Obj} {ns : List Int}
theorem scriptHp_some {b : Addr} {u : HO} (h : scriptHp K a ob ns b = some u) : b = a ∧ K.lookup a = none ∧ u = .frz ob (.lst (ns.map V.int)) := by
  unfold scriptHp at h
  split at h
  · rename_i c
    exact ⟨c.1, c.2, (Option.some.inj h).symm⟩
  · cases h
theorem scriptHp_at (h : K.lookup a = none) : scriptHp K a ob ns a = some (.frz ob (.lst (ns.map V.int))) := if_pos ⟨rfl, h⟩
theorem scriptHp_no {b : Addr} (h : b ≠ a) : scriptHp K a ob ns b = none := if_neg fun c => h c.1
end
/-- the end of a law row whose def is walked from the caller's place -/
theorem walkG {l : PySem.W.OpenLaw} {n k : Nat} {q : Program} {loose : List Str} {XP : (Str → Option Value) → Heap → Prop} {YP : World → Heap → Prop} {d : DefRec} {K : Params → PySem.W.Frag} {x : Str}
    (hn : l.most = some n) (hn2 : n ≤ sizeLine) (hdf : d.params.defaults = []) (room : Room (k + 1) callerA) (hY : ∀ (w : World) (h : Heap), YP w h → (K w.params).In h)
    (F : ∀ (w : World) (mg : Str → Option Value) (fa : Addr) (h : Heap),
      (K w.params).In h → h.Ns mainGlobals mg → mg d.name = some (.ref fa) →
      ∃ (fd : FuncData) (st : Stmt) (N : List Str), Fun (K w.params) d.name d.name st fa fd ∧ FnScope N [x] (defScope st) ∧ (∀ (s : Shared) (u : Value), BindsTo s fd ⟨[u], []⟩ [(x, u)]) ∧
        ∀ (base : Heap) (s : Shared) (H : Hp) (cdv : Value) (a : Addr) (ns : List Int), (K w.params).In base → base.Ns mainGlobals mg → ns.length ≤ n → SqL (K w.params) H a (ns.map V.int) →
          ∃ t, PSs (cxOf CX0 l.prog w (K w.params) mg base N d.name (defScope st) fa cdv callerA [] s H E0).nox (defBody st) t ∧ t { nx := fun _ _ => False, rt := fun v _ => v = .bl true } (start N [.ref a]) H) :
    PySem.W.WalkO q loose XP YP l.row.toRowW d [] (fun g us => PySem.call g us) := by
  refine Att.attach_call hn hdf (fun w _ s mg mb fa _ _ _ _ a vs ns G Y _ _ _ gl isL nums len gens => ?_)
  have inK := hY w s.heap Y
  obtain ⟨fd, st, N, Fn, S, bd, body⟩ := F w mg fa s.heap inK G.T.g gl
  let H : Hp := scriptHp (K w.params) a { cls := .type "list", data := .seq vs.toArray } ns
  have rel : Vals (ns.map V.int) vs := vals_ints nums
  have small : vs.length ≤ sizeLine := by rw [nums.length]; exact Nat.le_trans len hn2
  have okH : HOk l.prog w H s.heap := by
    intro b u e
    obtain ⟨rfl, _, rfl⟩ := scriptHp_some e
    exact ⟨isL, by rw [List.length_map]; exact Nat.le_trans len hn2, vs, _, rel, isL⟩
  have seq : SqL (K w.params) H a (ns.map V.int) := by
    cases lk : (K w.params).lookup a with
    | none => exact Or.inl (Or.inr ⟨_, scriptHp_at lk⟩)
    | some o =>
      have same : o = { cls := .type "list", data := .seq vs.toArray } := Option.some.inj ((inK a o lk).symm.trans isL)
      exact Or.inr ⟨o, vs.toArray, _, lk, by rw [same], by rw [same], by rw [same], by rw [List.size_toArray]; exact small, by simpa using rel⟩
  have freeK : ∀ b o, (K w.params).lookup b = some o → H b = none := by
    intro b o e
    by_cases hb : b = a
    · subst hb
      exact if_neg fun c => by rw [c.2] at e; cases e
    · exact scriptHp_no hb
  have freeD : ∀ b o es ep, s.heap.get? b = some o → o.data = .dict es ep → H b = none := by
    intro b o es ep e dat
    by_cases hb : b = a
    · subst hb
      rw [isL] at e
      cases e
      cases dat
    · exact scriptHp_no hb
  have names : ∀ b m, s.heap.Ns b m → (hidT s.heap H).Ns b m := fun b m ⟨o, es, ep, e, dat, r⟩ => ⟨o, es, ep, hidT_get e (freeD b o es ep e dat), dat, r⟩
  have inB : (K w.params).In (hidT s.heap H) := fun b o e => hidT_get (inK b o e) (freeK b o e)
  have noL : (hidT s.heap H).NoLimit := by
    obtain ⟨mc, c1, c2⟩ := G.T.nolimit
    exact ⟨mc, names _ _ c1, c2⟩
  have e0 : Env0 l.prog w (K w.params) mg (hidT s.heap H) callerA [] s H :=
    { frames := rfl, mod := ⟨inB, names _ _ G.T.g, ⟨mb, names _ _ G.T.b, G.T.builtins⟩, noL⟩, bs := fun b o e => of_hidT e, bsz := Nat.le_of_eq (hidT_size _ _), funs := trivial, frf := fun b hb => absurd (show b ∈ ([] : List Addr) from hb) (by simp), hok := okH, bare := .of_eq gens }
  have run := enter1 (P := l.prog) (v := .ref a) (Q := fun v _ => v = .bl true) Fn S (bd s (.ref a)) room e0 rfl (fun cdv => by
    obtain ⟨t, t1, t2⟩ := body (hidT s.heap H) s H cdv a ns inB (names _ _ G.T.g) len seq
    refine ⟨t, t1, ?_⟩
    have no : (fun (_ : L2.St) (_ : Hp) => (V.non = V.bl true)) = fun _ _ => False := by
      funext _ _
      exact propext ⟨fun z => V.noConfusion z, False.elim⟩
    show t { nx := fun (_ : L2.St) (_ : Hp) => V.non = V.bl true, rt := fun v _ => v = .bl true } (start N [.ref a]) H
    rw [no]
    exact t2)
  refine codeAny_mono run (fun r s2 done => ?_)
  match r, done with
  | .error _, bad => exact bad.elim
  | .ok .next, bad => exact bad.elim
  | .ok .brk, bad => exact bad.elim
  | .ok .cont, bad => exact bad.elim
  | .ok (.ret _), ⟨_, H2, os, bare, un, ok2, rr, isT⟩ =>
    subst isT
    cases (show _ = Value.bool true from rr)
    refine ⟨rfl, OldK.of_keep (fun b o e => ?_), os, bare⟩
    cases tr : H b with
    | none => exact un.keep b o e tr (fun z => absurd (show b ∈ ([] : List Addr) from z) (by simp)) (by simp)
    | some u =>
      obtain ⟨hb, _, hu⟩ := scriptHp_some tr
      subst hb hu
      have still := un.frzs _ _ _ tr
      rw [isL] at e
      cases e
      exact (ok2 _ _ still).1
end Dw
end
section
/-! what a reading evaluates to: more words over Evl; tuples of natural numbers; defs by their names -/
namespace Dw
open PySem PySem.Spec PyProof.Rows L2 Evl
/-! ### defs by their names -/
/-- a def of the text behind the top, all of its parameters without defaults -/
structure Df (K : PySem.W.Frag) (mg : Str → Option Value) (x : Str) (st : Stmt) (ps : List Str) : Prop where
  ex : ∃ (f : Addr) (fd : FuncData), Fun K x x st f fd ∧ mg x = some (.ref f) ∧ Binds K fd ps []
/-- a def that keeps a promise -/
structure Cl (P : Program) (w : World) (K : PySem.W.Frag) (mg : Str → Option Value) (base : Heap) (k : Nat) (x : Str) (sp : Sp) : Prop where
  ex : ∃ (f : Addr) (fd : FuncData) (ps : List Str), FnOk P w K mg base CX0 k f fd ps sp ∧ mg x = some (.ref f) ∧ PySem.W.keepIn K (.ref f) = true ∧ Binds K fd ps []
theorem cl_of {P : Program} {w : World} {K : PySem.W.Frag} {mg : Str → Option Value} {base : Heap} {x : Str} {st : Stmt} {N ps : List Str} {k : Nat} {sp : Sp} (D : Df K mg x st ps) (S : FnScope N ps (defScope st)) (len : ∀ vs H Q E, sp vs H Q E → vs.length = ps.length)
    (body : ∀ (f : Addr) (cdv : Value) (A : Around) (outer : List Env) (s : Shared) (H : Hp) (vs : List V) (Q : VK) (E : XK), Room k (A.deeper (envOfC x (defScope st) s.heap.objs.size f cdv)) → sp vs H Q E →
      ∃ t, PSs (cxOf CX0 P w K mg base N x (defScope st) f cdv A outer s H E).nox (defBody st) t ∧ t { nx := fun _ H' => Q .non H', rt := Q } (start N vs) H) : Cl P w K mg base (k + 1) x sp := by
  obtain ⟨f, fd, F, m, b⟩ := D.ex
  exact ⟨f, fd, ps, F.ok S len (fun cdv A outer s H vs Q E hr h => body f cdv A outer s H vs Q E hr h), m, F.kp, b⟩
theorem pe_cl {X : Cx} {k j : Nat} {x : Str} {sp : Sp} {p pos : Pos} {e : Expr} {es : List Expr} {t : TA} (c : Cl X.prog X.w X.K X.mg X.base k x sp) (hr : Room j X.A) (hk : k ≤ j) (hg : Gl X x) (ha : PA X (e :: es) t)
    (dbg : (x == ("__debug__" : Str)) = false := by decide) (str : starEach (e :: es) X.env = (false, eval e X.env) :: starEach es X.env := by rfl) (bck : (backTo pos (starEach es X.env)).any (·.1) = false := by rfl) :
    PE X (.Call (.Name x p) (e :: es) [] pos) (tCall sp [] E0 t) := by
  obtain ⟨f, fd, ps, F, m, kp, b⟩ := c.ex
  exact pe_call F (hr.mono hk) hg m kp b .nil pass0 ha dbg str bck
/-- a pure promise: of some a what must hold, and what comes back, all that stood left as it was -/
def spX {α : Type} (pre : α → List V → Hp → Prop) (post : α → V → Hp → Prop) : Sp := fun vs H Q _ => ∃ a, pre a vs H ∧ ∀ v H', Ex H H' → post a v H' → Q v H'
/-! ### values of any kind, by what holds of them -/
def EvP (te : TE) (σ : L2.St) (H : Hp) (P : V → Hp → Prop) : Prop := ∀ H1, Ex H H1 → ∀ Q : VK, (∀ v H2, Ex H1 H2 → P v H2 → Q v H2) → te σ H1 Q
section
variable {K : PySem.W.Frag} {σ : L2.St} {H H' : Hp} {ta tb te : TE} {x y z v : V} {P : V → Hp → Prop}
theorem EvP.mono (e : Ex H H') (h : EvP te σ H P) : EvP te σ H' P := fun H1 a Q q => h H1 (e.trans a) Q q
theorem EvP.imp {P' : V → Hp → Prop} (h : EvP te σ H P) (i : ∀ v H', Ex H H' → P v H' → P' v H') : EvP te σ H P' := fun H1 e Q q => h H1 e Q fun v H2 e2 p => q v H2 e2 (i v H2 (e.trans e2) p)
theorem ep_ev (h : Ev te σ H v) (p : ∀ H', Ex H H' → P v H') : EvP te σ H P := fun H1 e Q q => h H1 e Q fun H2 e2 => q v H2 e2 (p H2 (e.trans e2))
theorem ev_ep (h : EvP te σ H fun u _ => u = v) : Ev te σ H v := fun H1 e Q q => h H1 e Q fun u H2 e2 p => by subst p; exact q H2 e2
/-- a call by a pure promise -/
theorem ep_call {α : Type} {pre : α → List V → Hp → Prop} {post : α → V → Hp → Prop} (a : α) {vs : List V} {E : XK} {ta : TA} (h : EvA ta σ H vs) (hp : ∀ H1, Ex H H1 → pre a vs H1) : EvP (tCall (spX pre post) [] E ta) σ H (post a) := fun H1 e Q q =>
  h H1 e _ fun H2 e2 => by
    rw [List.append_nil]
    exact ⟨a, hp H2 (e.trans e2), fun v H3 e3 p => q v H3 (e2.trans e3) p⟩
theorem ev_callV {α : Type} {pre : α → List V → Hp → Prop} {post : α → V → Hp → Prop} (a : α) {vs : List V} {E : XK} {ta : TA} (h : EvA ta σ H vs) (hp : ∀ H1, Ex H H1 → pre a vs H1) (hv : ∀ u H', post a u H' → u = v) : Ev (tCall (spX pre post) [] E ta) σ H v :=
  ev_ep ((ep_call a h hp).imp fun u H' _ p => hv u H' p)
/-! isinstance -/
theorem ev_isi {c : V} {t u : Value} {b : Bool} (ha : Ev ta σ H x) (hc : Ev tb σ H c) (k : ClsV c u) (ty : ∀ H1, Ex H H1 → TyX K H1 x t) (e : PySem.W.kitOne K t u = some b) : Ev (tCB (rIsi K) (tCons ta (tCons tb tNil))) σ H (.bl b) := fun H1 e1 Q q =>
  ha H1 e1 _ fun H2 e2 => hc H2 (e1.trans e2) _ fun H3 e3 => ⟨x, c, t, u, b, rfl, k, ty H3 ((e1.trans e2).trans e3), e, q H3 (e2.trans e3)⟩
theorem tyx_int (i : Int) : TyX K H (.int i) (.type "int") := .base (.int i)
theorem tyx_str (s : Str) : TyX K H (.str s) (.type "str") := .base (.str s)
theorem tyx_bl (b : Bool) : TyX K H (.bl b) (.type "bool") := .base (.bl b)
theorem tyx_non : TyX K H .non (.type "NoneType") := .base .non
theorem tyx_tup {a : Addr} {xs : List V} (h : SqT K H a xs) : TyX K H (.ref a) (.type "tuple") := by
  rcases h with (h | ⟨o, h⟩) | ⟨o, its, n, lk, c, _⟩
  · exact .base (.tup h)
  · exact .fTuple h
  · exact .kTuple lk c
theorem kit_tt : PySem.W.kitOne K (.type "tuple") (.type "tuple") = some true := kit_ty (by decide +kernel)
theorem kit_ii : PySem.W.kitOne K (.type "int") (.type "int") = some true := kit_ty (by decide +kernel)
theorem kit_ib : PySem.W.kitOne K (.type "int") (.type "bool") = some false := kit_ty (by decide +kernel)
theorem kit_ss : PySem.W.kitOne K (.type "str") (.type "str") = some true := kit_ty (by decide +kernel)
/-! len -/
theorem ev_lenT {p : Addr} {xs : List V} (ha : Ev ta σ H (.ref p)) (h : SqT K H p xs) : Ev (tCB (rLenS K) (tCons ta tNil)) σ H (.int (xs.length : Int)) := fun H1 e Q q =>
  ha H1 e _ fun H2 e2 => ⟨p, xs, rfl, Or.inr (ex_t (e.trans e2) h), q H2 e2⟩
def rLenTx : List V → Hp → VK → Prop := fun xs H Q => ∃ z, xs = [.str z] ∧ z.length ≤ sizeLine ∧ Q (.int z.length) H
theorem ev_lenS {z : Str} (ha : Ev ta σ H (.str z)) (h : z.length ≤ 100000) : Ev (tCB rLenTx (tCons ta tNil)) σ H (.int (z.length : Int)) := fun H1 e Q q =>
  ha H1 e _ fun H2 e2 => ⟨z, rfl, sz_of h, q H2 e2⟩
/-- a < b < c and the like -/
theorem ev_chain {r r' : R2} {tc : TE} {x y z : V} {a b : Bool} (ha : Ev ta σ H x) (hb : Ev tb σ H y) (hc : a = true → Ev tc σ H z) (h1 : RV r x y H (.bl a)) (h2 : a = true → RV r' y z H (.bl b)) : Ev (tChain r r' ta tb tc) σ H (.bl (a && b)) := fun H1 e Q q =>
  ha H1 e _ fun H2 e2 => hb H2 (e.trans e2) _ fun H3 e3 => h1 H3 ((e.trans e2).trans e3) _ fun H4 e4 => ⟨a, rfl, by
    have e14 := (e2.trans e3).trans e4
    cases a with
    | true =>
      show tc σ H4 _
      refine hc rfl H4 (e.trans e14) _ fun H5 e5 => ?_
      exact h2 rfl H5 ((e.trans e14).trans e5) Q fun H6 e6 => q H6 ((e14.trans e5).trans e6)
    | false =>
      show Q (.bl false) H4
      exact q H4 e14⟩
theorem et_val {b : Bool} (h : Ev te σ H (.bl b)) : EvT (tB te) σ H b := et_B h
theorem et_isN {x : V} (h : Ev ta σ H x) : EvT (tTest (tOp (fun x y H Q => y = .non ∧ Q (.bl (!decide (x = .non))) H) ta (tC .non))) σ H (!decide (x = .non)) := fun H1 e Q q =>
  h H1 e _ fun H2 e2 => ⟨rfl, _, rfl, q H2 e2⟩
end
/-! ### tuples of natural numbers -/
abbrev vi (k : Nat) : V := .int (k : Int)
theorem atI_vi {xs : List V} {k : Nat} {v : V} (h : xs[k]? = some v) : atI xs (k : Int) = some v := atI_nat h
/-- all tuples that stood stand (lists may have changed) -/
def ET (K : PySem.W.Frag) (H H' : Hp) : Prop := ∀ a xs, SqT K H a xs → SqT K H' a xs
theorem ET.refl {K : PySem.W.Frag} {H : Hp} : ET K H H := fun _ _ h => h
theorem ET.trans {K : PySem.W.Frag} {H H1 H2 : Hp} (a : ET K H H1) (b : ET K H1 H2) : ET K H H2 := fun p xs h => b p xs (a p xs h)
theorem Ex.et {K : PySem.W.Frag} {H H' : Hp} (e : Evl.Ex H H') : ET K H H' := fun _ _ h => ex_t e h
theorem ET.upd {K : PySem.W.Frag} {H H' : Hp} {l : Addr} {xs ys : List V} (e : ET K H H') (h : H' l = some (.lst xs)) : ET K H (upd H' l (.lst ys)) := fun a zs q => by
  rcases e a zs q with (q | ⟨o, q⟩) | q
  · have ne : a ≠ l := fun z => by rw [z, h] at q; cases q
    exact .inl (.inl (by rw [upd_ne ne]; exact q))
  · have ne : a ≠ l := fun z => by rw [z, h] at q; cases q
    exact .inl (.inr ⟨o, by rw [upd_ne ne]; exact q⟩)
  · exact .inr q
def Nats (K : PySem.W.Frag) (H : Hp) (v : V) (ns : List Nat) : Prop := ∃ a, v = .ref a ∧ SqT K H a (ns.map vi)
theorem Nats.et {K : PySem.W.Frag} {H H' : Hp} {v : V} {ns : List Nat} (e : ET K H H') (h : Nats K H v ns) : Nats K H' v ns := let ⟨a, q, s⟩ := h; ⟨a, q, e _ _ s⟩
theorem Nats.ex {K : PySem.W.Frag} {H H' : Hp} {v : V} {ns : List Nat} (e : Evl.Ex H H') (h : Nats K H v ns) : Nats K H' v ns := h.et (Dw.Ex.et e)
theorem paired_imp {α β : Type} {R S : α → β → Prop} (h : ∀ a b, R a b → S a b) : ∀ {xs : List α} {ys : List β}, Paired R xs ys → Paired S xs ys
  | _, _, .nil => .nil
  | _, _, .cons a b => .cons (h _ _ a) (paired_imp h b)
theorem paired_get {α β : Type} {R : α → β → Prop} : ∀ {xs : List α} {ys : List β} {i : Nat} {y : β}, Paired R xs ys → ys[i]? = some y → ∃ x, xs[i]? = some x ∧ R x y
  | _, _, _, _, .nil, h => by simp at h
  | _, _, 0, _, .cons a _, h => by
    have e := Option.some.inj h
    subst e
    exact ⟨_, rfl, a⟩
  | _, _, i + 1, y, .cons _ b, h => by
    obtain ⟨x, e, r⟩ := paired_get (i := i) b h
    exact ⟨x, e, r⟩
theorem paired_len {α β : Type} {R : α → β → Prop} : ∀ {xs : List α} {ys : List β}, Paired R xs ys → xs.length = ys.length
  | _, _, .nil => rfl
  | _, _, .cons _ b => congrArg (· + 1) (paired_len b)
theorem paired_snoc {α β : Type} {R : α → β → Prop} {x : α} {y : β} (r : R x y) : ∀ {xs : List α} {ys : List β}, Paired R xs ys → Paired R (xs ++ [x]) (ys ++ [y])
  | _, _, .nil => .cons r .nil
  | _, _, .cons a b => .cons a (paired_snoc r b)
/-- a tuple of tuples of natural numbers -/
def Tabs (K : PySem.W.Frag) (H : Hp) (v : V) (ts : List (List Nat)) : Prop := ∃ a vs, v = .ref a ∧ SqT K H a vs ∧ Paired (Nats K H) vs ts
theorem Tabs.et {K : PySem.W.Frag} {H H' : Hp} {v : V} {ts : List (List Nat)} (e : ET K H H') (h : Tabs K H v ts) : Tabs K H' v ts := let ⟨a, vs, q, s, p⟩ := h; ⟨a, vs, q, e _ _ s, paired_imp (fun _ _ n => n.et e) p⟩
theorem Tabs.ex {K : PySem.W.Frag} {H H' : Hp} {v : V} {ts : List (List Nat)} (e : Evl.Ex H H') (h : Tabs K H v ts) : Tabs K H' v ts := h.et (Dw.Ex.et e)
/-- a deed; a signature -/
def Deed (K : PySem.W.Frag) (H : Hp) (v : V) (p : Str × Nat) : Prop := ∃ b, v = .ref b ∧ SqT K H b [.str p.1, vi p.2]
theorem Deed.et {K : PySem.W.Frag} {H H' : Hp} {v : V} {p : Str × Nat} (e : ET K H H') (h : Deed K H v p) : Deed K H' v p := let ⟨b, q, s⟩ := h; ⟨b, q, e _ _ s⟩
def Sig (K : PySem.W.Frag) (H : Hp) (v : V) (sg : List (Str × Nat)) : Prop := ∃ a vs, v = .ref a ∧ SqT K H a vs ∧ Paired (Deed K H) vs sg
theorem Sig.et {K : PySem.W.Frag} {H H' : Hp} {v : V} {sg : List (Str × Nat)} (e : ET K H H') (h : Sig K H v sg) : Sig K H' v sg := let ⟨a, vs, q, s, p⟩ := h; ⟨a, vs, q, e _ _ s, paired_imp (fun _ _ n => n.et e) p⟩
theorem Sig.ex {K : PySem.W.Frag} {H H' : Hp} {v : V} {sg : List (Str × Nat)} (e : Evl.Ex H H') (h : Sig K H v sg) : Sig K H' v sg := h.et (Dw.Ex.et e)
/-- a model: its size and its tables -/
def Mdl (K : PySem.W.Frag) (H : Hp) (v : V) (n : Nat) (ts : List (List Nat)) : Prop := ∃ a u, v = .ref a ∧ SqT K H a [vi n, u] ∧ Tabs K H u ts
theorem Mdl.et {K : PySem.W.Frag} {H H' : Hp} {v : V} {n : Nat} {ts : List (List Nat)} (e : ET K H H') (h : Mdl K H v n ts) : Mdl K H' v n ts := let ⟨a, u, q, s, p⟩ := h; ⟨a, u, q, e _ _ s, p.et e⟩
theorem Mdl.ex {K : PySem.W.Frag} {H H' : Hp} {v : V} {n : Nat} {ts : List (List Nat)} (e : Evl.Ex H H') (h : Mdl K H v n ts) : Mdl K H' v n ts := h.et (Dw.Ex.et e)
end Dw
end
section
/-! loops and comprehensions over anything that is walked; statements by what holds of a value -/
namespace Dw
open PySem PySem.Spec PyProof.Rows L2 Evl
section
variable {K : PySem.W.Frag} {σ : L2.St} {H H' : Hp} {ta tb te : TE} {t : TT} {x y z v : V} {P : V → Hp → Prop} {D : Ends} {tu tz : TS} {g : TG}
/-! ### statements -/
theorem s_asgP {i : Nat} (h : EvP te σ H P) (k : ∀ v H1, Ex H H1 → P v H1 → D.nx (σ.set i (some v)) H1) : tAsg te (gName i) D σ H := h H (Ex.refl H) _ fun v H1 e p => k v H1 e p
theorem q_asgP {i : Nat} (h : EvP te σ H P) (k : ∀ v H1, Ex H H1 → P v H1 → tz D (σ.set i (some v)) H1) : tSeq (tAsg te (gName i)) tz D σ H := s_asgP (D := { D with nx := tz D }) h k
/-! ### all -/
theorem ev_all {bs : List Bool} (h : EvL te σ H (bs.map V.bl)) : Ev (tCB (rAll K) (tCons te tNil)) σ H (.bl (bs.all id)) := fun H1 e Q q =>
  h H1 e _ fun p H2 _ e2 hp => ⟨p, bs, rfl, sq_of hp, q H2 e2⟩
/-! ### comprehensions -/
theorem et_yes : EvT tYes σ H true := fun H1 _ _ q => q H1 (Ex.refl H1)
/-- one for over anything whose turns leave the heap as it was -/
theorem el_lcIt {J : It} {n : Nat} {G : Hp → Prop} {Y : Nat → Hp → V → Hp → Prop} {wi : TI} {Px : Nat → V → Prop} {j : Nat} {vs : List Nat} (w : Walk J n G Y)
    (hw0 : ∀ H0, Ex H H0 → ∀ R : It → Hp → Prop, (∀ H1, Ex H0 H1 → R J H1) → wi σ H0 R) (hG : ∀ H1, Ex H H1 → G H1) (hY : ∀ i H x H', Y i H x H' → H' = H ∧ Px i x)
    (f : Nat → Bool) (u : Nat → V) (hn : n ≤ 40000) (hwp : ∀ x, wipe ((wipe σ vs).set j (some x)) vs = wipe σ vs)
    (ht : ∀ i x H1, Ex H H1 → i < n → Px i x → EvT t ((wipe σ vs).set j (some x)) H1 (f i)) (he : ∀ i x H1, Ex H H1 → i < n → Px i x → f i = true → Ev te ((wipe σ vs).set j (some x)) H1 (u i)) :
    EvL (tLc wi (gName j) t te vs) σ H (given n f u) := fun H0 e Q q => hw0 H0 e _ fun H1 e1 Dl hD =>
  lc_it w (Cw H1 f u Dl) ⟨hD, Ex.new hD, upd_same⟩ (fun i H2 _ p => hG H2 ((e.trans e1).trans p.2.1)) (fun i x H2 H3 hi p y => by
    obtain ⟨rfl, px⟩ := hY i H2 x H3 y
    exact ⟨hwp x, cw_turn p (by omega) (ht i x H1 (e.trans e1) hi px) (fun hf => he i x H1 (e.trans e1) hi px hf)⟩)
    (fun H2 p => q Dl H2 (fresh_back e1 p.1) (e1.trans p.2.1) p.2.2)
theorem given_all (n : Nat) (u : Nat → V) : given n (fun _ => true) u = (List.range n).map u := by
  unfold given
  rw [List.filter_eq_self.mpr (fun _ _ => rfl)]
/-- .. without a test -/
theorem el_lcAll {J : It} {n : Nat} {G : Hp → Prop} {Y : Nat → Hp → V → Hp → Prop} {wi : TI} {Px : Nat → V → Prop} {j : Nat} {vs : List Nat} (w : Walk J n G Y)
    (hw0 : ∀ H0, Ex H H0 → ∀ R : It → Hp → Prop, (∀ H1, Ex H0 H1 → R J H1) → wi σ H0 R) (hG : ∀ H1, Ex H H1 → G H1) (hY : ∀ i H x H', Y i H x H' → H' = H ∧ Px i x)
    (u : Nat → V) (hn : n ≤ 40000) (hwp : ∀ x, wipe ((wipe σ vs).set j (some x)) vs = wipe σ vs) (he : ∀ i x H1, Ex H H1 → i < n → Px i x → Ev te ((wipe σ vs).set j (some x)) H1 (u i)) :
    EvL (tLc wi (gName j) tYes te vs) σ H ((List.range n).map u) := by
  have h := el_lcIt w hw0 hG hY (fun _ => true) u hn hwp (fun _ _ _ _ _ _ => et_yes) (fun i x H1 e hi px _ => he i x H1 e hi px)
  rw [given_all] at h
  exact h
theorem w_str {z : Str} (h : Ev te σ H (.str z)) : ∀ H0, Ex H H0 → ∀ R : It → Hp → Prop, (∀ H1, Ex H0 H1 → R (Its z) H1) → iStr te σ H0 R := fun H0 e R r => h H0 e _ fun H1 e1 => ⟨z, rfl, r H1 e1⟩
theorem w_tup {a : Addr} {xs : List V} (h : Ev te σ H (.ref a)) (hx : SqT K H a xs) : ∀ H0, Ex H H0 → ∀ R : It → Hp → Prop, (∀ H1, Ex H0 H1 → R (Itt K a) H1) → iTup K te σ H0 R := fun H0 e R r => h H0 e _ fun H1 e1 => ⟨a, rfl, ⟨xs, ex_t (e.trans e1) hx⟩, r H1 e1⟩
theorem w_rng {ta : TA} {n : Nat} (h : EvA ta σ H [vi n]) (hn : n ≤ 40000) : ∀ H0, Ex H H0 → ∀ R : It → Hp → Prop, (∀ H1, Ex H0 H1 → R (Itr 0 n) H1) → iRng1 ta σ H0 R := fun H0 e R r => h H0 e _ fun H1 e1 => ⟨n, rfl, by omega, by omega, r H1 e1⟩
/-- over a tuple, a value for each item -/
theorem el_lcT {a : Addr} {xs : List V} {tl : TE} {j : Nat} {vs : List Nat} (h : Ev tl σ H (.ref a)) (hx : SqT K H a xs) (u : Nat → V) (hn : xs.length ≤ 40000) (hwp : ∀ x, wipe ((wipe σ vs).set j (some x)) vs = wipe σ vs)
    (he : ∀ i x H1, Ex H H1 → xs[i]? = some x → Ev te ((wipe σ vs).set j (some x)) H1 (u i)) : EvL (tLc (iTup K tl) (gName j) tYes te vs) σ H ((List.range xs.length).map u) :=
  el_lcAll walk_tup (w_tup h hx) (fun H1 e => ex_t e hx) (Px := fun i x => xs[i]? = some x) (fun i H x H' y => y) u hn hwp (fun i x H1 e _ px => he i x H1 e px)
theorem el_lcS {z : Str} {tl : TE} {j : Nat} {vs : List Nat} (h : Ev tl σ H (.str z)) (u : Nat → V) (hn : z.cps.size ≤ 40000) (hwp : ∀ x, wipe ((wipe σ vs).set j (some x)) vs = wipe σ vs)
    (he : ∀ i c H1, Ex H H1 → z.cps[i]? = some c → Ev te ((wipe σ vs).set j (some (.str ⟨#[c]⟩))) H1 (u i)) : EvL (tLc (iStr tl) (gName j) tYes te vs) σ H ((List.range z.cps.size).map u) :=
  el_lcAll walk_str (w_str h) (fun _ _ => trivial) (Px := fun i x => ∃ c, z.cps[i]? = some c ∧ x = .str ⟨#[c]⟩) (fun i H x H' y => y) u hn hwp (fun i x H1 e _ ⟨c, hc, hx⟩ => by subst hx; exact he i c H1 e hc)
/-! ### loops that give pairs -/
theorem walk_enumT {a : Addr} {xs : List V} : Walk (IteT K a) xs.length (fun H => SqT K H a xs) (YPair (fun i => some (vi i)) (fun i => xs[i]?)) := by
  refine ⟨fun i H hi q => ⟨xs, xs[i], q, List.getElem?_eq_getElem hi⟩, fun H q => ⟨xs, q, Nat.le_refl _⟩, fun i H v H' _ q y => ?_⟩
  obtain ⟨T, x, h1, h2, h3, h4⟩ := y
  exact ⟨T, vi i, x, h1, h2, h3, rfl, h4 xs q⟩
theorem q_enumT {a : Addr} {xs : List V} {ta : TA} {j1 j2 : Nat} (h : EvA ta σ H [.ref a]) (hx : SqT K H a xs) (Pv : Nat → L2.St → Hp → Prop) (h0 : ∀ H1, Ex H H1 → Pv 0 σ H1) (hl : ∀ i σ' H', i ≤ xs.length → Pv i σ' H' → SqT K H' a xs)
    (hs : ∀ i x σ' H' H'', xs[i]? = some x → Pv i σ' H' → Ex H' H'' → tu { D with nx := Pv (i + 1), ct := Pv (i + 1), bk := tz D } ((σ'.set j1 (some (vi i))).set j2 (some x)) H'') (hd : ∀ σ' H', Pv xs.length σ' H' → tz D σ' H') :
    tSeq (tFor (iEnumT K ta) (gTup K 2 (gCons (gName j1) (gCons (gName j2) gNil))) tu) tz D σ H :=
  h H (Ex.refl H) _ fun H1 e => ⟨a, xs, rfl, ex_t e hx, for_it (D := { D with nx := tz D }) walk_enumT Pv (h0 H1 e) hl (fun i v σ' H2 H3 hi p y => by
    obtain ⟨T, x1, x2, rfl, nT, rfl, e1, e2⟩ := y
    cases e1
    exact ⟨T, _, rfl, st_of upd_same, rfl, _, _, rfl, _, _, rfl, rfl, hs i x2 σ' H2 _ e2 p (Ex.new nT)⟩) hd⟩
theorem s_enumT {a : Addr} {xs : List V} {ta : TA} {j1 j2 : Nat} (h : EvA ta σ H [.ref a]) (hx : SqT K H a xs) (Pv : Nat → L2.St → Hp → Prop) (h0 : ∀ H1, Ex H H1 → Pv 0 σ H1) (hl : ∀ i σ' H', i ≤ xs.length → Pv i σ' H' → SqT K H' a xs)
    (hs : ∀ i x σ' H' H'', xs[i]? = some x → Pv i σ' H' → Ex H' H'' → tu { D with nx := Pv (i + 1), ct := Pv (i + 1), bk := D.nx } ((σ'.set j1 (some (vi i))).set j2 (some x)) H'') (hd : ∀ σ' H', Pv xs.length σ' H' → D.nx σ' H') :
    tFor (iEnumT K ta) (gTup K 2 (gCons (gName j1) (gCons (gName j2) gNil))) tu D σ H :=
  h H (Ex.refl H) _ fun H1 e => ⟨a, xs, rfl, ex_t e hx, for_it walk_enumT Pv (h0 H1 e) hl (fun i v σ' H2 H3 hi p y => by
    obtain ⟨T, x1, x2, rfl, nT, rfl, e1, e2⟩ := y
    cases e1
    exact ⟨T, _, rfl, st_of upd_same, rfl, _, _, rfl, _, _, rfl, rfl, hs i x2 σ' H2 _ e2 p (Ex.new nT)⟩) hd⟩
/-- enumerate of a list -/
theorem q_enumL {a : Addr} {xs : List V} {ta : TA} {j1 j2 : Nat} (h : EvA ta σ H [.ref a]) (hx : SqL K H a xs) (Pv : Nat → L2.St → Hp → Prop) (h0 : ∀ H1, Ex H H1 → Pv 0 σ H1) (hl : ∀ i σ' H', i ≤ xs.length → Pv i σ' H' → SqL K H' a xs)
    (hs : ∀ i x σ' H' H'', xs[i]? = some x → Pv i σ' H' → Ex H' H'' → tu { D with nx := Pv (i + 1), ct := Pv (i + 1), bk := tz D } ((σ'.set j1 (some (vi i))).set j2 (some x)) H'') (hd : ∀ σ' H', Pv xs.length σ' H' → tz D σ' H') :
    tSeq (tFor (iEnum K ta) (gTup K 2 (gCons (gName j1) (gCons (gName j2) gNil))) tu) tz D σ H :=
  h H (Ex.refl H) _ fun H1 e => ⟨a, xs, rfl, ex_l e hx, for_it (D := { D with nx := tz D }) walk_enum Pv (h0 H1 e) hl (fun i v σ' H2 H3 hi p y => by
    obtain ⟨T, x1, x2, rfl, nT, rfl, e1, e2⟩ := y
    cases e1
    exact ⟨T, _, rfl, st_of upd_same, rfl, _, _, rfl, _, _, rfl, rfl, hs i x2 σ' H2 _ e2 p (Ex.new nT)⟩) hd⟩
end
end Dw
end
section
/-! comprehensions of two fors; new tuples of lists; lists made and changed -/
namespace Dw
open PySem PySem.Spec PyProof.Rows L2 Evl
section
variable {K : PySem.W.Frag} {σ : L2.St} {H H' : Hp} {ta tb te : TE} {t : TT} {x y z v : V} {P : V → Hp → Prop} {D : Ends} {tu tz : TS} {g : TG}
/-- tuple(a new list) -/
def rTupOf (K : PySem.W.Frag) : List V → Hp → VK → Prop := fun xs H Q => ∃ p ys, xs = [.ref p] ∧ ((SqL K H p ys ∧ ∀ l, H l = none → Q (.ref l) (upd H l (.tup ys))) ∨ (SqT K H p ys ∧ Q (.ref p) H))
theorem eu_tupN {xs : List V} (h : EvL te σ H xs) : EvU (tCB (rTupOf K) (tCons te tNil)) σ H xs := fun H1 e Q q =>
  h H1 e _ fun p H2 _ e2 hp => ⟨p, xs, rfl, .inl ⟨sq_of hp, fun l nl => q l _ (fresh_back e2 nl) (e2.trans (Ex.new nl)) upd_same⟩⟩
/-- tuple(a list that stands) -/
theorem eu_tupL {xs : List V} {p : Addr} (h : Ev te σ H (.ref p)) (hp : SqL K H p xs) : EvU (tCB (rTupOf K) (tCons te tNil)) σ H xs := fun H1 e Q q =>
  h H1 e _ fun H2 e2 => ⟨p, xs, rfl, .inl ⟨ex_l (e.trans e2) hp, fun l nl => q l _ (fresh_back e2 nl) (e2.trans (Ex.new nl)) upd_same⟩⟩
end
end Dw
end
section
/-! zip of two tuples; tuples of values by what holds of them -/
namespace Dw
open PySem PySem.Spec PyProof.Rows L2 Evl RZ
section
variable {K : PySem.W.Frag} {σ : L2.St} {H H' : Hp} {ta tb te : TE} {t : TT} {x y z v : V} {P : V → Hp → Prop} {D : Ends} {tu tz : TS} {g : TG}
end
end Dw
end
section
/-! a new tuple told with its own object (so that its methods may be called); tuple.index of ints -/
namespace Dw
open PySem PySem.Spec PyProof.Rows L2 Evl
/-! readings opened by one step -/
section
variable {σ : L2.St} {H : Hp} {ta tb te : TE} {D : Ends} {g : TG}
theorem do_cons {tr : TA} {Q : List V → Hp → Prop} (h : ta σ H fun x H1 => tr σ H1 fun xs H2 => Q (x :: xs) H2) : tCons ta tr σ H Q := h
theorem do_nil {Q : List V → Hp → Prop} (h : Q [] H) : tNil σ H Q := h
theorem do_op {r : R2} {Q : VK} (h : ta σ H fun x H1 => tb σ H1 fun y H2 => r x y H2 Q) : tOp r ta tb σ H Q := h
theorem do_tup {t : TA} {Q : VK} (h : t σ H fun xs H1 => xs.length ≤ sizeLine ∧ ∀ p, H1 p = none → Q (.ref p) (upd H1 p (.tup xs))) : tTup t σ H Q := h
theorem do_lst {t : TA} {Q : VK} (h : t σ H fun xs H1 => xs.length ≤ sizeLine ∧ ∀ p, H1 p = none → Q (.ref p) (upd H1 p (.lst xs))) : tLst t σ H Q := h
theorem do_cb {r : List V → Hp → VK → Prop} {t : TA} {Q : VK} (h : t σ H fun vs H1 => r vs H1 Q) : tCB r t σ H Q := h
theorem do_ret (h : te σ H D.rt) : tRet te D σ H := h
theorem do_asg (h : te σ H fun x H1 => g x σ H1 D.nx) : tAsg te g D σ H := h
theorem do_if {c : TT} {t u : TS} (h : c σ H fun b H1 => if b = true then t D σ H1 else u D σ H1) : tIfS c t u D σ H := h
theorem do_ev {v : V} {Q : VK} (h : Ev te σ H v) (k : ∀ H1, Ex H H1 → Q v H1) : te σ H Q := h H (Ex.refl H) Q k
theorem do_evL {xs : List V} {Q : VK} (h : EvL te σ H xs) (k : ∀ p H1, H p = none → Ex H H1 → H1 p = some (.lst xs) → Q (.ref p) H1) : te σ H Q := h H (Ex.refl H) Q k
theorem do_evU {xs : List V} {Q : VK} (h : EvU te σ H xs) (k : ∀ p H1, H p = none → Ex H H1 → H1 p = some (.tup xs) → Q (.ref p) H1) : te σ H Q := h H (Ex.refl H) Q k
end
section
variable {X : Cx}
def rTupF (K : PySem.W.Frag) : List V → Hp → VK → Prop := fun xs H Q => ∃ p ys, xs = [.ref p] ∧ SqL K H p ys ∧ ∀ l o, H l = none → o.dict = none → Q (.ref l) (upd H l (.frz o (.tup ys)))
theorem call_tupF : CallR X (.type "tuple") (rTupF X.K) := by
  intro pins s σ H xs us Q I r h
  obtain ⟨p, ys, e, isL, q⟩ := h
  subst e
  obtain ⟨u, hu, ru⟩ := vals1 r
  subst hu
  cases (show u = Value.ref p from ru)
  obtain ⟨its, rel, at_, small⟩ := I.list isL
  have many : its.toArray.size ≤ sizeLine := by
    rw [List.size_toArray, ← rel.length]
    exact small
  refine call_tuple_list at_.isList (fun h2 keep => ?_) many
  have J : Inv X pins σ H { s with heap := h2 } := I.kept (t' := s.toks) keep
  let ob : Obj := { cls := .type "tuple", data := .seq its.toArray }
  have got : (h2.push ob).get? h2.objs.size = some ob := Heap.get?_push_size _ rfl
  have okN : ObjOk X.prog X.w (upd H h2.objs.size (.frz ob (.tup ys))) (h2.push ob) h2.objs.size (.frz ob (.tup ys)) := ⟨got, small, its, rel, ob, got, rfl, _, rfl⟩
  have J2 := J.laid (t' := s.toks) (h' := h2.push ob) (fun b o e => Heap.get?_push_of_some _ e) (Nat.le_refl h2.objs.size) okN
  exact ⟨.ref h2.objs.size, _, J2, rfl, q _ ob (J.hok.fresh (Nat.le_refl _)) rfl⟩
end
end Dw
end
section
/-! data of tracked things: what repr and == want of it -/
namespace Dw
open PySem PySem.Spec PyProof.Rows L2 Evl
/-- small data: depth at most k, weight at most W -/
structure Gd (k W : Nat) (d : PyData) : Prop where
  lay : d.canLay0 = true
  dep : d.depth ≤ k
  wgt : d.weight ≤ W
  its : d.intsShort 13 = true
  sho : d.showable = true
theorem Gd.mono {k W k' W' : Nat} {d : PyData} (h : Gd k W d) (a : k ≤ k') (b : W ≤ W') : Gd k' W' d := ⟨h.lay, Nat.le_trans h.dep a, Nat.le_trans h.wgt b, h.its, h.sho⟩
theorem log_low {n : Nat} (h : n ≤ 1000) : n.log2 ≤ 9 := by
  by_cases z : n = 0
  · subst z
    decide
  · exact Nat.le_of_lt_succ ((Nat.log2_lt z).mpr (by have e : 2 ^ 10 = 1024 := by decide
                                                     omega))
theorem gd_int {n : Nat} (h : n ≤ 1000) : Gd 0 10 (.int (n : Int)) := by
  have l := log_low h
  refine ⟨by rw [PyData.canLay0], by rw [PyData.depth]; exact Nat.le_refl _, ?_, ?_, ?_⟩
  · rw [PyData.weight, Int.natAbs_natCast]
    split <;> omega
  · rw [PyData.intsShort]
    exact decide_eq_true (PyData.shown_int_le2 (by omega) (by omega))
  · rw [PyData.showable, Int.natAbs_natCast]
    exact decide_eq_true (by omega)
theorem gd_str {z : Str} (h : ∀ c ∈ z.cps.toList, c < 0x110000) (l : z.cps.size ≤ 100) : Gd 0 100 (.str z) := by
  refine ⟨?_, by rw [PyData.depth]; exact Nat.le_refl _, by rw [PyData.weight]; exact l, by rw [PyData.intsShort], by rw [PyData.showable]⟩
  rw [PyData.canLay0]
  show z.cps.all (· < 0x110000) = true
  rw [Array.all_eq_true]
  intro i hi
  exact decide_eq_true (h _ (by rw [Array.mem_toList_iff]; exact Array.getElem_mem hi))
theorem Gd.len {k W : Nat} {d : PyData} (h : Gd k W d) (a : k ≤ 60) (b : W ≤ 1000000) : d.shown.length ≤ sizeLine := by
  have w := h.wgt
  have dp := h.dep
  have l0 : d.layable0 = true := by
    show (d.canLay0 && decide (d.depth ≤ 64) && decide (d.weight ≤ 2 ^ 20)) = true
    have e : (2 : Nat) ^ 20 = 1048576 := by decide
    rw [h.lay, decide_eq_true (show d.depth ≤ 64 by omega), decide_eq_true (show d.weight ≤ 2 ^ 20 by omega)]
    rfl
  have z := shown_le13 l0 h.its
  rw [sizeLine_eq]
  omega
theorem Gd.shaped {k W : Nat} {d : PyData} (h : Gd k W d) (a : k ≤ 60) : SeqAt.shaped d = true := by
  have dp := h.dep
  show (d.canLay0 && decide (d.depth ≤ 64)) = true
  rw [h.lay, decide_eq_true (show d.depth ≤ 64 by omega)]
  rfl
/-! things of the hand layer as data -/
section
variable {K : PySem.W.Frag} {H : Hp}
def dN (ns : List Nat) : PyData := .tuple (ns.map fun n => .int ((n : Nat) : Int))
theorem dps_nats : ∀ ns : List Nat, DpAll K H (ns.map vi) (ns.map fun n => .int ((n : Nat) : Int))
  | [] => .nil
  | n :: ns => .cons (.int _) (dps_nats ns)
theorem Nats.dp {v : V} {ns : List Nat} (h : Nats K H v ns) : Dp K H v (dN ns) := by
  obtain ⟨a, e, s⟩ := h
  subst e
  exact .tup s (dps_nats ns)
theorem dps_paired {β : Type} {R : V → β → Prop} {f : β → PyData} (h : ∀ v b, R v b → Dp K H v (f b)) : ∀ {vs : List V} {bs : List β}, Paired R vs bs → DpAll K H vs (bs.map f)
  | [], [], .nil => .nil
  | _ :: _, _ :: _, .cons r p => .cons (h _ _ r) (dps_paired h p)
def dM (n : Nat) (ts : List (List Nat)) : PyData := .tuple [.int (n : Int), .tuple (ts.map dN)]
theorem Mdl.dp {v : V} {n : Nat} {ts : List (List Nat)} (h : Mdl K H v n ts) : Dp K H v (dM n ts) := by
  obtain ⟨a, u, e, s, b, vs, e2, s2, p⟩ := h
  subst e e2
  exact .tup s (.cons (.int _) (.cons (.tup s2 (dps_paired (fun _ _ z => Nats.dp z) p)) .nil))
def dS (sg : List (Str × Nat)) : PyData := .tuple (sg.map fun p => .tuple [.str p.1, .int ((p.2 : Nat) : Int)])
theorem Sig.dp {v : V} {sg : List (Str × Nat)} (h : Sig K H v sg) : Dp K H v (dS sg) := by
  obtain ⟨a, vs, e, s, p⟩ := h
  subst e
  refine .tup s (dps_paired (fun v q z => ?_) p)
  obtain ⟨b, e, s⟩ := z
  subst e
  exact .tup s (.cons (.str _) (.cons (.int _) .nil))
end
end Dw
end
section
/-! dict(a tuple of pairs), the tuple told with its own object -/
namespace Dw
open PySem PySem.Spec PyProof.Rows L2 Evl
section
variable {X : Cx}
end
end Dw
end
section
/-! sets of texts, their table known well enough that they can be walked: add, set(a list), sorted -/
namespace Dw
open PySem PySem.Spec PyProof.Rows L2
/-- the text of an entry -/
def txtOf (e : Int × Value) : Str := match e.2 with | .str x _ => x | _ => Str.empty
def IsTxt (w : World) (e : Int × Value) : Prop := ∃ x tk, e.2 = Value.str x tk ∧ e.1 = hashStr w x
/-- a set at a whose members are the texts ks, each once, in the order in which they came -/
structure TxtSet (w : World) (h : Heap) (a : Addr) (ks : List Str) : Prop where
  ex : ∃ o es ep t, h.get? a = some o ∧ o.ExactSet ∧ o.data = .set es ep t ∧ (∀ e ∈ es.toList, IsTxt w e) ∧ (es.toList.map txtOf).Perm ks ∧ t.fits es.size = true ∧ Ris t.place.toList ∧ (w.params.followText "set-order" = true ∨ t.led = true)
  nd : ks.Nodup
  few : ks.length < scanBound
section
variable {P : Program} {w : World} {A : Around} {E : Value → Shared → Prop} {s : Shared} {a : Addr} {ks : List Str}
theorem TxtSet.at {h h' : Heap} (T : TxtSet w h a ks) (same : ∀ o, h.get? a = some o → h'.get? a = some o) : TxtSet w h' a ks := by
  obtain ⟨o, es, ep, t, at_, rest⟩ := T.ex
  exact ⟨⟨o, es, ep, t, same o at_, rest⟩, T.nd, T.few⟩
end
end Dw
end
section
namespace Dw
open PySem PySem.Spec PyProof.Rows L2
/-- x behind them, where it isn't among them -/
def addK (ks : List Str) (x : Str) : List Str := if x ∈ ks then ks else ks ++ [x]
/-- each once, as they first come -/
def firsts (xs : List Str) : List Str := xs.foldl addK []
theorem mem_fold {y : Str} : ∀ (xs ks : List Str), y ∈ xs.foldl addK ks ↔ y ∈ ks ∨ y ∈ xs
  | [], ks => by simp
  | x :: xs, ks => by
    rw [List.foldl_cons, mem_fold xs, List.mem_cons]
    unfold addK
    split
    · rename_i h
      constructor
      · rintro (a | a)
        · exact .inl a
        · exact .inr (.inr a)
      · rintro (a | a | a)
        · exact .inl a
        · exact .inl (a ▸ h)
        · exact .inr a
    · rw [List.mem_append, List.mem_singleton]
      constructor
      · rintro ((a | a) | a)
        · exact .inl a
        · exact .inr (.inl a)
        · exact .inr (.inr a)
      · rintro (a | a | a)
        · exact .inl (.inl a)
        · exact .inl (.inr a)
        · exact .inr a
theorem mem_firsts {xs : List Str} {y : Str} : y ∈ firsts xs ↔ y ∈ xs := by
  unfold firsts
  rw [mem_fold]
  simp
section
variable {P : Program} {w : World} {A : Around} {E : Value → Shared → Prop} {s : Shared}
end
end Dw
end
section
/-! rules over sets of texts: set(a list), sorted(the set) -/
namespace Dw
open PySem PySem.Spec PyProof.Rows L2
section
variable {P : Program} {w : World} {A : Around} {E : Value → Shared → Prop} {s : Shared} {a : Addr} {ks : List Str}
end
section
variable {X : Cx}
end
end Dw
end
section
/-! a tuple turned about, t[::-1]; a list made longer by a tuple -/
namespace Dw
open PySem PySem.Spec PyProof.Rows L2
section
variable {P : Program} {w : World} {A : Around} {E : Value → Shared → Prop} {s : Shared}
end
section
variable {X : Cx}
end
end Dw
end
section
/-! dict(zip(a, b)), a and b lists or tuples -/
namespace Dw
open PySem PySem.Spec PyProof.Rows L2 Evl
section
variable {prog : Program} {w : World} {A : Around} {E : Value → Shared → Prop} {s : Shared} {z TI TO T p q : Addr} {F G : List Addr} {n m i : Nat} {P R : Nat → Value → Prop} {U V : Nat → Heap → Prop} {f : Bool} {oT : Obj}
end
/-- a list or a tuple, and its walker -/
def SqO (t : Bool) (h : Heap) (l : Addr) (xs : Array Value) : Prop := if t = true then h.IsTuple l xs else h.IsList l xs
def SqI (t : Bool) (it l : Addr) (xs : Array Value) (i : Nat) (h : Heap) : Prop := if t = true then h.IsTupleIter it l i ∧ h.IsTuple l xs else h.IsListIter it l i ∧ h.IsList l xs
theorem SqI.draws {prog : Program} {w : World} {A : Around} (t : Bool) (quiet : A.handled = none) {it l : Addr} (ne : l ≠ it) (xs : Array Value) : Draws prog w A it [it, l] xs.size (fun i v => xs[i]? = some v) (SqI t it l xs) := by
  cases t
  · exact Draws.list quiet it l ne xs
  · exact Draws.tuple quiet it l ne xs
theorem SqI.keep {t : Bool} {it l : Addr} {xs : Array Value} {i : Nat} {h h' : Heap} (x : SqI t it l xs i h) (k : ∀ b, b = it ∨ b = l → ∀ o, h.get? b = some o → h'.get? b = some o) : SqI t it l xs i h' := by
  cases t
  · exact And.intro (x.1.at fun o e => k it (.inl rfl) o e) (x.2.at fun o e => k l (.inr rfl) o e)
  · exact And.intro (x.1.at fun o e => k it (.inl rfl) o e) (x.2.at fun o e => k l (.inr rfl) o e)
theorem SqI.there {t : Bool} {it l : Addr} {xs : Array Value} {i : Nat} {h : Heap} (x : SqI t it l xs i h) : (∃ o, h.get? it = some o) ∧ ∃ o, h.get? l = some o := by
  cases t
  · obtain ⟨⟨o, a, _⟩, ⟨o2, b, _⟩⟩ := x
    exact ⟨⟨o, a⟩, ⟨o2, b⟩⟩
  · obtain ⟨⟨o, a, _⟩, ⟨o2, b, _⟩⟩ := x
    exact ⟨⟨o, a⟩, ⟨o2, b⟩⟩
/-! the expression -/
theorem SqO.lt {t : Bool} {h : Heap} {l : Addr} {xs : Array Value} (x : SqO t h l xs) : l < h.objs.size := by
  cases t
  · obtain ⟨o, e, _⟩ := (show h.IsList l xs from x)
    exact Heap.lt_size e
  · obtain ⟨o, e, _⟩ := (show h.IsTuple l xs from x)
    exact Heap.lt_size e
abbrev itOf (t : Bool) (l : Addr) : Obj := { cls := .type (if t = true then "tuple_iterator" else "list_iterator"), data := .fields #[.ref l, .int 0 0] }
theorem SqI.start {t : Bool} {h h' : Heap} {it l : Addr} {xs : Array Value} (x : SqO t h l xs) (k : ∀ b o, h.get? b = some o → h'.get? b = some o) (e : h'.get? it = some (itOf t l)) : SqI t it l xs 0 h' := by
  cases t
  · exact And.intro ⟨_, e, rfl, rfl⟩ (Heap.IsList.at (show h.IsList l xs from x) fun o q => k l o q)
  · exact And.intro ⟨_, e, rfl, rfl⟩ (Heap.IsTuple.at (show h.IsTuple l xs from x) fun o q => k l o q)
end Dw
end
section
/-! promises of new lists; comprehensions over a zip; tuple.index of texts; wider sums -/
namespace Dw
open PySem PySem.Spec PyProof.Rows L2 Evl RZ
section
variable {K : PySem.W.Frag} {σ : L2.St} {H H' : Hp} {ta tb te : TE} {t : TT} {x y z v : V} {D : Ends} {tu tz : TS} {g : TG}
theorem ev_divM {a b : Nat} (ha : Ev ta σ H (vi a)) (hb : Ev tb σ H (vi b)) (b0 : 0 < b) (lb : b ≤ 100000) : Ev (tOp (rI CDiv fun i j => .int (i / j)) ta tb) σ H (vi (a / b)) := ev_is (ev_op ha hb (rv_I ⟨by omega, by omega⟩)) (by show V.int ((a : Int) / (b : Int)) = V.int ((a / b : Nat) : Int); rw [Int.natCast_ediv])
theorem ev_modM {a b : Nat} (ha : Ev ta σ H (vi a)) (hb : Ev tb σ H (vi b)) (b0 : 0 < b) : Ev (tOp (rI (fun _ j => 0 < j) fun i j => .int (i % j)) ta tb) σ H (vi (a % b)) := ev_is (ev_op ha hb (rv_I (by show (0 : Int) < (b : Int); omega))) (by show V.int ((a : Int) % (b : Int)) = V.int ((a % b : Nat) : Int); rw [Int.natCast_emod])
theorem ev_mulM {a b : Nat} (ha : Ev ta σ H (vi a)) (hb : Ev tb σ H (vi b)) (la : a ≤ 100000) : Ev (tOp (rI CMul fun i j => .int (i * j)) ta tb) σ H (vi (a * b)) := ev_is (ev_op ha hb (rv_I (.inl ⟨by omega, by omega⟩))) (by show V.int ((a : Int) * (b : Int)) = V.int ((a * b : Nat) : Int); rw [Int.natCast_mul])
theorem ev_addM {a b : Nat} (ha : Ev ta σ H (vi a)) (hb : Ev tb σ H (vi b)) : Ev (tOp (rI0 fun i j => .int (i + j)) ta tb) σ H (vi (a + b)) := ev_is (ev_op ha hb rv_I0) (by show V.int ((a : Int) + (b : Int)) = V.int ((a + b : Nat) : Int); rw [Int.natCast_add])
end
section
variable {X : Cx}
/-- two rules for one subscript, two for one call -/
theorem ix_or {r r' : R2} (h : IxR X r) (h' : IxR X r') : IxR X (fun x y H Q => r x y H Q ∨ r' x y H Q) := fun e1 e2 pins s σ H x y v u Q I rx ry h0 e => by
  rcases h0 with h0 | h0
  · exact h e1 e2 pins s σ H x y v u Q I rx ry h0 e
  · exact h' e1 e2 pins s σ H x y v u Q I rx ry h0 e
theorem call_or {f : Value} {r r' : List V → Hp → VK → Prop} (h : CallR X f r) (h' : CallR X f r') : CallR X f (fun xs H Q => r xs H Q ∨ r' xs H Q) := fun pins s σ H xs us Q I rx h0 => by
  rcases h0 with h0 | h0
  · exact h pins s σ H xs us Q I rx h0
  · exact h' pins s σ H xs us Q I rx h0
end
end Dw
end
section
/-! for k, (a, b) in enumerate(zip(two lists)) -/
namespace Dw
open PySem PySem.Spec PyProof.Rows L2 Evl RZ
section
variable {prog : Program} {w : World} {A : Around} {E : Value → Shared → Prop} {s : Shared}
end
/-! a turn of a zip that may use its own tuple again -/
abbrev ZipF (h : Heap) (z TI TO : Addr) (f0 f1 : Value) : Prop := h.get? z = some { cls := .type "zip", dict := none, data := .fields #[f0, f1, .bool false, .ref TI, .ref TO], slots := #[] }
section
variable {prog : Program} {w : World} {A : Around} {E : Value → Shared → Prop} {s : Shared} {z TI TO T p q : Addr} {F G : List Addr} {n m i : Nat} {P R : Nat → Value → Prop} {U V : Nat → Heap → Prop} {f0 f1 a1 a2 : Value}
/-! next of a zip, whatever its own tuple is -/
/-- what stands of a zip between two turns -/
def ZTn (z TI TO p q a b : Addr) (i : Nat) (h : Heap) : Prop := IsTupOf2 h TI (.ref p) (.ref q) ∧ (∃ x y, IsTupOf2 h TO x y) ∧ (ZipF h z TI TO .none (.bool false) ∨ ∃ T f, IsZipHeld h z TI TO T f) ∧ h.IsListIter p a i ∧ h.IsListIter q b i
end
end Dw
end
section
/-! for k, (a, b) in enumerate(zip(two lists)): the walker -/
namespace Dw
open PySem PySem.Spec PyProof.Rows L2 Evl RZ
theorem ZTn.keep {z TI TO p q a b : Addr} {i : Nat} {h h' : Heap} (st : ZTn z TI TO p q a b i h) (k : ∀ c ∈ [z, TI, TO, p, q], ∀ o, h.get? c = some o → h'.get? c = some o) : ZTn z TI TO p q a b i h' := by
  obtain ⟨c1, ⟨x, y, c2⟩, c3, c4, c5⟩ := st
  refine ⟨k _ (by simp) _ c1, ⟨x, y, k _ (by simp) _ c2⟩, ?_, c4.at fun o e => k p (by simp) o e, c5.at fun o e => k q (by simp) o e⟩
  rcases c3 with c3 | ⟨T, f, c3⟩
  · exact .inl (k _ (by simp) _ c3)
  · exact .inr ⟨T, f, k _ (by simp) _ c3⟩
theorem FpOk.new {X : Cx} {pins : List (Addr × Obj)} {H : Hp} {b T : Addr} {o : HO} (h : FpOk X pins H b) (ne : b ≠ T) : FpOk X pins (upd H T o) b := ⟨by rw [upd_ne ne]; exact h.1, h.2⟩
end Dw
end
section
/-! enumerate(zip(two lists)): the expression -/
namespace Dw
open PySem PySem.Spec PyProof.Rows L2 Evl RZ
end Dw
end
section
/-! l.extend(any tuple that is read) -/
namespace Dw
open PySem PySem.Spec PyProof.Rows L2 Evl RZ
section
variable {X : Cx}
end
end Dw
end
section
/-! [.. for k, (a, b) in enumerate(zip(two lists)) if ..] -/
namespace Dw
open PySem PySem.Spec PyProof.Rows L2 Evl RZ
section
variable {K : PySem.W.Frag} {σ : L2.St} {H H' : Hp} {te : TE} {tt : TT}
end
end Dw
end
section
/-! t.index(x), x any small data -/
namespace Dw
open PySem PySem.Spec PyProof.Rows L2 Evl RZ
end Dw
end
section
namespace Dw
open PySem PySem.Spec PyProof.Rows L2
/-! list(a text): its signs -/
def signsV (z : Str) : List V := z.cps.toList.map fun c => V.str ⟨#[c]⟩
def rListS : List V → Hp → VK → Prop := fun xs H Q => ∃ z : Str, xs = [.str z] ∧ z.cps.size ≤ sizeLine ∧ ∀ l, H l = none → Q (.ref l) (upd H l (.lst (signsV z)))
end Dw
end
section
/-! zip(a list, a tuple): as many pairs as the shorter has -/
namespace Dw
open PySem PySem.Spec PyProof.Rows L2 Evl RZ
def StandsM (z TI TO i1 i2 a b : Addr) (i : Nat) (hp : Heap) : Prop := IsZip hp z TI TO .none ∧ IsTupOf2 hp TI (.ref i1) (.ref i2) ∧ (∃ x y, IsTupOf2 hp TO x y) ∧ hp.IsListIter i1 a i ∧ hp.IsTupleIter i2 b i
theorem five {c z TI TO i1 i2 : Addr} {P : Addr → Prop} (h : c ∈ [z, TI, TO, i1, i2]) (p1 : P z) (p2 : P TI) (p3 : P TO) (p4 : P i1) (p5 : P i2) : P c := by
  simp only [List.mem_cons, List.not_mem_nil, or_false] at h
  rcases h with e | e | e | e | e <;> (rw [e]; assumption)
theorem StandsM.low {z TI TO i1 i2 a b : Addr} {i : Nat} {hp : Heap} (st : StandsM z TI TO i1 i2 a b i hp) {c : Addr} (h : c ∈ [z, TI, TO, i1, i2]) : c < hp.objs.size := by
  obtain ⟨hz, hI, ⟨x, y, hO⟩, ⟨o1, e1, _⟩, ⟨o2, e2, _⟩⟩ := st
  exact five (P := fun c => c < hp.objs.size) h (Heap.lt_size hz) (Heap.lt_size hI) (Heap.lt_size hO) (Heap.lt_size e1) (Heap.lt_size e2)
end Dw
end
section
/-! dicts told with the same keys and the same data -/
namespace Dw
open PySem PySem.Spec PyProof.Rows L2 Evl RZ
section
variable {X : Cx}
end
end Dw
end
section
/-! zip(a tuple, a list): as many pairs as the shorter has -/
namespace Dw
open PySem PySem.Spec PyProof.Rows L2 Evl RZ
def StandsN (z TI TO i1 i2 a b : Addr) (i : Nat) (hp : Heap) : Prop := IsZip hp z TI TO .none ∧ IsTupOf2 hp TI (.ref i1) (.ref i2) ∧ (∃ x y, IsTupOf2 hp TO x y) ∧ hp.IsTupleIter i1 a i ∧ hp.IsListIter i2 b i
theorem StandsN.low {z TI TO i1 i2 a b : Addr} {i : Nat} {hp : Heap} (st : StandsN z TI TO i1 i2 a b i hp) {c : Addr} (h : c ∈ [z, TI, TO, i1, i2]) : c < hp.objs.size := by
  obtain ⟨hz, hI, ⟨x, y, hO⟩, ⟨o1, e1, _⟩, ⟨o2, e2, _⟩⟩ := st
  exact five (P := fun c => c < hp.objs.size) h (Heap.lt_size hz) (Heap.lt_size hI) (Heap.lt_size hO) (Heap.lt_size e1) (Heap.lt_size e2)
end Dw
end
section
/-! list(zip(a, b)) -/
namespace Dw
open PySem PySem.Spec PyProof.Rows L2 Evl
/-- what a zip under way is, with S apart -/
structure ZG (z TI TO p q a b S : Addr) (t1 t2 : Bool) (xs ys : Array Value) (i : Nat) (h : Heap) : Prop where
  ti : IsTupOf2 h TI (.ref p) (.ref q)
  s1 : SqI t1 p a xs i h
  s2 : SqI t2 q b ys i h
  st : (IsZip h z TI TO .none ∧ ∃ x y, IsTupOf2 h TO x y) ∨ ∃ T f oT, IsZipHeld h z TI TO T f ∧ h.get? T = some oT ∧ T ≠ z ∧ T ≠ p ∧ T ≠ q ∧ T ≠ S
theorem ZG.keep {z TI TO p q a b S : Addr} {t1 t2 : Bool} {xs ys : Array Value} {i : Nat} {h h' : Heap} (g : ZG z TI TO p q a b S t1 t2 xs ys i h) (far : ∀ c ∈ [z, TI, TO, p, q, a, b], c < S) (k : ∀ c o, c ≠ S → h.get? c = some o → h'.get? c = some o) : ZG z TI TO p q a b S t1 t2 xs ys i h' := by
  have nz : ∀ c ∈ [z, TI, TO, p, q, a, b], c ≠ S := fun c hc => Nat.ne_of_lt (far c hc)
  obtain ⟨e1, e2, e3, e4⟩ := g
  refine ⟨k _ _ (nz TI (by simp)) e1, e2.keep fun c hc o e => ?_, e3.keep fun c hc o e => ?_, ?_⟩
  · rcases hc with x | x <;> subst x <;> exact k _ o (nz _ (by simp)) e
  · rcases hc with x | x <;> subst x <;> exact k _ o (nz _ (by simp)) e
  · rcases e4 with ⟨isZ, x, y, isO⟩ | ⟨T, f, oT, isZ, atT, r1, r2, r3, r4⟩
    · exact .inl ⟨k _ _ (nz z (by simp)) isZ, x, y, k _ _ (nz TO (by simp)) isO⟩
    · exact .inr ⟨T, f, oT, k _ _ (nz z (by simp)) isZ, k _ _ r4 atT, r1, r2, r3, r4⟩
section
variable {prog : Program} {w : World} {A : Around} {E : Value → Shared → Prop} {s : Shared} {z TI TO p q a b S : Addr} {t1 t2 : Bool} {xs ys : Array Value} {i : Nat}
end
/-- the pairs at their addresses -/
structure ZPr (xs ys : Array Value) (lo : Addr) (h : Heap) (as : List Addr) : Prop where
  rise : as.Pairwise (· < ·)
  above : ∀ a ∈ as, lo < a
  pairs : ∀ (j : Nat) (a : Addr), as[j]? = some a → ∃ x y, xs[j]? = some x ∧ ys[j]? = some y ∧ IsTupOf2 h a x y
theorem ZPr.there {xs ys : Array Value} {lo : Addr} {h : Heap} {as : List Addr} (g : ZPr xs ys lo h as) {a : Addr} (ha : a ∈ as) : a < h.objs.size := by
  obtain ⟨j, hj⟩ := List.mem_iff_getElem?.mp ha
  obtain ⟨_, _, _, _, e⟩ := g.pairs j a hj
  exact Heap.lt_size e
section
variable {prog : Program} {w : World} {A : Around} {s : Shared} {R : Result → Shared → Prop} {z TI TO p q a b S : Addr} {t1 t2 : Bool} {xs ys : Array Value}
end
section
variable {prog : Program} {w : World} {A : Around} {E : Value → Shared → Prop} {s : Shared} {z TI TO p q a b : Addr} {t1 t2 : Bool} {xs ys : Array Value}
end
/-! laid down -/
end Dw
end
section
/-! a tuple times 0 or 1 -/
namespace Dw
open PySem PySem.Spec PyProof.Rows L2
end Dw
end
section
/-! a caught exception that is kept: it is told from the catch on, so that isinstance can be asked of it behind the try -/
namespace Dw
open PySem PySem.Spec PyProof.Rows L2
/-- an exception of the class cls, that is no longer in the air -/
def ExcAt (a : Addr) (cls : Value) (d : Option Addr) : HO := .ext fun h => ∃ ob fv, h.get? a = some ob ∧ Zc cls d ob ∧ ob.data = .fields fv
section
variable {X : Cx} {pins : List (Addr × Obj)} {σ : L2.St} {H : Hp} {s : Shared}
theorem excAt_ok {P : Program} {w : World} {h : Heap} {a : Addr} {ob : Obj} {fv : Array Value} {cls : Value} {d : Option Addr} (e : h.get? a = some ob) (z : Zc cls d ob) (f : ob.data = .fields fv) : ObjOk P w H h a (ExcAt a cls d) :=
  ⟨⟨ob, fv, e, z, f⟩, ⟨ob, e⟩, fun _ _ ⟨o, v, e1, z1, f1⟩ k => ⟨o, v, k o e1, z1, f1⟩⟩
/-- an object that stands, is new since the def began and was not told, is told from now on -/
theorem track {a : Addr} {ob : Obj} {fv : Array Value} {cls : Value} {d : Option Addr} (I : Inv X pins σ H s) (e : s.heap.get? a = some ob) (z : Zc cls d ob) (f : ob.data = .fields fv) (na : H a = none) (new : X.s_0.heap.get? a = none) (nL : a ≠ X.env.locals) (nP : ∀ p ∈ X.pn ++ pins, p.1 ≠ a) :
    Inv X pins σ (upd H a (ExcAt a cls d)) s := by
  have other : ∀ {b : Addr} {u : HO}, H b = some u → upd H a (ExcAt a cls d) b = some u := fun {b u} q => by
    rw [upd_ne (fun y => by rw [y, na] at q; cases q)]
    exact q
  refine ⟨I.ok, I.os, I.bare, ⟨I.base.keep, I.base.slot, fun b o q n x => ?_, I.base.there, fun b xs q => other (I.base.tups b xs q), fun b o u q => other (I.base.frzs b o u q), fun b ps q => ?_⟩, I.loc, I.cell, ?_, fun y cc q => ?_, fun p hp => ?_, fun b o q => ?_, I.len⟩
  · rw [upd_ne (fun y => by rw [y, new] at q; cases q)]
    exact I.base.free b o q n x
  · obtain ⟨more, q2⟩ := I.base.tbls b ps q
    exact ⟨more, other q2⟩
  · rw [upd_ne (Ne.symm nL)]
    exact I.free
  · rw [upd_ne (fun y2 => ?_)]
    · exact I.freeC y cc q
    · obtain ⟨v, o, e2, d2⟩ := I.cell y cc q
      rw [y2, e] at e2
      cases e2
      rw [f] at d2
      cases d2
  · obtain ⟨p1, p2, p3⟩ := I.pin p hp
    exact ⟨p1, by rw [upd_ne (nP p hp)]; exact p2, p3⟩
  · by_cases ba : b = a
    · subst ba
      rw [upd_same] at q
      cases q
      exact excAt_ok e z f
    · rw [upd_ne ba] at q
      exact (I.hok b o q).stay (fun _ _ _ g => g) (fun _ g => other g) fun _ _ g => other g
/-- what the clause wishes: the class is one that it catches, and its suite goes on with the exception told -/
def wTrk (K : PySem.W.Frag) (c : Value) (i : Nat) (ts : TS) (D : Ends) : WX := fun cls d σ H =>
  PySem.W.exmOne K cls c = some true ∧ ∀ a, H a = none → ts ⟨fun σ' H' => D.nx (σ'.set i none) H', fun _ _ => False, fun _ _ => False, fun _ _ => False⟩ (σ.set i (some (.ref a))) (upd H a (ExcAt a cls d))
theorem in_suite (I : Inv X pins σ H s) (a : Addr) : Inv (X.suite a (X.pn ++ pins)) [] σ H s := ⟨I.ok.suite _ _, I.os, I.bare, I.base, I.loc, I.cell, I.free, I.freeC, fun p hp => I.pin p ((List.append_nil (X.pn ++ pins)) ▸ hp), I.hok, I.len⟩
theorem out_suite {a : Addr} (I : Inv (X.suite a (X.pn ++ pins)) [] σ H s) (ok : X.Ok) : Inv X pins σ H s := ⟨ok, I.os, I.bare, I.base, I.loc, I.cell, I.free, I.freeC, fun p hp => I.pin p (List.mem_append_left _ hp), I.hok, I.len⟩
end
section
variable {X : Cx} {x n : Str} {c : Value} {i : Nat} {body suite : List Stmt} {b0 : Stmt} {np p1 p2 : Pos} {tb : WX → TS} {ts : TS}
theorem ps_try_trk (st : X.stack = X.env :: X.outer) (fr : X.env.frame = some X.env.locals) (hex : X.ex = []) (nd : X.N.Nodup) (at_ : X.N[i]? = some n) (kd : X.env.kindOf n = some .local) (nm : Names X x c)
    (hb : ∀ (W : WX) (pn : List (Addr × Obj)) (xe : Value → Shared → Prop), Takes (X.tr pn xe) W → PassesOwn (model X.prog X.w) X.A X.env xe → PSs (X.tr pn xe) body (tb W)) (hsu : ∀ a pn, PSs (X.suite a pn) (b0 :: suite) ts) :
    PS X (.Try body [.ExceptHandler (some (.Name x np)) (some n) (b0 :: suite) p2] [] [] p1) (fun D σ H => tb (wTrk X.K c i ts D) D σ H) := by
  refine ⟨fun pins s σ H D I rd => wpAny_Try_except ?_⟩
  have around : X.A.frames = some (X.env :: X.outer) := I.ok.frames.trans (congrArg some st)
  refine wpAny_mono ((hb (wTrk X.K c i ts D) (X.pn ++ pins) _ (fun u s1 air => ?_) PassesOwn.looking).run [] s σ H D (I.toTry _) rd) (fun fl s1 fin => ?_) (fun _ _ q => q)
  · obtain ⟨a, B, sI, pins1, σ1, H1, cls, d, rfl, J1, ground, slots, sky, na, os, gens, hit, wish⟩ := air
    have J : Inv X pins σ1 H1 sI := J1.ofTry I.ok
    refine Sky.land Zc.steady around fr (show Sky B (X.env :: X.outer) a (Zc cls d) X.env.locals s1.heap from st ▸ sky) fun h2 fly2 slots2 => ?_
    have J2 : Inv X pins σ1 H1 { s1 with heap := h2 } := J.landed ground fly2.1 (slots.trans slots2) os gens
    obtain ⟨ob2, fv2, got2, z2, f2⟩ := fly2.there
    have noFrame : a ∉ frs X.stack := fun m => by
      rw [st] at m
      obtain ⟨_, o', g', no⟩ := fly2.2.2.1.mem m
      rw [got2] at g'
      cases g'
      exact no _ f2
    have newI : sI.heap.get? a = none := by
      cases g : sI.heap.get? a with
      | none => rfl
      | some o =>
        have q := ground a o g noFrame
        rw [fly2.2.1] at q
        cases q
    have new0 : X.s_0.heap.get? a = none := by
      cases g : X.s_0.heap.get? a with
      | none => rfl
      | some o =>
        by_cases ex : a ∈ X.ex
        · rw [hex] at ex
          cases ex
        · obtain ⟨o', q⟩ := J.base.there a o g ex
          rw [newI] at q
          cases q
    have notL : a ≠ X.env.locals := fun q => noFrame (by
      rw [st]
      exact List.mem_filterMap.mpr ⟨X.env, List.mem_cons_self .., by rw [fr, q]⟩)
    have notP : ∀ p ∈ X.pn ++ pins, p.1 ≠ a := fun p hp q => by
      have g := (J.pin p hp).1
      rw [q, newI] at g
      cases g
    refine wpAny_handleBy_cons (codeAny_handlers_test ?_) (fun q => nomatch q)
    have typ : PySem.W.Looks (model X.prog X.w) h2 (typeOf (.ref a)) cls := fun A Q E s' k q => wpAny_typeOf_ref (k _ _ got2) (by rw [z2.1]; exact q)
    have yes := PySem.W.exm_one (M := model X.prog X.w) J2.kIn typ hit
    have named : ∀ {Q : Value → Shared → Prop} {E : Value → Shared → Prop}, Q c { s1 with heap := h2 } → wpAny (model X.prog X.w) (X.A.mark (some (.ref a))) (eval (.Name x np) X.env) Q E { s1 with heap := h2 } := fun {Q E} q => by
      obtain ⟨g, nodbg, m | ⟨m, bt, nn⟩⟩ := nm
      · exact ld_glob (in_suite J2 a) g m q nodbg
      · exact ld_blt (in_suite J2 a) g m bt q nn nodbg
    refine named (yes.here (codeAny_handlers_suite_as (HandSPX.lands_againZ fly2 fun h3 fly3 slots3 => ?_)))
    have J3 : Inv X pins σ1 H1 { s1 with heap := h3 } := J.landed ground fly3.1 ((slots.trans slots2).trans slots3) os gens
    obtain ⟨ob3, fv3, got3, z3, f3⟩ := fly3.there
    have T3 := in_suite (track J3 got3 z3 f3 na new0 notL notP) a
    refine store_ok (X := X.suite a (X.pn ++ pins)) (v := .ref a) T3 nd at_ (.inl kd) rfl (fun s4 T4 => ?_) (.inr kd)
    refine wpAny_mono ((hsu a (X.pn ++ pins)).run [] s4 _ _ _ T4 (wish a na)) (fun fl s5 fin => ?_) (fun _ _ q => q.elim)
    cases fl with
    | next =>
      obtain ⟨σ5, H5, T5, q5⟩ := fin
      exact gone_ok (out_suite T5 I.ok) nd at_ kd fun s6 J6 => ⟨_, _, J6, q5⟩
    | brk => exact fin.elim fun _ ⟨_, _, q⟩ => q.elim
    | cont => exact fin.elim fun _ ⟨_, _, q⟩ => q.elim
    | ret u => exact fin.elim fun _ ⟨_, _, _, _, q⟩ => q.elim
  · cases fl with
    | next =>
      obtain ⟨σ2, H2, J2, q⟩ := fin
      exact wpAny_execs_nil ⟨σ2, H2, J2.ofTry I.ok, q⟩
    | brk =>
      obtain ⟨σ2, H2, J2, q⟩ := fin
      exact ⟨σ2, H2, J2.ofTry I.ok, q⟩
    | cont =>
      obtain ⟨σ2, H2, J2, q⟩ := fin
      exact ⟨σ2, H2, J2.ofTry I.ok, q⟩
    | ret u =>
      obtain ⟨v, σ2, H2, J2, r, q⟩ := fin
      exact ⟨v, σ2, H2, J2.ofTry I.ok, r, q⟩
end
end Dw
end
section
/-! isinstance of a kept exception; defs that raise, called in a try -/
namespace Dw
open PySem PySem.Spec PyProof.Rows L2 Evl
/-- a def that keeps a promise and may raise -/
structure ClX (P : Program) (w : World) (K : PySem.W.Frag) (mg : Str → Option Value) (base : Heap) (k : Nat) (x : Str) (sp : Sp) : Prop where
  ex : ∃ (f : Addr) (fd : FuncData) (ps : List Str), FnOk P w K mg base (L2.CX P w) k f fd ps sp ∧ mg x = some (.ref f) ∧ PySem.W.keepIn K (.ref f) = true ∧ Binds K fd ps []
theorem clx_of {P : Program} {w : World} {K : PySem.W.Frag} {mg : Str → Option Value} {base : Heap} {x : Str} {st : Stmt} {N ps : List Str} {k : Nat} {sp : Sp} (D : Df K mg x st ps) (S : FnScope N ps (defScope st)) (len : ∀ vs H Q E, sp vs H Q E → vs.length = ps.length)
    (body : ∀ (f : Addr) (cdv : Value) (A : Around) (outer : List Env) (s : Shared) (H : Hp) (vs : List V) (Q : VK) (E : XK), Room k (A.deeper (envOfC x (defScope st) s.heap.objs.size f cdv)) → sp vs H Q E →
      ∃ t, PSs (cxOf (L2.CX P w) P w K mg base N x (defScope st) f cdv A outer s H E) (defBody st) t ∧ t { nx := fun _ H' => Q .non H', rt := Q } (start N vs) H) : ClX P w K mg base (k + 1) x sp := by
  obtain ⟨f, fd, F, m, b⟩ := D.ex
  exact ⟨f, fd, ps, F.okX S len (fun cdv A outer s H vs Q E hr h => body f cdv A outer s H vs Q E hr h), m, F.kp, b⟩
/-- its call where the wish of what is raised is W -/
theorem pe_clX {X : Cx} {k j : Nat} {x : Str} {sp : Sp} {p pos : Pos} {e : Expr} {es : List Expr} {t : TA} {W : WX} (c : ClX X.prog X.w X.K X.mg X.base k x sp) (tk : Takes X W) (hr : Room j X.A) (hk : k ≤ j) (hg : Gl X x) (ha : PA X (e :: es) t)
    (dbg : (x == ("__debug__" : Str)) = false := by decide) (str : starEach (e :: es) X.env = (false, eval e X.env) :: starEach es X.env := by rfl) (bck : (backTo pos (starEach es X.env)).any (·.1) = false := by rfl) :
    PE X (.Call (.Name x p) (e :: es) [] pos) (tCallS sp (fun σ => WE W σ) t) := by
  obtain ⟨f, fd, ps, F, m, kp, b⟩ := c.ex
  exact pe_callS F (hr.mono hk) hg m kp b (fun σ => passAt tk σ) ha dbg str bck
/-- a promise to raise an error of the class C, all that stood left as it was -/
def spE {α : Type} (C : Addr) (pre : α → List V → Hp → Prop) : Sp := fun vs H _ E => ∃ a, pre a vs H ∧ ∀ H', Ex H H' → E (.ref C) none H'
/-- what the top says of an error's class -/
structure ExcT (K : PySem.W.Frag) (mg : Str → Option Value) (x : Str) (C : Addr) : Prop where
  g : mg x = some (.ref C)
  k : PySem.W.keepIn K (.ref C) = true
  q : PySem.W.excIn K C [.type "ValueError", .type "Exception", .type "BaseException", .type "object"] "ValueError.__new__" = true
  t : PySem.W.typeIn K (.ref C) = some (.type "type")
  c : ExcC K C
end Dw
end
section
/-! repr of a written list with dicts of data among its items -/
namespace Dw
open PySem PySem.Spec PyProof.Rows L2 Evl
/-! data of texts, numbers and tuples alone: no place is told of it -/
mutual
def noL : PyData → Bool
  | .none | .bool _ | .int _ | .str _ => true
  | .tuple xs => noLs xs
  | .list _ | .dict _ => false
def noLs : List PyData → Bool
  | [] => true
  | x :: xs => noL x && noLs xs
end
section
variable {X : Cx} {pins : List (Addr × Obj)} {σ : L2.St} {H : Hp} {s : Shared}
end
/-! sizes -/
structure Gs (k W : Nat) (d : PyData) : Prop where
  dep : d.depth ≤ k
  wgt : d.weight ≤ W
  its : d.leavesShort 13 = true
  sho : d.showable = true
theorem Gs.mono {k W k' W' : Nat} {d : PyData} (h : Gs k W d) (a : k ≤ k') (b : W ≤ W') : Gs k' W' d := ⟨Nat.le_trans h.dep a, Nat.le_trans h.wgt b, h.its, h.sho⟩
theorem Gs.len {k W : Nat} {d : PyData} (h : Gs k W d) (b : W ≤ 1000000) : d.shown.length ≤ sizeLine := by
  have z := PyData.shown_le 13 (by decide) d h.its
  have y := h.wgt
  rw [sizeLine_eq]
  omega
end Dw
end
section
/-! == and != of deep data; isinstance of what was caught or of None, one class or a written tuple of them -/
namespace Dw
open PySem PySem.Spec PyProof.Rows L2 Evl
/-- None, or a kept exception: its type -/
def TyC (K : PySem.W.Frag) (H : Hp) (x : V) (t : Value) : Prop := (x = .non ∧ t = .type "NoneType") ∨ ∃ (a C : Addr), x = .ref a ∧ H a = some (ExcAt a (.ref C) none) ∧ ExcC K C ∧ t = .ref C
theorem TyC.ex {K : PySem.W.Frag} {H H' : Hp} {x : V} {t : Value} (e : Ex H H') (h : TyC K H x t) : TyC K H' x t := h.imp id fun ⟨a, C, h1, h2, h3, h4⟩ => ⟨a, C, h1, e _ _ h2, h3, h4⟩
theorem tyc_kit {X : Cx} {pins : List (Addr × Obj)} {σ : L2.St} {H : Hp} {s : Shared} {x : V} {t v : Value} (I : Inv X pins σ H s) (h : TyC X.K H x t) (r : RelV x v) : ∃ Pr, PySem.W.KitX X.K v t Pr ∧ Pr s.heap ∧ v ≠ .builtin "__main__.__loader__#opaque" := by
  rcases h with ⟨rfl, rfl⟩ | ⟨a, C, rfl, ha, xc, rfl⟩
  · obtain ⟨P, Z, p, hx⟩ := kit_of I r (tyx_non (K := X.K) (H := H))
    exact ⟨P, Z, p, hx⟩
  · cases (show v = Value.ref a from r)
    obtain ⟨⟨ob, fv, got, ⟨hc, hd⟩, hf⟩, _⟩ := (show ObjOk X.prog X.w H s.heap a (ExcAt a (.ref C) none) from I.hok a _ ha)
    have inst : PySem.W.InstAt s.heap a ob C none := by
      obtain ⟨c1, d1, t1, l1⟩ := ob
      cases (show c1 = Value.ref C from hc)
      cases (show d1 = none from hd)
      cases (show t1 = .fields fv from hf)
      exact ⟨got, rfl, rfl, trivial⟩
    exact ⟨_, PySem.W.handS_kitx_exc xc.hg xc.hk xc.hs xc.hd xc.ha xc.hn xc.ht xc.hm, inst, fun z => nomatch z⟩
def rIsC (K : PySem.W.Frag) : List V → Hp → VK → Prop := fun xs H Q => ∃ (x c : V) (t u : Value) (b : Bool), xs = [x, c] ∧ ClsV c u ∧ TyC K H x t ∧ PySem.W.kitOne K t u = some b ∧ Q (.bl b) H
theorem call_isC {X : Cx} : CallR X (.builtin "isinstance") (rIsC X.K) := by
  intro pins s σ H xs us Q I r h
  obtain ⟨x, c, t, u, b, rfl, k, ty, e, q⟩ := h
  obtain ⟨u1, u2, rfl, r1, r2⟩ := vals2 r
  have e2 := k.eq r2
  subst e2
  obtain ⟨P, Z, p, hx⟩ := tyc_kit I ty r1
  exact PySem.W.kia_one Z I.kIn p e hx fun tk => ⟨.bl b, H, I.tok tk, rfl, q⟩
def rIsCT (K : PySem.W.Frag) : List V → Hp → VK → Prop := fun xs H Q => ∃ (x : V) (tp : Addr) (cs : List V) (t : Value) (us : List Value) (b : Bool), xs = [x, .ref tp] ∧ H tp = some (.tup cs) ∧ Paired ClsV cs us ∧ TyC K H x t ∧ PySem.W.kitAny K t us = some b ∧ Q (.bl b) H
theorem call_isCT {X : Cx} : CallR X (.builtin "isinstance") (rIsCT X.K) := by
  intro pins s σ H xs us Q I r h
  obtain ⟨x, tp, cs, t, ws, b, rfl, hT, k, ty, e, q⟩ := h
  obtain ⟨u1, u2, rfl, r1, r2⟩ := vals2 r
  cases (show u2 = Value.ref tp from r2)
  obtain ⟨P, Z, p, hx⟩ := tyc_kit I ty r1
  obtain ⟨_, its, rv, o, h1, h2, n, h3⟩ := (show ObjOk X.prog X.w H s.heap tp (.tup cs) from I.hok tp _ hT)
  have e3 := ClsV.all k rv
  subst e3
  obtain ⟨oc, od, dt, sl⟩ := o
  simp only at h2 h3
  subst h2 h3
  exact PySem.W.kia_tup Z I.kIn p h1 e hx fun tk => ⟨.bl b, H, I.tok tk, rfl, q⟩
theorem ev_isC {K : PySem.W.Frag} {σ : L2.St} {H : Hp} {ta tb : TE} {x c : V} {t u : Value} {b : Bool} (ha : Ev ta σ H x) (hc : Ev tb σ H c) (k : ClsV c u) (ty : TyC K H x t) (e : PySem.W.kitOne K t u = some b) : Ev (tCB (rIsC K) (tCons ta (tCons tb tNil))) σ H (.bl b) :=
  fun H1 e1 Q q => ha H1 e1 _ fun H2 e2 => hc H2 (e1.trans e2) _ fun H3 e3 => ⟨x, c, t, u, b, rfl, k, ty.ex ((e1.trans e2).trans e3), e, q H3 (e2.trans e3)⟩
end Dw
end
section
/-! defs that are only called where nothing is being shown, and repr in them -/
namespace Dw
open PySem PySem.Spec PyProof.Rows L2 Evl
end Dw
end
section
/-! in of a tuple of data; repr of deep data -/
namespace Dw
open PySem PySem.Spec PyProof.Rows L2 Evl
end Dw
end
section
/-! tuple * int, the int small, below 1 too -/
namespace Dw
open PySem PySem.Spec PyProof.Rows L2 Evl
theorem tuple_mul1 (l : Addr) (items : Array Value) (n : Nat) (dd : Option Addr) (sl : Array (Option Value)) (x : Int) (u : Tok) (hx : x = 1) :
    Meets (Builtin.«tuple.__mul__» ⟨[.ref l, .int x u], []⟩) (fun _ R s => s.heap.get? l = some { cls := .type "tuple", dict := dd, data := .seq items n, slots := sl } ∧ R (.ok (.ret (Value.ref l))) s) :=
  .of_wp fun prog w A R s h => by
    obtain ⟨hp, g, d, tk, os⟩ := s
    obtain ⟨hl, h⟩ := h
    have f1 := AutoSeq1.idx_int
    have c0 : (decide (x < -(2 ^ 63)) || decide (x ≥ 2 ^ 63)) = false := by
      rw [decide_eq_false (by omega), decide_eq_false (by omega)] <;> rfl
    have c1 : (items.isEmpty || x == 1) = true := by
      rw [hx]
      simp
    wp_walk using wpAny_loadPart' hl
    repeat (first
      | (refine wpAny_ite_false (decide_eq_false (by rw [c0]; exact Bool.false_ne_true)) ?_; wp_walk using wpAny_loadPart' hl)
      | (refine wpAny_ite_true (decide_eq_true (by rw [c1])) ?_; wp_walk using wpAny_loadPart' hl))
    exact ⟨_, rfl, h⟩
theorem tuple_mul0 (l : Addr) (items : Array Value) (n : Nat) (dd : Option Addr) (sl : Array (Option Value)) (x : Int) (u : Tok) (hx : x ≤ 0) (h10 : -10 ≤ x) (ne : items.isEmpty = false) :
    Meets (Builtin.«tuple.__mul__» ⟨[.ref l, .int x u], []⟩) (fun _ R s => s.heap.get? l = some { cls := .type "tuple", dict := dd, data := .seq items n, slots := sl } ∧
      R (.ok (.ret (Value.ref s.heap.objs.size))) { s with heap := s.heap.push { cls := Value.type "tuple", data := Data.seq #[] }, toks := s.toks }) :=
  .of_wp fun prog w A R s h => by
    obtain ⟨hp, g, d, tk, os⟩ := s
    obtain ⟨hl, h⟩ := h
    have f1 := AutoSeq1.idx_int
    have c0 : (decide (x < -(2 ^ 63)) || decide (x ≥ 2 ^ 63)) = false := by
      rw [decide_eq_false (by omega), decide_eq_false (by omega)] <;> rfl
    have c1 : (items.isEmpty || x == 1) = false := by
      rw [ne, Bool.false_or]
      exact beq_eq_false_iff_ne.mpr (by omega)
    have c2 : (decide (x ≤ 0) || items.isEmpty) = true := by
      rw [decide_eq_true hx]
      rfl
    wp_walk using wpAny_loadPart' hl
    repeat (first
      | (refine wpAny_ite_false (decide_eq_false (by rw [c0]; exact Bool.false_ne_true)) ?_; wp_walk using wpAny_loadPart' hl)
      | (refine wpAny_ite_false (decide_eq_false (by rw [c1]; exact Bool.false_ne_true)) ?_; wp_walk using wpAny_loadPart' hl)
      | (refine wpAny_ite_true (decide_eq_true (by rw [c2])) ?_; wp_walk using wpAny_loadPart' hl))
    exact ⟨_, rfl, h⟩
/-- tuple * int: nothing, itself, or so often -/
def rRepTA (K : PySem.W.Frag) : R2 := fun x y H Q => ∃ l k xs, x = .ref l ∧ y = .int k ∧ SqT K H l xs ∧ xs ≠ [] ∧ -10 ≤ k ∧ k ≤ 1000 ∧ xs.length ≤ 1000 ∧
  (k ≤ 0 → ∀ p, H p = none → Q (.ref p) (upd H p (.tup []))) ∧ (k = 1 → Q (.ref l) H) ∧ (2 ≤ k → ∀ p, H p = none → Q (.ref p) (upd H p (.tup (List.replicate k.toNat xs).flatten)))
theorem op_repTA {X : Cx} : OpR X (binaryOp .Mult) (rRepTA X.K) := by
  intro pins s σ H x y v u Q I rx ry h
  obtain ⟨l, k, xs, rfl, rfl, hT, hne, h0, h2, hz, q0, q1, q2⟩ := h
  by_cases k2 : 2 ≤ k
  · exact op_repT pins s σ H _ _ _ _ Q I rx ry ⟨l, k, xs, rfl, rfl, hT, hne, k2, h2, hz, q2 k2⟩
  cases rx
  obtain ⟨t, rfl⟩ := ry
  obtain ⟨its, r, ⟨⟨cls, dd, data, sl⟩, ho, hc, n, hd⟩, hs⟩ := I.tuple hT
  simp only at hc hd
  subst hc hd
  have hle : its.length = xs.length := r.length.symm
  have hn : its ≠ [] := fun e => hne (by
    rw [e] at hle
    exact List.eq_nil_of_length_eq_zero hle.symm)
  have hi : its.toArray.isEmpty = false := by
    cases its with
    | nil => exact absurd rfl hn
    | cons a b => rfl
  by_cases k1 : k = 1
  · exact wpAny_binaryOp_repeat_ref (T := "tuple") (U := "int") (by decide) ⟨_, ho, rfl⟩ (fun s' => typeIs_int s' k t) noFill_tuple_mul F.fills_int_mul F.slot_int_rmul repeat_tuple F.slot_int_index.lookup
      (call_meets F.slot_int_rmul (typeIs_int s k t) F.entry_int_rmul (F.args_int_rmul_2 _ _) (int_rmul_tuple k t l its.toArray n dd sl)
        ⟨ho, rfl, ⟨_, ho, rfl⟩, call_meets F.slot_tuple_mul ⟨_, ho, rfl⟩ F.entry_tuple_mul (F.args_tuple_mul_2 _ _) (tuple_mul1 l its.toArray n dd sl k t k1) ⟨ho, ⟨.ref l, H, I, rfl, q1 k1⟩⟩⟩)
  · have k0 : k ≤ 0 := by omega
    refine wpAny_binaryOp_repeat_ref (T := "tuple") (U := "int") (by decide) ⟨_, ho, rfl⟩ (fun s' => typeIs_int s' k t) noFill_tuple_mul F.fills_int_mul F.slot_int_rmul repeat_tuple F.slot_int_index.lookup
      (call_meets F.slot_int_rmul (typeIs_int s k t) F.entry_int_rmul (F.args_int_rmul_2 _ _) (int_rmul_tuple k t l its.toArray n dd sl)
        ⟨ho, rfl, ⟨_, ho, rfl⟩, call_meets F.slot_tuple_mul ⟨_, ho, rfl⟩ F.entry_tuple_mul (F.args_tuple_mul_2 _ _) (tuple_mul0 l its.toArray n dd sl k t k0 h0 hi) ⟨ho, ?_⟩⟩)
    refine ⟨.ref s.heap.objs.size, _, I.laid (t' := s.toks) (o := .tup []) (fun b ob q => Heap.get?_push_of_some _ q) (Nat.le_refl _) ?_, rfl, q0 k0 _ (I.hok.fresh (Nat.le_refl _))⟩
    exact ⟨Nat.zero_le _, [], .nil, IsTup.new _ _⟩
end Dw
end
section
/-! repr of any data without dicts -/
namespace Dw
open PySem PySem.Spec PyProof.Rows L2 Evl
def rReprW (X : Cx) : List V → Hp → VK → Prop := fun xs H Q => ∃ (v : V) (d : PyData), xs = [v] ∧ Dp X.K H v d ∧ X.A.guards = some [] ∧ d.showable = true ∧ d.hasDict = false ∧ d.depth ≤ 190 ∧ d.shown.length ≤ sizeLine ∧ Q (.str d.shown) H
theorem call_reprW {X : Cx} {k : Nat} (hr : Room k X.A) : CallR X (.builtin "repr") (rReprW X) := by
  intro pins s σ H xs us Q I r h
  obtain ⟨v, d, e, hd, hg, hs, hn, hz, hl, q⟩ := h
  subst e
  obtain ⟨u, rfl, ru⟩ := vals1 r
  have un := hr.un
  have isRef : ∀ a, v = .ref a → wpAny (model X.prog X.w) X.A (call (.builtin "repr") [u]) (fun w' s' => ∃ z H', Inv X pins σ H' s' ∧ RelV z w' ∧ Q z H') X.xe s := fun a e => by
    subst e
    obtain ⟨as, rd⟩ := Dp.reads I d _ _ hd ru
    cases (show u = Value.ref a from ru)
    exact repr_of_reads' rd hs (PyData.noDict_hsm hn) hg (by omega) (fun _ _ z => z) (fun h' t tk keep => ⟨.str d.shown, H, I.kept keep, ⟨t, rfl⟩, q⟩) hl
  cases hd with
  | non =>
    cases (show u = Value.none from ru)
    exact PySem.P.repr_of_none ⟨.str _, H, I.tok _, ⟨_, rfl⟩, q⟩
  | bl b =>
    cases (show u = Value.bool b from ru)
    exact PySem.P.repr_of_bool ⟨.str _, H, I.tok _, ⟨_, rfl⟩, q⟩
  | int i =>
    obtain ⟨t, e⟩ := (show ∃ t, u = Value.int i t from ru)
    subst e
    exact PySem.P.repr_of_int (by rw [PyData.showable] at hs; exact of_decide_eq_true hs) ⟨.str _, H, I.tok _, ⟨_, rfl⟩, q⟩
  | str x =>
    obtain ⟨t, e⟩ := (show ∃ t, u = Value.str x t from ru)
    subst e
    exact PySem.P.repr_of_str ⟨.str _, H, I.tok _, ⟨_, rfl⟩, q⟩ hl
  | lst _ _ => exact isRef _ rfl
  | tup _ _ => exact isRef _ rfl
end Dw
end
section
/-! C(..) whose __init__ may raise, in a try -/
namespace Dw
open PySem PySem.Spec PyProof.Rows L2 Evl
section
variable {X : Cx} {CX : CXT} {k : Nat} {f C : Addr} {fd : FuncData} {ps : List Str} {sp : Sp} {x : Str} {p pos : Pos} {e : Expr} {es : List Expr} {t : TA}
theorem run_makeS {E : XK} {pins : List (Addr × Obj)} {σ : L2.St} {H : Hp} {s : Shared} {Q : VK} {us : List Value} {vs : List V} (M : Mk X.K C f) (F : FnOk X.prog X.w X.K X.mg X.base CX k f fd ps sp) (hr : Room (k + 1) X.A) (hb : Binds X.K fd ps [])
    (hx : PassesAt CX X σ E) (I : Inv X pins σ H s) (r : Vals vs us)
    (h : ∀ x dx, H x = none → H dx = none → dx ≠ x → sp (.ref x :: vs) (upd (upd H dx (.own x)) x (.ins C dx [])) (fun v H2 => v = .non ∧ Q (.ref x) H2) E) :
    wpAny (model X.prog X.w) X.A (call (.ref C) us) (EP X pins σ Q) X.xe s := by
  have hq := h (s.heap.objs.size + 1) s.heap.objs.size (I.hok.fresh (Nat.le_succ _)) (I.hok.fresh (Nat.le_refl _)) (Nat.ne_of_lt (Nat.lt_succ_self _))
  have I2 := Inv.made (C := C) I
  have r2 : Vals (V.ref (s.heap.objs.size + 1) :: vs) (Value.ref (s.heap.objs.size + 1) :: us) := .cons rfl r
  have hl : (Value.ref (s.heap.objs.size + 1) :: us ++ []).length = ps.length := by
    rw [List.append_nil]
    have e := r2.length
    rw [F.len _ _ _ _ hq] at e
    exact e.symm
  have hb2 := hb { s with heap := _, toks := _ } (Value.ref (s.heap.objs.size + 1) :: us) I2.kIn hl
  rw [List.append_nil] at hb2
  refine wpAny_call (make_map (f := f) I.kIn M.makes M.init (beq_iff_eq.mp M.fn) (codeAny_mono (F.run _ X.stack _ _ ⟨Value.ref (s.heap.objs.size + 1) :: us, []⟩ (Value.ref (s.heap.objs.size + 1) :: us) _ _ E (hr.make C us [])
    (I2.env0.make C us []) hb2 r2 hq) fun r s' hq' => ?_))
  cases r with
  | error e => exact hx pins _ _ e s' I2 hq'
  | ok fl =>
    cases fl with
    | ret u =>
      obtain ⟨v, H', I3, rv, ev, q3⟩ := I2.after hq'
      subst ev
      exact ⟨rv, ⟨V.ref (s.heap.objs.size + 1), H', I3, rfl, q3⟩⟩
    | next => exact False.elim hq'
    | brk => exact False.elim hq'
    | cont => exact False.elim hq'
def tMakeS (C : Addr) (sp : Sp) (E : L2.St → XK) (t : TA) : TE := fun σ H Q => t σ H fun vs H1 => ∀ x dx, H1 x = none → H1 dx = none → dx ≠ x →
  sp (.ref x :: vs) (upd (upd H1 dx (.own x)) x (.ins C dx [])) (fun v H2 => v = .non ∧ Q (.ref x) H2) (E σ)
theorem pe_makeS {E : L2.St → XK} (M : Mk X.K C f) (F : FnOk X.prog X.w X.K X.mg X.base CX k f fd ps sp) (hr : Room (k + 1) X.A) (hg : Gl X x) (hm : X.mg x = some (.ref C)) (hb : Binds X.K fd ps []) (hx : ∀ σ, PassesAt CX X σ (E σ))
    (ha : PA X (e :: es) t) (hdb : (x == ("__debug__" : Str)) = false := by decide) (he : starEach (e :: es) X.env = (false, eval e X.env) :: starEach es X.env := by rfl) (hpl : (backTo pos (starEach es X.env)).any (·.1) = false := by rfl) :
    PE X (.Call (.Name x p) (e :: es) [] pos) (tMakeS C sp E t) := by
  refine ⟨fun pins s σ H Q I h => ?_⟩
  refine wpAny_Call_Name_kw (ld_glob I hg hm ?_ hdb)
  refine PySem.W.callWith_K (h₀ := X.base) I.ok.mod.kin M.kp (thn (ha.run pos pins s σ H _ I h) fun us s1 ⟨vs, H1, I1, r, q⟩ => ⟨I1.kIn, ?_⟩) he hpl
  exact run_makeS M F hr hb (hx σ) I1 r q
end
end Dw
end
section
/-! a class's __init__ by its promise -/
namespace Dw
open PySem PySem.Spec PyProof.Rows L2 Evl
def clsBody : Stmt → List Stmt
  | .ClassDef _ _ _ b _ _ _ _ _ _ _ => b
  | _ => []
/-- a class of the text by its __init__ -/
structure DfM (K : PySem.W.Frag) (mg : Str → Option Value) (x q : Str) (C : Addr) (st : Stmt) (ps : List Str) : Prop where
  ex : ∃ (f : Addr) (fd : FuncData), Fun K "__init__" q st f fd ∧ Mk K C f ∧ mg x = some (.ref C) ∧ Binds K fd ps []
structure ClM (P : Program) (w : World) (K : PySem.W.Frag) (mg : Str → Option Value) (base : Heap) (k : Nat) (x : Str) (C : Addr) (sp : Sp) : Prop where
  ex : ∃ (f : Addr) (fd : FuncData) (ps : List Str), FnOk P w K mg base (L2.CX P w) k f fd ps sp ∧ Mk K C f ∧ mg x = some (.ref C) ∧ Binds K fd ps []
theorem clm_of {P : Program} {w : World} {K : PySem.W.Frag} {mg : Str → Option Value} {base : Heap} {x q : Str} {C : Addr} {st : Stmt} {N ps : List Str} {k : Nat} {sp : Sp} (D : DfM K mg x q C st ps) (S : FnScope N ps (defScope st)) (len : ∀ vs H Q E, sp vs H Q E → vs.length = ps.length)
    (body : ∀ (f : Addr) (cdv : Value) (A : Around) (outer : List Env) (s : Shared) (H : Hp) (vs : List V) (Q : VK) (E : XK), Room k (A.deeper (envOfC q (defScope st) s.heap.objs.size f cdv)) → sp vs H Q E →
      ∃ t, PSs (cxOf (L2.CX P w) P w K mg base N q (defScope st) f cdv A outer s H E) (defBody st) t ∧ t { nx := fun _ H' => Q .non H', rt := Q } (start N vs) H) : ClM P w K mg base (k + 1) x C sp := by
  obtain ⟨f, fd, F, M, m, b⟩ := D.ex
  exact ⟨f, fd, ps, F.okX S len (fun cdv A outer s H vs Q E hr h => body f cdv A outer s H vs Q E hr h), M, m, b⟩
theorem pe_clM {X : Cx} {k j : Nat} {x : Str} {C : Addr} {sp : Sp} {p pos : Pos} {e : Expr} {es : List Expr} {t : TA} {W : WX} (c : ClM X.prog X.w X.K X.mg X.base k x C sp) (tk : Takes X W) (hr : Room j X.A) (hk : k + 1 ≤ j) (hg : Gl X x) (ha : PA X (e :: es) t)
    (dbg : (x == ("__debug__" : Str)) = false := by decide) (str : starEach (e :: es) X.env = (false, eval e X.env) :: starEach es X.env := by rfl) (bck : (backTo pos (starEach es X.env)).any (·.1) = false := by rfl) :
    PE X (.Call (.Name x p) (e :: es) [] pos) (tMakeS C sp (fun σ => WE W σ) t) := by
  obtain ⟨f, fd, ps, F, M, m, b⟩ := c.ex
  exact pe_makeS M F (hr.mono hk) hg m b (fun σ => passAt tk σ) ha dbg str bck
theorem do_makeS {C : Addr} {sp : Sp} {E : L2.St → XK} {ta : TA} {D : Ends} {σ : L2.St} {H : Hp} (h : ta σ H fun vs H1 => ∀ x dx, H1 x = none → H1 dx = none → dx ≠ x → sp (.ref x :: vs) (upd (upd H1 dx (.own x)) x (.ins C dx [])) (fun v H2 => v = .non ∧ D.nx σ H2) (E σ)) : tDrop (tMakeS C sp E ta) D σ H := h
end Dw
end
section
/-! the mathematics of renaming, over plain lists of natural numbers -/
namespace M20
/-- the k-th, 0 where there is none -/
abbrev g (l : List Nat) (k : Nat) : Nat := l.getD k 0
theorem g_eq {l : List Nat} {k : Nat} (h : k < l.length) : l[k]? = some (g l k) := by
  show l[k]? = some (l.getD k 0)
  rw [List.getD_eq_getElem?_getD, List.getElem?_eq_getElem h]
  rfl
theorem ext {l m : List Nat} (h : l.length = m.length) (e : ∀ k, k < l.length → g l k = g m k) : l = m := by
  apply List.ext_getElem? 
  intro k
  by_cases hk : k < l.length
  · rw [g_eq hk, g_eq (h ▸ hk), e k hk]
  · rw [List.getElem?_eq_none_iff.mpr (by omega), List.getElem?_eq_none_iff.mpr (by omega)]
/-- what is called k -/
def bk (o : List Nat) : List Nat := (List.range o.length).map fun k => o.idxOf k
/-! a table of a deed of p places over n numbers -/
structure Tab (n p : Nat) (t : List Nat) : Prop where
  len : t.length = n ^ p
  low : ∀ k, k < n ^ p → g t k < n
/-! the law's own way: each number of the table put at its place -/
def spot (n p : Nat) (o : List Nat) (k : Nat) : Nat := g o (k % n) * (if 0 < p then 1 else 0) + g o (k / n % n) * n * (if p = 2 then 1 else 0)
/-- the first k numbers put -/
def led (n p : Nat) (o t : List Nat) : Nat → List Nat
  | 0 => t
  | k + 1 => (led n p o t k).set (spot n p o k) (g o (g t k))
end M20
end
section
namespace K12
open PySem PySem.Spec PyProof.Rows L2 Evl Dw M20
open C8 (fnScope_by)
/-! ### the text -/
def topS (i : Nat) : Stmt := PySem.Challenge.pw_deedworlds_k12_models_looked_at.main.body.getD i (.Pass ⟨0, 0, 0, 0⟩)
abbrev s_is_whole : Stmt := topS 2
theorem sc_is_whole : FnScope ["thing"] ["thing"] (defScope s_is_whole) := fnScope_by (by decide +kernel)
abbrev s_is_below : Stmt := topS 3
theorem sc_is_below : FnScope ["thing", "size"] ["thing", "size"] (defScope s_is_below) := fnScope_by (by decide +kernel)
abbrev s_power : Stmt := topS 5
theorem sc_power : FnScope ["base", "many", "told", "step"] ["base", "many"] (defScope s_power) := fnScope_by (by decide +kernel)
abbrev s_is_name : Stmt := topS 42
theorem sc_is_name : FnScope ["thing", "sign"] ["thing"] (defScope s_is_name) := fnScope_by (by decide +kernel)
abbrev s_is_deed : Stmt := topS 43
theorem sc_is_deed : FnScope ["thing"] ["thing"] (defScope s_is_deed) := fnScope_by (by decide +kernel)
abbrev s_signature_wrong : Stmt := topS 44
theorem sc_signature_wrong : FnScope ["thing", "k", "deed", "names", "name"] ["thing"] (defScope s_signature_wrong) := fnScope_by (by decide +kernel)
abbrev s_need_signature : Stmt := topS 45
theorem sc_need_signature : FnScope ["signature"] ["signature"] (defScope s_need_signature) := fnScope_by (by decide +kernel)
abbrev s_kind_wrong : Stmt := topS 51
theorem sc_kind_wrong : FnScope ["thing", "signature", "equations", "wrong", "k", "equation"] ["thing"] (defScope s_kind_wrong) := fnScope_by (by decide +kernel)
abbrev s_need_kind : Stmt := topS 52
theorem sc_need_kind : FnScope ["kind"] ["kind"] (defScope s_need_kind) := fnScope_by (by decide +kernel)
abbrev s_is_size : Stmt := topS 54
theorem sc_is_size : FnScope ["thing"] ["thing"] (defScope s_is_size) := fnScope_by (by decide +kernel)
abbrev s_first_odd_cell : Stmt := topS 55
theorem sc_first_odd_cell : FnScope ["size", "tables", "k", "table", "at", "number"] ["size", "tables"] (defScope s_first_odd_cell) := fnScope_by (by decide +kernel)
abbrev s_model_wrong : Stmt := topS 56
theorem sc_model_wrong : FnScope ["signature", "thing", "size", "tables", "k", "deed", "odd"] ["signature", "thing"] (defScope s_model_wrong) := fnScope_by (by decide +kernel)
abbrev s_need_model : Stmt := topS 57
theorem sc_need_model : FnScope ["signature", "model"] ["signature", "model"] (defScope s_need_model) := fnScope_by (by decide +kernel)
abbrev s_worth_by : Stmt := topS 58
theorem sc_worth_by : FnScope ["signature", "model", "term", "worths", "letters"] ["signature", "model", "term", "worths"] (defScope s_worth_by) := fnScope_by (by decide +kernel)
abbrev s_first_broken : Stmt := topS 61
theorem sc_first_broken : FnScope ["kind", "model"] ["kind", "model"] (defScope s_first_broken) := fnScope_by (by decide +kernel)
abbrev s_keeps : Stmt := topS 62
theorem sc_keeps : FnScope ["kind", "model"] ["kind", "model"] (defScope s_keeps) := fnScope_by (by decide +kernel)
abbrev s_told_by : Stmt := topS 64
theorem sc_told_by : FnScope ["signature", "model", "equations", "equation"] ["signature", "model", "equations"] (defScope s_told_by) := fnScope_by (by decide +kernel)
abbrev s_model_text : Stmt := topS 68
theorem sc_model_text : FnScope ["signature", "model"] ["signature", "model"] (defScope s_model_text) := fnScope_by (by decide +kernel)
abbrev s_purse : Stmt := topS 70
theorem sc_purse : FnScope ["_law_script", "_law_cells_here", "_law_cell"] ["_law_script"] (defScope s_purse) := fnScope_by (by decide +kernel)
abbrev s_draw : Stmt := topS 71
theorem sc_draw : FnScope ["_law_purse_here", "_law_out_of", "_law_cells_here", "_law_went", "_law_where", "_law_cell", "_law_number", "_law_other"] ["_law_purse_here", "_law_out_of"] (defScope s_draw) := fnScope_by (by decide +kernel)
abbrev s_pick : Stmt := topS 72
theorem sc_pick : FnScope ["_law_purse_here", "_law_some"] ["_law_purse_here", "_law_some"] (defScope s_pick) := fnScope_by (by decide +kernel)
abbrev s_dds : Stmt := topS 73
theorem sc_dds : FnScope ["_law_purse_here", "_law_found", "_law_k", "_law_size", "_law_name", "_law_sign", "_law_other", "_law_places"] ["_law_purse_here"] (defScope s_dds) := fnScope_by (by decide +kernel)
abbrev s_cls : Stmt := topS 74
theorem sc_cls : FnScope ["_law_size", "_law_places"] ["_law_size", "_law_places"] (defScope s_cls) := fnScope_by (by decide +kernel)
abbrev s_mdl : Stmt := topS 75
theorem sc_mdl : FnScope ["_law_purse_here", "_law_deeds_here", "_law_size", "_law_tables_here", "_law_name", "_law_places", "_law_way", "_law_step", "_law_table", "_law_at", "_law_one", "_law_other", "_law_drawn", "_law_some", "_law_number"] ["_law_purse_here", "_law_deeds_here"] (defScope s_mdl) := fnScope_by (by decide +kernel)
abbrev s__law_whole : Stmt := topS 76
theorem sc__law_whole : FnScope ["_law_piece"] ["_law_piece"] (defScope s__law_whole) := fnScope_by (by decide +kernel)
abbrev s__law_due : Stmt := topS 77
theorem sc__law_due : FnScope ["_law_deeds_here", "_law_thing", "_law_size", "_law_tables_here", "_law_k", "_law_deed", "_law_table", "_law_at", "_law_number"] ["_law_deeds_here", "_law_thing"] (defScope s__law_due) := fnScope_by (by decide +kernel)
abbrev s__law_bent : Stmt := topS 78
theorem sc__law_bent : FnScope ["_law_purse_here", "_law_deeds_here", "_law_thing", "_law_size", "_law_tables_here", "_law_k", "_law_table", "_law_at", "_law_odd", "_law_cut", "_law_both", "_law_way", "_law_more", "_law_some"] ["_law_purse_here", "_law_deeds_here", "_law_thing"] (defScope s__law_bent) := fnScope_by (by decide +kernel)
abbrev s__law_refused : Stmt := topS 79
theorem sc__law_refused : FnScope ["_law_which", "_law_deeds_here", "_law_thing", "_law_caught", "e"] ["_law_which", "_law_deeds_here", "_law_thing"] (defScope s__law_refused) := fnScope_by (by decide +kernel)
abbrev s_law : Stmt := topS 80
theorem sc_law : FnScope ["_law_script", "_law_purse_here", "_law_turn", "_law_deeds_here", "_law_thing", "_law_again", "_law_kept", "_law_due_here", "_law_ways", "_law_which"] ["_law_script"] (defScope s_law) := fnScope_by (by decide +kernel)
/-- what the module's names hold -/
structure Txt (mg : Str → Option Value) : Prop where
  z_ValueError : mg "ValueError" = none
  z_all : mg "all" = none
  z_bool : mg "bool" = none
  z_dict : mg "dict" = none
  z_enumerate : mg "enumerate" = none
  z_int : mg "int" = none
  z_isinstance : mg "isinstance" = none
  z_len : mg "len" = none
  z_list : mg "list" = none
  z_min : mg "min" = none
  z_range : mg "range" = none
  z_repr : mg "repr" = none
  z_reversed : mg "reversed" = none
  z_set : mg "set" = none
  z_sorted : mg "sorted" = none
  z_str : mg "str" = none
  z_super : mg "super" = none
  z_tuple : mg "tuple" = none
  z_zip : mg "zip" = none
  c_NAME_LETTERS : ∃ t, mg "NAME_LETTERS" = some (.str "abcdefghijklmnopqrst" t)
  c_MOST_NAME : ∃ t, mg "MOST_NAME" = some (.int 4 t)
  c_MOST_DEEDS : ∃ t, mg "MOST_DEEDS" = some (.int 4 t)
  c_MOST_PLACES : ∃ t, mg "MOST_PLACES" = some (.int 2 t)
  c_MOST_PARTS : ∃ t, mg "MOST_PARTS" = some (.int 60 t)
  c_MOST_SIDE : ∃ t, mg "MOST_SIDE" = some (.int 12 t)
  c_MOST_LETTERS : ∃ t, mg "MOST_LETTERS" = some (.int 4 t)
  c_MOST_EQUATIONS : ∃ t, mg "MOST_EQUATIONS" = some (.int 8 t)
  c_MOST_SIZE : ∃ t, mg "MOST_SIZE" = some (.int 6 t)
section
variable {X : Cx} {x : Str} {pos : Pos}
theorem pe_gi {i : Int} (hg : Gl X x) (h : ∃ t, X.mg x = some (.int i t)) (hn : x ≠ "__name__" := by decide) (hd : (x == ("__debug__" : Str)) = false := by decide) : PE X (.Name x pos) (tC (.int i)) := by
  obtain ⟨t, e⟩ := h
  exact pe_glob hg e ⟨t, rfl⟩ (hd := hd)
theorem pe_gs {z : Str} (hg : Gl X x) (h : ∃ t, X.mg x = some (.str z t)) (hn : x ≠ "__name__" := by decide) (hd : (x == ("__debug__" : Str)) = false := by decide) : PE X (.Name x pos) (tC (.str z)) := by
  obtain ⟨t, e⟩ := h
  exact pe_glob hg e ⟨t, rfl⟩ (hd := hd)
theorem pe_ty (n : String) (hg : Gl X x) (hm : X.mg x = none) (hv : bootBuiltins x = some (.type n)) (hn : x ≠ "__name__" := by decide) (hd : (x == ("__debug__" : Str)) = false := by decide) : PE X (.Name x pos) (tC (.ty n)) := pe_bltn hg hm hv rfl (hn := hn) (hd := hd)
theorem ip_mul : PIp X .Mult (rI CMul fun i j => .int (i * j)) := iop_mul
end
section
variable {P : Program} {w : World} {K : PySem.W.Frag} {mg : Str → Option Value} {base : Heap}
/-! ### is_whole, is_below, power -/
def sp_is_whole : Sp := spX (fun (i : Int) vs _ => vs = [.int i]) (fun _ v _ => v = .bl true)
theorem c_is_whole (T : Txt mg) (D : Df K mg "is_whole" s_is_whole ["thing"]) : Cl P w K mg base 1 "is_whole" sp_is_whole := by
  refine cl_of (k := 0) D sc_is_whole (fun vs H Q E h => ?_) (fun f cdv A outer s H vs Q E hr h => ?_)
  · obtain ⟨i, rfl, _⟩ := h
    rfl
  · obtain ⟨i, rfl, q⟩ := h
    refine ⟨_, (pss_one (ps_ret (pe_and (pe_callB call_isi (by rfl) T.z_isinstance (by decide +kernel) (pa_cons (pv 0) (pa_cons (pe_ty "int" (by rfl) T.z_int (by decide +kernel)) pa_nil))) (pe_one (pe_not (pe_callB call_isi (by rfl) T.z_isinstance (by decide +kernel) (pa_cons (pv 0) (pa_cons (pe_ty "bool" (by rfl) T.z_bool (by decide +kernel)) pa_nil)))))))), ?_⟩
    exact s_ret (ev_andV (ev_isi (ev_var rfl) ev_c (.ty _) (fun _ _ => tyx_int i) kit_ii) (fun _ => ev_notV (ev_isi (ev_var rfl) ev_c (.ty _) (fun _ _ => tyx_int i) kit_ib))) fun H1 e => q _ H1 e rfl
def sp_is_below : Sp := spX (fun (p : Int × Int) vs _ => vs = [.int p.1, .int p.2] ∧ 0 ≤ p.1 ∧ p.1 < p.2) (fun _ v _ => v = .bl true)
theorem c_is_below (T : Txt mg) (D : Df K mg "is_below" s_is_below ["thing", "size"]) (c_is_whole : Cl P w K mg base 1 "is_whole" sp_is_whole) : Cl P w K mg base 2 "is_below" sp_is_below := by
  refine cl_of (k := 1) D sc_is_below (fun vs H Q E h => ?_) (fun f cdv A outer s H vs Q E hr h => ?_)
  · obtain ⟨p, ⟨rfl, _⟩, _⟩ := h
    rfl
  · obtain ⟨⟨i, n⟩, ⟨rfl, h0, h1⟩, q⟩ := h
    refine ⟨_, (pss_one (ps_ret (pe_and (pe_cl c_is_whole hr (by first | decide | omega) (by rfl) (pa_cons (pv 0) pa_nil)) (pe_one (pe_chain op_le op_lt pe_int (pv 0) (pv 1)))))), ?_⟩
    refine s_ret (ev_andV (ev_callV (v := .bl true) i (ea_cons (ev_var rfl) ea_nil) (fun _ _ => rfl) (fun _ _ p => p)) (fun _ => ev_chain ev_c (ev_var rfl) (fun _ => ev_var rfl) rv_I0 (fun _ => rv_I0))) fun H1 e => q _ H1 e ?_
    show V.bl (true && (decide (0 ≤ i) && decide (i < n))) = _
    rw [decide_eq_true h0, decide_eq_true h1]
    rfl
def sp_power : Sp := spX (fun (p : Nat × Nat) vs _ => vs = [vi p.1, vi p.2] ∧ p.1 ≤ 6 ∧ p.2 ≤ 4) (fun p v _ => v = vi (p.1 ^ p.2))
theorem c_power (T : Txt mg) (D : Df K mg "power" s_power ["base", "many"]) : Cl P w K mg base 1 "power" sp_power := by
  refine cl_of (k := 0) D sc_power (fun vs H Q E h => ?_) (fun f cdv A outer s H vs Q E hr h => ?_)
  · obtain ⟨p, ⟨rfl, _⟩, _⟩ := h
    rfl
  · obtain ⟨⟨b, m⟩, ⟨rfl, hb, hm⟩, q⟩ := h
    refine ⟨_, (pss_cons (ps_set (i := 2) sc_power.nd rfl (.inl rfl) pe_int)
      (pss_cons (ps_for PassesOwn.never (by rfl) (pi_range1 (by rfl) T.z_range (pa_cons (pv 1) pa_nil)) (pg_name (i := 3) sc_power.nd rfl (.inl rfl))
        (pss_one (ps_aug (i := 2) sc_power.nd rfl (.inl rfl) (pv 0) ip_mul)))
      (pss_one (ps_ret (pv 2))))), ?_⟩
    refine q_asg ev_c fun H1 e1 => ?_
    refine q_forR1 (ea_cons (ev_var rfl) ea_nil) (by omega) (fun i σ H' => ∃ y, σ = [some (vi b), some (vi m), some (vi (b ^ i)), y] ∧ Ex H H') (fun H2 e2 => ⟨none, rfl, e1.trans e2⟩) (fun i σ H' hi ⟨y, hσ, e⟩ => ?_) (fun σ H' ⟨y, hσ, e⟩ => ?_)
    · subst hσ
      refine ⟨_, rfl, _, rfl, ((b ^ i : Nat) : Int), (b : Int), rfl, rfl, .inr ⟨by omega, by omega⟩, some (vi i), ?_, e⟩
      show [some (vi b), some (vi m), some (.int (((b ^ i : Nat) : Int) * (b : Int))), some (vi i)] = [some (vi b), some (vi m), some (vi (b ^ (i + 1))), some (vi i)]
      rw [Nat.pow_succ]
      show _ = [some (vi b), some (vi m), some (.int ((b ^ i * b : Nat) : Int)), some (vi i)]
      rw [Int.natCast_mul]
    · subst hσ
      exact s_ret (ev_var rfl) fun H2 e2 => q _ H2 (e.trans e2) rfl
end
end K12
end
section
namespace K12
open PySem PySem.Spec PyProof.Rows L2 Evl Dw M20
section
variable {P : Program} {w : World} {K : PySem.W.Frag} {mg : Str → Option Value} {base : Heap}
theorem ix_tupK {X : Cx} (K : PySem.W.Frag) (h : X.K = K := by rfl) : IxR X (rIxT K) := by
  subst h
  exact ix_tup
/-! ### names, deeds, signatures -/
def letters : Str := "abcdefghijklmnopqrst"
structure Name (z : Str) : Prop where
  l1 : 1 ≤ z.length
  l4 : z.length ≤ 4
  abc : ∀ c ∈ z.cps.toList, c ∈ letters.cps.toList
def sp_is_name : Sp := spX (fun (z : Str) vs _ => vs = [.str z] ∧ Name z) (fun _ v _ => v = .bl true)
theorem c_is_name (T : Txt mg) (D : Df K mg "is_name" s_is_name ["thing"]) : Cl P w K mg base 1 "is_name" sp_is_name := by
  refine cl_of (k := 0) D sc_is_name (fun vs H Q E h => ?_) (fun f cdv A outer s H vs Q E hr h => ?_)
  · obtain ⟨p, ⟨rfl, _⟩, _⟩ := h
    rfl
  · obtain ⟨z, ⟨rfl, hz⟩, q⟩ := h
    refine ⟨_, (pss_cons (ps_if (PW.pt (pw_or (pt_not (pt_val (pe_callB call_isi (by rfl) T.z_isinstance (by decide +kernel) (pa_cons (pv 0) (pa_cons (pe_ty "str" (by rfl) T.z_str (by decide +kernel)) pa_nil))))) (pw_or1 (pt_not (pt_chain op_le op_le pe_int (pe_callB call_len_str (by rfl) T.z_len PySem.boot_len (pa_cons (pv 0) pa_nil)) (pe_gi (by rfl) T.c_MOST_NAME))))))
        (pss_one (ps_ret pe_bl))
        pss_nil)
      (pss_one (ps_ret (pe_callB (cr_all rfl) (by rfl) T.z_all (by decide +kernel) (pa_cons (pe_lc (own := [("sign", 1)]) (g := (gName 1)) (by rfl) sc_is_name.nd (pi_str (pv 0)) (blkOk_by (own := [("sign", 1)]) (N := ["thing", "sign"]) (sc := defScope s_is_name) (by decide +kernel)) (fun _ _ _ _ _ => (pg_name (i := 1) sc_is_name.nd rfl (.inl rfl))) (fun _ _ _ _ _ => pts_nil) (fun _ _ _ _ _ => (pe_cmpR op_in_sign (pv 1) (pe_gs (by rfl) T.c_NAME_LETTERS) (by rfl)))) pa_nil))))), ?_⟩
    have h1 := hz.l1
    have h4 := hz.l4
    have hs : z.cps.size = z.length := rfl
    refine q_when (b := false) (et_is (et_or (et_not (et_val (ev_isi (ev_var rfl) ev_c (.ty _) (fun _ _ => tyx_str z) kit_ss))) (fun _ => et_not (et_test (ev_chain ev_c (ev_lenS (ev_var rfl) (by omega)) (fun _ => ev_c) rv_I0 (fun _ => rv_I0))))) ?_) (fun hb => by cases hb) (fun _ H1 e1 => ?_)
    · show (!true || !(decide ((1 : Int) ≤ (z.length : Int)) && decide ((z.length : Int) ≤ 4))) = false
      rw [decide_eq_true (by omega), decide_eq_true (by omega)]
      rfl
    · refine s_ret (ev_all (bs := List.replicate z.cps.size true) ?_) fun H2 e2 => q _ H2 (e1.trans e2) ?_
      · have e : (List.replicate z.cps.size true).map V.bl = (List.range z.cps.size).map (fun _ => V.bl true) := by
          rw [List.map_const', List.length_range, List.map_replicate]
        rw [e]
        refine el_lcS (ev_var rfl) (fun _ => .bl true) (by omega) (fun _ => rfl) (fun i c H2 e2 hc => ?_)
        refine ev_op (ev_var rfl) ev_c ?_
        have hm : c ∈ letters.cps.toList := hz.abc c (by
          obtain ⟨hi, e⟩ := Array.getElem?_eq_some_iff.mp hc
          rw [← e]
          exact Array.getElem_mem_toList hi)
        exact fun H3 _ Q q3 => ⟨c, letters, rfl, rfl, by rw [decide_eq_true hm]; exact q3 H3 (Ex.refl H3)⟩
      · show V.bl ((List.replicate z.cps.size true).all id) = V.bl true
        rw [show (List.replicate z.cps.size true).all id = true from List.all_eq_true.mpr (fun b hb => (List.mem_replicate.mp hb).2)]
def sp_is_deed (K : PySem.W.Frag) : Sp := spX (fun (p : Str × Nat) vs H => (∃ v, vs = [v] ∧ Deed K H v p) ∧ Name p.1 ∧ p.2 ≤ 2) (fun _ v _ => v = .bl true)
theorem c_is_deed (T : Txt mg) (D : Df K mg "is_deed" s_is_deed ["thing"]) (c_is_name : Cl P w K mg base 1 "is_name" sp_is_name) (c_is_below : Cl P w K mg base 2 "is_below" sp_is_below) : Cl P w K mg base 3 "is_deed" (sp_is_deed K) := by
  refine cl_of (k := 2) D sc_is_deed (fun vs H Q E h => ?_) (fun f cdv A outer s H vs Q E hr h => ?_)
  · obtain ⟨p, ⟨⟨v, rfl, _⟩, _⟩, _⟩ := h
    rfl
  · obtain ⟨⟨z, p⟩, ⟨⟨v, rfl, b, rfl, hb⟩, hz, hp⟩, q⟩ := h
    refine ⟨_, (pss_one (ps_ret (pe_and (pe_callB call_isi (by rfl) T.z_isinstance (by decide +kernel) (pa_cons (pv 0) (pa_cons (pe_ty "tuple" (by rfl) T.z_tuple (by decide +kernel)) pa_nil))) (pe_and (pe_cmpR op_eq (pe_callB call_len_seq (by rfl) T.z_len PySem.boot_len (pa_cons (pv 0) pa_nil)) pe_int (nomark _)) (pe_and (pe_cl c_is_name hr (by first | decide | omega) (by rfl) (pa_cons (pe_ix ix_tup (pv 0) pe_int (fun _ _ => rfl)) pa_nil)) (pe_one (pe_cl c_is_below hr (by first | decide | omega) (by rfl) (pa_cons (pe_ix ix_tup (pv 0) pe_int (fun _ _ => rfl)) (pa_cons (pe_op op_add (pe_gi (by rfl) T.c_MOST_PLACES) pe_int) pa_nil))))))))), ?_⟩
    refine s_ret (ev_andV (ev_isi (ev_var rfl) ev_c (.ty _) (fun _ e => tyx_tup (ex_t e hb)) kit_tt) (fun _ => ev_andV (ev_op (ev_lenT (ev_var rfl) hb) ev_c (rv_eq rfl)) (fun _ =>
      ev_andV (ev_callV (v := .bl true) z (ea_cons (ev_op (ev_var rfl) ev_c (rv_ixT hb (atI_vi (k := 0) rfl))) ea_nil) (fun _ _ => ⟨rfl, hz⟩) (fun _ _ p => p)) (fun _ =>
        ev_callV (v := .bl true) (((p : Nat) : Int), (3 : Int)) (ea_cons (ev_op (ev_var rfl) ev_c (rv_ixT hb (atI_vi (k := 1) rfl))) (ea_cons (ev_op ev_c ev_c rv_I0) ea_nil)) (fun _ _ => ⟨rfl, by show (0 : Int) ≤ (p : Int); omega, by show (p : Int) < 3; have : p ≤ 2 := hp; omega⟩) (fun _ _ p => p))))) fun H1 e => q _ H1 e rfl
/-- a signature as the law draws it -/
structure SigOk (sg : List (Str × Nat)) : Prop where
  l1 : 1 ≤ sg.length
  l4 : sg.length ≤ 4
  nm : ∀ p ∈ sg, Name p.1
  pl : ∀ p ∈ sg, p.2 ≤ 2
  nd : (sg.map (·.1)).Nodup
def sp_signature_wrong (K : PySem.W.Frag) : Sp := spX (fun (sg : List (Str × Nat)) vs H => (∃ v, vs = [v] ∧ Sig K H v sg) ∧ SigOk sg) (fun _ v _ => v = .non)
theorem c_signature_wrong (T : Txt mg) (D : Df K mg "signature_wrong" s_signature_wrong ["thing"]) (c_is_deed : Cl P w K mg base 3 "is_deed" (sp_is_deed K)) : Cl P w K mg base 4 "signature_wrong" (sp_signature_wrong K) := by
  refine cl_of (k := 3) D sc_signature_wrong (fun vs H Q E h => ?_) (fun f cdv A outer s H vs Q E hr h => ?_)
  · obtain ⟨p, ⟨⟨v, rfl, _⟩, _⟩, _⟩ := h
    rfl
  · obtain ⟨sg, ⟨⟨v, rfl, a, us, rfl, hS, hP⟩, ok⟩, q⟩ := h
    refine ⟨_, (pss_cons (ps_if (PW.pt (pw_or (pt_not (pt_val (pe_callB call_isi (by rfl) T.z_isinstance (by decide +kernel) (pa_cons (pv 0) (pa_cons (pe_ty "tuple" (by rfl) T.z_tuple (by decide +kernel)) pa_nil))))) (pw_or1 (pt_not (pt_chain op_le op_le pe_int (pe_callB call_len_seq (by rfl) T.z_len PySem.boot_len (pa_cons (pv 0) pa_nil)) (pe_gi (by rfl) T.c_MOST_DEEDS))))))
        (pss_one (ps_ret (pe_tup (pa_cons pe_str pa_nil))))
        pss_nil)
      (pss_cons (ps_for PassesOwn.never (by rfl) (pi_enumT (by rfl) T.z_enumerate (pa_cons (pv 0) pa_nil)) (pg_tup (by rfl) (pgs_cons (pg_name (i := 1) sc_signature_wrong.nd rfl (.inl rfl)) (pgs_cons (pg_name (i := 2) sc_signature_wrong.nd rfl (.inl rfl)) pgs_nil)))
        (pss_one (ps_if (pt_not (pt_val (pe_cl c_is_deed hr (by first | decide | omega) (by rfl) (pa_cons (pv 2) pa_nil))))
          (pss_one (ps_ret (pe_tup (pa_cons pe_str (pa_cons (pv 1) pa_nil)))))
          pss_nil)))
      (pss_cons (ps_setLc (i := 3) (own := [("deed", 2)]) (g := (gName 2)) (by rfl) sc_signature_wrong.nd rfl rfl (sw_true rfl rfl rfl (by decide +kernel)) (pi_tup (pv 0)) (blkOk_by (own := [("deed", 2)]) (N := ["thing", "k", "deed", "names", "name"]) (sc := defScope s_signature_wrong) (by decide +kernel)) (fun _ _ _ _ _ => (pg_name (i := 2) sc_signature_wrong.nd rfl (.inl rfl))) (fun _ _ _ _ _ => pts_nil) (fun _ _ _ _ _ => (pe_ix (ix_tupK K) (pv 2) pe_int (fun _ _ => rfl))))
      (pss_cons (ps_for PassesOwn.never (by rfl) (pi_enum (by rfl) T.z_enumerate (pa_cons (pv 3) pa_nil)) (pg_tup (by rfl) (pgs_cons (pg_name (i := 1) sc_signature_wrong.nd rfl (.inl rfl)) (pgs_cons (pg_name (i := 4) sc_signature_wrong.nd rfl (.inl rfl)) pgs_nil)))
        (pss_one (ps_if (pt_cmpR op_in_seq (pv 4) (pe_slice sl_list (pv 3) po_none (po_some (pv 1))) (by rfl))
          (pss_one (ps_ret (pe_tup (pa_cons pe_str (pa_cons (pv 1) pa_nil)))))
          pss_nil)))
      (pss_one (ps_ret pe_non)))))), ?_⟩
    have h1 := ok.l1
    have h4 := ok.l4
    have hl : us.length = sg.length := paired_len hP
    refine q_when (b := false) (et_is (et_or (et_not (et_val (ev_isi (ev_var rfl) ev_c (.ty _) (fun _ e => tyx_tup (ex_t e hS)) kit_tt))) (fun _ => et_not (et_test (ev_chain ev_c (ev_lenT (ev_var rfl) hS) (fun _ => ev_c) rv_I0 (fun _ => rv_I0))))) ?_) (fun hb => by cases hb) (fun _ H1 e1 => ?_)
    · show (!true || !(decide ((1 : Int) ≤ (us.length : Int)) && decide ((us.length : Int) ≤ 4))) = false
      rw [decide_eq_true (by omega), decide_eq_true (by omega)]
      rfl
    -- each is a deed
    refine q_enumT (ea_cons (ev_var rfl) ea_nil) (ex_t e1 hS) (fun i σ H' => Ex H H' ∧ ∃ y1 y2, σ = [some (.ref a), y1, y2, none, none]) (fun H2 e2 => ⟨e1.trans e2, none, none, rfl⟩) (fun i σ H' _ ⟨e, _⟩ => ex_t e hS) (fun i x σ H2 H3 hx ⟨e, y1, y2, hσ⟩ e3 => ?_) (fun σ H2 ⟨e2, y1, y2, hσ⟩ => ?_)
    · subst hσ
      have hi : i < sg.length := by rw [← hl]; exact (List.getElem?_eq_some_iff.mp hx).1
      obtain ⟨x', ex', dx⟩ := paired_get hP (List.getElem?_eq_getElem hi)
      have : x' = x := Option.some.inj (ex'.symm.trans hx)
      subst this
      have hm : sg[i] ∈ sg := List.getElem_mem hi
      have e03 : Ex H H3 := e.trans e3
      refine s_when (b := false) (et_is (et_not (et_val (ev_callV (v := .bl true) sg[i] (ea_cons (ev_var rfl) ea_nil) (fun H4 e4 => ⟨⟨_, rfl, dx.et (Dw.Ex.et (e03.trans e4))⟩, ok.nm _ hm, ok.pl _ hm⟩) (fun _ _ p => p)))) rfl) (fun hb => by cases hb) (fun _ H4 e4 => ⟨e03.trans e4, _, _, rfl⟩)
    · subst hσ
      -- the names
      have names : EvL (tLc (iTup K (tVar 0)) (gName 2) tYes (tOp (rIxT K) (tVar 2) (tC (.int 0))) [2]) [some (.ref a), y1, y2, none, none] H2 ((List.range us.length).map fun i => .str (sg.getD i ("", 0)).1) := by
        refine el_lcT (ev_var rfl) (ex_t e2 hS) _ (by omega) (fun _ => rfl) (fun i x H3 e3 hx => ?_)
        have hi : i < sg.length := by rw [← hl]; exact (List.getElem?_eq_some_iff.mp hx).1
        obtain ⟨x', ex', b, hb, hd⟩ := paired_get hP (List.getElem?_eq_getElem hi)
        have : x' = x := Option.some.inj (ex'.symm.trans hx)
        subst this
        subst hb
        rw [List.getD_eq_getElem?_getD, List.getElem?_eq_getElem hi]
        exact ev_op (ev_var rfl) ev_c (rv_ixT (ex_t (e2.trans e3) hd) (atI_vi (k := 0) rfl))
      rw [hl] at names
      have eN : ((List.range sg.length).map fun i => V.str (sg.getD i ("", 0)).1) = (sg.map (·.1)).map V.str := by
        apply List.ext_getElem?
        intro i
        by_cases hi : i < sg.length
        · rw [List.getElem?_map, List.getElem?_range hi, List.getElem?_map, List.getElem?_map, List.getElem?_eq_getElem hi]
          show some (V.str (sg.getD i ("", 0)).1) = some (V.str sg[i].1)
          rw [List.getD_eq_getElem?_getD, List.getElem?_eq_getElem hi]
          rfl
        · rw [List.getElem?_eq_none_iff.mpr (by simp; omega), List.getElem?_eq_none_iff.mpr (by simp; omega)]
      rw [eN] at names
      refine q_asgL names fun p H3 np e3 hp => ?_
      have e03 : Ex H H3 := e2.trans e3
      refine q_enumL (K := K) (ea_cons (ev_var rfl) ea_nil) (sq_of hp) (fun i σ H' => Ex H3 H' ∧ ∃ z1 z4, σ = [some (.ref a), z1, y2, some (.ref p), z4]) (fun H4 e4 => ⟨e4, _, _, rfl⟩) (fun i σ H' _ ⟨e, _⟩ => ex_l e (sq_of hp)) (fun i x σ H4 H5 hx ⟨e4, z1, z4, hσ⟩ e5 => ?_) (fun σ H4 ⟨e4, z1, z4, hσ⟩ => ?_)
      · subst hσ
        have hi : i < (sg.map (·.1)).length := by simpa using (List.getElem?_eq_some_iff.mp hx).1
        have ex : x = .str (sg.map (·.1))[i] := by
          rw [List.getElem?_map, List.getElem?_eq_getElem hi] at hx
          exact (Option.some.inj hx).symm
        subst ex
        have cut : cutV ((sg.map (·.1)).map V.str) none (some (i : Int)) = ((sg.map (·.1)).take i).map V.str := by
          unfold cutV
          rw [HT.sIx_none, HT.sIx_nat, List.length_map, Nat.sub_zero, List.drop_zero, ← List.map_take, Nat.min_eq_left (Nat.le_of_lt hi)]
        have flat : (((sg.map (·.1)).take i).map V.str).all flatV = true := List.all_eq_true.mpr (fun v hv => by
          obtain ⟨z, _, rfl⟩ := List.mem_map.mp hv
          rfl)
        have out : inV (.str (sg.map (·.1))[i]) (((sg.map (·.1)).take i).map V.str) = false := by
          unfold inV
          rw [List.any_eq_false]
          intro v hv
          obtain ⟨z, hz, rfl⟩ := List.mem_map.mp hv
          show ¬ (z == (sg.map (·.1))[i]) = true
          intro he
          have he' : z = (sg.map (·.1))[i] := eq_of_beq he
          obtain ⟨j, hj, ej⟩ := List.mem_take_iff_getElem.mp hz
          have hji : j < i := by omega
          have := (List.getElem_inj ok.nd).mp (ej.trans he')
          omega
        have eL : Ex H3 H5 := e4.trans e5
        have sl : EvL (tSl (rSlL K) (tVar 3) tNoPart (tPart (tVar 1))) [some (.ref a), some (vi i), y2, some (.ref p), some (.str (sg.map (·.1))[i])] H5 (((sg.map (·.1)).take i).map V.str) := by
          rw [← cut]
          exact el_sl (ev_var rfl) eo_none (eo_some (ev_var rfl)) (ex_l eL (sq_of hp))
        exact s_when (b := false) (et_is (et_test (ev_opL (ev_var rfl) sl (fun r H6 hr6 _ => rv_isL (sq_of hr6) rfl flat))) out) (fun hb => by cases hb) (fun _ H6 e6 => ⟨eL.trans e6, _, _, rfl⟩)
      · subst hσ
        exact s_ret ev_c fun H5 e5 => q _ H5 ((e03.trans e4).trans e5) rfl
def sp_need_signature (K : PySem.W.Frag) : Sp := spX (fun (sg : List (Str × Nat)) vs H => (∃ v, vs = [v] ∧ Sig K H v sg) ∧ SigOk sg) (fun _ v _ => v = .non)
theorem c_need_signature (T : Txt mg) (D : Df K mg "need_signature" s_need_signature ["signature"]) (c_signature_wrong : Cl P w K mg base 4 "signature_wrong" (sp_signature_wrong K)) : Cl P w K mg base 5 "need_signature" (sp_need_signature K) := by
  refine cl_of (k := 4) D sc_need_signature (fun vs H Q E h => ?_) (fun f cdv A outer s H vs Q E hr h => ?_)
  · obtain ⟨p, ⟨⟨v, rfl, _⟩, _⟩, _⟩ := h
    rfl
  · obtain ⟨sg, ⟨⟨v, rfl, hS⟩, ok⟩, q⟩ := h
    refine ⟨_, (pss_one (ps_if (pt_cmpR op_notN (pe_cl c_signature_wrong hr (by first | decide | omega) (by rfl) (pa_cons (pv 0) pa_nil)) pe_non (nomark _))
        (pss_one ps_never)
        pss_nil)), ?_⟩
    exact s_when (b := false) (et_is (et_isN (ev_callV (v := .non) sg (ea_cons (ev_var rfl) ea_nil) (fun H1 e1 => ⟨⟨_, rfl, hS.ex e1⟩, ok⟩) (fun _ _ p => p))) rfl) (fun hb => by cases hb) (fun _ H1 e1 => q _ H1 e1 rfl)
/-! ### models looked at -/
def sp_is_size : Sp := spX (fun (n : Nat) vs _ => vs = [vi n] ∧ 1 ≤ n ∧ n ≤ 6) (fun _ v _ => v = .bl true)
theorem c_is_size (T : Txt mg) (D : Df K mg "is_size" s_is_size ["thing"]) (c_is_whole : Cl P w K mg base 1 "is_whole" sp_is_whole) : Cl P w K mg base 2 "is_size" sp_is_size := by
  refine cl_of (k := 1) D sc_is_size (fun vs H Q E h => ?_) (fun f cdv A outer s H vs Q E hr h => ?_)
  · obtain ⟨p, ⟨rfl, _⟩, _⟩ := h
    rfl
  · obtain ⟨n, ⟨rfl, h1, h6⟩, q⟩ := h
    refine ⟨_, (pss_one (ps_ret (pe_and (pe_cl c_is_whole hr (by first | decide | omega) (by rfl) (pa_cons (pv 0) pa_nil)) (pe_one (pe_chain op_le op_le pe_int (pv 0) (pe_gi (by rfl) T.c_MOST_SIZE)))))), ?_⟩
    refine s_ret (ev_andV (ev_callV (v := .bl true) (n : Int) (ea_cons (ev_var rfl) ea_nil) (fun _ _ => rfl) (fun _ _ p => p)) (fun _ => ev_chain ev_c (ev_var rfl) (fun _ => ev_c) rv_I0 (fun _ => rv_I0))) fun H1 e => q _ H1 e ?_
    show V.bl (true && (decide ((1 : Int) ≤ (n : Int)) && decide ((n : Int) ≤ 6))) = _
    rw [decide_eq_true (by omega), decide_eq_true (by omega)]
    rfl
def sp_first_odd_cell (K : PySem.W.Frag) : Sp := spX (fun (p : Nat × List (List Nat)) vs H => (∃ v, vs = [vi p.1, v] ∧ Tabs K H v p.2) ∧ ∀ t ∈ p.2, ∀ k ∈ t, k < p.1) (fun _ v _ => v = .non)
theorem c_first_odd_cell (T : Txt mg) (D : Df K mg "first_odd_cell" s_first_odd_cell ["size", "tables"]) (c_is_below : Cl P w K mg base 2 "is_below" sp_is_below) : Cl P w K mg base 3 "first_odd_cell" (sp_first_odd_cell K) := by
  refine cl_of (k := 2) D sc_first_odd_cell (fun vs H Q E h => ?_) (fun f cdv A outer s H vs Q E hr h => ?_)
  · obtain ⟨p, ⟨⟨v, rfl, _⟩, _⟩, _⟩ := h
    rfl
  · obtain ⟨⟨n, ts⟩, ⟨⟨v, rfl, a, us, rfl, hS, hP⟩, low⟩, q⟩ := h
    refine ⟨_, (pss_cons (ps_for PassesOwn.never (by rfl) (pi_enumT (by rfl) T.z_enumerate (pa_cons (pv 1) pa_nil)) (pg_tup (by rfl) (pgs_cons (pg_name (i := 2) sc_first_odd_cell.nd rfl (.inl rfl)) (pgs_cons (pg_name (i := 3) sc_first_odd_cell.nd rfl (.inl rfl)) pgs_nil)))
        (pss_one (ps_for PassesOwn.never (by rfl) (pi_enumT (by rfl) T.z_enumerate (pa_cons (pv 3) pa_nil)) (pg_tup (by rfl) (pgs_cons (pg_name (i := 4) sc_first_odd_cell.nd rfl (.inl rfl)) (pgs_cons (pg_name (i := 5) sc_first_odd_cell.nd rfl (.inl rfl)) pgs_nil)))
          (pss_one (ps_if (pt_not (pt_val (pe_cl c_is_below hr (by first | decide | omega) (by rfl) (pa_cons (pv 5) (pa_cons (pv 0) pa_nil)))))
            (pss_one (ps_ret (pe_tup (pa_cons (pv 2) (pa_cons (pv 4) pa_nil)))))
            pss_nil)))))
      (pss_one (ps_ret pe_non))), ?_⟩
    refine q_enumT (ea_cons (ev_var rfl) ea_nil) hS (fun i σ H' => Ex H H' ∧ ∃ y2 y3 y4 y5, σ = [some (vi n), some (.ref a), y2, y3, y4, y5]) (fun H2 e2 => ⟨e2, none, none, none, none, rfl⟩) (fun i σ H' _ ⟨e, _⟩ => ex_t e hS) (fun i x σ H2 H3 hx ⟨e, y2, y3, y4, y5, hσ⟩ e3 => ?_) (fun σ H2 ⟨e2, _, _, _, _, hσ⟩ => ?_)
    · subst hσ
      have hi : i < ts.length := by rw [← paired_len hP]; exact (List.getElem?_eq_some_iff.mp hx).1
      obtain ⟨x', ex', b, hb, hd⟩ := paired_get hP (List.getElem?_eq_getElem hi)
      have : x' = x := Option.some.inj (ex'.symm.trans hx)
      subst this
      subst hb
      have e03 : Ex H H3 := e.trans e3
      refine s_enumT (ea_cons (ev_var rfl) ea_nil) (ex_t e03 hd) (fun j σ H' => Ex H H' ∧ ∃ y4 y5, σ = [some (vi n), some (.ref a), some (vi i), some (.ref b), y4, y5]) (fun H4 e4 => ⟨e03.trans e4, _, _, rfl⟩) (fun j σ H' _ ⟨e, _⟩ => ex_t e hd) (fun j y σ H4 H5 hy ⟨e4, z4, z5, hσ⟩ e5 => ?_) (fun σ H4 ⟨e4, z4, z5, hσ⟩ => ?_)
      · subst hσ
        have hj : j < ts[i].length := by simpa using (List.getElem?_eq_some_iff.mp hy).1
        have ey : y = vi ts[i][j] := by
          rw [List.getElem?_map, List.getElem?_eq_getElem hj] at hy
          exact (Option.some.inj hy).symm
        subst ey
        have lo : ts[i][j] < n := low _ (List.getElem_mem hi) _ (List.getElem_mem hj)
        exact s_when (b := false) (et_is (et_not (et_val (ev_callV (v := .bl true) (((ts[i][j] : Nat) : Int), (n : Int)) (ea_cons (ev_var rfl) (ea_cons (ev_var rfl) ea_nil)) (fun H4 e4 => ⟨rfl, by show (0 : Int) ≤ ((ts[i][j] : Nat) : Int); omega, by show ((ts[i][j] : Nat) : Int) < (n : Int); omega⟩) (fun _ _ p => p)))) rfl) (fun hb => by cases hb) (fun _ H6 e6 => ⟨(e4.trans e5).trans e6, _, _, rfl⟩)
      · subst hσ
        exact ⟨e4, _, _, _, _, rfl⟩
    · subst hσ
      exact s_ret ev_c fun H3 e3 => q _ H3 (e2.trans e3) rfl
/-- a model of a signature, as tables of natural numbers -/
structure MdlOk (sg : List (Str × Nat)) (n : Nat) (ts : List (List Nat)) : Prop where
  n1 : 1 ≤ n
  n6 : n ≤ 6
  len : ts.length = sg.length
  tab : ∀ i (h1 : i < sg.length) (h2 : i < ts.length), Tab n sg[i].2 ts[i]
theorem MdlOk.low {sg : List (Str × Nat)} {n : Nat} {ts : List (List Nat)} (m : MdlOk sg n ts) : ∀ t ∈ ts, ∀ k ∈ t, k < n := by
  intro t ht k hk
  obtain ⟨i, hi, e⟩ := List.mem_iff_getElem.mp ht
  subst e
  have tb := m.tab i (by rw [← m.len]; exact hi) hi
  obtain ⟨j, hj, e⟩ := List.mem_iff_getElem.mp hk
  have h := tb.low j (by rw [← tb.len]; exact hj)
  have g1 := g_eq hj
  rw [List.getElem?_eq_getElem hj, e] at g1
  rw [← Option.some.inj g1] at h
  exact h
def sp_model_wrong (K : PySem.W.Frag) : Sp := spX (fun (p : List (Str × Nat) × Nat × List (List Nat)) vs H => (∃ u v, vs = [u, v] ∧ Sig K H u p.1 ∧ Mdl K H v p.2.1 p.2.2) ∧ SigOk p.1 ∧ MdlOk p.1 p.2.1 p.2.2) (fun _ v _ => v = .non)
theorem c_model_wrong (T : Txt mg) (D : Df K mg "model_wrong" s_model_wrong ["signature", "thing"]) (c_need_signature : Cl P w K mg base 5 "need_signature" (sp_need_signature K)) (c_is_size : Cl P w K mg base 2 "is_size" sp_is_size)
    (c_power : Cl P w K mg base 1 "power" sp_power) (c_first_odd_cell : Cl P w K mg base 3 "first_odd_cell" (sp_first_odd_cell K)) : Cl P w K mg base 6 "model_wrong" (sp_model_wrong K) := by
  refine cl_of (k := 5) D sc_model_wrong (fun vs H Q E h => ?_) (fun f cdv A outer s H vs Q E hr h => ?_)
  · obtain ⟨p, ⟨⟨u, v, rfl, _⟩, _⟩, _⟩ := h
    rfl
  · obtain ⟨⟨sg, n, ts⟩, ⟨⟨u, v, rfl, hG, hM⟩, sok, mok⟩, q⟩ := h
    refine ⟨_, (pss_cons (ps_expr (pe_cl c_need_signature hr (by first | decide | omega) (by rfl) (pa_cons (pv 0) pa_nil)))
      (pss_cons (ps_if (PW.pt (pw_or (pt_not (pt_val (pe_callB call_isi (by rfl) T.z_isinstance (by decide +kernel) (pa_cons (pv 1) (pa_cons (pe_ty "tuple" (by rfl) T.z_tuple (by decide +kernel)) pa_nil))))) (pw_or1 (pt_cmpR op_ne (pe_callB call_len_seq (by rfl) T.z_len PySem.boot_len (pa_cons (pv 1) pa_nil)) pe_int (nomark _)))))
        (pss_one (ps_ret (pe_tup (pa_cons pe_str pa_nil))))
        pss_nil)
      (pss_cons (ps_asg (pv 1) (pg_tup (by rfl) (pgs_cons (pg_name (i := 2) sc_model_wrong.nd rfl (.inl rfl)) (pgs_cons (pg_name (i := 3) sc_model_wrong.nd rfl (.inl rfl)) pgs_nil))))
      (pss_cons (ps_if (pt_not (pt_val (pe_cl c_is_size hr (by first | decide | omega) (by rfl) (pa_cons (pv 2) pa_nil))))
        (pss_one (ps_ret (pe_tup (pa_cons pe_str pa_nil))))
        pss_nil)
      (pss_cons (ps_if (PW.pt (pw_or (pt_not (pt_val (pe_callB call_isi (by rfl) T.z_isinstance (by decide +kernel) (pa_cons (pv 3) (pa_cons (pe_ty "tuple" (by rfl) T.z_tuple (by decide +kernel)) pa_nil))))) (pw_or1 (pt_cmpR op_ne (pe_callB call_len_seq (by rfl) T.z_len PySem.boot_len (pa_cons (pv 3) pa_nil)) (pe_callB call_len_seq (by rfl) T.z_len PySem.boot_len (pa_cons (pv 0) pa_nil)) (nomark _)))))
        (pss_one (ps_ret (pe_tup (pa_cons pe_str pa_nil))))
        pss_nil)
      (pss_cons (ps_for PassesOwn.never (by rfl) (pi_enumT (by rfl) T.z_enumerate (pa_cons (pv 0) pa_nil)) (pg_tup (by rfl) (pgs_cons (pg_name (i := 4) sc_model_wrong.nd rfl (.inl rfl)) (pgs_cons (pg_name (i := 5) sc_model_wrong.nd rfl (.inl rfl)) pgs_nil)))
        (pss_one (ps_if (PW.pt (pw_or (pt_not (pt_val (pe_callB call_isi (by rfl) T.z_isinstance (by decide +kernel) (pa_cons (pe_ix ix_tup (pv 3) (pv 4) (fun _ _ => rfl)) (pa_cons (pe_ty "tuple" (by rfl) T.z_tuple (by decide +kernel)) pa_nil))))) (pw_or1 (pt_cmpR op_ne (pe_callB call_len_seq (by rfl) T.z_len PySem.boot_len (pa_cons (pe_ix ix_tup (pv 3) (pv 4) (fun _ _ => rfl)) pa_nil)) (pe_cl c_power hr (by first | decide | omega) (by rfl) (pa_cons (pv 2) (pa_cons (pe_ix ix_tup (pv 5) pe_int (fun _ _ => rfl)) pa_nil))) (nomark _)))))
          (pss_one (ps_ret (pe_tup (pa_cons pe_str (pa_cons (pv 4) pa_nil)))))
          pss_nil)))
      (pss_cons (ps_set (i := 6) sc_model_wrong.nd rfl (.inl rfl) (pe_cl c_first_odd_cell hr (by first | decide | omega) (by rfl) (pa_cons (pv 2) (pa_cons (pv 3) pa_nil))))
      (pss_one (ps_ret (pe_ifExp (pt_cmpR op_isN (pv 6) pe_non (nomark _)) pe_non (pe_tup (pa_cons pe_str (pa_cons (pe_ix ix_tup (pv 6) pe_int (fun _ _ => rfl)) (pa_cons (pe_ix ix_tup (pv 6) pe_int (fun _ _ => rfl)) pa_nil)))))))))))))), ?_⟩
    obtain ⟨a, us, rfl, hS, hP⟩ := id hG
    obtain ⟨b, tv, rfl, hB, c, tvs, rfl, hC, hT⟩ := id hM
    have n1 := mok.n1
    have n6 := mok.n6
    have lS : us.length = sg.length := paired_len hP
    have lT : tvs.length = ts.length := paired_len hT
    have lM : ts.length = sg.length := mok.len
    refine q_drop (ev_callV (v := .non) sg (ea_cons (ev_var rfl) ea_nil) (fun H1 e1 => ⟨⟨_, rfl, hG.ex e1⟩, sok⟩) (fun _ _ p => p)) fun H1 e1 => ?_
    refine q_when (b := false) (et_is (et_or (et_not (et_val (ev_isi (ev_var rfl) ev_c (.ty _) (fun _ e => tyx_tup (ex_t (e1.trans e) hB)) kit_tt))) (fun _ => et_test (ev_op (ev_lenT (ev_var rfl) (ex_t e1 hB)) ev_c (rv_ne rfl)))) rfl) (fun hb => by cases hb) (fun _ H2 e2 => ?_)
    have e02 := e1.trans e2
    -- size, tables = thing
    refine ⟨.ref b, rfl, b, _, rfl, ex_t e02 hB, rfl, _, _, rfl, _, _, rfl, rfl, ?_⟩
    refine q_when (b := false) (et_is (et_not (et_val (ev_callV (v := .bl true) n (ea_cons (ev_var rfl) ea_nil) (fun _ _ => ⟨rfl, n1, n6⟩) (fun _ _ p => p)))) rfl) (fun hb => by cases hb) (fun _ H3 e3 => ?_)
    have e03 := e02.trans e3
    refine q_when (b := false) (et_is (et_or (et_not (et_val (ev_isi (ev_var rfl) ev_c (.ty _) (fun _ e => tyx_tup (ex_t (e03.trans e) hC)) kit_tt))) (fun _ => et_test (ev_op (ev_lenT (ev_var rfl) (ex_t e03 hC)) (ev_lenT (ev_var rfl) (ex_t e03 hS)) (rv_ne rfl)))) ?_) (fun hb => by cases hb) (fun _ H4 e4 => ?_)
    · show (!true || !decide (V.int (tvs.length : Int) = V.int (us.length : Int))) = false
      rw [lT, lS, lM, decide_eq_true rfl]
      rfl
    have e04 := e03.trans e4
    refine q_enumT (ea_cons (ev_var rfl) ea_nil) (ex_t e04 hS) (fun i σ H' => Ex H H' ∧ ∃ y4 y5, σ = [some (.ref a), some (.ref b), some (vi n), some (.ref c), y4, y5, none]) (fun H5 e5 => ⟨e04.trans e5, none, none, rfl⟩) (fun i σ H' _ ⟨e, _⟩ => ex_t e hS) (fun i x σ H5 H6 hx ⟨e, y4, y5, hσ⟩ e6 => ?_) (fun σ H5 ⟨e5, y4, y5, hσ⟩ => ?_)
    · subst hσ
      have hi : i < sg.length := by rw [← lS]; exact (List.getElem?_eq_some_iff.mp hx).1
      have hi2 : i < ts.length := by rw [lM]; exact hi
      obtain ⟨x', ex', d, hd, dd⟩ := paired_get hP (List.getElem?_eq_getElem hi)
      have : x' = x := Option.some.inj (ex'.symm.trans hx)
      subst this
      subst hd
      obtain ⟨y', ey', r, hr', rr⟩ := paired_get hT (List.getElem?_eq_getElem hi2)
      subst hr'
      have e06 : Ex H H6 := e.trans e6
      have tb := mok.tab i hi hi2
      have p2 : sg[i].2 ≤ 2 := sok.pl _ (List.getElem_mem hi)
      have tk : Ev (tOp (rIxT K) (tVar 3) (tVar 4)) [some (.ref a), some (.ref b), some (vi n), some (.ref c), some (vi i), some (.ref d), none] H6 (.ref r) := ev_op (ev_var rfl) (ev_var rfl) (rv_ixT (ex_t e06 hC) (atI_vi ey'))
      refine s_when (b := false) (et_is (et_or (et_not (et_val (ev_isi tk ev_c (.ty _) (fun _ e => tyx_tup (ex_t (e06.trans e) rr)) kit_tt))) (fun _ => et_test (ev_op (ev_lenT tk (ex_t e06 rr)) (ev_callV (v := vi (n ^ sg[i].2)) (n, sg[i].2) (ea_cons (ev_var rfl) (ea_cons (ev_op (ev_var rfl) ev_c (rv_ixT (ex_t e06 dd) (atI_vi (k := 1) rfl))) ea_nil)) (fun _ _ => ⟨rfl, n6, Nat.le_trans p2 (by decide)⟩) (fun _ _ p => p)) (rv_ne rfl)))) ?_) (fun hb => by cases hb) (fun _ H7 e7 => ⟨e06.trans e7, _, _, rfl⟩)
      show (!true || !decide (V.int (((ts[i].map vi).length : Nat) : Int) = vi (n ^ sg[i].2))) = false
      rw [List.length_map, tb.len, decide_eq_true rfl]
      rfl
    · subst hσ
      refine q_asg (ev_callV (v := .non) (n, ts) (ea_cons (ev_var rfl) (ea_cons (ev_var rfl) ea_nil)) (fun H6 e6 => ⟨⟨_, rfl, c, tvs, rfl, ex_t (e5.trans e6) hC, paired_imp (fun _ _ z => z.ex (e5.trans e6)) hT⟩, mok.low⟩) (fun _ _ p => p)) fun H6 e6 => ?_
      refine s_ret (ev_if (b := true) ?_ (fun _ => ev_c) (fun hb => by cases hb)) fun H7 e7 => q _ H7 ((e5.trans e6).trans e7) rfl
      exact fun H7 e7 Q q => ⟨_, rfl, rfl, _, rfl, q H7 (Ex.refl H7)⟩
end
end K12
end
section
namespace K12
open PySem PySem.Spec PyProof.Rows L2 Evl Dw M20
/-! ### terms -/
inductive Tm where
  | var (x : Str)
  | deed (f : Str) (ts : List Tm)
mutual
def Tm.sz : Tm → Nat
  | .var _ => 1
  | .deed _ ts => 1 + szs ts
def szs : List Tm → Nat
  | [] => 0
  | t :: ts => t.sz + szs ts
end
mutual
/-- the variables, at each place -/
def Tm.ls : Tm → List Str
  | .var x => [x]
  | .deed _ ts => lss ts
def lss : List Tm → List Str
  | [] => []
  | t :: ts => t.ls ++ lss ts
end
mutual
def TmV (K : PySem.W.Frag) (H : Hp) : Tm → V → Prop
  | .var x => fun v => ∃ a, v = .ref a ∧ SqT K H a [.str "var", .str x]
  | .deed f ts => fun v => ∃ a b vs, v = .ref a ∧ SqT K H a [.str "deed", .str f, .ref b] ∧ SqT K H b vs ∧ TmsV K H ts vs
def TmsV (K : PySem.W.Frag) (H : Hp) : List Tm → List V → Prop
  | [] => fun vs => vs = []
  | t :: ts => fun vs => ∃ v us, vs = v :: us ∧ TmV K H t v ∧ TmsV K H ts us
end
section
variable {K : PySem.W.Frag} {H H' : Hp}
mutual
theorem TmV.et (e : ET K H H') : ∀ {t : Tm} {v : V}, TmV K H t v → TmV K H' t v
  | .var x, v, h => by
    rw [TmV] at h ⊢
    obtain ⟨a, q, s⟩ := h
    exact ⟨a, q, e _ _ s⟩
  | .deed f ts, v, h => by
    rw [TmV] at h ⊢
    obtain ⟨a, b, vs, q, s, s2, r⟩ := h
    exact ⟨a, b, vs, q, e _ _ s, e _ _ s2, TmsV.et e r⟩
theorem TmsV.et (e : ET K H H') : ∀ {ts : List Tm} {vs : List V}, TmsV K H ts vs → TmsV K H' ts vs
  | [], vs, h => by
    rw [TmsV] at h ⊢
    exact h
  | t :: ts, vs, h => by
    rw [TmsV] at h ⊢
    obtain ⟨v, us, q, a, b⟩ := h
    exact ⟨v, us, q, TmV.et e a, TmsV.et e b⟩
end
theorem TmsV.app : ∀ {a b : List Tm} {us vs : List V}, TmsV K H a us → TmsV K H b vs → TmsV K H (a ++ b) (us ++ vs)
  | [], b, us, vs, h, k => by
    rw [TmsV] at h
    subst h
    exact k
  | t :: a, b, us, vs, h, k => by
    rw [TmsV] at h
    obtain ⟨v, ws, q, x, y⟩ := h
    subst q
    show TmsV K H (t :: (a ++ b)) (v :: (ws ++ vs))
    rw [TmsV]
    exact ⟨v, _, rfl, x, TmsV.app y k⟩
theorem TmsV.one {t : Tm} {v : V} (h : TmV K H t v) : TmsV K H [t] [v] := by
  rw [TmsV]
  exact ⟨v, [], rfl, h, by rw [TmsV]⟩
theorem TmsV.rev : ∀ {a : List Tm} {us : List V}, TmsV K H a us → TmsV K H a.reverse us.reverse
  | [], us, h => by
    rw [TmsV] at h
    subst h
    show TmsV K H [] []
    rw [TmsV]
  | t :: a, us, h => by
    rw [TmsV] at h
    obtain ⟨v, ws, q, x, y⟩ := h
    subst q
    rw [List.reverse_cons, List.reverse_cons]
    exact (TmsV.rev y).app (TmsV.one x)
theorem TmsV.len : ∀ {a : List Tm} {us : List V}, TmsV K H a us → us.length = a.length
  | [], us, h => by
    rw [TmsV] at h
    subst h
    rfl
  | t :: a, us, h => by
    rw [TmsV] at h
    obtain ⟨v, ws, q, x, y⟩ := h
    subst q
    rw [List.length_cons, List.length_cons, y.len]
/-- the last one of them -/
theorem TmsV.last {a : List Tm} {us : List V} (h : TmsV K H a us) (ne : a ≠ []) : ∃ b t ws v, a = b ++ [t] ∧ us = ws ++ [v] ∧ TmsV K H b ws ∧ TmV K H t v := by
  have r := h.rev
  cases e : a.reverse with
  | nil => exact absurd (List.reverse_eq_nil_iff.mp e) ne
  | cons t b =>
    rw [e, TmsV] at r
    obtain ⟨v, ws, q, x, y⟩ := r
    refine ⟨b.reverse, t, ws.reverse, v, ?_, ?_, y.rev, x⟩
    · have z := congrArg List.reverse e
      rw [List.reverse_reverse, List.reverse_cons] at z
      exact z
    · have z := congrArg List.reverse q
      rw [List.reverse_reverse, List.reverse_cons] at z
      exact z
end
end K12
end
section
namespace K12
open PySem PySem.Spec PyProof.Rows L2 Evl Dw M20
section
variable {K : PySem.W.Frag} {σ : L2.St} {H : Hp} {ta te : TE}
theorem do_set {i : Nat} {te : TE} {tz : TS} {D : Ends} (h : te σ H fun x H1 => tz D (σ.set i (some x)) H1) : tSeq (tAsg te (gName i)) tz D σ H := h
theorem inV_str (x : Str) : ∀ ks : List Str, inV (.str x) (ks.map V.str) = decide (x ∈ ks)
  | [] => rfl
  | k :: ks => by
    have ih := inV_str x ks
    unfold inV at ih ⊢
    rw [List.map_cons, List.any_cons, ih]
    have e : eqV (V.str k) (V.str x) = decide (x = k) := by
      by_cases h : x = k
      · subst h
        simp [eqV]
      · have h2 : ¬ k = x := fun z => h z.symm
        simp [eqV, h, h2]
    rw [e]
    by_cases h : x = k <;> simp [h]
theorem flat_strs (ks : List Str) : (ks.map V.str).all flatV = true := by
  rw [List.all_eq_true]
  intro v hv
  obtain ⟨k, _, e⟩ := List.mem_map.mp hv
  rw [← e]
  rfl
end
section
variable {P : Program} {w : World} {K : PySem.W.Frag} {mg : Str → Option Value} {base : Heap}
end
end K12
end
section
namespace K12
open PySem PySem.Spec PyProof.Rows L2 Evl Dw M20
theorem TmsV.get {K : PySem.W.Frag} {H : Hp} : ∀ {ts : List Tm} {us : List V} {i : Nat} {u : V}, TmsV K H ts us → us[i]? = some u → ∃ t, ts[i]? = some t ∧ TmV K H t u
  | [], us, i, u, h, e => by
    rw [TmsV] at h
    subst h
    rw [List.getElem?_nil] at e
    cases e
  | t :: ts, us, i, u, h, e => by
    rw [TmsV] at h
    obtain ⟨v, ws, q, a, b⟩ := h
    subst q
    match i, e with
    | 0, e =>
      cases Option.some.inj (show some v = some u from e)
      exact ⟨t, rfl, a⟩
    | i + 1, e =>
      show ∃ t, ts[i]? = some t ∧ _
      exact TmsV.get b (show ws[i]? = some u from e)
theorem fold_nd : ∀ (xs ks : List Str), ks.Nodup → (xs.foldl addK ks).Nodup
  | [], ks, h => h
  | x :: xs, ks, h => by
    rw [List.foldl_cons]
    refine fold_nd xs _ ?_
    unfold addK
    split
    · exact h
    · rename_i no
      exact (List.perm_append_singleton x ks).nodup_iff.mpr (List.nodup_cons.mpr ⟨no, h⟩)
theorem firsts_nd (xs : List Str) : (firsts xs).Nodup := fold_nd xs [] List.nodup_nil
def FStrs (H : Hp) (v : V) (ls : List Str) : Prop := ∃ a o, v = .ref a ∧ H a = some (.frz o (.tup (ls.map V.str))) ∧ o.dict = none
theorem FStrs.ex {H H' : Hp} {v : V} {ls : List Str} (e : Ex H H') (h : FStrs H v ls) : FStrs H' v ls := let ⟨a, o, q, s, d⟩ := h; ⟨a, o, q, e _ _ s, d⟩
section
variable {P : Program} {w : World} {K : PySem.W.Frag} {mg : Str → Option Value} {base : Heap}
end
end K12
end
section
namespace K12
open PySem PySem.Spec PyProof.Rows L2 Evl Dw M20
def vars : List Str := ["u", "v", "w", "x", "y", "z"]
structure Vars (K : PySem.W.Frag) (mg : Str → Option Value) (va : Addr) : Prop where
  at_ : mg "VARIABLES" = some (.ref va)
  sq : ∀ H, SqT K H va (vars.map V.str)
theorem pe_gv {X : Cx} {x : Str} {pos : Pos} {a : Addr} (hg : Gl X x) (h : X.mg x = some (.ref a)) (hn : x ≠ "__name__" := by decide) (hd : (x == ("__debug__" : Str)) = false := by decide) : PE X (.Name x pos) (tC (.ref a)) := pe_glob hg h rfl (hd := hd)
section
variable {σ : L2.St} {H : Hp} {ta tb : TE}
theorem do_par {i j : Nat} {t : TA} {tz : TS} {D : Ends} (h : t σ H fun vs H1 => ∃ x y, vs = [x, y] ∧ tz D ((σ.set i (some x)).set j (some y)) H1) : tSeq (tPar i j t) tz D σ H := h
end
mutual
/-- a term's own form, all through -/
def Tm.ok (sg : List (Str × Nat)) : Tm → Prop
  | .var x => x ∈ vars
  | .deed f ts => (f, ts.length) ∈ sg ∧ oks sg ts
def oks (sg : List (Str × Nat)) : List Tm → Prop
  | [] => True
  | t :: ts => t.ok sg ∧ oks sg ts
end
section
variable {P : Program} {w : World} {K : PySem.W.Frag} {mg : Str → Option Value} {base : Heap} {va : Addr}
end
end K12
end
section
namespace K12
open PySem PySem.Spec PyProof.Rows L2 Evl Dw M20
/-- a signature, its tuple told with its own object -/
def FSig (K : PySem.W.Frag) (H : Hp) (v : V) (sg : List (Str × Nat)) : Prop := ∃ (a : Addr) (o : Obj) (ps : List Addr), v = .ref a ∧ H a = some (.frz o (.tup (ps.map V.ref))) ∧ o.dict = none ∧ Paired (fun p d => SqT K H p [.str d.1, vi d.2]) ps sg
theorem FSig.ex {K : PySem.W.Frag} {H H' : Hp} {v : V} {sg : List (Str × Nat)} (e : Ex H H') (h : FSig K H v sg) : FSig K H' v sg := let ⟨a, o, ps, q, s, d, p⟩ := h; ⟨a, o, ps, q, e _ _ s, d, paired_imp (fun _ _ z => ex_t e z) p⟩
theorem paired_map {α β γ : Type} {R : α → γ → Prop} {S : β → γ → Prop} {f : α → β} (h : ∀ a c, R a c → S (f a) c) : ∀ {xs : List α} {ys : List γ}, Paired R xs ys → Paired S (xs.map f) ys
  | [], [], .nil => .nil
  | _ :: _, _ :: _, .cons r t => .cons (h _ _ r) (paired_map h t)
theorem FSig.sig {K : PySem.W.Frag} {H : Hp} {v : V} {sg : List (Str × Nat)} (h : FSig K H v sg) : Sig K H v sg := let ⟨a, o, ps, q, s, _, p⟩ := h; ⟨a, _, q, .inl (.inr ⟨o, s⟩), paired_map (f := V.ref) (fun _ _ z => ⟨_, rfl, z⟩) p⟩
/-! the dict of a signature whose names are unlike -/
section
variable {σ : L2.St} {H : Hp}
theorem do_setG {te : TE} {g : TG} {tz : TS} {D : Ends} (h : te σ H fun x H1 => g x σ H1 fun σ2 H2 => tz D σ2 H2) : tSeq (tAsg te g) tz D σ H := h
theorem do_app {K : PySem.W.Frag} {ta te : TE} {l : Addr} {xs : List V} {D : Ends} (hl : H l = some (.lst xs)) (ha : Ev ta σ H (.ref l))
    (h : ∀ H1, Ex H H1 → te σ H1 fun v H2 => ∃ a ys y, V.ref l = .ref a ∧ [v] = [y] ∧ H2 a = some (.lst ys) ∧ ys.length < sizeLine ∧ D.nx σ (upd H2 a (.lst (ys ++ [y])))) : tDrop (tBM K "list" rAppend ta (tCons te tNil)) D σ H :=
  ha H (Ex.refl H) _ fun H1 e1 => ⟨Or.inl ⟨rfl, xs, sq_of (e1 l _ hl)⟩, h H1 e1⟩
end
/-- something on the stack of term_wrong: a path and a term -/
def PrV (K : PySem.W.Frag) (H : Hp) (sg : List (Str × Nat)) (n : Nat) (u : V) (t : Tm) : Prop := ∃ (a pa : Addr) (v : V) (xs : List V), u = .ref a ∧ SqT K H a [.ref pa, v] ∧ SqT K H pa xs ∧ xs.length + t.sz ≤ n ∧ TmV K H t v ∧ t.ok sg
theorem PrV.et {K : PySem.W.Frag} {H H' : Hp} {sg : List (Str × Nat)} {n : Nat} {u : V} {t : Tm} (e : ET K H H') (h : PrV K H sg n u t) : PrV K H' sg n u t := let ⟨a, pa, v, xs, q, s, p, l, tv, ok⟩ := h; ⟨a, pa, v, xs, q, e _ _ s, e _ _ p, l, tv.et e, ok⟩
theorem TmsV.put {K : PySem.W.Frag} {H : Hp} {ts : List Tm} {us : List V} {i : Nat} (h : TmsV K H ts us) (hi : i < ts.length) : ∃ u, us[i]? = some u ∧ TmV K H ts[i] u := by
  have lu := h.len
  have e : us[i]? = some us[i] := List.getElem?_eq_getElem (by omega)
  obtain ⟨t, ht, tv⟩ := h.get e
  rw [List.getElem?_eq_getElem hi] at ht
  cases Option.some.inj ht
  exact ⟨_, e, tv⟩
section
variable {P : Program} {w : World} {K : PySem.W.Frag} {mg : Str → Option Value} {base : Heap}
end
end K12
end
section
namespace K12
open PySem PySem.Spec PyProof.Rows L2 Evl RZ Dw M20
/-! ### worths -/
def plc (n : Nat) (ns : List Nat) : Nat := ns.foldl (fun acc k => acc * n + k) 0
def tbOf : List (Str × Nat) → List (List Nat) → Str → List Nat
  | d :: sg, tb :: tbs, f => if d.1 = f then tb else tbOf sg tbs f
  | _, _, _ => []
mutual
def Tm.wt (n : Nat) (sg : List (Str × Nat)) (tbs : List (List Nat)) (env : Str → Nat) : Tm → Nat
  | .var x => env x
  | .deed f ts => g (tbOf sg tbs f) (plc n (wts n sg tbs env ts))
def wts (n : Nat) (sg : List (Str × Nat)) (tbs : List (List Nat)) (env : Str → Nat) : List Tm → List Nat
  | [] => []
  | t :: ts => t.wt n sg tbs env :: wts n sg tbs env ts
end
section
variable {σ : L2.St} {H : Hp} {ta tb te : TE}
end
section
variable {P : Program} {w : World} {K : PySem.W.Frag} {mg : Str → Option Value} {base : Heap}
end
end K12
end
section
namespace K12
open PySem PySem.Spec PyProof.Rows L2 Evl RZ Dw M20
/-- what worth_under is handed -/
structure WArg where
  sg : List (Str × Nat)
  n : Nat
  tbs : List (List Nat)
  t : Tm
  env : Str → Nat
def WArg.wt (p : WArg) : Nat := p.t.wt p.n p.sg p.tbs p.env
/-- a dict that tells the worths of some letters -/
def Env (H : Hp) (dd : Addr) (ls : List Str) (env : Str → Nat) : Prop := ∃ kvs : List (Key × V), H dd = some (.dK kvs) ∧ ∀ x ∈ ls, valV kvs (.inr x) = some (vi (env x))
section
variable {P : Program} {w : World} {K : PySem.W.Frag} {mg : Str → Option Value} {base : Heap}
end
end K12
end
section
namespace K12
open PySem PySem.Spec PyProof.Rows L2 Evl RZ Dw M20
section
variable {P : Program} {w : World} {K : PySem.W.Frag} {mg : Str → Option Value} {base : Heap}
end
end K12
end
section
namespace K12
open PySem PySem.Spec PyProof.Rows L2 Evl RZ Dw M20
/-- the worths of letters in row r of all -/
def envR (n : Nat) (ls : List Str) (r : Nat) (x : Str) : Nat := r / n ^ (ls.length - 1 - ls.idxOf x) % n
structure CArg where
  sg : List (Str × Nat)
  n : Nat
  tbs : List (List Nat)
  t : Tm
  ls : List Str
def CArg.at (p : CArg) (r : Nat) : Nat := p.t.wt p.n p.sg p.tbs (envR p.n p.ls r)
structure COk (d : Nat) (p : CArg) : Prop where
  so : SigOk p.sg
  mo : MdlOk p.sg p.n p.tbs
  ok : p.t.ok p.sg
  has : ∀ x ∈ p.t.ls, x ∈ p.ls
  l4 : p.ls.length ≤ 4
  few : p.t.sz ≤ d
section
variable {P : Program} {w : World} {K : PySem.W.Frag} {mg : Str → Option Value} {base : Heap}
end
end K12
end
section
namespace K12
open PySem PySem.Spec PyProof.Rows L2 Evl RZ Dw M20
section
variable {P : Program} {w : World} {K : PySem.W.Frag} {mg : Str → Option Value} {base : Heap}
end
end K12
end
section
namespace K12
open PySem PySem.Spec PyProof.Rows L2 Evl RZ Dw M20
/-! ### the letters of a term, in order -/
def inner (t : Tm) : List Str := vars.filter fun x => decide (x ∈ t.ls)
abbrev up (a b : Str) : Prop := vars.idxOf a ≤ vars.idxOf b
theorem vars_nd : vars.Nodup := by decide +kernel
theorem inner_nd (t : Tm) : (inner t).Nodup := List.Pairwise.filter _ vars_nd
theorem mem_inner {t : Tm} (sub : ∀ x ∈ t.ls, x ∈ vars) {x : Str} : x ∈ inner t ↔ x ∈ t.ls := by
  unfold inner
  rw [List.mem_filter]
  constructor
  · intro h
    exact of_decide_eq_true h.2
  · intro h
    exact ⟨sub x h, decide_eq_true h⟩
mutual
theorem ls_vars {sg : List (Str × Nat)} : ∀ (t : Tm), t.ok sg → ∀ x ∈ t.ls, x ∈ vars
  | .var y, h, x, hx => by
    rw [Tm.ok] at h
    rw [Tm.ls] at hx
    rw [List.mem_singleton.mp hx]
    exact h
  | .deed f ts, h, x, hx => by
    rw [Tm.ok] at h
    rw [Tm.ls] at hx
    exact lss_vars ts h.2 x hx
theorem lss_vars {sg : List (Str × Nat)} : ∀ (ts : List Tm), oks sg ts → ∀ x ∈ lss ts, x ∈ vars
  | [], _, x, hx => by
    rw [lss] at hx
    cases hx
  | t :: ts, h, x, hx => by
    rw [oks] at h
    rw [lss] at hx
    rcases List.mem_append.mp hx with e | e
    · exact ls_vars t h.1 x e
    · exact lss_vars ts h.2 x e
end
/-! ### a dict of letters and worths -/
def envN (ls : List Str) (ns : List Nat) (x : Str) : Nat := g ns (ls.idxOf x)
section
variable {K : PySem.W.Frag} {σ : L2.St} {H : Hp} {ta tb te : TE}
theorem el_listT {xs : List V} {p : Addr} (h : Ev te σ H (.ref p)) (hp : SqT K H p xs) : EvL (tCB (rListS K) (tCons te tNil)) σ H xs := fun H1 e Q q =>
  h H1 e _ fun H2 e2 => ⟨p, xs, rfl, .inr (ex_t (e.trans e2) hp), fun l nl => q l _ (fresh_back e2 nl) (e2.trans (Ex.new nl)) upd_same⟩
end
theorem dps_strs {K : PySem.W.Frag} {H : Hp} : ∀ zs : List Str, DpAll K H (zs.map V.str) (zs.map PyData.str)
  | [] => .nil
  | z :: zs => .cons (.str z) (dps_strs zs)
/-- what worth_by is handed -/
structure BArg where
  sg : List (Str × Nat)
  n : Nat
  tbs : List (List Nat)
  t : Tm
  ns : List Nat
def BArg.wt (p : BArg) : Nat := p.t.wt p.n p.sg p.tbs (envN (inner p.t) p.ns)
section
variable {P : Program} {w : World} {K : PySem.W.Frag} {mg : Str → Option Value} {base : Heap} {va : Addr}
end
end K12
end
section
namespace K12
open PySem PySem.Spec PyProof.Rows L2 Evl RZ Dw M20
theorem big3600 : Builtin.Int.intTooBig (((Builtin.Int.intBits (10 ^ 60) : Nat) : Int) * 60) = false := by decide +kernel
theorem pow3600 {X : Cx} : OpR X (binaryOp .Pow) (fun x y H Q => x = .int (10 ^ 60) ∧ y = .int 60 ∧ Q (.int ((10 ^ 60) ^ (60 : Int).toNat)) H) := op_powG (b := 10 ^ 60) (e := 60) (by decide) (by decide) big3600
/-! ### the purse -/
/-- a purse at p, its cells at c, t draws done -/
def Pur (H : Hp) (p c : Addr) (t : Nat) : Prop := H p = some (.lst [.ref c, vi t]) ∧ ∃ cs : List Int, cs ≠ [] ∧ cs.length ≤ 63 ∧ H c = some (.lst (cs.map V.int))
/-- all but these two as it was -/
def Off (H H' : Hp) (p c : Addr) : Prop := ∀ b o, b ≠ p → b ≠ c → H b = some o → H' b = some o
theorem Off.refl {H : Hp} {p c : Addr} : Off H H p c := fun _ _ _ _ h => h
theorem Off.trans {H H1 H2 : Hp} {p c : Addr} (a : Off H H1 p c) (b : Off H1 H2 p c) : Off H H2 p c := fun x o h1 h2 h => b x o h1 h2 (a x o h1 h2 h)
theorem Off.of_ex {H H' : Hp} {p c : Addr} (e : Ex H H') : Off H H' p c := fun b o _ _ h => e b o h
theorem Pur.ex {H H' : Hp} {p c : Addr} {t : Nat} (e : Ex H H') (h : Pur H p c t) : Pur H' p c t := ⟨e _ _ h.1, let ⟨cs, h1, h2, h3⟩ := h.2; ⟨cs, h1, h2, e _ _ h3⟩⟩
theorem Pur.ne {H : Hp} {p c : Addr} {t : Nat} (h : Pur H p c t) : p ≠ c := fun e => by
  obtain ⟨h1, cs, h2, _, h3⟩ := h
  rw [e, h3] at h1
  have h4 := HO.lst.inj (Option.some.inj h1)
  cases cs with
  | nil => exact h2 rfl
  | cons x r =>
    have h5 := (List.cons.inj h4).1
    cases h5
/-- a new address is neither -/
theorem Pur.fresh {H : Hp} {p c b : Addr} {t : Nat} (h : Pur H p c t) (n : H b = none) : b ≠ p ∧ b ≠ c := by
  constructor
  · intro e
    rw [e, h.1] at n
    cases n
  · intro e
    obtain ⟨_, cs, _, _, h3⟩ := h
    rw [e, h3] at n
    cases n
theorem Off.et {K : PySem.W.Frag} {H H' : Hp} {p c : Addr} {t : Nat} (o : Off H H' p c) (h : Pur H p c t) : ET K H H' := fun a xs q => by
  have no : ∀ u, H a = some u → (∀ ys, u ≠ .lst ys) → H' a = some u := fun u hu hl => o a u (fun e => by rw [e, h.1] at hu; exact hl _ (Option.some.inj hu).symm) (fun e => by
    obtain ⟨_, cs, _, _, h3⟩ := h
    rw [e, h3] at hu
    exact hl _ (Option.some.inj hu).symm) hu
  rcases q with (q | ⟨ob, q⟩) | q
  · exact .inl (.inl (no _ q fun _ z => by cases z))
  · exact .inl (.inr ⟨ob, no _ q fun _ z => by cases z⟩)
  · exact .inr q
section
variable {P : Program} {w : World} {K : PySem.W.Frag} {mg : Str → Option Value} {base : Heap}
def sp_purse (K : PySem.W.Frag) : Sp := fun vs H Q _ => ∃ (a : Addr) (ns : List Int), vs = [.ref a] ∧ SqL K H a (ns.map V.int) ∧ ns.length ≤ 63 ∧ ∀ p c H', Ex H H' → H p = none → H c = none → Pur H' p c 0 → Q (.ref p) H'
theorem ints_shaped (cs : List Int) : SeqAt.shaped (.list (cs.map PyData.int)) = true := by
  have h1 : ∀ l : List Int, PyData.canLayAll0 (l.map PyData.int) = true := by
    intro l
    induction l with
    | nil => rfl
    | cons x r ih => show (PyData.canLay0 (.int x) && PyData.canLayAll0 (r.map PyData.int)) = true; rw [ih]; rfl
  have h2 : ∀ l : List Int, PyData.depthAll (l.map PyData.int) = 0 := by
    intro l
    induction l with
    | nil => rfl
    | cons x r ih => show max (PyData.depth (.int x)) (PyData.depthAll (r.map PyData.int)) = 0; rw [ih]; rfl
  show (PyData.canLayAll0 (cs.map PyData.int) && decide (PyData.depthAll (cs.map PyData.int) + 1 ≤ 64)) = true
  rw [h1, h2]
  rfl
theorem dp_ints {H : Hp} {a : Addr} {cs : List Int} (h : SqL K H a (cs.map V.int)) : Dp K H (.ref a) (.list (cs.map PyData.int)) := by
  refine .lst h ?_
  have : ∀ l : List Int, DpAll K H (l.map V.int) (l.map PyData.int) := by
    intro l
    induction l with
    | nil => exact .nil
    | cons x r ih => exact .cons (.int x) ih
  exact this cs
theorem c_purse (T : Txt mg) (D : Df K mg "_law_purse" s_purse ["_law_script"]) : Cl P w K mg base 1 "_law_purse" (sp_purse K) := by
  refine cl_of (k := 0) D sc_purse (fun vs H Q E h => ?_) (fun f cdv A outer s H vs Q E hr h => ?_)
  · obtain ⟨a, ns, rfl, _⟩ := h
    rfl
  · obtain ⟨a, ns, rfl, hS, len, q⟩ := h
    refine ⟨_, (pss_cons (ps_setLc (i := 1) (own := [("_law_cell", 2)]) (g := (gName 2)) (by rfl) sc_purse.nd rfl rfl (sw_true rfl rfl rfl (by decide +kernel)) (pi_list (pe_slice sl_list (pv 0) po_none (po_some pe_int))) (blkOk_by (own := [("_law_cell", 2)]) (N := ["_law_script", "_law_cells_here", "_law_cell"]) (sc := defScope s_purse) (by decide +kernel)) (fun _ _ _ _ _ => (pg_name (i := 2) sc_purse.nd rfl (.inl rfl))) (fun _ _ _ _ _ => pts_nil) (fun _ _ _ _ _ => (pe_op op_mod (pv 2) (pe_op pow3600 (pe_op op_pow pe_int pe_int) pe_int))))
      (pss_cons (ps_if (pt_cmpR (op_eqD hr.units) (pv 1) (pe_lst pa_nil) (nomark _))
        (pss_one (ps_set (i := 1) sc_purse.nd rfl (.inl rfl) (pe_lst (pa_cons pe_int pa_nil))))
        pss_nil)
      (pss_one (ps_ret (pe_lst (pa_cons (pv 1) (pa_cons pe_int pa_nil))))))), ?_⟩
    have cut : cutV (ns.map V.int) none (some 63) = ns.map V.int := by
      unfold cutV
      rw [HT.sIx_none, show HT.sIx (ns.map V.int).length (ns.map V.int).length (some 63) = min 63 (ns.map V.int).length from HT.sIx_nat _ _ 63, Nat.sub_zero, List.drop_zero, List.length_map]
      exact List.take_of_length_le (by rw [List.length_map]; omega)
    have sl : EvL (tSl (rSlL K) (tVar 0) tNoPart (tPart (tC (.int 63)))) [some (.ref a), none, none] H (ns.map V.int) := by
      have := el_sl (σ := [some (.ref a), none, none]) (te := tVar 0) (ev_var rfl) eo_none (eo_some (i := 63) (te := tC (.int 63)) ev_c) hS
      rw [cut] at this
      exact this
    have z := el_lcNL (K := K) (σ := [some (.ref a), none, none]) (H := H) (t := tYes) (te := tOp (rI (fun _ j => 0 < j) fun i j => .int (i % j)) (tVar 2) (tOp (fun x y H Q => x = .int (10 ^ 60) ∧ y = .int 60 ∧ Q (.int ((10 ^ 60) ^ (60 : Int).toNat)) H) (tOp (rI CPow fun i j => .int (i ^ j.toNat)) (tC (.int 10)) (tC (.int 60))) (tC (.int 60)))) (j := 2) (vs := [2]) (fun _ => true) (fun i => .int (ns.getD i 0 % (10 ^ 60) ^ (60 : Int).toNat)) sl (by rw [List.length_map]; omega) (fun _ => rfl) (fun _ _ _ _ _ => et_yes) (fun i x H1 e1 hx _ => by
      rw [List.getElem?_map] at hx
      cases hk : ns[i]? with
      | none =>
        rw [hk] at hx
        cases hx
      | some k =>
        rw [hk] at hx
        cases Option.some.inj hx
        rw [List.getD_eq_getElem?_getD, hk]
        exact ev_op (ev_var rfl) (ev_op (ev_op ev_c ev_c (rv_I ⟨by decide, by decide, by decide⟩)) ev_c (fun H4 _ Q q4 => ⟨rfl, rfl, q4 H4 (Ex.refl _)⟩)) (rv_I (by decide)))
    rw [given_all] at z
    have ez : (List.range (ns.map V.int).length).map (fun i => V.int (ns.getD i 0 % (10 ^ 60) ^ (60 : Int).toNat)) = ((List.range ns.length).map fun i => ns.getD i 0 % (10 ^ 60) ^ (60 : Int).toNat).map V.int := by
      rw [List.length_map, List.map_map]
      rfl
    rw [ez] at z
    obtain ⟨cs, hcs⟩ : ∃ cs : List Int, cs = (List.range ns.length).map fun i => ns.getD i 0 % (10 ^ 60) ^ (60 : Int).toNat := ⟨_, rfl⟩
    have lc : cs.length = ns.length := by rw [hcs, List.length_map, List.length_range]
    rw [← hcs] at z
    clear hcs
    refine q_asgL z fun c H2 nc e2 hc => ?_
    have test : EvT (tTest (tOp (rEqD K) (tVar 1) (tLst tNil))) [some (.ref a), some (.ref c), none] H2 (PyData.eqv (.list (cs.map PyData.int)) (.list [])) := fun H3 e3 Q q3 => ⟨_, rfl, Nat.zero_le _, fun r nr => ⟨_, _, dp_ints (sq_of (by rw [upd_ne (ne_of_none (e3 _ _ hc) nr)]; exact e3 _ _ hc)), .lst (sq_of upd_same) .nil, ints_shaped cs, rfl, _, rfl, q3 _ (Ex.new nr)⟩⟩
    refine q_when test (fun hb H3 e3 => ?_) (fun hb H3 e3 => ?_)
    · refine s_asgL (el_lst (ea_cons ev_c ea_nil) (by decide)) fun d H4 nd e4 hd => ?_
      have e04 : Ex H H4 := (e2.trans e3).trans e4
      have nd0 : H d = none := fresh_back (e2.trans e3) nd
      refine s_retL (el_lst (ea_cons (ev_var rfl) (ea_cons ev_c ea_nil)) (by show 2 ≤ 100000; decide)) fun p H5 np e5 hp => q p d H5 (e04.trans e5) (fresh_back e04 np) nd0 ⟨hp, [0], by simp, by decide, e5 _ _ hd⟩
    · have ne : cs ≠ [] := fun z => by
        subst z
        exact absurd hb (by decide)
      have e03 : Ex H H3 := e2.trans e3
      have l63' : cs.length ≤ 63 := by rw [lc]; exact len
      refine s_retL (el_lst (ea_cons (ev_var rfl) (ea_cons ev_c ea_nil)) (by show 2 ≤ 100000; decide)) fun p H5 np e5 hp => q p c H5 (e03.trans e5) (fresh_back e03 np) nc ⟨hp, cs, ne, l63', e5 _ _ (e3 _ _ hc)⟩
/-- a draw: a number below n, one more done -/
def sp_draw : Sp := fun vs H Q _ => ∃ (p c : Addr) (t n : Nat), vs = [.ref p, vi n] ∧ Pur H p c t ∧ t ≤ 100000 ∧ 1 ≤ n ∧ n ≤ 1000 ∧ ∀ k H', k < n → Off H H' p c → Pur H' p c (t + 1) → Q (vi k) H'
theorem vi_mod {x : Int} {n : Nat} (h : 1 ≤ n) : ∃ k, k < n ∧ V.int (x % (n : Int)) = vi k := by
  have h1 : 0 ≤ x % (n : Int) := Int.emod_nonneg _ (by omega)
  have h2 : x % (n : Int) < n := Int.emod_lt_of_pos _ (by omega)
  exact ⟨(x % (n : Int)).toNat, by omega, by show V.int _ = V.int _; rw [Int.toNat_of_nonneg h1]⟩
theorem c_draw (T : Txt mg) (D : Df K mg "_law_draw" s_draw ["_law_purse_here", "_law_out_of"]) : Cl P w K mg base 1 "_law_draw" sp_draw := by
  refine cl_of (k := 0) D sc_draw (fun vs H Q E h => ?_) (fun f cdv A outer s H vs Q E hr h => ?_)
  · obtain ⟨p, c, t, n, rfl, _⟩ := h
    rfl
  · obtain ⟨p, c, t, n, rfl, pu, t1, n1, n2, q⟩ := h
    refine ⟨_, (pss_cons (ps_asg (pv 0) (pg_unl (by rfl) (pgs_cons (pg_name (i := 2) sc_draw.nd rfl (.inl rfl)) (pgs_cons (pg_name (i := 3) sc_draw.nd rfl (.inl rfl)) pgs_nil))))
      (pss_cons (ps_set (i := 4) sc_draw.nd rfl (.inl rfl) (pe_op op_mod (pv 3) (pe_callB call_len_seq (by rfl) T.z_len PySem.boot_len (pa_cons (pv 2) pa_nil))))
      (pss_cons (ps_set (i := 5) sc_draw.nd rfl (.inl rfl) (pe_ix ix_list (pv 2) (pv 4) (fun _ _ => rfl)))
      (pss_cons (ps_asg (pe_op op_add (pv 3) pe_int) (pg_sub (pv 0) pe_int set_list))
      (pss_cons (ps_if (pt_cmpR op_ge (pv 5) (pe_op op_pow pe_int pe_int) (nomark _))
        (pss_cons (ps_asg (pe_op op_fdiv (pv 5) (pv 1)) (pg_sub (pv 2) (pv 4) set_list))
        (pss_one (ps_ret (pe_op op_mod (pv 5) (pv 1)))))
        pss_nil)
      (pss_cons (ps_set (i := 6) sc_draw.nd rfl (.inl rfl) (pe_op op_mod (pe_op op_add (pe_op op_add (pe_op op_mul (pe_op op_mod (pv 5) pe_int) pe_int) (pe_op op_mul (pe_op op_mul (pv 3) (pv 3)) pe_int)) pe_int) pe_int))
      (pss_cons (ps_set (i := 6) sc_draw.nd rfl (.inl rfl) (pe_op op_mod (pe_op op_mul (pv 6) (pv 6)) pe_int))
      (pss_cons (ps_set (i := 6) sc_draw.nd rfl (.inl rfl) (pe_op op_mod (pe_op op_mul (pv 6) (pv 6)) pe_int))
      (pss_cons (ps_if (pt_cmpR op_gt (pv 1) (pe_op op_pow pe_int pe_int) (nomark _))
        (pss_cons (ps_set (i := 7) sc_draw.nd rfl (.inl rfl) (pe_op op_mod (pe_op op_add (pe_op op_add (pe_op op_mul (pv 6) pe_int) (pe_op op_mul (pv 3) pe_int)) pe_int) pe_int))
        (pss_one (ps_set (i := 6) sc_draw.nd rfl (.inl rfl) (pe_op op_mul (pv 6) (pe_op op_add (pe_op op_mul (pe_op op_mul (pv 7) (pv 7)) (pv 7)) pe_int)))))
        pss_nil)
      (pss_one (ps_ret (pe_op op_mod (pv 6) (pv 1))))))))))))), ?_⟩
    have ne := pu.ne
    obtain ⟨hp, cs, cne, c63, hc⟩ := id pu
    -- cells, turn = purse
    refine ⟨.ref p, rfl, p, _, rfl, sq_of hp, rfl, _, _, rfl, _, _, rfl, rfl, ?_⟩
    have cl : 0 < cs.length := List.length_pos_iff.mpr cne
    have lenE : Ev (tCB (rLenS K) (tCons (tVar 2) tNil)) [some (.ref p), some (vi n), some (.ref c), some (vi t), none, none, none, none] H (.int (cs.length : Int)) := by
      have := ev_len (K := K) (σ := [some (.ref p), some (vi n), some (.ref c), some (vi t), none, none, none, none]) (ta := tVar 2) (ev_var rfl) (sq_of hc)
      rw [List.length_map] at this
      exact this
    refine q_asg (v := vi (t % cs.length)) (ev_is (ev_op (ev_var rfl) lenE (rv_I (by show (0 : Int) < (cs.length : Int); omega))) (by show V.int ((t : Int) % (cs.length : Int)) = V.int ((t % cs.length : Nat) : Int); rw [Int.natCast_emod])) fun H1 e1 => ?_
    have ai : t % cs.length < cs.length := Nat.mod_lt _ cl
    refine q_asg (v := .int cs[t % cs.length]) (ev_op (ev_var rfl) (ev_var rfl) (rv_ixL (ex_l e1 (sq_of hc)) (atI_vi (by rw [List.getElem?_map, List.getElem?_eq_getElem ai]; rfl)))) fun H2 e2 => ?_
    have e02 := e1.trans e2
    -- purse[1] = turn + 1
    refine q_setL (j := 1) (e02 _ _ hp) (ev_op (ev_var rfl) ev_c rv_I0) (ev_var rfl) ev_c (by show 1 < 2; decide) fun H3 e3 => ?_
    have e03 := e02.trans e3
    have hp4 : (upd H3 p (.lst [.ref c, vi (t + 1)])) p = some (.lst [.ref c, vi (t + 1)]) := upd_same
    have hc4 : (upd H3 p (.lst [.ref c, vi (t + 1)])) c = some (.lst (cs.map V.int)) := by rw [upd_ne (Ne.symm ne)]; exact e03 _ _ hc
    have off4 : Off H (upd H3 p (.lst [.ref c, vi (t + 1)])) p c := fun b o b1 b2 hb => by rw [upd_ne b1]; exact e03 _ _ hb
    have st : (upd H3 p (.lst (List.set [V.ref c, vi t] 1 (V.int ((t : Int) + 1))))) = upd H3 p (.lst [.ref c, vi (t + 1)]) := by
      show upd H3 p (.lst [.ref c, .int ((t : Int) + 1)]) = upd H3 p (.lst [.ref c, .int ((t + 1 : Nat) : Int)])
      rw [Int.natCast_add]
      rfl
    rw [st]
    generalize upd H3 p (.lst [.ref c, vi (t + 1)]) = H4 at hp4 hc4 off4
    have pu4 : Pur H4 p c (t + 1) := ⟨hp4, cs, cne, c63, hc4⟩
    refine q_when (et_test (ev_op (ev_var rfl) (ev_op ev_c ev_c (rv_I ⟨by decide, by decide, by decide⟩)) rv_I0)) (fun _ H5 e5 => ?_) (fun _ H5 e5 => ?_)
    · refine q_setL (e5 _ _ hc4) (ev_op (ev_var rfl) (ev_var rfl) (rv_I ⟨by omega, by omega⟩)) (ev_var rfl) (ev_var rfl) (by rw [List.length_map]; exact ai) fun H6 e6 => ?_
      obtain ⟨k, hk, ek⟩ := vi_mod (x := cs[t % cs.length]) n1
      refine s_ret (v := vi k) (ev_is (ev_op (ev_var rfl) (ev_var rfl) (rv_I (by show (0 : Int) < (n : Int); omega))) ek) fun H7 e7 => q k H7 hk (fun b o b1 b2 hb => e7 _ _ (by rw [upd_ne b2]; exact e6 _ _ (e5 _ _ (off4 b o b1 b2 hb)))) ⟨e7 _ _ (by rw [upd_ne ne]; exact e6 _ _ (e5 _ _ hp4)), cs.set (t % cs.length) (cs[t % cs.length] / (n : Int)), ?_, ?_, ?_⟩
      · intro z
        have := congrArg List.length z
        rw [List.length_set] at this
        have z0 : cs.length = 0 := this
        omega
      · rw [List.length_set]; exact c63
      · refine e7 _ _ ?_
        rw [upd_same, List.map_set]
    · refine q_asg (ev_op (ev_op (ev_op (ev_op (ev_op (ev_var rfl) ev_c (rv_I (by decide))) ev_c (rv_I (.inr ⟨by decide, by decide⟩))) (ev_op (ev_op (ev_var rfl) (ev_var rfl) (rv_I (.inl ⟨by omega, by omega⟩))) ev_c (rv_I (.inr ⟨by decide, by decide⟩))) rv_I0) ev_c rv_I0) ev_c (rv_I (by decide))) fun H6 e6 => ?_
      have small : ∀ x m : Int, 0 < m → m < 2 ^ 40 → CMul (x % m) (x % m) := fun x m h1 h2 => .inl ⟨by have := Int.emod_nonneg x (show m ≠ 0 by omega); omega, by have := Int.emod_lt_of_pos x h1; omega⟩
      refine q_asg (ev_op (ev_op (ev_var rfl) (ev_var rfl) (rv_I (small _ _ (by decide) (by decide)))) ev_c (rv_I (by decide))) fun H7 e7 => ?_
      refine q_asg (ev_op (ev_op (ev_var rfl) (ev_var rfl) (rv_I (small _ _ (by decide) (by decide)))) ev_c (rv_I (by decide))) fun H8 e8 => ?_
      refine q_when (b := false) (et_is (et_test (ev_op (ev_var rfl) (ev_op ev_c ev_c (rv_I ⟨by decide, by decide, by decide⟩)) rv_I0)) ?_) (fun hb => by cases hb) (fun _ H9 e9 => ?_)
      · show decide ((10 : Int) ^ (9 : Int).toNat < (n : Int)) = false
        refine decide_eq_false ?_
        have : (10 : Int) ^ (9 : Int).toNat = 1000000000 := by decide
        rw [this]
        omega
      · have e49 := (((e5.trans e6).trans e7).trans e8).trans e9
        have fin : ∀ x : Int, tRet (tOp (rI (fun _ j => 0 < j) fun i j => .int (i % j)) (tVar 6) (tVar 1)) { nx := fun _ H' => Q .non H', rt := Q } [some (.ref p), some (vi n), some (.ref c), some (vi t), some (vi (t % cs.length)), some (.int cs[t % cs.length]), some (.int x), none] H9 := fun x => by
          obtain ⟨k, hk, ek⟩ := vi_mod (x := x) n1
          exact s_ret (v := vi k) (ev_is (ev_op (ev_var rfl) (ev_var rfl) (rv_I (by show (0 : Int) < (n : Int); omega))) ek) fun Ha ea => q k Ha hk (fun b o b1 b2 hb => (e49.trans ea) _ _ (off4 b o b1 b2 hb)) (pu4.ex (e49.trans ea))
        exact fin _
/-- _law_draw(purse, e), e worth n -/
theorem do_draw {σ : L2.St} {H : Hp} {ta tb : TE} {p c : Addr} {t n : Nat} {E : XK} {Q : VK} (hp : Ev ta σ H (.ref p)) (hn : Ev tb σ H (vi n)) (pu : Pur H p c t) (t1 : t ≤ 100000) (n1 : 1 ≤ n) (n2 : n ≤ 1000) (q : ∀ k H', k < n → Off H H' p c → Pur H' p c (t + 1) → Q (vi k) H') :
    tCall sp_draw [] E (tCons ta (tCons tb tNil)) σ H Q :=
  ea_cons hp (ea_cons hn ea_nil) H (Ex.refl H) _ fun H1 e1 => ⟨p, c, t, n, rfl, pu.ex e1, t1, n1, n2, fun k H' hk o p' => q k H' hk ((Off.of_ex e1).trans o) p'⟩
end
theorem Off.sql {K : PySem.W.Frag} {H H' : Hp} {p c l : Addr} {xs : List V} (o : Off H H' p c) (h1 : l ≠ p) (h2 : l ≠ c) (h : SqL K H l xs) : SqL K H' l xs := by
  rcases h with (h | ⟨ob, h⟩) | h
  · exact .inl (.inl (o _ _ h1 h2 h))
  · exact .inl (.inr ⟨ob, o _ _ h1 h2 h⟩)
  · exact .inr h
theorem Off.upd {H H' : Hp} {p c l : Addr} {o : HO} (f : Off H H' p c) (n : H l = none) : Off H (upd H' l o) p c := fun b u b1 b2 h => by
  rw [upd_ne (ne_of_none h n)]
  exact f b u b1 b2 h
theorem Off.back {H H' : Hp} {p c l : Addr} (f : Off H H' p c) (h1 : l ≠ p) (h2 : l ≠ c) (n : H' l = none) : H l = none := by
  cases e : H l with
  | none => rfl
  | some o =>
    rw [f l o h1 h2 e] at n
    cases n
theorem Pur.upd {H : Hp} {p c l : Addr} {t : Nat} {o : HO} (h : Pur H p c t) (h1 : l ≠ p) (h2 : l ≠ c) : Pur (upd H l o) p c t := ⟨by rw [upd_ne (Ne.symm h1)]; exact h.1, let ⟨cs, a, b, d⟩ := h.2; ⟨cs, a, b, by rw [upd_ne (Ne.symm h2)]; exact d⟩⟩
section
variable {P : Program} {w : World} {K : PySem.W.Frag} {mg : Str → Option Value} {base : Heap}
section
variable {σ : L2.St} {H : Hp} {D : Ends} {tu tz : TS}
/-- for x in range(e), e by what holds of it -/
theorem q_forRX {ta : TA} {j : Nat} (C : Nat → Hp → Prop) (h : ∀ Q : List V → Hp → Prop, (∀ n H1, C n H1 → Q [vi n] H1) → ta σ H Q) (hn : ∀ n H1, C n H1 → n ≤ 100000) (Pv : Nat → Nat → L2.St → Hp → Prop) (h0 : ∀ n H1, C n H1 → Pv n 0 σ H1)
    (hs : ∀ n i σ' H', i < n → Pv n i σ' H' → tu { D with nx := Pv n (i + 1), ct := Pv n (i + 1), bk := tz D } (σ'.set j (some (vi i))) H') (hd : ∀ n σ' H', Pv n n σ' H' → tz D σ' H') : tSeq (tFor (iRng1 ta) (gName j) tu) tz D σ H :=
  h _ fun n H1 c => ⟨(n : Int), rfl, by have := hn n H1 c; omega, by have := hn n H1 c; omega, for_range (D := { D with nx := tz D }) (lo := 0) (n := ((n : Nat) : Int).toNat) (Pv n) (h0 n H1 c) (fun i σ' H' hi p => by
    have e0 : (0 : Int) + (i : Int) = (i : Int) := Int.zero_add _
    show tu { D with nx := Pv n (i + 1), ct := Pv n (i + 1), bk := tz D } (σ'.set j (some (.int ((0 : Int) + (i : Int))))) H'
    rw [e0]
    exact hs n i σ' H' (by rw [Int.toNat_natCast] at hi; exact hi) p) (fun σ' H' p => hd n σ' H' (by rw [Int.toNat_natCast] at p; exact p))⟩
end
end
/-- a comprehension whose element may do anything, by what holds between its turns -/
theorem do_lcIt {J : It} {n : Nat} {G : Hp → Prop} {Y : Nat → Hp → V → Hp → Prop} {wi : TI} {g : TG} {te : TE} {σ : L2.St} {H : Hp} {vs : List Nat} {Q : VK} (w : Walk J n G Y) (hw0 : ∀ R : It → Hp → Prop, (∀ H1, Ex H H1 → R J H1) → wi σ H R) (Pv : Addr → Nat → Hp → Prop)
    (h0 : ∀ D H1, Ex H H1 → H1 D = none → Pv D 0 (upd H1 D (.lst []))) (hG : ∀ D i H', i ≤ n → Pv D i H' → G H')
    (hs : ∀ D i x H' H'', i < n → Pv D i H' → Y i H' x H'' → g x (wipe σ vs) H'' fun σ2 H2 => wipe σ2 vs = wipe σ vs ∧ if true = true then te σ2 H2 fun y H4 => ∃ acc, H4 D = some (.lst acc) ∧ acc.length < sizeLine ∧ Pv D (i + 1) (upd H4 D (.lst (acc ++ [y]))) else Pv D (i + 1) H2)
    (hd : ∀ D H', Pv D n H' → Q (.ref D) H') : tLc wi g tYes te vs σ H Q :=
  hw0 _ fun H1 e1 Dl nD => lc_it w (Pv Dl) (h0 Dl H1 e1 nD) (hG Dl) (fun i x H2 H3 hi p y => hs Dl i x H2 H3 hi p y) (fun H2 p => hd Dl H2 p)
end K12
end
section
namespace K12
open PySem PySem.Spec PyProof.Rows L2 Evl RZ Dw M20
theorem Off.seq {K : PySem.W.Frag} {H H' : Hp} {p c l : Addr} {t : Nat} {xs : List V} (o : Off H H' p c) (pu : Pur H p c t) (h1 : l ≠ p) (h2 : l ≠ c) (h : SqL K H l xs ∨ SqT K H l xs) : SqL K H' l xs ∨ SqT K H' l xs := h.imp (o.sql h1 h2) (o.et pu l xs)
theorem w_list {K : PySem.W.Frag} {te : TE} {σ : L2.St} {H : Hp} {a : Addr} {xs : List V} (h : Ev te σ H (.ref a)) (hx : SqL K H a xs) : ∀ H0, Ex H H0 → ∀ R : It → Hp → Prop, (∀ H1, Ex H0 H1 → R (Itl K a) H1) → iList K te σ H0 R := fun H0 e R r => h H0 e _ fun H1 e1 => ⟨a, rfl, ⟨xs, ex_l (e.trans e1) hx⟩, r H1 e1⟩
section
variable {P : Program} {w : World} {K : PySem.W.Frag} {mg : Str → Option Value} {base : Heap}
/-! ### pick -/
def sp_pick (K : PySem.W.Frag) : Sp := fun vs H Q _ => ∃ (p c : Addr) (t : Nat), Pur H p c t ∧ t ≤ 90000 ∧
  ((∃ z : Str, vs = [.ref p, .str z] ∧ 1 ≤ z.length ∧ z.length ≤ 1000 ∧ ∀ (k d : Nat) H', z.cps[k]? = some d → Off H H' p c → Pur H' p c (t + 1) → Q (.str ⟨#[d]⟩) H') ∨
   (∃ (l : Addr) (xs : List V), vs = [.ref p, .ref l] ∧ (SqL K H l xs ∨ SqT K H l xs) ∧ l ≠ p ∧ l ≠ c ∧ 1 ≤ xs.length ∧ xs.length ≤ 1000 ∧ ∀ (k : Nat) x H', xs[k]? = some x → Off H H' p c → Pur H' p c (t + 1) → Q x H'))
theorem c_pick (T : Txt mg) (D : Df K mg "_law_pick" s_pick ["_law_purse_here", "_law_some"]) (c_draw : Cl P w K mg base 1 "_law_draw" sp_draw) : Cl P w K mg base 2 "_law_pick" (sp_pick K) := by
  refine cl_of (k := 1) D sc_pick (fun vs H Q E h => ?_) (fun f cdv A outer s H vs Q E hr h => ?_)
  · obtain ⟨p, c, t, _, _, ⟨z, rfl, _⟩ | ⟨l, xs, rfl, _⟩⟩ := h <;> rfl
  · obtain ⟨p, c, t, pu, t1, h⟩ := h
    refine ⟨_, (pss_one (ps_ret (pe_ix (ix_or (ix_or ix_tup ix_list) ix_str) (pv 1) (pe_cl c_draw hr (by first | decide | omega) (by rfl) (pa_cons (pv 0) (pa_cons (pe_callB (call_or call_len_seq call_len_str) (by rfl) T.z_len PySem.boot_len (pa_cons (pv 1) pa_nil)) pa_nil))) (fun _ _ => rfl)))), ?_⟩
    rcases h with ⟨z, rfl, z1, z2, q⟩ | ⟨l, xs, rfl, hx, lp, lc, x1, x2, q⟩
    · refine do_ret (do_op (do_ev (ev_var rfl) fun H1 e1 => do_draw (n := z.length) (ev_var rfl) (fun H2 e2 Q2 q2 => ev_var rfl H2 (Ex.refl _) _ fun H3 e3 => .inr ⟨z, rfl, sz_of (by omega), q2 H3 e3⟩) (pu.ex e1) (by omega) z1 z2 fun k H2 hk o2 pu2 => ?_))
      have hz : z.cps[k]? = some z.cps[k] := Array.getElem?_eq_getElem hk
      exact .inr ⟨z, (k : Int), z.cps[k], rfl, rfl, sz_of (by omega), atI_nat (by rw [Array.getElem?_toList]; exact hz), q k _ H2 hz ((Off.of_ex e1).trans o2) pu2⟩
    · refine do_ret (do_op (do_ev (ev_var rfl) fun H1 e1 => do_draw (n := xs.length) (ev_var rfl) (fun H2 e2 Q2 q2 => ev_var rfl H2 (Ex.refl _) _ fun H3 e3 => .inl ⟨l, xs, rfl, hx.imp (ex_l ((e1.trans e2).trans e3)) (ex_t ((e1.trans e2).trans e3)), q2 H3 e3⟩) (pu.ex e1) (by omega) x1 x2 fun k H2 hk o2 pu2 => ?_))
      have hk' : xs[k]? = some xs[k] := List.getElem?_eq_getElem hk
      have o02 := (Off.of_ex e1).trans o2
      have got := q k _ H2 hk' o02 pu2
      rcases o02.seq pu lp lc hx with a | a
      · exact .inl (.inr ⟨l, xs, (k : Int), xs[k], rfl, rfl, a, atI_nat hk', got⟩)
      · exact .inl (.inl ⟨l, xs, (k : Int), xs[k], rfl, rfl, a, atI_nat hk', got⟩)
/-! ### cells, whole -/
def sp_cells : Sp := spX (fun (p : Nat × Nat) vs _ => vs = [vi p.1, vi p.2] ∧ p.1 ≤ 6 ∧ p.2 ≤ 2) (fun p v _ => v = vi (p.1 ^ p.2))
theorem c_cells (T : Txt mg) (D : Df K mg "_law_cells" s_cls ["_law_size", "_law_places"]) : Cl P w K mg base 1 "_law_cells" sp_cells := by
  refine cl_of (k := 0) D sc_cls (fun vs H Q E h => ?_) (fun f cdv A outer s H vs Q E hr h => ?_)
  · obtain ⟨p, ⟨rfl, _⟩, _⟩ := h
    rfl
  · obtain ⟨⟨n, m⟩, ⟨rfl, n6, m2⟩, q⟩ := h
    refine ⟨_, (pss_one (ps_ret (pe_ix ix_list (pe_lst (pa_cons pe_int (pa_cons (pv 0) (pa_cons (pe_op op_mul (pv 0) (pv 0)) pa_nil)))) (pv 1) (fun _ _ => rfl)))), ?_⟩
    replace n6 : n ≤ 6 := n6
    replace m2 : m ≤ 2 := m2
    refine do_ret (do_op (do_evL (el_lst (vs := [vi 1, vi n, vi (n * n)]) (ea_cons ev_c (ea_cons (ev_var rfl) (ea_cons (ev_mulM (ev_var rfl) (ev_var rfl) (by omega)) ea_nil))) (by show 3 ≤ 100000; decide)) fun l H1 nl e1 hl => do_ev (v := vi m) (ev_var rfl) fun H2 e2 => ⟨l, _, (m : Int), vi (n ^ m), rfl, rfl, sq_of (e2 _ _ hl), atI_nat ?_, q _ H2 (e1.trans e2) rfl⟩))
    have : m = 0 ∨ m = 1 ∨ m = 2 := by omega
    rcases this with e | e | e <;> subst e
    · rw [Nat.pow_zero]
      rfl
    · rw [Nat.pow_one]
      rfl
    · rw [Nat.pow_two]
      rfl
end
end K12
end
section
namespace K12
open PySem PySem.Spec PyProof.Rows L2 Evl RZ Dw M20
/-! ### texts joined of single signs -/
abbrev one (c : Nat) : Str := ⟨#[c]⟩
theorem glue_fold : ∀ (ps : List Str) (a : Array Nat), (ps.foldl (fun acc p => acc ++ (Str.ofString "").cps ++ p.cps) a).toList = a.toList ++ ps.flatMap (·.cps.toList)
  | [], a => by rw [List.foldl_nil, List.flatMap_nil, List.append_nil]
  | p :: ps, a => by
    rw [List.foldl_cons, glue_fold ps, List.flatMap_cons, Array.toList_append, Array.toList_append, show (Str.ofString "").cps.toList = [] from rfl, List.append_nil, List.append_assoc]
theorem join_ones (cs : List Nat) : (Txt.join (Str.ofString "") (cs.map one)).cps.toList = cs := by
  unfold Txt.join Builtin.Str.glued
  cases cs with
  | nil => rfl
  | cons c cs =>
    show Array.toList (List.foldl _ _ (cs.map one)) = _
    rw [glue_fold]
    show c :: (cs.map one).flatMap (·.cps.toList) = c :: cs
    congr 1
    induction cs with
    | nil => rfl
    | cons d cs ih =>
      rw [List.map_cons, List.flatMap_cons, ih]
      rfl
theorem ones_sum (cs : List Nat) : ((cs.map one).map (·.length)).sum = cs.length := by
  induction cs with
  | nil => rfl
  | cons d cs ih =>
    rw [List.map_cons, List.map_cons, List.sum_cons, ih, List.length_cons]
    show 1 + cs.length = cs.length + 1
    omega
def eight : Str := "abeglmst"
theorem eight_abc : ∀ c ∈ eight.cps.toList, c ∈ letters.cps.toList := by decide +kernel
section
variable {K : PySem.W.Frag} {σ : L2.St} {H : Hp} {te tl : TE}
/-- .. for a, b in a list or tuple of pairs that stand -/
theorem el_lcP {J : It} {G : Hp → Prop} {wi : TI} {ps : List Addr} {f1 f2 : Nat → V} {j1 j2 : Nat} {vs : List Nat} (w : Walk J (ps.map V.ref).length G (YAt (ps.map V.ref))) (hw0 : ∀ H0, Ex H H0 → ∀ R : It → Hp → Prop, (∀ H1, Ex H0 H1 → R J H1) → wi σ H0 R) (hG : ∀ H1, Ex H H1 → G H1)
    (hp : ∀ (i : Nat) q, ps[i]? = some q → SqT K H q [f1 i, f2 i]) (u : Nat → V) (hn : ps.length ≤ 40000) (hw : ∀ x y, wipe (((wipe σ vs).set j1 (some x)).set j2 (some y)) vs = wipe σ vs)
    (he : ∀ (i : Nat) H1, Ex H H1 → i < ps.length → Ev te (((wipe σ vs).set j1 (some (f1 i))).set j2 (some (f2 i))) H1 (u i)) : EvL (tLc wi (gTup K 2 (gCons (gName j1) (gCons (gName j2) gNil))) tYes te vs) σ H ((List.range ps.length).map u) := fun H0 e Q q => hw0 H0 e _ fun H1 e1 Dl nD =>
  lc_it w (fun i H2 => Ex H1 H2 ∧ H2 Dl = some (.lst ((List.range i).map u))) ⟨Ex.new nD, upd_same⟩ (fun i H2 _ p => hG H2 ((e.trans e1).trans p.1)) (fun i x H2 H3 hi p y => by
    obtain ⟨rfl, hx⟩ := y
    rw [List.getElem?_map] at hx
    cases hk : ps[i]? with
    | none =>
      rw [hk] at hx
      cases hx
    | some r =>
      rw [hk] at hx
      cases Option.some.inj hx
      have il : i < ps.length := (List.getElem?_eq_some_iff.mp hk).1
      have e03 := (e.trans e1).trans p.1
      refine ⟨r, _, rfl, ex_t e03 (hp i r hk), rfl, _, _, rfl, _, _, rfl, rfl, hw _ _, et_yes _ (Ex.refl _) _ fun H5 e5 => ?_⟩
      refine iteT ?_
      refine he i H5 (e03.trans e5) il _ (Ex.refl _) _ fun H4 e4 => ⟨_, e4 _ _ (e5 _ _ p.2), sz_lt (by rw [List.length_map, List.length_range]; omega), ((p.1.trans e5).trans e4).mut nD, ?_⟩
      rw [upd_same, List.range_succ, List.map_append]
      rfl) (fun H2 p => q Dl H2 (fresh_back e1 nD) (e1.trans p.1) (by rw [← List.length_map (f := V.ref)]; exact p.2))
end
theorem paired_at {α β : Type} {R : α → β → Prop} : ∀ {xs : List α} {ys : List β} {i : Nat} {x : α}, Paired R xs ys → xs[i]? = some x → ∃ y, ys[i]? = some y ∧ R x y
  | _, _, _, _, .nil, h => by simp at h
  | _, _, 0, _, .cons a _, h => by
    have e := Option.some.inj h
    subst e
    exact ⟨_, rfl, a⟩
  | _, _, i + 1, x, .cons _ b, h => by
    obtain ⟨y, e, r⟩ := paired_at (i := i) b h
    exact ⟨y, e, r⟩
section
variable {P : Program} {w : World} {K : PySem.W.Frag} {mg : Str → Option Value} {base : Heap}
def sp_deeds (K : PySem.W.Frag) : Sp := fun vs H Q _ => ∃ (p c : Addr) (t : Nat), vs = [.ref p] ∧ Pur H p c t ∧ t ≤ 80000 ∧ ∀ v sg t' H', Off H H' p c → Pur H' p c t' → t' ≤ t + 40 → FSig K H' v sg → SigOk sg → Q v H'
theorem c_deeds (T : Txt mg) (D : Df K mg "_law_deeds" s_dds ["_law_purse_here"]) (c_draw : Cl P w K mg base 1 "_law_draw" sp_draw) (c_pick : Cl P w K mg base 2 "_law_pick" (sp_pick K)) : Cl P w K mg base 3 "_law_deeds" (sp_deeds K) := by
  refine cl_of (k := 2) D sc_dds (fun vs H Q E h => ?_) (fun f cdv A outer s H vs Q E hr h => ?_)
  · obtain ⟨p, c, t, rfl, _⟩ := h
    rfl
  · obtain ⟨p, c, t, rfl, pu, t1, q⟩ := h
    refine ⟨_, (pss_cons (ps_set (i := 1) sc_dds.nd rfl (.inl rfl) (pe_lst pa_nil))
      (pss_cons (ps_for PassesOwn.never (by rfl) (pi_range1 (by rfl) T.z_range (pa_cons (pe_op op_add pe_int (pe_cl c_draw hr (by first | decide | omega) (by rfl) (pa_cons (pv 0) (pa_cons pe_int pa_nil)))) pa_nil)) (pg_name (i := 2) sc_dds.nd rfl (.inl rfl))
        (pss_cons (ps_set (i := 3) sc_dds.nd rfl (.inl rfl) (pe_op op_add pe_int (pe_cl c_draw hr (by first | decide | omega) (by rfl) (pa_cons (pv 0) (pa_cons (pe_ix ix_list (pe_lst (pa_cons pe_int (pa_cons pe_int pa_nil))) (pe_cl c_draw hr (by first | decide | omega) (by rfl) (pa_cons (pv 0) (pa_cons pe_int pa_nil))) (fun _ _ => rfl)) pa_nil)))))
        (pss_cons (ps_set (i := 4) sc_dds.nd rfl (.inl rfl) (pe_bm PySem.F.plainAttrs_str PySem.F.slot_str_join PySem.F.type_str_join mt_join pe_str (pa_cons (pe_lc (own := [("_law_sign", 5)]) (g := (gName 5)) (by rfl) sc_dds.nd (pi_range1 (by rfl) T.z_range (pa_cons (pv 3) pa_nil)) (blkOk_by (own := [("_law_sign", 5)]) (N := ["_law_purse_here", "_law_found", "_law_k", "_law_size", "_law_name", "_law_sign", "_law_other", "_law_places"]) (sc := defScope s_dds) (by decide +kernel)) (fun _ _ _ _ _ => (pg_name (i := 5) sc_dds.nd rfl (.inl rfl))) (fun _ _ _ _ _ => pts_nil) (fun _ _ _ _ _ => (pe_cl c_pick hr (by first | decide | omega) (by rfl) (pa_cons (pv 0) (pa_cons pe_str pa_nil))))) pa_nil)))
        (pss_one (ps_if (pt_cmpR op_notIn_seq (pv 4) (pe_lc (own := [("_law_other", 6), ("_law_places", 7)]) (g := (gTup _ 2 (gCons (gName 6) (gCons (gName 7) gNil)))) (by rfl) sc_dds.nd (pi_list (pv 1)) (blkOk_by (own := [("_law_other", 6), ("_law_places", 7)]) (N := ["_law_purse_here", "_law_found", "_law_k", "_law_size", "_law_name", "_law_sign", "_law_other", "_law_places"]) (sc := defScope s_dds) (by decide +kernel)) (fun _ _ _ _ _ => (pg_tup (by rfl) (pgs_cons (pg_name (i := 6) sc_dds.nd rfl (.inl rfl)) (pgs_cons (pg_name (i := 7) sc_dds.nd rfl (.inl rfl)) pgs_nil)))) (fun _ _ _ _ _ => pts_nil) (fun _ _ _ _ _ => (pv 6))) (by rfl))
          (pss_one (ps_expr (pe_bm PySem.F.plainAttrs_list PySem.F.slot_list_append PySem.F.type_list_append mt_append (pv 1) (pa_cons (pe_tup (pa_cons (pv 4) (pa_cons (pe_cl c_draw hr (by first | decide | omega) (by rfl) (pa_cons (pv 0) (pa_cons pe_int pa_nil))) pa_nil))) pa_nil))))
          pss_nil)))))
      (pss_one (ps_ret (pe_callTy call_tupF (by rfl) T.z_tuple (by decide +kernel) (pa_cons (pv 1) pa_nil)))))), ?_⟩
    refine q_asgL (el_lst ea_nil (Nat.zero_le _)) fun l H1 nl e1 hl => ?_
    obtain ⟨lp, lc⟩ := pu.fresh nl
    refine q_forRX (fun n H2 => 1 ≤ n ∧ n ≤ 4 ∧ Off H1 H2 p c ∧ Pur H2 p c (t + 1)) (fun Q h => ?_) (fun n H2 h => by omega)
      (fun n i σ H' => (1 ≤ n ∧ n ≤ 4) ∧ Off H H' p c ∧ (∃ t', Pur H' p c t' ∧ t' ≤ t + 1 + 7 * i) ∧ (∃ (ps : List Addr) (sg : List (Str × Nat)), H' l = some (.lst (ps.map V.ref)) ∧ Paired (fun a d => SqT K H' a [.str d.1, vi d.2]) ps sg ∧ (∀ d ∈ sg, Name d.1 ∧ d.2 ≤ 2) ∧ (sg.map (·.1)).Nodup ∧ sg.length ≤ i ∧ (0 < i → 1 ≤ sg.length)) ∧ ∃ y2 y3 y4, σ = [some (.ref p), some (.ref l), y2, y3, y4, none, none, none])
      (fun n H2 ⟨a, b, o2, pu2⟩ => ⟨⟨a, b⟩, (Off.of_ex e1).trans o2, ⟨_, pu2, by omega⟩, ⟨[], [], o2 _ _ lp lc hl, .nil, fun _ z => (nomatch z), List.nodup_nil, Nat.le_refl _, fun z => absurd z (Nat.lt_irrefl _)⟩, _, _, _, rfl⟩) (fun n i σ H2 hi ⟨⟨a, b⟩, o2, ⟨t2, pu2, lt2⟩, ⟨ps, sg, hps, prs, nm, nd, ls, some1⟩, y2, y3, y4, hσ⟩ => ?_) (fun n σ H2 ⟨⟨a, b⟩, o2, ⟨t2, pu2, lt2⟩, ⟨ps, sg, hps, prs, nm, nd, ls, some1⟩, y2, y3, y4, hσ⟩ => ?_)
    · refine do_draw (ev_var rfl) (ev_c (v := vi 4)) (pu.ex e1) (by omega) (by decide) (by decide) fun k H2 hk o2 pu2 => ⟨1, (k : Int), rfl, rfl, ?_⟩
      have e : V.int (1 + (k : Int)) = vi (k + 1) := by
        show V.int (1 + (k : Int)) = V.int ((k + 1 : Nat) : Int)
        rw [Int.natCast_add, Int.add_comm]
        rfl
      show Q [V.int (1 + (k : Int))] H2
      rw [e]
      exact h (k + 1) H2 ⟨by omega, by omega, o2, pu2⟩
    · subst hσ
      have i4 : i < 4 := by omega
      -- the name's length
      refine do_set (do_op (do_ev ev_c fun H3 e3 => do_cons (do_ev (ev_var rfl) fun H4 e4 => do_cons (do_op (do_evL (el_lst (vs := [vi 2, vi 4]) (ea_cons ev_c (ea_cons ev_c ea_nil)) (by show 2 ≤ 100000; decide)) fun d H5 nd5 e5 hd => do_draw (ev_var rfl) (ev_c (v := vi 2)) (pu2.ex ((e3.trans e4).trans e5)) (by omega) (by decide) (by decide) fun k H6 hk o6 pu6 => ?_)))))
      have e25 := (e3.trans e4).trans e5
      obtain ⟨dp, dc⟩ := (pu2.ex (e3.trans e4)).fresh nd5
      have o26 : Off H2 H6 p c := (Off.of_ex e25).trans o6
      have mk : k < [vi 2, vi 4].length := hk
      have two4 : ∃ m, [vi 2, vi 4][k]? = some (vi m) ∧ 1 ≤ m ∧ m ≤ 4 := by
        have : k = 0 ∨ k = 1 := by omega
        rcases this with e | e <;> subst e
        · exact ⟨2, rfl, by decide, by decide⟩
        · exact ⟨4, rfl, by decide, by decide⟩
      obtain ⟨m, hm, m1, m4⟩ := two4
      refine ⟨d, [vi 2, vi 4], (k : Int), vi m, rfl, rfl, sq_of (o6 _ _ dp dc hd), atI_nat hm, do_nil ⟨p, c, t2 + 1, m, rfl, pu6, by omega, m1, by omega, fun k2 H7 hk2 o7 pu7 => ⟨1, (k2 : Int), rfl, rfl, ?_⟩⟩⟩
      have en : V.int (1 + (k2 : Int)) = vi (k2 + 1) := by
        show V.int (1 + (k2 : Int)) = V.int ((k2 + 1 : Nat) : Int)
        rw [Int.natCast_add, Int.add_comm]
        rfl
      have o27 : Off H2 H7 p c := o26.trans o7
      show tSeq _ _ _ [some (.ref p), some (.ref l), some (vi i), some (V.int (1 + (k2 : Int))), y4, none, none, none] H7
      rw [en]
      obtain ⟨m', hm'⟩ : ∃ m', m' = k2 + 1 := ⟨_, rfl⟩
      rw [← hm']
      have m1' : 1 ≤ m' := by omega
      have m4' : m' ≤ 4 := by omega
      -- the name
      refine do_set ⟨rfl, do_cons (do_lcIt walk_range (fun R r => w_rng (n := m') (ea_cons (ev_var rfl) ea_nil) (by omega) H7 (Ex.refl _) R r) (fun D j H' => H7 D = none ∧ Off H7 H' p c ∧ Pur H' p c (t2 + 1 + 1 + j) ∧ ∃ cs : List Nat, H' D = some (.lst ((cs.map one).map V.str)) ∧ cs.length = j ∧ ∀ c ∈ cs, c ∈ eight.cps.toList)
        (fun D H8 e8 nD => ⟨fresh_back e8 nD, .of_ex (e8.trans (Ex.new nD)), pu7.ex (e8.trans (Ex.new nD)), [], upd_same, rfl, fun _ z => (nomatch z)⟩) (fun _ _ _ _ _ => trivial) (fun D j x H8 H9 hj ⟨nD, o8, pu8, cs, hcs, lcs, low⟩ y => ?_) (fun D H8 ⟨nD, o8, pu8, cs, hcs, lcs, low⟩ => ?_))⟩
      · obtain ⟨rfl, rfl⟩ := y
        obtain ⟨Dp, Dc⟩ := pu7.fresh nD
        refine ⟨rfl, ?_⟩
        refine iteT (do_cons (do_ev (ev_var rfl) fun H10 e10 => do_cons (do_ev ev_c fun H11 e11 => do_nil ⟨p, c, _, pu8.ex (e10.trans e11), by omega, .inl ⟨eight, rfl, by decide, by decide, fun kk dd H12 hdd o12 pu12 => ?_⟩⟩)))
        have o812 : Off H9 H12 p c := (Off.of_ex (e10.trans e11)).trans o12
        refine ⟨_, o812 _ _ Dp Dc hcs, sz_lt (by rw [List.length_map, List.length_map]; omega), nD, (o8.trans o812).upd nD, pu12.upd Dp Dc, cs ++ [dd], ?_, by rw [List.length_append, lcs]; rfl, fun x hx => ?_⟩
        · rw [upd_same, List.map_append, List.map_append]
          rfl
        · rcases List.mem_append.mp hx with z | z
          · exact low x z
          · rw [List.mem_singleton.mp z]
            obtain ⟨hi', e⟩ := Array.getElem?_eq_some_iff.mp hdd
            rw [← e]
            exact Array.getElem_mem_toList hi'
      · refine ⟨Str.ofString "", D, cs.map one, rfl, rfl, .inl (sq_of hcs), ?_, ?_⟩
        · rw [ones_sum]
          show _ + _ * 0 ≤ _
          omega
        obtain ⟨z, hz⟩ : ∃ z, z = Txt.join (Str.ofString "") (cs.map one) := ⟨_, rfl⟩
        rw [← hz]
        have zc : z.cps.toList = cs := by rw [hz]; exact join_ones cs
        have zl : z.length = cs.length := by
          show z.cps.size = _
          rw [← zc, Array.length_toList]
        have zn : Name z := ⟨by omega, by omega, fun x hx => eight_abc x (low x (by rw [← zc]; exact hx))⟩
        have o28 : Off H2 H8 p c := o27.trans o8
        have hl8 : H8 l = some (.lst (ps.map V.ref)) := o28 _ _ lp lc hps
        have et28 : ET K H2 H8 := o28.et pu2
        have prs8 : Paired (fun a d => SqT K H8 a [.str d.1, vi d.2]) ps sg := paired_imp (fun _ _ h => et28 _ _ h) prs
        have lps := paired_len prs8
        show tIfS _ _ _ _ [some (.ref p), some (.ref l), some (vi i), some (vi m'), some (.str z), none, none, none] H8
        -- the names so far
        have names := el_lcP (K := K) (σ := [some (.ref p), some (.ref l), some (vi i), some (vi m'), some (.str z), none, none, none]) (H := H8) (te := tVar 6) (j1 := 6) (j2 := 7) (vs := [6, 7]) (wi := iList K (tVar 1)) (ps := ps) (f1 := fun i => .str (sg.getD i ("", 0)).1) (f2 := fun i => vi (sg.getD i ("", 0)).2) walk_list (w_list (K := K) (xs := ps.map V.ref) (ev_var rfl) (sq_of hl8)) (fun H9 e9 => sq_of (e9 _ _ hl8)) (fun j r hr' => by
            obtain ⟨dd, e1, h1⟩ := paired_at prs8 hr'
            rw [List.getD_eq_getElem?_getD, e1]
            exact h1) (fun i => .str (sg.getD i ("", 0)).1) (by omega) (fun _ _ => rfl) (fun j H9 e9 hj => ev_var rfl)
        have eN : ((List.range ps.length).map fun i => V.str (sg.getD i ("", 0)).1) = (sg.map (·.1)).map V.str := by
          rw [lps]
          apply List.ext_getElem?
          intro j
          by_cases hj : j < sg.length
          · rw [List.getElem?_map, List.getElem?_range hj, List.getElem?_map, List.getElem?_map, List.getElem?_eq_getElem hj]
            show some (V.str (sg.getD j ("", 0)).1) = some (V.str sg[j].1)
            rw [List.getD_eq_getElem?_getD, List.getElem?_eq_getElem hj]
            rfl
          · rw [List.getElem?_eq_none_iff.mpr (by simp; omega), List.getElem?_eq_none_iff.mpr (by simp; omega)]
        rw [eN] at names
        refine s_when (et_test (ev_opL (ev_var rfl) names (fun r H9 hr' e9 => rv_niL (K := K) (sq_of hr') rfl (flat_strs _)))) (fun hb H9 e9 => ?_) (fun hb H9 e9 => ?_)
        · rw [inV_str] at hb
          have new : z ∉ sg.map (·.1) := fun h => by
            rw [decide_eq_true h] at hb
            cases hb
          refine do_app (e9 _ _ hl8) (ev_var rfl) fun H10 e10 => do_tup (do_cons (do_ev (ev_var rfl) fun H11 e11 => do_cons (do_draw (ev_var rfl) (ev_c (v := vi 3)) (pu8.ex ((e9.trans e10).trans e11)) (by omega) (by decide) (by decide) fun pl H12 hpl o12 pu12 => do_nil ⟨by show 2 ≤ sizeLine; decide, fun r nr => ?_⟩)))
          have o812 : Off H8 H12 p c := (Off.of_ex ((e9.trans e10).trans e11)).trans o12
          have hl12 : H12 l = some (.lst (ps.map V.ref)) := o812 _ _ lp lc hl8
          have x13 : Ex H12 (upd H12 r (.tup [.str z, vi pl])) := Ex.new nr
          have hl13 := x13 _ _ hl12
          refine ⟨l, _, .ref r, rfl, rfl, hl13, sz_lt (by rw [List.length_map]; omega), ?_⟩
          have et13 : ET K H8 (upd (upd H12 r (.tup [.str z, vi pl])) l (.lst (ps.map V.ref ++ [.ref r]))) := ET.trans (o812.et pu8) (ET.trans (Dw.Ex.et x13) (ET.refl.upd hl13))
          have et14 : ET K (upd H12 r (.tup [.str z, vi pl])) (upd (upd H12 r (.tup [.str z, vi pl])) l (.lst (ps.map V.ref ++ [.ref r]))) := ET.refl.upd hl13
          obtain ⟨rp, rc⟩ := pu12.fresh nr
          have nlH : H l = none := nl
          refine ⟨⟨a, b⟩, (((o2.trans o28).trans o812).trans (.of_ex x13)).upd nlH, ⟨_, (pu12.ex x13).upd lp lc, by omega⟩, ⟨ps ++ [r], sg ++ [(z, pl)], by rw [upd_same, List.map_append]; rfl, paired_snoc (R := fun a (d : Str × Nat) => SqT K (upd (upd H12 r (.tup [.str z, vi pl])) l (.lst (ps.map V.ref ++ [.ref r]))) a [.str d.1, vi d.2]) (y := (z, pl)) (et14 _ _ (st_of upd_same)) (paired_imp (R := fun a (d : Str × Nat) => SqT K H8 a [V.str d.1, vi d.2]) (fun _ _ h => et13 _ _ h) prs8), fun dd hdd => ?_, ?_, by rw [List.length_append]; show sg.length + 1 ≤ i + 1; omega, fun _ => by rw [List.length_append]; show 1 ≤ sg.length + 1; omega⟩, _, _, _, rfl⟩
          · rcases List.mem_append.mp hdd with h | h
            · exact nm dd h
            · rw [List.mem_singleton.mp h]
              exact ⟨zn, by show pl ≤ 2; omega⟩
          · rw [List.map_append]
            exact (List.perm_append_singleton z (sg.map (·.1))).nodup_iff.mpr (List.nodup_cons.mpr ⟨new, nd⟩)
        · rw [inV_str] at hb
          have old : z ∈ sg.map (·.1) := by
            by_cases h : z ∈ sg.map (·.1)
            · exact h
            · rw [decide_eq_false h] at hb
              cases hb
          refine ⟨⟨a, b⟩, (o2.trans o28).trans (.of_ex e9), ⟨_, pu8.ex e9, by omega⟩, ⟨ps, sg, e9 _ _ hl8, paired_imp (fun _ _ h => ex_t e9 h) prs8, nm, nd, by omega, fun _ => ?_⟩, _, _, _, rfl⟩
          cases sg with
          | nil => cases old
          | cons _ _ => exact Nat.succ_le_succ (Nat.zero_le _)
    · subst hσ
      have ok : SigOk sg := ⟨some1 (by omega), by omega, fun d hd => (nm d hd).1, fun d hd => (nm d hd).2, nd⟩
      refine do_ret (do_cb (do_cons (do_ev (ev_var rfl) fun H3 e3 => ⟨l, _, rfl, sq_of (e3 _ _ hps), fun r o nr od => ?_⟩)))
      have x4 : Ex H2 (upd H3 r (.frz o (.tup (ps.map V.ref)))) := e3.trans (Ex.new nr)
      exact q _ sg t2 _ (o2.trans (.of_ex x4)) (pu2.ex x4) (by omega) ⟨r, o, ps, rfl, upd_same, od, paired_imp (fun _ _ h => ex_t x4 h) prs⟩ ok
end
end K12
end
section
namespace K12
open PySem PySem.Spec PyProof.Rows L2 Evl RZ Dw M20
def six : Str := "uvwxyz"
section
variable {K : PySem.W.Frag} {σ : L2.St} {H : Hp} {ta tb tc te : TE}
end
section
variable {P : Program} {w : World} {K : PySem.W.Frag} {mg : Str → Option Value} {base : Heap}
end
end K12
end
section
namespace K12
open PySem PySem.Spec PyProof.Rows L2 Evl RZ Dw M20
mutual
/-- how deep a term is -/
def Tm.hgt : Tm → Nat
  | .var _ => 0
  | .deed _ ts => 1 + hgts ts
def hgts : List Tm → Nat
  | [] => 0
  | t :: ts => max t.hgt (hgts ts)
end
theorem FSig.off {K : PySem.W.Frag} {H H' : Hp} {v : V} {sg : List (Str × Nat)} {p c : Addr} {t : Nat} (pu : Pur H p c t) (o : Off H H' p c) (h : FSig K H v sg) : FSig K H' v sg := by
  obtain ⟨a, ob, ps, q, s, d, pr⟩ := h
  refine ⟨a, ob, ps, q, o _ _ (fun e => ?_) (fun e => ?_) s, d, paired_imp (fun _ _ z => o.et pu _ _ z) pr⟩
  · rw [e, pu.1] at s
    cases s
  · obtain ⟨_, cs, _, _, h3⟩ := pu
    rw [e, h3] at s
    cases s
section
variable {K : PySem.W.Frag} {σ : L2.St} {H : Hp} {ta tb tc : TE} {t1 : TT}
end
section
variable {P : Program} {w : World} {K : PySem.W.Frag} {mg : Str → Option Value} {base : Heap}
end
end K12
end
section
namespace K12
open PySem PySem.Spec PyProof.Rows L2 Evl RZ Dw M20
theorem tab_of {n pl : Nat} {ks : List Nat} (h1 : ks.length = n ^ pl) (h2 : ∀ k ∈ ks, k < n) : Tab n pl ks := ⟨h1, fun k hk => h2 _ (List.mem_iff_getElem?.mpr ⟨k, g_eq (by rw [h1]; exact hk)⟩)⟩
theorem vi_least (a b : Nat) : V.int (if (b : Int) < (a : Int) then (b : Int) else (a : Int)) = vi (min a b) := by
  by_cases h : b < a
  · rw [if_pos (by omega), Nat.min_eq_right (Nat.le_of_lt h)]
  · rw [if_neg (by omega), Nat.min_eq_left (by omega)]
section
variable {P : Program} {w : World} {K : PySem.W.Frag} {mg : Str → Option Value} {base : Heap}
def sp_model (K : PySem.W.Frag) : Sp := fun vs H Q _ => ∃ (p c : Addr) (t : Nat) (sv : V) (sg : List (Str × Nat)), vs = [.ref p, sv] ∧ Pur H p c t ∧ t ≤ 80000 ∧ FSig K H sv sg ∧ SigOk sg ∧ ∀ v n ts t' H', Off H H' p c → Pur H' p c t' → t' ≤ t + 400 → Mdl K H' v n ts → MdlOk sg n ts → Q v H'
theorem c_model (T : Txt mg) (D : Df K mg "_law_model" s_mdl ["_law_purse_here", "_law_deeds_here"]) (c_draw : Cl P w K mg base 1 "_law_draw" sp_draw) (c_cells : Cl P w K mg base 1 "_law_cells" sp_cells) : Cl P w K mg base 2 "_law_model" (sp_model K) := by
  refine cl_of (k := 1) D sc_mdl (fun vs H Q E h => ?_) (fun f cdv A outer s H vs Q E hr h => ?_)
  · obtain ⟨p, c, t, sv, sg, rfl, _⟩ := h
    rfl
  · obtain ⟨p, c, t, sv, sg, rfl, pu, t1, hG, so, q⟩ := h
    refine ⟨_, (pss_cons (ps_set (i := 2) sc_mdl.nd rfl (.inr rfl) (pe_op op_add pe_int (pe_cl c_draw hr (by first | decide | omega) (by rfl) (pa_cons (pv 0) (pa_cons (pe_ix ix_list (pe_lst (pa_cons pe_int (pa_cons pe_int pa_nil))) (pe_cl c_draw hr (by first | decide | omega) (by rfl) (pa_cons (pv 0) (pa_cons pe_int pa_nil))) (fun _ _ => rfl)) pa_nil)))))
      (pss_cons (ps_set (i := 3) sc_mdl.nd rfl (.inl rfl) (pe_lst pa_nil))
      (pss_cons (ps_for PassesOwn.never (by rfl) (pi_tup (pv 1)) (pg_tup (by rfl) (pgs_cons (pg_name (i := 4) sc_mdl.nd rfl (.inl rfl)) (pgs_cons (pg_name (i := 5) sc_mdl.nd rfl (.inl rfl)) pgs_nil)))
        (pss_cons (ps_set (i := 6) sc_mdl.nd rfl (.inl rfl) (pe_cl c_draw hr (by first | decide | omega) (by rfl) (pa_cons (pv 0) (pa_cons pe_int pa_nil))))
        (pss_cons (ps_set (i := 7) sc_mdl.nd rfl (.inl rfl) (pe_cl c_draw hr (by first | decide | omega) (by rfl) (pa_cons (pv 0) (pa_cons (pv 2) pa_nil))))
        (pss_cons (ps_set (i := 8) sc_mdl.nd rfl (.inl rfl) (pe_lst pa_nil))
        (pss_cons (ps_for PassesOwn.never (by rfl) (pi_range1 (by rfl) T.z_range (pa_cons (pe_cl c_cells hr (by first | decide | omega) (by rfl) (pa_cons (pv 2) (pa_cons (pv 5) pa_nil))) pa_nil)) (pg_name (i := 9) sc_mdl.nd rfl (.inl rfl))
          (pss_cons (ps_par (i := 10) (j := 11) (by rfl) sc_mdl.nd rfl rfl (by decide) rfl rfl (pa_cons (pe_op op_fdiv (pv 9) (pv 2)) (pa_cons (pe_op op_mod (pv 9) (pv 2)) pa_nil)) (by rfl))
          (pss_cons (ps_set (i := 12) sc_mdl.nd rfl (.inl rfl) (pe_cl c_draw hr (by first | decide | omega) (by rfl) (pa_cons (pv 0) (pa_cons (pv 2) pa_nil))))
          (pss_cons (ps_set (i := 13) sc_mdl.nd rfl (.inl rfl) (pe_lst (pa_cons (pe_op op_mod (pe_op op_add (pv 10) (pv 11)) (pv 2)) (pa_cons (pe_callB (call_min2 rfl) (by rfl) T.z_min (by decide +kernel) (pa_cons (pv 10) (pa_cons (pv 11) pa_nil))) (pa_cons (pv 11) (pa_cons (pv 7) (pa_cons (pe_op op_mod (pe_op op_add (pe_op op_mul (pv 10) (pv 11)) (pv 7)) (pv 2)) (pa_cons (pv 12) pa_nil))))))))
          (pss_one (ps_expr (pe_bm PySem.F.plainAttrs_list PySem.F.slot_list_append PySem.F.type_list_append mt_append (pv 8) (pa_cons (pe_ix ix_list (pe_lst (pa_cons (pe_ix ix_list (pv 13) (pv 6) (fun _ _ => rfl)) (pa_cons (pv 12) pa_nil))) (pe_callTy call_int1 (by rfl) T.z_int (by decide +kernel) (pa_cons (pe_cmpR op_eq (pe_cl c_draw hr (by first | decide | omega) (by rfl) (pa_cons (pv 0) (pa_cons pe_int pa_nil))) pe_int (nomark _)) pa_nil)) (fun _ _ => rfl)) pa_nil))))))))
        (pss_one (ps_expr (pe_bm PySem.F.plainAttrs_list PySem.F.slot_list_append PySem.F.type_list_append mt_append (pv 3) (pa_cons (pe_callTy call_tuple_of (by rfl) T.z_tuple (by decide +kernel) (pa_cons (pe_lc (own := [("_law_number", 14)]) (g := (gName 14)) (by rfl) sc_mdl.nd (pi_list (pv 8)) (blkOk_by (own := [("_law_number", 14)]) (N := ["_law_purse_here", "_law_deeds_here", "_law_size", "_law_tables_here", "_law_name", "_law_places", "_law_way", "_law_step", "_law_table", "_law_at", "_law_one", "_law_other", "_law_drawn", "_law_some", "_law_number"]) (sc := defScope s_mdl) (by decide +kernel)) (fun _ _ _ _ _ => (pg_name (i := 14) sc_mdl.nd rfl (.inl rfl))) (fun _ _ _ _ _ => pts_nil) (fun _ _ _ _ _ => (pe_op op_mod (pv 14) (pv 2)))) pa_nil)) pa_nil)))))))))
      (pss_one (ps_ret (pe_tup (pa_cons (pv 2) (pa_cons (pe_callTy call_tuple_of (by rfl) T.z_tuple (by decide +kernel) (pa_cons (pv 3) pa_nil)) pa_nil)))))))), ?_⟩
    have sl4 := so.l4
    -- the size
    refine do_set (do_op (do_ev ev_c fun H1 e1 => do_cons (do_ev (ev_var rfl) fun H2 e2 => do_cons (do_op (do_evL (el_lst (vs := [vi 4, vi 6]) (ea_cons ev_c (ea_cons ev_c ea_nil)) (by show 2 ≤ 100000; decide)) fun d H3 nd3 e3 hd => do_draw (ev_var rfl) (ev_c (v := vi 2)) (pu.ex ((e1.trans e2).trans e3)) (by omega) (by decide) (by decide) fun k H4 hk o4 pu4 => ?_)))))
    have e03 := (e1.trans e2).trans e3
    obtain ⟨dp, dc⟩ := (pu.ex (e1.trans e2)).fresh nd3
    have o04 : Off H H4 p c := (Off.of_ex e03).trans o4
    have two6 : ∃ m, [vi 4, vi 6][k]? = some (vi m) ∧ 1 ≤ m ∧ m ≤ 6 := by
      have : k = 0 ∨ k = 1 := by omega
      rcases this with e | e <;> subst e
      · exact ⟨4, rfl, by decide, by decide⟩
      · exact ⟨6, rfl, by decide, by decide⟩
    obtain ⟨m, hm, m1, m6⟩ := two6
    refine ⟨d, [vi 4, vi 6], (k : Int), vi m, rfl, rfl, sq_of (o4 _ _ dp dc hd), atI_nat hm, do_nil ⟨p, c, t + 1, m, rfl, pu4, by omega, m1, by omega, fun k2 H5 hk2 o5 pu5 => ⟨1, (k2 : Int), rfl, rfl, ?_⟩⟩⟩
    have en : V.int (1 + (k2 : Int)) = vi (k2 + 1) := by
      show V.int (1 + (k2 : Int)) = V.int ((k2 + 1 : Nat) : Int)
      rw [Int.natCast_add, Int.add_comm]
      rfl
    have o05 : Off H H5 p c := o04.trans o5
    show tSeq _ _ _ [some (.ref p), some sv, some (V.int (1 + (k2 : Int))), none, none, none, none, none, none, none, none, none, none, none, none] H5
    rw [en]
    obtain ⟨n, hn⟩ : ∃ n, n = k2 + 1 := ⟨_, rfl⟩
    rw [← hn]
    have n1 : 1 ≤ n := by omega
    have n6 : n ≤ 6 := by omega
    have hG5 : FSig K H5 sv sg := hG.off pu o05
    obtain ⟨sa, so1, ps, rfl, hsa, sod, prs⟩ := id hG5
    have lps := paired_len prs
    have sqS : SqT K H5 sa (ps.map V.ref) := .inl (.inr ⟨so1, hsa⟩)
    refine q_asgL (el_lst ea_nil (Nat.zero_le _)) fun l H6 nl e6 hl => ?_
    obtain ⟨lp, lc⟩ := pu5.fresh nl
    refine q_forT (K := K) (ev_var rfl) (ex_t e6 sqS) (fun i σ H' => Off H5 H' p c ∧ (∃ t', Pur H' p c t' ∧ t' ≤ t + 2 + 74 * i) ∧ (∃ ws ts, H' l = some (.lst ws) ∧ Paired (Nats K H') ws ts ∧ ts.length = i ∧ ∀ (j : Nat) (d : Str × Nat) (tb : List Nat), sg[j]? = some d → ts[j]? = some tb → Tab n d.2 tb) ∧ ∃ y4 y5 y6 y7 y8 y9 y10 y11 y12 y13, σ = [some (.ref p), some (.ref sa), some (vi n), some (.ref l), y4, y5, y6, y7, y8, y9, y10, y11, y12, y13, none])
      (fun H7 e7 => ⟨.of_ex (e6.trans e7), ⟨_, pu5.ex (e6.trans e7), by omega⟩, ⟨[], [], e7 _ _ hl, .nil, rfl, fun j d tb _ h => by rw [List.getElem?_nil] at h; cases h⟩, none, none, none, none, none, none, none, none, none, none, rfl⟩) (fun i σ H' _ ⟨o, _⟩ => o.et pu5 _ _ sqS) (fun i x σ H7 hx hP => ?_) (fun σ H7 hP => ?_)
    · obtain ⟨o7, ⟨t7, pu7, lt7⟩, ⟨ws, ts, hws, pws, lts, tabs⟩, y4, y5, y6, y7, y8, y9, y10, y11, y12, y13, hσ⟩ := hP
      subst hσ
      obtain ⟨r, er, hr'⟩ : ∃ r, ps[i]? = some r ∧ x = .ref r := by
        rw [List.getElem?_map] at hx
        cases hk : ps[i]? with
        | none =>
          rw [hk] at hx
          cases hx
        | some r =>
          rw [hk] at hx
          exact ⟨r, rfl, (Option.some.inj hx).symm⟩
      subst hr'
      obtain ⟨dd, ed, hdd⟩ := paired_at prs er
      have il : i < sg.length := (List.getElem?_eq_some_iff.mp ed).1
      have pl2 : dd.2 ≤ 2 := so.pl _ (List.mem_iff_getElem?.mpr ⟨i, ed⟩)
      have big : n ^ dd.2 ≤ 36 := by
        have h1 : n ^ dd.2 ≤ 6 ^ dd.2 := Nat.pow_le_pow_left n6 _
        have h2 : 6 ^ dd.2 ≤ 6 ^ 2 := Nat.pow_le_pow_right (by decide) pl2
        omega
      refine ⟨r, _, rfl, o7.et pu5 _ _ hdd, rfl, _, _, rfl, _, _, rfl, rfl, ?_⟩
      show tSeq _ _ _ [some (.ref p), some (.ref sa), some (vi n), some (.ref l), some (.str dd.1), some (vi dd.2), y6, y7, y8, y9, y10, y11, y12, y13, none] H7
      refine do_set (do_draw (ev_var rfl) (ev_c (v := vi 6)) pu7 (by omega) (by decide) (by decide) fun way H8 hw o8 pu8 => ?_)
      show tSeq _ _ _ [some (.ref p), some (.ref sa), some (vi n), some (.ref l), some (.str dd.1), some (vi dd.2), some (vi way), y7, y8, y9, y10, y11, y12, y13, none] H8
      refine do_set (do_draw (ev_var rfl) (ev_var rfl) pu8 (by omega) n1 (by omega) fun step H9 hst o9 pu9 => ?_)
      show tSeq _ _ _ [some (.ref p), some (.ref sa), some (vi n), some (.ref l), some (.str dd.1), some (vi dd.2), some (vi way), some (vi step), y8, y9, y10, y11, y12, y13, none] H9
      have o79 : Off H7 H9 p c := o8.trans o9
      have hws9 : H9 l = some (.lst ws) := o79 _ _ lp lc hws
      refine q_asgL (el_lst ea_nil (Nat.zero_le _)) fun tl H10 ntl e10 htl => ?_
      obtain ⟨tlp, tlc⟩ := pu9.fresh ntl
      have tll : l ≠ tl := fun z => by
        rw [← z, hws9] at ntl
        cases ntl
      have pu10 := pu9.ex e10
      refine q_forRX (fun m' H11 => m' = n ^ dd.2 ∧ Ex H10 H11) (fun Q h => ea_cons (ev_callV (v := vi (n ^ dd.2)) (n, dd.2) (ea_cons (ev_var rfl) (ea_cons (ev_var rfl) ea_nil)) (fun _ _ => ⟨rfl, n6, pl2⟩) (fun _ _ p => p)) ea_nil H10 (Ex.refl _) Q fun H11 e11 => h (n ^ dd.2) H11 ⟨rfl, e11⟩) (fun m' H11 h => by omega)
        (fun m' j σ H' => m' = n ^ dd.2 ∧ Off H9 H' p c ∧ Pur H' p c (t7 + 2 + 2 * j) ∧ (∃ ks : List Nat, H' tl = some (.lst (ks.map vi)) ∧ ks.length = j) ∧ ∃ y9 y10 y11 y12 y13, σ = [some (.ref p), some (.ref sa), some (vi n), some (.ref l), some (.str dd.1), some (vi dd.2), some (vi way), some (vi step), some (.ref tl), y9, y10, y11, y12, y13, none])
        (fun m' H11 ⟨h, e11⟩ => ⟨h, .of_ex (e10.trans e11), pu10.ex e11, ⟨[], e11 _ _ htl, rfl⟩, _, _, _, _, _, rfl⟩) (fun m' j σ H11 hj ⟨hm', o11, pu11, ⟨ks, hks, lks⟩, z9, z10, z11, z12, z13, hσ⟩ => ?_) (fun m' σ H11 ⟨hm', o11, pu11, ⟨ks, hks, lks⟩, z9, z10, z11, z12, z13, hσ⟩ => ?_)
      · subst hσ
        subst hm'
        have j36 : j < 36 := by omega
        have jn : j / n ≤ 36 := Nat.le_trans (Nat.div_le_self _ _) (by omega)
        have parE : EvA (tCons (tOp (rI CDiv fun i j => .int (i / j)) (tVar 9) (tVar 2)) (tCons (tOp (rI (fun _ j => 0 < j) fun i j => .int (i % j)) (tVar 9) (tVar 2)) tNil)) [some (.ref p), some (.ref sa), some (vi n), some (.ref l), some (.str dd.1), some (vi dd.2), some (vi way), some (vi step), some (.ref tl), some (vi j), z10, z11, z12, z13, none] H11 [vi (j / n), vi (j % n)] := ea_cons (ev_divM (ev_var rfl) (ev_var rfl) n1 (by omega)) (ea_cons (ev_modM (ev_var rfl) (ev_var rfl) n1) ea_nil)
        refine do_par (parE H11 (Ex.refl _) _ fun H12 e12 => ⟨_, _, rfl, ?_⟩)
        show tSeq _ _ _ [some (.ref p), some (.ref sa), some (vi n), some (.ref l), some (.str dd.1), some (vi dd.2), some (vi way), some (vi step), some (.ref tl), some (vi j), some (vi (j / n)), some (vi (j % n)), z12, z13, none] H12
        refine do_set (do_draw (ev_var rfl) (ev_var rfl) (pu11.ex e12) (by omega) n1 (by omega) fun dr H13 hdr o13 pu13 => ?_)
        show tSeq _ _ _ [some (.ref p), some (.ref sa), some (vi n), some (.ref l), some (.str dd.1), some (vi dd.2), some (vi way), some (vi step), some (.ref tl), some (vi j), some (vi (j / n)), some (vi (j % n)), some (vi dr), z13, none] H13
        have hks13 : H13 tl = some (.lst (ks.map vi)) := o13 _ _ tlp tlc (e12 _ _ hks)
        refine q_asgL (el_lst (vs := [(j / n + j % n) % n, min (j / n) (j % n), j % n, step, (j / n * (j % n) + step) % n, dr].map vi) (ea_cons (ev_modM (ev_addM (ev_var rfl) (ev_var rfl)) (ev_var rfl) n1) (ea_cons (ev_is (ev_cb (z := .int (if ((j % n : Nat) : Int) < ((j / n : Nat) : Int) then ((j % n : Nat) : Int) else ((j / n : Nat) : Int))) (ea_cons (ev_var rfl) (ea_cons (ev_var rfl) ea_nil)) (fun H8 _ Q q8 => ⟨_, _, rfl, q8 H8 (Ex.refl _)⟩)) (vi_least _ _)) (ea_cons (ev_var rfl) (ea_cons (ev_var rfl) (ea_cons (ev_modM (ev_addM (ev_mulM (ev_var rfl) (ev_var rfl) (by omega)) (ev_var rfl)) (ev_var rfl) n1) (ea_cons (ev_var rfl) ea_nil)))))) (by show 6 ≤ 100000; decide)) fun sl H14 nsl e14 hsl => ?_
        obtain ⟨kk, hkk⟩ : ∃ kk, [(j / n + j % n) % n, min (j / n) (j % n), j % n, step, (j / n * (j % n) + step) % n, dr][way]? = some kk := ⟨_, List.getElem?_eq_getElem hw⟩
        have hat : ([(j / n + j % n) % n, min (j / n) (j % n), j % n, step, (j / n * (j % n) + step) % n, dr].map vi)[way]? = some (vi kk) := by
          rw [List.getElem?_map, hkk]
          rfl
        have hks14 := e14 _ _ hks13
        refine do_app hks14 (ev_var rfl) fun H15 e15 => do_op (do_evL (el_lst (vs := [vi kk, vi dr]) (ea_cons (ev_op (ev_var rfl) (ev_var rfl) (rv_ixL (K := K) (sq_of (e15 _ _ hsl)) (atI_vi hat))) (ea_cons (ev_var rfl) ea_nil)) (by show 2 ≤ 100000; decide)) fun b H16 nb e16 hb => do_cb (do_cons (do_op (do_draw (ev_var rfl) (ev_c (v := vi 9)) (pu13.ex ((e14.trans e15).trans e16)) (by omega) (by decide) (by decide) fun kz H17 hkz o17 pu17 => do_ev ev_c fun H18 e18 => rv_eq rfl H18 (Ex.refl _) _ fun H19 e19 => do_nil (.inr ⟨_, rfl, ?_⟩)))))
        have e1316 := (e14.trans e15).trans e16
        have e1719 := e18.trans e19
        obtain ⟨bp, bc⟩ := (pu13.ex (e14.trans e15)).fresh nb
        have hb19 : H19 b = some (.lst [vi kk, vi dr]) := e1719 _ _ (o17 _ _ bp bc hb)
        have hks19 : H19 tl = some (.lst (ks.map vi)) := e1719 _ _ (o17 _ _ tlp tlc (e1316 _ _ hks13))
        have o919 : Off H9 H19 p c := (((o11.trans (.of_ex e12)).trans o13).trans (.of_ex e1316)).trans (o17.trans (.of_ex e1719))
        have pu19 : Pur H19 p c (t7 + 2 + 2 * j + 1 + 1) := pu17.ex e1719
        have fin : ∀ kf : Nat, ∃ a ys y, V.ref tl = .ref a ∧ [vi kf] = [y] ∧ H19 a = some (.lst ys) ∧ ys.length < sizeLine ∧ (n ^ dd.2 = n ^ dd.2 ∧ Off H9 (upd H19 a (.lst (ys ++ [y]))) p c ∧ Pur (upd H19 a (.lst (ys ++ [y]))) p c (t7 + 2 + 2 * (j + 1)) ∧ (∃ ks : List Nat, (upd H19 a (.lst (ys ++ [y]))) tl = some (.lst (ks.map vi)) ∧ ks.length = j + 1) ∧ ∃ y9 y10 y11 y12 y13, [some (.ref p), some (.ref sa), some (vi n), some (.ref l), some (.str dd.1), some (vi dd.2), some (vi way), some (vi step), some (.ref tl), some (vi j), some (vi (j / n)), some (vi (j % n)), some (vi dr), some (.ref sl), none] = [some (.ref p), some (.ref sa), some (vi n), some (.ref l), some (.str dd.1), some (vi dd.2), some (vi way), some (vi step), some (.ref tl), y9, y10, y11, y12, y13, none]) := fun kf =>
          ⟨tl, ks.map vi, vi kf, rfl, rfl, hks19, sz_lt (by rw [List.length_map]; omega), rfl, o919.upd ntl, (by
            have e : t7 + 2 + 2 * (j + 1) = t7 + 2 + 2 * j + 1 + 1 := by omega
            rw [e]
            exact pu19.upd tlp tlc), ⟨ks ++ [kf], by rw [upd_same, List.map_append]; rfl, by rw [List.length_append, lks]; rfl⟩, _, _, _, _, _, rfl⟩
        by_cases z0 : vi kz = V.int 0
        · rw [decide_eq_true z0]
          exact ⟨b, _, 1, vi dr, rfl, rfl, sq_of hb19, rfl, fin dr⟩
        · rw [decide_eq_false z0]
          exact ⟨b, _, 0, vi kk, rfl, rfl, sq_of hb19, rfl, fin kk⟩
      · subst hσ
        subst hm'
        have hws11 : H11 l = some (.lst ws) := o11 _ _ lp lc hws9
        have lw := paired_len pws
        have z := el_lcL (K := K) (t := tYes) (te := tOp (rI (fun _ j => 0 < j) fun i j => .int (i % j)) (tVar 14) (tVar 2)) (tl := tVar 8) (σ := [some (.ref p), some (.ref sa), some (vi n), some (.ref l), some (.str dd.1), some (vi dd.2), some (vi way), some (vi step), some (.ref tl), z9, z10, z11, z12, z13, none]) (H := H11) (j := 14) (vs := [14]) (a := tl) (xs := ks.map vi) (fun _ => true) (fun i => vi (ks.getD i 0 % n)) (ev_var rfl) (sq_of hks) (by rw [List.length_map]; omega) (fun _ => rfl) (fun _ _ _ _ _ => et_yes) (fun i x H12 e12 hx _ => by
          rw [List.getElem?_map] at hx
          cases hk : ks[i]? with
          | none =>
            rw [hk] at hx
            cases hx
          | some k =>
            rw [hk] at hx
            cases Option.some.inj hx
            rw [List.getD_eq_getElem?_getD, hk]
            exact ev_modM (ev_var rfl) (ev_var rfl) n1)
        have ez : given (ks.map vi).length (fun _ => true) (fun i => vi (ks.getD i 0 % n)) = (ks.map (· % n)).map vi := by
          rw [given_all, List.length_map]
          apply List.ext_getElem?
          intro i
          by_cases hi : i < ks.length
          · rw [List.getElem?_map, List.getElem?_range hi, List.getElem?_map, List.getElem?_map, List.getElem?_eq_getElem hi]
            show some (vi (ks.getD i 0 % n)) = some (vi (ks[i] % n))
            rw [List.getD_eq_getElem?_getD, List.getElem?_eq_getElem hi]
            rfl
          · rw [List.getElem?_eq_none_iff.mpr (by simp; omega), List.getElem?_eq_none_iff.mpr (by simp; omega)]
        rw [ez] at z
        refine s_appU hws11 (ev_var rfl) (eu_tupN (K := K) z) (by omega) fun r2 H12 nr2 e12 hr2 => ?_
        have hws12 := e12 _ _ hws11
        have et : ET K H12 (upd H12 l (.lst (ws ++ [.ref r2]))) := ET.refl.upd hws12
        have o712 : Off H7 H12 p c := (o79.trans o11).trans (.of_ex e12)
        refine ⟨(o7.trans o712).upd nl, ⟨_, (pu11.ex e12).upd lp lc, by omega⟩, ⟨ws ++ [.ref r2], ts ++ [ks.map (· % n)], upd_same, paired_snoc (Nats.et et ⟨r2, rfl, st_of hr2⟩) (paired_imp (fun _ _ h => h.et (ET.trans (o712.et pu7) et)) pws), by rw [List.length_append, lts]; rfl, fun j d' tb h1 h2 => ?_⟩, _, _, _, _, _, _, _, _, _, _, rfl⟩
        by_cases hj : j < ts.length
        · rw [List.getElem?_append_left hj] at h2
          exact tabs j d' tb h1 h2
        · have hj2 : j < (ts ++ [ks.map (· % n)]).length := (List.getElem?_eq_some_iff.mp h2).1
          rw [List.length_append, List.length_singleton] at hj2
          have ej : j = ts.length := by omega
          subst ej
          rw [List.getElem?_append_right (Nat.le_refl _), Nat.sub_self] at h2
          cases Option.some.inj h2
          rw [lts, ed] at h1
          cases Option.some.inj h1
          refine tab_of (by rw [List.length_map, lks]) fun k hk => ?_
          obtain ⟨k', _, e⟩ := List.mem_map.mp hk
          rw [← e]
          exact Nat.mod_lt _ n1
    · obtain ⟨o7, ⟨t7, pu7, lt7⟩, ⟨ws, ts, hws, pws, lts, tabs⟩, y4, y5, y6, y7, y8, y9, y10, y11, y12, y13, hσ⟩ := hP
      subst hσ
      rw [List.length_map, lps] at lts
      rw [List.length_map, lps] at lt7
      refine do_ret (do_tup (do_cons (do_ev (ev_var rfl) fun H8 e8 => do_cons (do_evU (eu_tupL (K := K) (ev_var rfl) (sq_of (e8 _ _ hws))) fun r H9 nr e9 hr9 => do_nil ⟨by show 2 ≤ sizeLine; decide, fun m' nm' => ?_⟩))))
      have e710 := (e8.trans e9).trans (Ex.new (o := .tup [vi n, .ref r]) nm')
      refine q _ n ts t7 _ ((o05.trans o7).trans (.of_ex e710)) (pu7.ex e710) (by omega) ⟨m', .ref r, rfl, st_of upd_same, r, ws, rfl, st_of (Ex.new nm' _ _ hr9), paired_imp (fun _ _ z => Nats.ex e710 z) pws⟩ ?_
      exact { n1 := n1, n6 := n6, len := lts, tab := fun i h1 h2 => tabs i _ _ (List.getElem?_eq_getElem h1) (List.getElem?_eq_getElem h2) }
end
end K12
end
section
namespace K12
open PySem PySem.Spec PyProof.Rows L2 Evl RZ Dw M20
section
variable {K : PySem.W.Frag} {σ : L2.St} {H : Hp} {te tl : TE} {tt : TT} {D : Ends} {tu tz : TS} {g : TG}
end
section
variable {P : Program} {w : World} {K : PySem.W.Frag} {mg : Str → Option Value} {base : Heap}
/-! ### the law's own worth -/
/-! ### rows -/
/-! ### letters met -/
end
end K12
end
section
namespace K12
open PySem PySem.Spec PyProof.Rows L2 Evl RZ Dw M20
/-! ### rows and columns -/
/-! ### more data -/
theorem dps_vi {K : PySem.W.Frag} {H : Hp} : ∀ ks : List Nat, DpAll K H (ks.map vi) (ks.map fun k => .int ((k : Nat) : Int))
  | [] => .nil
  | k :: ks => .cons (.int _) (dps_vi ks)
section
variable {K : PySem.W.Frag} {σ : L2.St} {H : Hp} {ta tb te tl : TE} {P R : V → Hp → Prop} {z : V} {D : Ends} {tu tz : TS}
end
section
variable {P : Program} {w : World} {K : PySem.W.Frag} {mg : Str → Option Value} {base : Heap}
end
end K12
end
section
namespace K12
open PySem PySem.Spec PyProof.Rows L2 Evl RZ Dw M20
/-- the row of numbers at a place -/
def rowAt (n m r : Nat) : List Nat := (List.range m).map fun i => r / n ^ (m - 1 - i) % n
section
variable {P : Program} {w : World} {K : PySem.W.Frag} {mg : Str → Option Value} {base : Heap}
end
end K12
end
section
namespace K12
open PySem PySem.Spec PyProof.Rows L2 Evl RZ Dw M20
section
variable {P : Program} {w : World} {K : PySem.W.Frag} {mg : Str → Option Value} {base : Heap}
end
end K12
end
section
namespace K12
open PySem PySem.Spec PyProof.Rows L2 Evl RZ Dw M20
/-! equations -/
structure Eqn where
  l : Tm
  r : Tm
/-- both sides under one roof -/
def Eqn.tm (e : Eqn) : Tm := .deed "" [e.l, e.r]
def EqV (K : PySem.W.Frag) (H : Hp) (v : V) (e : Eqn) : Prop := ∃ a u1 u2, v = .ref a ∧ SqT K H a [u1, u2] ∧ TmV K H e.l u1 ∧ TmV K H e.r u2
theorem EqV.et {K : PySem.W.Frag} {H H' : Hp} {v : V} {e : Eqn} (x : ET K H H') (h : EqV K H v e) : EqV K H' v e := let ⟨a, u1, u2, q, s, t1, t2⟩ := h; ⟨a, u1, u2, q, x _ _ s, t1.et x, t2.et x⟩
theorem EqV.ex {K : PySem.W.Frag} {H H' : Hp} {v : V} {e : Eqn} (x : Ex H H') (h : EqV K H v e) : EqV K H' v e := h.et (Dw.Ex.et x)
structure EqOk (sg : List (Str × Nat)) (e : Eqn) : Prop where
  okl : e.l.ok sg
  okr : e.r.ok sg
  fewl : e.l.sz ≤ 12
  fewr : e.r.sz ≤ 12
  l4 : (inner e.tm).length ≤ 4
theorem EqOk.sub {sg : List (Str × Nat)} {e : Eqn} (h : EqOk sg e) : ∀ x ∈ e.tm.ls, x ∈ vars := by
  intro x hx
  rw [Eqn.tm, Tm.ls, lss, lss, lss, List.append_nil, List.mem_append] at hx
  rcases hx with z | z
  · exact ls_vars _ h.okl x z
  · exact ls_vars _ h.okr x z
section
variable {P : Program} {w : World} {K : PySem.W.Frag} {mg : Str → Option Value} {base : Heap} {σ : L2.St} {H : Hp}
theorem FStrs.sq {v : V} {ls : List Str} (h : FStrs H v ls) : ∃ a, v = .ref a ∧ SqT K H a (ls.map V.str) := let ⟨a, o, q, s, _⟩ := h; ⟨a, q, .inl (.inr ⟨o, s⟩)⟩
/-- equations in a tuple, a kind -/
def EqsV (K : PySem.W.Frag) (H : Hp) (b : Addr) (es : List Eqn) : Prop := ∃ us, SqT K H b us ∧ Paired (fun u e => EqV K H u e) us es
theorem EqsV.ex {H H' : Hp} {b : Addr} {es : List Eqn} (x : Ex H H') (h : EqsV K H b es) : EqsV K H' b es := let ⟨us, s, p⟩ := h; ⟨us, ex_t x s, paired_imp (fun _ _ z => z.ex x) p⟩
def KindV (K : PySem.W.Frag) (H : Hp) (v : V) (sg : List (Str × Nat)) (es : List Eqn) : Prop := ∃ a u b, v = .ref a ∧ SqT K H a [u, .ref b] ∧ FSig K H u sg ∧ EqsV K H b es
theorem KindV.ex {H H' : Hp} {v : V} {sg : List (Str × Nat)} {es : List Eqn} (x : Ex H H') (h : KindV K H v sg es) : KindV K H' v sg es := let ⟨a, u, b, q, s, f, e⟩ := h; ⟨a, u, b, q, ex_t x s, f.ex x, e.ex x⟩
end
end K12
end
section
namespace K12
open PySem PySem.Spec PyProof.Rows L2 Evl RZ Dw M20
structure UArg where
  sg : List (Str × Nat)
  n : Nat
  tbs : List (List Nat)
  e : Eqn
def UArg.ls (p : UArg) : List Str := inner p.e.tm
def UArg.m (p : UArg) : Nat := p.ls.length
def UArg.lc (p : UArg) : CArg := ⟨p.sg, p.n, p.tbs, p.e.l, p.ls⟩
def UArg.rc (p : UArg) : CArg := ⟨p.sg, p.n, p.tbs, p.e.r, p.ls⟩
def UArg.odd (p : UArg) (r : Nat) : Bool := !decide (p.lc.at r = p.rc.at r)
/-- the places at which the sides are unlike -/
def UArg.unl (p : UArg) : List Nat := (List.range (p.n ^ p.m)).filter p.odd
structure UOk (p : UArg) : Prop where
  so : SigOk p.sg
  mo : MdlOk p.sg p.n p.tbs
  eo : EqOk p.sg p.e
theorem UOk.lc {p : UArg} (h : UOk p) : COk 12 p.lc := ⟨h.so, h.mo, h.eo.okl, fun x hx => (mem_inner h.eo.sub).mpr (by rw [Eqn.tm, Tm.ls, lss]; exact List.mem_append_left _ hx), h.eo.l4, h.eo.fewl⟩
theorem UOk.rc {p : UArg} (h : UOk p) : COk 12 p.rc := ⟨h.so, h.mo, h.eo.okr, fun x hx => (mem_inner h.eo.sub).mpr (by rw [Eqn.tm, Tm.ls, lss, lss, lss, List.append_nil]; exact List.mem_append_right _ hx), h.eo.l4, h.eo.fewr⟩
section
variable {P : Program} {w : World} {K : PySem.W.Frag} {mg : Str → Option Value} {base : Heap} {σ : L2.St} {H : Hp}
end
end K12
end
section
namespace K12
open PySem PySem.Spec PyProof.Rows L2 Evl RZ Dw M20
/-- the first that is broken, ahead of place i -/
def dueAt (bs : List (Option (List Nat))) : Nat → Option (Nat × List Nat)
  | 0 => none
  | i + 1 => match dueAt bs i with
    | some x => some x
    | none => match bs[i]? with
      | some (some r) => some (i, r)
      | _ => none
def due (bs : List (Option (List Nat))) : Option (Nat × List Nat) := dueAt bs bs.length
def UArg.bad (p : UArg) : Option (List Nat) := p.unl.head?.map (rowAt p.n p.m)
def DueV (K : PySem.W.Frag) (H : Hp) (v : V) : Option (Nat × List Nat) → Prop
  | none => v = .non
  | some (k, row) => ∃ a b, v = .ref a ∧ SqT K H a [vi k, .ref b] ∧ SqT K H b (row.map vi)
structure KArg where
  sg : List (Str × Nat)
  n : Nat
  tbs : List (List Nat)
  es : List Eqn
def KArg.u (p : KArg) (e : Eqn) : UArg := ⟨p.sg, p.n, p.tbs, e⟩
def KArg.bs (p : KArg) : List (Option (List Nat)) := p.es.map fun e => (p.u e).bad
structure KOk (p : KArg) : Prop where
  so : SigOk p.sg
  mo : MdlOk p.sg p.n p.tbs
  l8 : p.es.length ≤ 8
  eo : ∀ e ∈ p.es, EqOk p.sg e
theorem KOk.u {p : KArg} (h : KOk p) {i : Nat} (hi : i < p.es.length) : UOk (p.u p.es[i]) := ⟨h.so, h.mo, h.eo _ (List.getElem_mem hi)⟩
section
variable {P : Program} {w : World} {K : PySem.W.Frag} {mg : Str → Option Value} {base : Heap} {σ : L2.St} {H : Hp}
/-- equations in a list -/
def EqsL (K : PySem.W.Frag) (H : Hp) (v : V) (es : List Eqn) : Prop := ∃ l us, v = .ref l ∧ H l = some (.lst us) ∧ Paired (fun u e => EqV K H u e) us es
theorem EqsL.ex {H H' : Hp} {v : V} {es : List Eqn} (x : Ex H H') (h : EqsL K H v es) : EqsL K H' v es := let ⟨l, us, q, s, p⟩ := h; ⟨l, us, q, x _ _ s, paired_imp (fun _ _ z => z.ex x) p⟩
end
end K12
end
section
namespace K12
open PySem PySem.Spec PyProof.Rows L2 Evl RZ Dw M20
/-! ### terms as data -/
mutual
def Tm.data : Tm → PyData
  | .var x => .tuple [.str "var", .str x]
  | .deed f ts => .tuple [.str "deed", .str f, .tuple (datas ts)]
def datas : List Tm → List PyData
  | [] => []
  | t :: ts => t.data :: datas ts
end
mutual
theorem TmV.dp {K : PySem.W.Frag} {H : Hp} : ∀ {t : Tm} {v : V}, TmV K H t v → Dp K H v t.data
  | .var x, v, h => by
    rw [TmV] at h
    obtain ⟨a, rfl, s⟩ := h
    rw [Tm.data]
    exact .tup s (.cons (.str _) (.cons (.str _) .nil))
  | .deed f ts, v, h => by
    rw [TmV] at h
    obtain ⟨a, b, vs, rfl, s, s2, r⟩ := h
    rw [Tm.data]
    exact .tup s (.cons (.str _) (.cons (.str _) (.cons (.tup s2 (TmsV.dp r)) .nil)))
theorem TmsV.dp {K : PySem.W.Frag} {H : Hp} : ∀ {ts : List Tm} {vs : List V}, TmsV K H ts vs → DpAll K H vs (datas ts)
  | [], vs, h => by
    rw [TmsV] at h
    subst h
    rw [datas]
    exact .nil
  | t :: ts, vs, h => by
    rw [TmsV] at h
    obtain ⟨v, us, rfl, a, b⟩ := h
    rw [datas]
    exact .cons (TmV.dp a) (TmsV.dp b)
end
theorem gd_strB {z : Str} (h : ∀ c ∈ z.cps.toList, c < 0x110000) (l : z.cps.size ≤ 4) : Gd 0 4 (.str z) := by
  have g := gd_str h (Nat.le_trans l (by decide))
  exact ⟨g.lay, g.dep, by rw [PyData.weight]; exact l, g.its, g.sho⟩
theorem name_cps {z : Str} (h : Name z) : ∀ c ∈ z.cps.toList, c < 0x110000 := fun c hc => by
  have all : ∀ c ∈ letters.cps.toList, c < 0x110000 := by decide
  exact all c (h.abc c hc)
def Eqn.data (e : Eqn) : PyData := .tuple [e.l.data, e.r.data]
theorem EqV.dp {K : PySem.W.Frag} {H : Hp} {v : V} {e : Eqn} (h : EqV K H v e) : Dp K H v e.data := by
  obtain ⟨a, u1, u2, rfl, s, t1, t2⟩ := h
  exact .tup s (.cons (TmV.dp t1) (.cons (TmV.dp t2) .nil))
end K12
end
section
namespace K12
open PySem PySem.Spec PyProof.Rows L2 Evl RZ Dw M20
section
variable {P : Program} {w : World} {K : PySem.W.Frag} {mg : Str → Option Value} {base : Heap} {σ : L2.St} {H : Hp}
end
end K12
end
section
namespace K12
open PySem PySem.Spec PyProof.Rows L2 Evl RZ Dw M20
def RowsV (K : PySem.W.Frag) (H : Hp) (l : Addr) (rows : List (List Nat)) : Prop := ∃ us, H l = some (.lst us) ∧ Paired (Nats K H) us rows
theorem nats_et {K : PySem.W.Frag} {H H' : Hp} (e : ET K H H') {us : List V} {rows : List (List Nat)} (h : Paired (Nats K H) us rows) : Paired (Nats K H') us rows := paired_imp (fun _ _ ⟨a, q, s⟩ => ⟨a, q, e _ _ s⟩) h
theorem paired_snoc {α β : Type} {R : α → β → Prop} : ∀ {xs : List α} {ys : List β} {x : α} {y : β}, Paired R xs ys → R x y → Paired R (xs ++ [x]) (ys ++ [y])
  | [], [], _, _, .nil, h => .cons h .nil
  | _ :: _, _ :: _, _, _, .cons r p, h => .cons r (paired_snoc p h)
section
variable {P : Program} {w : World} {K : PySem.W.Frag} {mg : Str → Option Value} {base : Heap} {σ : L2.St} {H : Hp}
end
end K12
end
section
namespace K12
open PySem PySem.Spec PyProof.Rows L2 Evl RZ Dw M20
/-! ### repr of any thing, data of rows and of what is due -/
def Plain (v : V) : Prop := (∃ a, v = .ref a) ∨ v = .non ∨ ∃ b, v = .bl b
def dR (rows : List (List Nat)) : PyData := .list (rows.map dN)
section
variable {K : PySem.W.Frag} {σ : L2.St} {H : Hp} {te : TE}
theorem RowsV.ex {H' : Hp} {l : Addr} {rows : List (List Nat)} (e : Ex H H') (h : RowsV K H l rows) : RowsV K H' l rows := let ⟨us, a, b⟩ := h; ⟨us, e _ _ a, nats_et (Dw.Ex.et e) b⟩
theorem RowsV.dp {l : Addr} {rows : List (List Nat)} (h : RowsV K H l rows) : Dp K H (.ref l) (dR rows) := let ⟨us, a, b⟩ := h; .lst (sq_of a) (dps_paired (fun _ _ z => Nats.dp z) b)
def dDue : Option (Nat × List Nat) → PyData
  | none => .none
  | some (k, row) => .tuple [.int (k : Int), dN row]
theorem DueV.dp {v : V} : ∀ {x : Option (Nat × List Nat)}, DueV K H v x → Dp K H v (dDue x)
  | none, h => by
    replace h : v = .non := h
    subst h
    exact .non
  | some (k, row), h => by
    obtain ⟨a, b, rfl, s1, s2⟩ := h
    exact .tup s1 (.cons (.int _) (.cons (Nats.dp ⟨b, rfl, s2⟩) .nil))
theorem DueV.ex {H' : Hp} {v : V} (e : Ex H H') : ∀ {x : Option (Nat × List Nat)}, DueV K H v x → DueV K H' v x
  | none, h => h
  | some (k, row), h => by
    obtain ⟨a, b, rfl, s1, s2⟩ := h
    exact ⟨a, b, rfl, ex_t e s1, ex_t e s2⟩
end
theorem DueV.plain {K : PySem.W.Frag} {H : Hp} {v : V} : ∀ {x : Option (Nat × List Nat)}, DueV K H v x → Plain v
  | none, h => .inr (.inl h)
  | some (k, row), h => by
    obtain ⟨a, b, rfl, _⟩ := h
    exact .inl ⟨a, rfl⟩
end K12
end
section
namespace K12
open PySem PySem.Spec PyProof.Rows L2 Evl RZ Dw M20
section
variable {K : PySem.W.Frag} {σ : L2.St} {H : Hp} {te ta tb : TE}
end
end K12
end
section
namespace K12
open PySem PySem.Spec PyProof.Rows L2 Evl RZ Dw M20
/-! ### terms with their variables exchanged -/
mutual
def Tm.put (f : Str → Tm) : Tm → Tm
  | .var x => f x
  | .deed g ts => .deed g (puts f ts)
def puts (f : Str → Tm) : List Tm → List Tm
  | [] => []
  | t :: ts => t.put f :: puts f ts
end
def rn (w : Str → Str) : Str → Tm := fun x => .var (w x)
theorem puts_map (f : Str → Tm) : ∀ ts : List Tm, puts f ts = ts.map (Tm.put f)
  | [] => by rw [puts]; rfl
  | t :: ts => by rw [puts, puts_map f ts]; rfl
mutual
theorem ls_rn {w : Str → Str} : ∀ t : Tm, (t.put (rn w)).ls = t.ls.map w
  | .var x => by rw [Tm.put, rn, Tm.ls, Tm.ls]; rfl
  | .deed n ts => by rw [Tm.put, Tm.ls, Tm.ls, lss_rn ts]
theorem lss_rn {w : Str → Str} : ∀ ts : List Tm, lss (puts (rn w) ts) = (lss ts).map w
  | [] => by rw [puts, lss]; rfl
  | t :: ts => by rw [puts, lss, lss, ls_rn t, lss_rn ts, List.map_append]
end
mutual
theorem sz_rn {w : Str → Str} : ∀ t : Tm, (t.put (rn w)).sz = t.sz
  | .var x => by rw [Tm.put, rn, Tm.sz, Tm.sz]
  | .deed n ts => by rw [Tm.put, Tm.sz, Tm.sz, szs_rn ts]
theorem szs_rn {w : Str → Str} : ∀ ts : List Tm, szs (puts (rn w) ts) = szs ts
  | [] => by rw [puts]
  | t :: ts => by rw [puts, szs, szs, sz_rn t, szs_rn ts]
end
theorem puts_len {f : Str → Tm} (ts : List Tm) : (puts f ts).length = ts.length := by rw [puts_map, List.length_map]
mutual
theorem ok_rn {sg : List (Str × Nat)} {w : Str → Str} : ∀ t : Tm, t.ok sg → (∀ x ∈ t.ls, w x ∈ vars) → (t.put (rn w)).ok sg
  | .var x, _, h => by
    rw [Tm.put, rn, Tm.ok]
    exact h x (by rw [Tm.ls]; exact List.mem_singleton.mpr rfl)
  | .deed n ts, ok, h => by
    rw [Tm.ok] at ok
    rw [Tm.put, Tm.ok, puts_len]
    exact ⟨ok.1, oks_rn ts ok.2 (fun x hx => h x (by rw [Tm.ls]; exact hx))⟩
theorem oks_rn {sg : List (Str × Nat)} {w : Str → Str} : ∀ ts : List Tm, oks sg ts → (∀ x ∈ lss ts, w x ∈ vars) → oks sg (puts (rn w) ts)
  | [], _, _ => by
    rw [puts, oks]
    trivial
  | t :: ts, ok, h => by
    rw [oks] at ok
    rw [puts, oks]
    exact ⟨ok_rn t ok.1 (fun x hx => h x (by rw [lss]; exact List.mem_append_left _ hx)), oks_rn ts ok.2 (fun x hx => h x (by rw [lss]; exact List.mem_append_right _ hx))⟩
end
/-! ### the order in which letters first come -/
def InjOn (w : Str → Str) (xs : List Str) : Prop := ∀ x ∈ xs, ∀ y ∈ xs, w x = w y → x = y
theorem fold_map {w : Str → Str} : ∀ (xs ks : List Str), InjOn w (ks ++ xs) → (xs.map w).foldl addK (ks.map w) = (xs.foldl addK ks).map w
  | [], ks, _ => rfl
  | x :: xs, ks, h => by
    rw [List.map_cons, List.foldl_cons, List.foldl_cons]
    have e : addK (ks.map w) (w x) = (addK ks x).map w := by
      unfold addK
      by_cases m : x ∈ ks
      · rw [if_pos m, if_pos (List.mem_map_of_mem m)]
      · rw [if_neg m, if_neg (fun z => ?_), List.map_append]
        · rfl
        · obtain ⟨y, hy, ey⟩ := List.mem_map.mp z
          exact m (h y (List.mem_append_left _ hy) x (by simp) ey ▸ hy)
    rw [e]
    refine fold_map xs (addK ks x) fun a ha b hb => h a ?_ b ?_
    · rcases List.mem_append.mp ha with z | z
      · unfold addK at z
        split at z
        · exact List.mem_append_left _ z
        · rcases List.mem_append.mp z with z | z
          · exact List.mem_append_left _ z
          · rw [List.mem_singleton.mp z]; simp
      · simp [z]
    · rcases List.mem_append.mp hb with z | z
      · unfold addK at z
        split at z
        · exact List.mem_append_left _ z
        · rcases List.mem_append.mp z with z | z
          · exact List.mem_append_left _ z
          · rw [List.mem_singleton.mp z]; simp
      · simp [z]
theorem firsts_map {w : Str → Str} {xs : List Str} (h : InjOn w xs) : firsts (xs.map w) = (firsts xs).map w := fold_map xs [] h
def posS : List Str → Str → Nat
  | [], _ => 0
  | k :: r, x => if x = k then 0 else posS r x + 1
theorem posS_get {x : Str} : ∀ {ks : List Str}, x ∈ ks → ks[posS ks x]? = some x
  | [], h => nomatch h
  | k :: r, h => by
    show (k :: r)[if x = k then 0 else posS r x + 1]? = some x
    by_cases e : x = k
    · rw [if_pos e, e]
      rfl
    · rw [if_neg e]
      rcases List.mem_cons.mp h with z | z
      · exact absurd z e
      · exact posS_get z
theorem posS_of {ks : List Str} (nd : ks.Nodup) {i : Nat} {x : Str} (h : ks[i]? = some x) : posS ks x = i := by
  have g := posS_get (List.mem_iff_getElem?.mpr ⟨i, h⟩)
  obtain ⟨a, ea⟩ := List.getElem?_eq_some_iff.mp h
  obtain ⟨b, eb⟩ := List.getElem?_eq_some_iff.mp g
  exact (List.getElem_inj nd).mp (eb.trans ea.symm)
/-- the i-th letter for the i-th one -/
def cw (ks : List Str) (x : Str) : Str := vars.getD (posS ks x) "u"
theorem cw_get {ks : List Str} {x : Str} {i : Nat} (nd : ks.Nodup) (h : ks[i]? = some x) (l : ks.length ≤ 6) : vars[i]? = some (cw ks x) := by
  unfold cw
  rw [posS_of nd h]
  have hi : i < 6 := Nat.lt_of_lt_of_le (List.getElem?_eq_some_iff.mp h).1 l
  have hv : i < vars.length := hi
  rw [List.getElem?_eq_getElem hv, List.getD_eq_getElem?_getD, List.getElem?_eq_getElem hv]
  rfl
theorem cw_mem {ks : List Str} {x : Str} (l : ks.length ≤ 6) (h : x ∈ ks) (nd : ks.Nodup) : cw ks x ∈ vars := List.mem_iff_getElem?.mpr ⟨_, cw_get nd (posS_get h) l⟩
theorem cw_inj {ks : List Str} (nd : ks.Nodup) (l : ks.length ≤ 6) : InjOn (cw ks) ks := fun x hx y hy e => by
  have a := cw_get nd (posS_get hx) l
  have b := cw_get nd (posS_get hy) l
  rw [e] at a
  obtain ⟨p, ep⟩ := List.getElem?_eq_some_iff.mp a
  obtain ⟨q, eq⟩ := List.getElem?_eq_some_iff.mp b
  have i : posS ks x = posS ks y := (List.getElem_inj vars_nd).mp (ep.trans eq.symm)
  have g := posS_get hx
  rw [i, posS_get hy] at g
  exact (Option.some.inj g).symm
/-! ### equations by other letters -/
def Eqn.ls (e : Eqn) : List Str := e.l.ls ++ e.r.ls
def Eqn.names (e : Eqn) : List Str := firsts e.ls
def Eqn.rn (w : Str → Str) (e : Eqn) : Eqn := ⟨e.l.put (K12.rn w), e.r.put (K12.rn w)⟩
def Eqn.can (e : Eqn) : Eqn := e.rn (cw e.names)
theorem Eqn.ls_rn {e : Eqn} {w : Str → Str} : (e.rn w).ls = e.ls.map w := by
  unfold Eqn.ls Eqn.rn
  rw [K12.ls_rn, K12.ls_rn, List.map_append]
theorem Eqn.names_rn {e : Eqn} {w : Str → Str} (h : InjOn w e.ls) : (e.rn w).names = e.names.map w := by
  unfold Eqn.names
  rw [Eqn.ls_rn, firsts_map h]
theorem Eqn.names_nd (e : Eqn) : e.names.Nodup := firsts_nd _
theorem Eqn.mem_names {e : Eqn} {x : Str} : x ∈ e.names ↔ x ∈ e.ls := mem_firsts
theorem InjOn.cw {e : Eqn} (l : e.names.length ≤ 6) : InjOn (cw e.names) e.ls := fun x hx y hy => cw_inj e.names_nd l x (Eqn.mem_names.mpr hx) y (Eqn.mem_names.mpr hy)
/-- back from the letters: what is the same by its letters is led over by the names, one by one -/
def back (ks : List Str) (z : Str) : Str := ks.getD (posS vars z) "u"
end K12
end
section
namespace K12
open PySem PySem.Spec PyProof.Rows L2 Evl RZ Dw M20
/-! ### texts of terms -/
mutual
def Tm.tx : Tm → Str
  | .var x => x
  | .deed f [] => f
  | .deed f (t :: ts) => ((f ++ ("(" : Str)) ++ Str.join (", " : Str) (t.tx :: txs ts)) ++ (")" : Str)
def txs : List Tm → List Str
  | [] => []
  | t :: ts => t.tx :: txs ts
end
def cl (s : Str) : List Nat := s.cps.toList
def isL (c : Nat) : Prop := 97 ≤ c ∧ c ≤ 122
/-! ### the lesser one of an equation and the one turned about -/
def Eqn.tx (e : Eqn) : Str := (e.l.tx ++ (" = " : Str)) ++ e.r.tx
def Eqn.ahead (a b : Eqn) : Bool := !decide (cl b.tx < cl a.tx)
end K12
end
section
namespace K12
open PySem PySem.Spec PyProof.Rows L2 Evl RZ Dw M20
theorem Eqn.mem_tm {e : Eqn} {x : Str} : x ∈ e.tm.ls ↔ x ∈ e.ls := by
  rw [Eqn.tm, Tm.ls, lss, lss, lss, List.append_nil]
  rfl
theorem Eqn.inner_perm {e : Eqn} (sub : ∀ x ∈ e.ls, x ∈ vars) : (inner e.tm).Perm e.names := by
  refine (List.perm_ext_iff_of_nodup (inner_nd _) e.names_nd).mpr fun x => ?_
  unfold inner
  rw [List.mem_filter, Eqn.mem_names]
  constructor
  · intro h
    exact Eqn.mem_tm.mp (of_decide_eq_true h.2)
  · intro h
    exact ⟨sub x h, decide_eq_true (Eqn.mem_tm.mpr h)⟩
theorem EqOk.subL {sg : List (Str × Nat)} {e : Eqn} (h : EqOk sg e) : ∀ x ∈ e.ls, x ∈ vars := fun x hx => h.sub x (Eqn.mem_tm.mpr hx)
theorem EqOk.names4 {sg : List (Str × Nat)} {e : Eqn} (h : EqOk sg e) : e.names.length ≤ 4 := by
  rw [← (Eqn.inner_perm h.subL).length_eq]
  exact h.l4
theorem EqOk.of {sg : List (Str × Nat)} {e : Eqn} (okl : e.l.ok sg) (okr : e.r.ok sg) (fl : e.l.sz ≤ 12) (fr : e.r.sz ≤ 12) (l4 : e.names.length ≤ 4) : EqOk sg e := by
  refine ⟨okl, okr, fl, fr, ?_⟩
  rw [(Eqn.inner_perm fun x hx => ?_).length_eq]
  · exact l4
  · rcases List.mem_append.mp hx with z | z
    · exact ls_vars _ okl x z
    · exact ls_vars _ okr x z
theorem EqOk.rn {sg : List (Str × Nat)} {e : Eqn} (h : EqOk sg e) {w : Str → Str} (hv : ∀ x ∈ e.ls, w x ∈ vars) (inj : InjOn w e.ls) : EqOk sg (e.rn w) := by
  refine EqOk.of (ok_rn _ h.okl fun x hx => hv x (List.mem_append_left _ hx)) (ok_rn _ h.okr fun x hx => hv x (List.mem_append_right _ hx)) ?_ ?_ ?_
  · show (e.l.put _).sz ≤ 12
    rw [sz_rn]
    exact h.fewl
  · show (e.r.put _).sz ≤ 12
    rw [sz_rn]
    exact h.fewr
  · rw [Eqn.names_rn inj, List.length_map]
    exact h.names4
theorem EqOk.names6 {sg : List (Str × Nat)} {e : Eqn} (h : EqOk sg e) : e.names.length ≤ 6 := Nat.le_trans h.names4 (by decide)
theorem EqOk.can {sg : List (Str × Nat)} {e : Eqn} (h : EqOk sg e) : EqOk sg e.can := h.rn (fun x hx => cw_mem h.names6 (Eqn.mem_names.mpr hx) e.names_nd) (InjOn.cw h.names6)
theorem EqOk.oks {sg : List (Str × Nat)} {e : Eqn} (h : EqOk sg e) : e.l.ok sg ∧ e.r.ok sg := ⟨h.okl, h.okr⟩
/-! ### ways to lead letters, one to one -/
/-! ### the same data -/
end K12
end
section
namespace K12
open PySem PySem.Spec PyProof.Rows L2 Evl RZ Dw M20
/-- a dict by which letters are exchanged -/
def PutD (K : PySem.W.Frag) (H : Hp) (v : V) (f : Str → Tm) (xs : List Str) : Prop := ∃ (d : Addr) (kvs : List (Key × V)), v = .ref d ∧ H d = some (.dK kvs) ∧ ∀ x ∈ xs, (valV kvs (.inr x) = none ∧ f x = .var x) ∨ ∃ u, valV kvs (.inr x) = some u ∧ TmV K H (f x) u
theorem PutD.ex {K : PySem.W.Frag} {H H' : Hp} {v : V} {f : Str → Tm} {xs : List Str} (e : Ex H H') (h : PutD K H v f xs) : PutD K H' v f xs := by
  obtain ⟨d, kvs, q, hd, all⟩ := h
  refine ⟨d, kvs, q, e _ _ hd, fun x hx => ?_⟩
  rcases all x hx with z | ⟨u, a, b⟩
  · exact .inl z
  · exact .inr ⟨u, a, b.et (Dw.Ex.et e)⟩
theorem PutD.sub {K : PySem.W.Frag} {H : Hp} {v : V} {f : Str → Tm} {xs ys : List Str} (s : ∀ y ∈ ys, y ∈ xs) (h : PutD K H v f xs) : PutD K H v f ys := let ⟨d, kvs, q, hd, all⟩ := h; ⟨d, kvs, q, hd, fun x hx => all x (s x hx)⟩
section
variable {P : Program} {w : World} {K : PySem.W.Frag} {mg : Str → Option Value} {base : Heap} {σ : L2.St} {H : Hp}
end
end K12
end
section
namespace K12
open PySem PySem.Spec PyProof.Rows L2 Evl RZ Dw M20
/-! ### how long texts are -/
section
variable {P : Program} {w : World} {K : PySem.W.Frag} {mg : Str → Option Value} {base : Heap} {σ : L2.St} {H : Hp}
end
end K12
end
section
namespace K12
open PySem PySem.Spec PyProof.Rows L2 Evl RZ Dw M20
section
variable {P : Program} {w : World} {K : PySem.W.Frag} {mg : Str → Option Value} {base : Heap} {σ : L2.St} {H : Hp} {va : Addr}
end
end K12
end
section
namespace K12
open PySem PySem.Spec PyProof.Rows L2 Evl RZ Dw M20
section
variable {P : Program} {w : World} {K : PySem.W.Frag} {mg : Str → Option Value} {base : Heap} {σ : L2.St} {H : Hp} {va : Addr}
end
end K12
end
section
namespace K12
open PySem PySem.Spec PyProof.Rows L2 Evl RZ Dw M20
section
variable {P : Program} {w : World} {K : PySem.W.Frag} {mg : Str → Option Value} {base : Heap} {σ : L2.St} {H : Hp}
/-! ### come -/
end
end K12
end
section
namespace K12
open PySem PySem.Spec PyProof.Rows L2 Evl RZ Dw M20
section
variable {P : Program} {w : World} {K : PySem.W.Frag} {mg : Str → Option Value} {base : Heap} {σ : L2.St} {H : Hp}
end
end K12
end
section
namespace K12
open PySem PySem.Spec PyProof.Rows L2 Evl RZ Dw M20
theorem nd_len : ∀ {xs ys : List Str}, xs.Nodup → (∀ x ∈ xs, x ∈ ys) → xs.length ≤ ys.length
  | [], _, _, _ => Nat.zero_le _
  | x :: xs, ys, nd, h => by
    obtain ⟨no, nd2⟩ := List.nodup_cons.mp nd
    have m := h x (List.mem_cons_self ..)
    have a := nd_len (ys := ys.erase x) nd2 fun y hy => (List.mem_erase_of_ne (fun (e : y = x) => no (e ▸ hy))).mpr (h y (List.mem_cons_of_mem _ hy))
    have b := List.length_erase_of_mem m
    have c := List.length_pos_of_mem m
    rw [List.length_cons]
    omega
/-! ### parts by paths -/
def Tm.kids : Tm → List Tm
  | .var _ => []
  | .deed _ ts => ts
def sub : List Nat → Tm → Option Tm
  | [], t => some t
  | k :: p, t => t.kids[k]?.bind (sub p)
section
variable {P : Program} {w : World} {K : PySem.W.Frag} {mg : Str → Option Value} {base : Heap} {σ : L2.St} {H : Hp}
def TOk (p : List (Str × Nat) × Tm) : Prop := SigOk p.1 ∧ p.2.ok p.1 ∧ p.2.sz ≤ 60
/-- with its letters as they first come -/
def Tm.can (t : Tm) : Tm := t.put (rn (cw (firsts t.ls)))
theorem six_firsts {xs : List Str} (h : ∀ x ∈ xs, x ∈ vars) : (firsts xs).length ≤ 6 := by
  have := nd_len (xs := firsts xs) (ys := vars) (firsts_nd _) fun x hx => h x (mem_firsts.mp hx)
  exact this
end
end K12
end
section
namespace K12
open PySem PySem.Spec PyProof.Rows L2 Evl RZ Dw M20
/-- a term with another one at a path -/
def rep : List Nat → Tm → Tm → Tm
  | [], _, o => o
  | _ :: _, .var x, _ => .var x
  | k :: p, .deed f ts, o => .deed f (ts.take k ++ ([match ts[k]? with | some u => rep p u o | none => o] ++ ts.drop (k + 1)))
theorem TmsV.take {K : PySem.W.Frag} {H : Hp} : ∀ {ts : List Tm} {us : List V} (n : Nat), TmsV K H ts us → TmsV K H (ts.take n) (us.take n)
  | [], us, n, h => by
    rw [TmsV] at h
    subst h
    rw [List.take_nil, List.take_nil, TmsV]
  | t :: ts, us, n, h => by
    rw [TmsV] at h
    obtain ⟨v, ws, rfl, a, b⟩ := h
    cases n with
    | zero =>
      rw [List.take_zero, List.take_zero, TmsV]
    | succ n =>
      rw [List.take_succ_cons, List.take_succ_cons, TmsV]
      exact ⟨v, _, rfl, a, b.take n⟩
theorem TmsV.drop {K : PySem.W.Frag} {H : Hp} : ∀ {ts : List Tm} {us : List V} (n : Nat), TmsV K H ts us → TmsV K H (ts.drop n) (us.drop n)
  | [], us, n, h => by
    rw [TmsV] at h
    subst h
    rw [List.drop_nil, List.drop_nil, TmsV]
  | t :: ts, us, n, h => by
    have h0 := h
    rw [TmsV] at h
    obtain ⟨v, ws, rfl, a, b⟩ := h
    cases n with
    | zero => exact h0
    | succ n =>
      rw [List.drop_succ_cons, List.drop_succ_cons]
      exact b.drop n
section
variable {P : Program} {w : World} {K : PySem.W.Frag} {mg : Str → Option Value} {base : Heap} {σ : L2.St} {H : Hp}
theorem do_asg {i : Nat} {te : TE} {D : Ends} (h : te σ H fun x H1 => D.nx (σ.set i (some x)) H1) : tAsg te (gName i) D σ H := h
/-- the slices of a tuple, told by what they hold -/
theorem cut_to {xs : List V} {k : Nat} (h : k ≤ xs.length) : cutV xs none (some (k : Int)) = xs.take k := by
  unfold cutV
  rw [HT.sIx_none, show HT.sIx xs.length xs.length (some (k : Int)) = min k xs.length from HT.sIx_nat _ _ k, Nat.min_eq_left h, Nat.sub_zero, List.drop_zero]
theorem cut_from {xs : List V} {k : Nat} (h : k ≤ xs.length) : cutV xs (some (k : Int)) none = xs.drop k := by
  unfold cutV
  rw [show HT.sIx xs.length 0 (some (k : Int)) = min k xs.length from HT.sIx_nat _ _ k, HT.sIx_none, Nat.min_eq_left h]
  exact List.take_of_length_le (by rw [List.length_drop]; exact Nat.le_refl _)
def TupV (K : PySem.W.Frag) (H : Hp) (v : V) (xs : List V) : Prop := ∃ a, v = .ref a ∧ SqT K H a xs
theorem TupV.ex {H H' : Hp} {v : V} {xs : List V} (e : Ex H H') (h : TupV K H v xs) : TupV K H' v xs := let ⟨a, q, s⟩ := h; ⟨a, q, ex_t e s⟩
theorem ep_cutTo {ta tb : TE} {a : Addr} {xs : List V} {k : Nat} (h : Ev ta σ H (.ref a)) (hx : SqT K H a xs) (hb : Ev tb σ H (vi k)) (hk : k ≤ xs.length) : EvP (tSl (rSlA K) ta tNoPart (tPart tb)) σ H (fun v H' => TupV K H' v (xs.take k)) := fun H1 e1 Q q =>
  h H1 e1 _ fun H2 e2 => hb H2 (e1.trans e2) _ fun H3 e3 => ⟨(k : Int), rfl, a, xs, rfl, ex_t ((e1.trans e2).trans e3) hx, fun z => by
    have z2 : HT.sIx xs.length xs.length (some (k : Int)) = xs.length := z.2
    rw [show HT.sIx xs.length xs.length (some (k : Int)) = min k xs.length from HT.sIx_nat _ _ k, Nat.min_eq_left hk] at z2
    refine q _ H3 (e2.trans e3) ⟨a, rfl, ?_⟩
    rw [z2, List.take_length]
    exact ex_t ((e1.trans e2).trans e3) hx, fun _ p np => by
    rw [cut_to hk]
    exact q _ _ ((e2.trans e3).trans (Ex.new np)) ⟨p, rfl, st_of upd_same⟩⟩
theorem ep_cutFrom {ta tb : TE} {a : Addr} {xs : List V} {k : Nat} (h : Ev ta σ H (.ref a)) (hx : SqT K H a xs) (hb : Ev tb σ H (vi k)) (hk : k ≤ xs.length) : EvP (tSl (rSlA K) ta (tPart tb) tNoPart) σ H (fun v H' => TupV K H' v (xs.drop k)) := fun H1 e1 Q q =>
  h H1 e1 _ fun H2 e2 => hb H2 (e1.trans e2) _ fun H3 e3 => ⟨(k : Int), rfl, a, xs, rfl, ex_t ((e1.trans e2).trans e3) hx, fun z => by
    have z1 : HT.sIx xs.length 0 (some (k : Int)) = 0 := z.1
    rw [show HT.sIx xs.length 0 (some (k : Int)) = min k xs.length from HT.sIx_nat _ _ k, Nat.min_eq_left hk] at z1
    refine q _ H3 (e2.trans e3) ⟨a, rfl, ?_⟩
    rw [z1, List.drop_zero]
    exact ex_t ((e1.trans e2).trans e3) hx, fun _ p np => by
    rw [cut_from hk]
    exact q _ _ ((e2.trans e3).trans (Ex.new np)) ⟨p, rfl, st_of upd_same⟩⟩
theorem ep_cat {ta tb : TE} {xs ys : List V} (ha : EvP ta σ H (fun v H' => TupV K H' v xs)) (hb : EvP tb σ H (fun v H' => TupV K H' v ys)) (hl : xs.length + ys.length ≤ 100000) : EvP (tOp (rCatA K) ta tb) σ H (fun v H' => TupV K H' v (xs ++ ys)) := fun H1 e1 Q q =>
  ha H1 e1 _ fun v H2 e2 hv => hb H2 (e1.trans e2) _ fun u H3 e3 hu => by
    obtain ⟨a, rfl, sa⟩ := hv.ex e3
    obtain ⟨b, rfl, sb⟩ := hu
    refine ⟨a, b, xs, ys, rfl, rfl, sa, sb, sz_of hl, fun z => ?_, fun _ z => ?_, fun _ _ p np => ?_⟩
    · subst z
      exact q _ H3 (e2.trans e3) ⟨b, rfl, sb⟩
    · subst z
      rw [List.append_nil] at q
      exact q _ H3 (e2.trans e3) ⟨a, rfl, sa⟩
    · exact q _ _ ((e2.trans e3).trans (Ex.new np)) ⟨p, rfl, st_of upd_same⟩
theorem ep_tup1 {ta : TE} {x : V} (h : Ev ta σ H x) : EvP (tTup (tCons ta tNil)) σ H (fun v H' => TupV K H' v [x]) := fun H1 e1 Q q => eu_tup (ea_cons h ea_nil) (by show 1 ≤ 100000; decide) H1 e1 _ fun p H2 np e2 hp => q _ H2 e2 ⟨p, rfl, st_of hp⟩
end
end K12
end
section
namespace K12
open PySem PySem.Spec PyProof.Rows L2 Evl RZ Dw M20
/-! ### all paths -/
mutual
def Tm.pths : Tm → List (List Nat)
  | .var _ => [[]]
  | .deed _ ts => [] :: pthss 0 ts
def pthss : Nat → List Tm → List (List Nat)
  | _, [] => []
  | k, t :: ts => t.pths.map (k :: ·) ++ pthss (k + 1) ts
end
section
variable {P : Program} {w : World} {K : PySem.W.Frag} {mg : Str → Option Value} {base : Heap} {σ : L2.St} {H : Hp}
/-- something on the stack: a path and a term -/
def PqV (K : PySem.W.Frag) (H : Hp) (n : Nat) (u : V) (q : List Nat × Tm) : Prop := ∃ (a pa : Addr) (v : V), u = .ref a ∧ SqT K H a [.ref pa, v] ∧ SqT K H pa (q.1.map vi) ∧ q.1.length + q.2.sz ≤ n ∧ TmV K H q.2 v
theorem PqV.et {H H' : Hp} {n : Nat} {u : V} {q : List Nat × Tm} (e : ET K H H') (h : PqV K H n u q) : PqV K H' n u q := let ⟨a, pa, v, z, s, p, l, tv⟩ := h; ⟨a, pa, v, z, e _ _ s, e _ _ p, l, tv.et e⟩
def PathsV (K : PySem.W.Frag) (H : Hp) (l : Addr) (ps : List (List Nat)) : Prop := ∃ as : List Addr, H l = some (.lst (as.map V.ref)) ∧ Paired (fun a p => SqT K H a (p.map vi)) as ps
theorem PathsV.ex {H H' : Hp} {l : Addr} {ps : List (List Nat)} (e : Ex H H') (h : PathsV K H l ps) : PathsV K H' l ps := let ⟨as, a, b⟩ := h; ⟨as, e _ _ a, paired_imp (fun _ _ z => ex_t e z) b⟩
mutual
theorem pths_len : ∀ t : Tm, t.pths.length = t.sz
  | .var x => by rw [Tm.pths, Tm.sz]; rfl
  | .deed f ts => by rw [Tm.pths, Tm.sz, List.length_cons, pthss_len 0 ts, Nat.add_comm]
theorem pthss_len : ∀ (k : Nat) (ts : List Tm), (pthss k ts).length = szs ts
  | _, [] => by rw [pthss, szs]; rfl
  | k, t :: ts => by rw [pthss, szs, List.length_append, List.length_map, pths_len t, pthss_len (k + 1) ts]
end
end
end K12
end
section
namespace K12
open PySem PySem.Spec PyProof.Rows L2 Evl RZ Dw M20
section
variable {P : Program} {w : World} {K : PySem.W.Frag} {mg : Str → Option Value} {base : Heap} {σ : L2.St} {H : Hp}
/-! ### how many parts a term has when it is put in -/
/-- a dict of numbers -/
def NumD (H : Hp) (v : V) (n : Str → Nat) (xs : List Str) : Prop := ∃ (d : Addr) (kvs : List (Key × V)), v = .ref d ∧ H d = some (.dK kvs) ∧ ∀ x ∈ xs, (valV kvs (.inr x)).getD (vi 1) = vi (n x)
theorem NumD.ex {H H' : Hp} {v : V} {n : Str → Nat} {xs : List Str} (e : Ex H H') (h : NumD H v n xs) : NumD H' v n xs := let ⟨d, kvs, q, hd, all⟩ := h; ⟨d, kvs, q, e _ _ hd, all⟩
end
end K12
end
section
namespace K12
open PySem PySem.Spec PyProof.Rows L2 Evl RZ Dw M20
/-! ### puttings -/
def PutV (K : PySem.W.Frag) (H : Hp) (v : V) (ks : List Str) (g : Str → Tm) : Prop := ∃ (d : Addr) (kvs : List (Key × V)), v = .ref d ∧ H d = some (.dK kvs) ∧ kvs.map (·.1) = ks.map Sum.inr ∧ ∀ kv ∈ kvs, ∀ x, kv.1 = Sum.inr x → TmV K H (g x) kv.2
theorem PutV.ex {K : PySem.W.Frag} {H H' : Hp} {v : V} {ks : List Str} {g : Str → Tm} (e : Ex H H') (h : PutV K H v ks g) : PutV K H' v ks g := let ⟨d, kvs, q, a, b, c⟩ := h; ⟨d, kvs, q, e _ _ a, b, fun kv hk x ex => (c kv hk x ex).et (Dw.Ex.et e)⟩
/-! ### while a dict is walked -/
section
variable {P : Program} {w : World} {K : PySem.W.Frag} {mg : Str → Option Value} {base : Heap} {σ : L2.St} {H : Hp} {va : Addr}
end
end K12
end
section
namespace K12
open PySem PySem.Spec PyProof.Rows L2 Evl RZ Dw M20
/-! ### matching -/
theorem puts_iff {h : Str → Tm} : ∀ {ts us : List Tm}, ts.length = us.length → (puts h ts = us ↔ ∀ q ∈ ts.zip us, q.1.put h = q.2)
  | [], [], _ => by
    rw [puts]
    exact ⟨fun _ q z => (nomatch z), fun _ => rfl⟩
  | [], _ :: _, l => by cases l
  | _ :: _, [], l => by cases l
  | t :: ts, u :: us, l => by
    rw [puts, List.zip_cons_cons]
    have ih := puts_iff (h := h) (ts := ts) (us := us) (Nat.succ.inj l)
    constructor
    · intro e q hq
      obtain ⟨e1, e2⟩ := List.cons.inj e
      rcases List.mem_cons.mp hq with z | z
      · rw [z]
        exact e1
      · exact ih.mp e2 q z
    · intro e
      rw [ih.mpr fun q hq => e q (List.mem_cons_of_mem _ hq)]
      have e1 : t.put h = u := e (t, u) (List.mem_cons_self ..)
      rw [e1]
theorem deed_iff {h : Str → Tm} {f : Str} {ts us : List Tm} (l : ts.length = us.length) : (Tm.deed f ts).put h = .deed f us ↔ ∀ q ∈ ts.zip us, q.1.put h = q.2 := by
  rw [Tm.put, ← puts_iff l]
  constructor
  · intro e
    injection e
  · intro e
    rw [e]
theorem zip_ls {x : Str} : ∀ {ts us : List Tm}, ts.length = us.length → (x ∈ lss ts ↔ ∃ q ∈ ts.zip us, x ∈ q.1.ls)
  | [], [], _ => by
    rw [lss]
    exact ⟨fun z => (nomatch z), fun ⟨q, z, _⟩ => (nomatch z)⟩
  | [], _ :: _, l => by cases l
  | _ :: _, [], l => by cases l
  | t :: ts, u :: us, l => by
    rw [lss, List.zip_cons_cons, List.mem_append, zip_ls (Nat.succ.inj l)]
    constructor
    · rintro (h | ⟨q, hq, h⟩)
      · exact ⟨(t, u), List.mem_cons_self .., h⟩
      · exact ⟨q, List.mem_cons_of_mem _ hq, h⟩
    · rintro ⟨q, hq, h⟩
      rcases List.mem_cons.mp hq with z | z
      · rw [z] at h
        exact .inl h
      · exact .inr ⟨q, z, h⟩
theorem oks_mem {sg : List (Str × Nat)} : ∀ {ts : List Tm}, oks sg ts → ∀ t ∈ ts, t.ok sg
  | [], _, t, h => nomatch h
  | u :: ts, o, t, h => by
    rw [oks] at o
    rcases List.mem_cons.mp h with z | z
    · rw [z]
      exact o.1
    · exact oks_mem o.2 t z
theorem hgts_mem : ∀ {ts : List Tm}, ∀ t ∈ ts, t.hgt ≤ hgts ts
  | [], t, h => nomatch h
  | u :: ts, t, h => by
    rw [hgts]
    rcases List.mem_cons.mp h with z | z
    · rw [z]
      exact Nat.le_max_left _ _
    · exact Nat.le_trans (hgts_mem t z) (Nat.le_max_right _ _)
/-- what is still to be matched is well -/
structure MOk (sg : List (Str × Nat)) (q : Tm × Tm) : Prop where
  o1 : q.1.ok sg
  o2 : q.2.ok sg
  low : q.2.hgt ≤ 29
structure FInv (sg : List (Str × Nat)) (p t : Tm) (S : List (Tm × Tm)) (ks : List Str) (g : Str → Tm) : Prop where
  iff : ∀ f, p.put f = t ↔ ((∀ x ∈ ks, f x = g x) ∧ ∀ q ∈ S, q.1.put f = q.2)
  ls : ∀ x, x ∈ p.ls ↔ (x ∈ ks ∨ ∃ q ∈ S, x ∈ q.1.ls)
  nd : ks.Nodup
  sub : ∀ x ∈ ks, x ∈ vars
  ok : ∀ q ∈ S, MOk sg q
  gok : ∀ x ∈ ks, (g x).ok sg ∧ (g x).hgt ≤ 29
theorem FInv.start {sg : List (Str × Nat)} {p t : Tm} (o : MOk sg (p, t)) : FInv sg p t [(p, t)] [] Tm.var :=
  ⟨fun f => ⟨fun h => ⟨fun x hx => (nomatch hx), fun q hq => by rw [List.mem_singleton.mp hq]; exact h⟩, fun h => h.2 (p, t) (List.mem_singleton.mpr rfl)⟩, fun x => ⟨fun h => .inr ⟨(p, t), List.mem_singleton.mpr rfl, h⟩, fun h => by
    rcases h with z | ⟨q, hq, z⟩
    · cases z
    · rw [List.mem_singleton.mp hq] at z; exact z⟩, List.nodup_nil, fun x hx => (nomatch hx), fun q hq => by rw [List.mem_singleton.mp hq]; exact o, fun x hx => (nomatch hx)⟩
theorem snoc_all {α : Type} {P : α → Prop} {b : List α} {z : α} : (∀ q ∈ b ++ [z], P q) ↔ (∀ q ∈ b, P q) ∧ P z := by
  constructor
  · intro h
    exact ⟨fun q hq => h q (List.mem_append_left _ hq), h z (List.mem_append_right _ (List.mem_singleton.mpr rfl))⟩
  · rintro ⟨h1, h2⟩ q hq
    rcases List.mem_append.mp hq with y | y
    · exact h1 q y
    · rw [List.mem_singleton.mp y]
      exact h2
theorem snoc_ex {α : Type} {P : α → Prop} {b : List α} {z : α} : (∃ q ∈ b ++ [z], P q) ↔ (∃ q ∈ b, P q) ∨ P z := by
  constructor
  · rintro ⟨q, hq, h⟩
    rcases List.mem_append.mp hq with y | y
    · exact .inl ⟨q, y, h⟩
    · rw [List.mem_singleton.mp y] at h
      exact .inr h
  · rintro (⟨q, hq, h⟩ | h)
    · exact ⟨q, List.mem_append_left _ hq, h⟩
    · exact ⟨z, List.mem_append_right _ (List.mem_singleton.mpr rfl), h⟩
section
variable {sg : List (Str × Nat)} {p t b2 : Tm} {S : List (Tm × Tm)} {ks : List Str} {g : Str → Tm} {x : Str}
theorem FInv.old (h : FInv sg p t (S ++ [(.var x, b2)]) ks g) (hx : x ∈ ks) (e : g x = b2) : FInv sg p t S ks g := by
  refine ⟨fun f => ?_, fun y => ?_, h.nd, h.sub, fun q hq => h.ok q (List.mem_append_left _ hq), h.gok⟩
  · rw [h.iff f, snoc_all]
    constructor
    · rintro ⟨a, b, _⟩
      exact ⟨a, b⟩
    · rintro ⟨a, b⟩
      refine ⟨a, b, ?_⟩
      show (Tm.var x).put f = b2
      rw [Tm.put, a x hx, e]
  · rw [h.ls y, snoc_ex]
    constructor
    · rintro (a | a | a)
      · exact .inl a
      · exact .inr a
      · have a' : y ∈ (Tm.var x).ls := a
        rw [Tm.ls, List.mem_singleton] at a'
        rw [a']
        exact .inl hx
    · rintro (a | a)
      · exact .inl a
      · exact .inr (.inl a)
def ug (g : Str → Tm) (x : Str) (b : Tm) (y : Str) : Tm := if y = x then b else g y
theorem FInv.new (h : FInv sg p t (S ++ [(.var x, b2)]) ks g) (hx : x ∉ ks) : FInv sg p t S (ks ++ [x]) (ug g x b2) := by
  have m := h.ok (.var x, b2) (List.mem_append_right _ (List.mem_singleton.mpr rfl))
  have same : ∀ y ∈ ks, ug g x b2 y = g y := fun y hy => if_neg fun (e : y = x) => hx (e ▸ hy)
  have own : ug g x b2 x = b2 := if_pos rfl
  refine ⟨fun f => ?_, fun y => ?_, ?_, ?_, fun q hq => h.ok q (List.mem_append_left _ hq), ?_⟩
  · rw [h.iff f, snoc_all, snoc_all, own]
    constructor
    · rintro ⟨a, b, c⟩
      exact ⟨⟨fun y hy => by rw [a y hy, same y hy], c⟩, b⟩
    · rintro ⟨⟨a, c⟩, b⟩
      exact ⟨fun y hy => by rw [a y hy, same y hy], b, c⟩
  · rw [h.ls y, snoc_ex, List.mem_append, List.mem_singleton]
    have z : y ∈ (Tm.var x, b2).1.ls ↔ y = x := by
      show y ∈ (Tm.var x).ls ↔ y = x
      rw [Tm.ls, List.mem_singleton]
    rw [z]
    constructor
    · rintro (a | a | a)
      · exact .inl (.inl a)
      · exact .inr a
      · exact .inl (.inr a)
    · rintro ((a | a) | a)
      · exact .inl a
      · exact .inr (.inr a)
      · exact .inr (.inl a)
  · exact List.nodup_append.mpr ⟨h.nd, List.nodup_cons.mpr ⟨fun z => (nomatch z), List.nodup_nil⟩, fun a ha c hc e => hx (by rw [List.mem_singleton.mp hc] at e; exact e ▸ ha)⟩
  · intro y hy
    rcases List.mem_append.mp hy with z | z
    · exact h.sub y z
    · rw [List.mem_singleton.mp z]
      have o := m.o1
      show x ∈ vars
      rw [show (Tm.var x, b2).1 = Tm.var x from rfl, Tm.ok] at o
      exact o
  · intro y hy
    rcases List.mem_append.mp hy with z | z
    · rw [same y z]
      exact h.gok y z
    · rw [List.mem_singleton.mp z, own]
      exact ⟨m.o2, m.low⟩
theorem FInv.odd {a : Tm} (h : FInv sg p t (S ++ [(a, b2)]) ks g) (e : ∀ f, a.put f ≠ b2) : ∀ f, p.put f ≠ t := fun f z => e f (snoc_all.mp ((h.iff f).mp z).2).2
theorem sig_one (so : SigOk sg) {f : Str} {n m : Nat} (h1 : (f, n) ∈ sg) (h2 : (f, m) ∈ sg) : n = m := by
  have nd := so.nd
  clear so
  induction sg with
  | nil => cases h1
  | cons d r ih =>
    obtain ⟨no, nd2⟩ := List.nodup_cons.mp (show (d.1 :: r.map (·.1)).Nodup from nd)
    rcases List.mem_cons.mp h1 with a | a <;> rcases List.mem_cons.mp h2 with b | b
    · rw [← a] at b
      exact (Prod.mk.inj b).2.symm
    · exact absurd (by rw [← a]; exact List.mem_map_of_mem (f := (·.1)) b) no
    · exact absurd (by rw [← b]; exact List.mem_map_of_mem (f := (·.1)) a) no
    · exact ih a b nd2
/-- the parts of two deeds of one name -/
theorem FInv.deed (so : SigOk sg) {f : Str} {ts us : List Tm} (h : FInv sg p t (S ++ [(.deed f ts, .deed f us)]) ks g) : ts.length = us.length ∧ FInv sg p t (S ++ ts.zip us) ks g := by
  have m := h.ok (.deed f ts, .deed f us) (List.mem_append_right _ (List.mem_singleton.mpr rfl))
  have o1 : (Tm.deed f ts).ok sg := m.o1
  have o2 : (Tm.deed f us).ok sg := m.o2
  have lo : (Tm.deed f us).hgt ≤ 29 := m.low
  rw [Tm.ok] at o1 o2
  rw [Tm.hgt] at lo
  have l := sig_one so o1.1 o2.1
  refine ⟨l, fun f' => ?_, fun y => ?_, h.nd, h.sub, fun q hq => ?_, h.gok⟩
  · rw [h.iff f', snoc_all]
    have d : (Tm.deed f ts, Tm.deed f us).1.put f' = (Tm.deed f ts, Tm.deed f us).2 ↔ _ := deed_iff (h := f') (f := f) l
    rw [d]
    constructor
    · rintro ⟨a, b, c⟩
      refine ⟨a, fun q hq => ?_⟩
      rcases List.mem_append.mp hq with z | z
      · exact b q z
      · exact c q z
    · rintro ⟨a, b⟩
      exact ⟨a, fun q hq => b q (List.mem_append_left _ hq), fun q hq => b q (List.mem_append_right _ hq)⟩
  · rw [h.ls y, snoc_ex]
    have d : y ∈ (Tm.deed f ts, Tm.deed f us).1.ls ↔ ∃ q ∈ ts.zip us, y ∈ q.1.ls := by
      show y ∈ (Tm.deed f ts).ls ↔ _
      rw [Tm.ls]
      exact zip_ls l
    rw [d]
    constructor
    · rintro (a | ⟨q, hq, a⟩ | ⟨q, hq, a⟩)
      · exact .inl a
      · exact .inr ⟨q, List.mem_append_left _ hq, a⟩
      · exact .inr ⟨q, List.mem_append_right _ hq, a⟩
    · rintro (a | ⟨q, hq, a⟩)
      · exact .inl a
      · rcases List.mem_append.mp hq with z | z
        · exact .inr (.inl ⟨q, z, a⟩)
        · exact .inr (.inr ⟨q, z, a⟩)
  · rcases List.mem_append.mp hq with z | z
    · exact h.ok q (List.mem_append_left _ z)
    · obtain ⟨z1, z2⟩ := List.of_mem_zip (a := q.1) (b := q.2) (by exact z)
      have lo2 := hgts_mem q.2 z2
      exact ⟨oks_mem o1.2 _ z1, oks_mem o2.2 _ z2, by omega⟩
end
end K12
end
section
namespace K12
open PySem PySem.Spec PyProof.Rows L2 Evl RZ Dw M20
section
variable {P : Program} {w : World} {K : PySem.W.Frag} {mg : Str → Option Value} {base : Heap} {σ : L2.St} {H : Hp}
def PsV (K : PySem.W.Frag) (H : Hp) (u : V) (q : Tm × Tm) : Prop := ∃ (a : Addr) (x y : V), u = .ref a ∧ SqT K H a [x, y] ∧ TmV K H q.1 x ∧ TmV K H q.2 y
theorem PsV.et {H H' : Hp} {u : V} {q : Tm × Tm} (e : ET K H H') (h : PsV K H u q) : PsV K H' u q := let ⟨a, x, y, z, s, p, r⟩ := h; ⟨a, x, y, z, e _ _ s, p.et e, r.et e⟩
end
end K12
end
section
namespace K12
open PySem PySem.Spec PyProof.Rows L2 Evl RZ Dw M20
section
variable {P : Program} {w : World} {K : PySem.W.Frag} {mg : Str → Option Value} {base : Heap} {σ : L2.St} {H : Hp}
end
end K12
end
section
namespace K12
open PySem PySem.Spec PyProof.Rows L2 Evl RZ Dw M20
theorem TOk.six {sg : List (Str × Nat)} {t : Tm} (h : TOk (sg, t)) : (firsts t.ls).length ≤ 6 := six_firsts (ls_vars t h.2.1)
theorem TOk.can {sg : List (Str × Nat)} {t : Tm} (h : TOk (sg, t)) : TOk (sg, t.can) := by
  refine ⟨h.1, ok_rn t h.2.1 fun x hx => cw_mem h.six (mem_firsts.mpr hx) (firsts_nd _), ?_⟩
  show (t.put _).sz ≤ 60
  rw [sz_rn]
  exact h.2.2
section
variable {P : Program} {w : World} {K : PySem.W.Frag} {mg : Str → Option Value} {base : Heap} {σ : L2.St} {H : Hp}
end
end K12
end
section
namespace K12
open PySem PySem.Spec PyProof.Rows L2 Evl RZ Dw M20
end K12
end
section
namespace K12
open PySem PySem.Spec PyProof.Rows L2 Evl RZ Dw M20
section
variable {P : Program} {w : World} {K : PySem.W.Frag} {mg : Str → Option Value} {base : Heap} {σ : L2.St} {H : Hp}
end
end K12
end
section
namespace K12
open PySem PySem.Spec PyProof.Rows L2 Evl RZ Dw M20 LiI
section
variable {P : Program} {w : World} {K : PySem.W.Frag} {mg : Str → Option Value} {base : Heap} {σ : L2.St} {H : Hp} {C G : Addr}
/-- a try whose body is one call -/
theorem do_try {W0 : Ends → WX} {sp : Sp} {ta : TA} {tz : TS} {D : Ends} (h : ta σ H fun vs H1 => sp vs H1 (fun _ H2 => tz D σ H2) (WE (W0 { D with nx := tz D }) σ)) : tSeq (fun D σ H => tDrop (tCallS sp (fun σ => WE (W0 D) σ) ta) D σ H) tz D σ H := h
end
end K12
end
section
namespace K12
open PySem PySem.Spec PyProof.Rows L2 Evl RZ Dw M20
section
variable {P : Program} {w : World} {K : PySem.W.Frag} {mg : Str → Option Value} {base : Heap} {σ : L2.St} {H : Hp} {P0 B0 T0 G0 : Addr}
/-- what is no whole number -/
inductive NotInt (K : PySem.W.Frag) (H : Hp) : V → Prop where
  | bl (b : Bool) : NotInt K H (.bl b)
  | non : NotInt K H .non
  | str (z : Str) : NotInt K H (.str z)
  | tup {a : Addr} {xs : List V} (h : SqT K H a xs) : NotInt K H (.ref a)
theorem NotInt.ex {H' : Hp} {v : V} (e : Ex H H') (h : NotInt K H v) : NotInt K H' v := by
  cases h with
  | bl b => exact .bl b
  | non => exact .non
  | str z => exact .str z
  | tup h => exact .tup (ex_t e h)
def isI : V → Bool
  | .int _ => true
  | _ => false
theorem NotInt.no {v : V} (h : NotInt K H v) : isI v = false := by cases h <;> rfl
/-- what is no tuple -/
inductive NoTup (H : Hp) : V → Prop where
  | non : NoTup H .non
  | int (i : Int) : NoTup H (.int i)
  | str (z : Str) : NoTup H (.str z)
  | lst {a : Addr} {xs : List V} (h : H a = some (.lst xs)) : NoTup H (.ref a)
theorem NoTup.ex {H' : Hp} {v : V} (e : Ex H H') (h : NoTup H v) : NoTup H' v := by
  cases h with
  | non => exact .non
  | int i => exact .int i
  | str z => exact .str z
  | lst h => exact .lst (e _ _ h)
/-- no way on from u -/
def BadAt (K : PySem.W.Frag) (H : Hp) (u : Tm) (x : V) : Prop := (∃ y, u = .var y) ∨ NotInt K H x ∨ ∃ i : Int, x = .int i ∧ ¬ (0 ≤ i ∧ i < (u.kids.length : Int))
theorem BadAt.ex {H' : Hp} {u : Tm} {x : V} (e : Ex H H') (h : BadAt K H u x) : BadAt K H' u x := h.imp id (.imp (NotInt.ex e) id)
/-- no path of t -/
def OddV (K : PySem.W.Frag) (H : Hp) (t : Tm) (th : V) : Prop := NoTup H th ∨ ∃ (a : Addr) (q : List Nat) (u : Tm) (x : V) (rest : List V), th = .ref a ∧ SqT K H a (q.map vi ++ x :: rest) ∧ sub q t = some u ∧ BadAt K H u x
theorem OddV.ex {H' : Hp} {t : Tm} {v : V} (e : Ex H H') (h : OddV K H t v) : OddV K H' t v := by
  rcases h with h | ⟨a, q, u, x, r, h1, h2, h3, h4⟩
  · exact .inl (h.ex e)
  · exact .inr ⟨a, q, u, x, r, h1, ex_t e h2, h3, h4.ex e⟩
end
end K12
end
section
namespace K12
open PySem PySem.Spec PyProof.Rows L2 Evl RZ Dw M20
section
variable {P : Program} {w : World} {K : PySem.W.Frag} {mg : Str → Option Value} {base : Heap} {σ : L2.St} {H : Hp} {P0 B0 T0 G0 : Addr} {va : Addr}
theorem do_if {b : Bool} {tt : TT} {ta tb : TE} {Q : VK} (h : EvT tt σ H b) (h1 : b = true → ∀ H1, Ex H H1 → ta σ H1 Q) (h2 : b = false → ∀ H1, Ex H H1 → tb σ H1 Q) : tIf tt ta tb σ H Q := by
  refine h H (Ex.refl _) _ fun H1 e1 => ?_
  cases b with
  | true => exact h1 rfl H1 e1
  | false => exact h2 rfl H1 e1
/-- a letter that is none -/
def OddT (K : PySem.W.Frag) (H : Hp) (v : V) : Prop := ∃ a x, v = .ref a ∧ SqT K H a [.str "var", .str x] ∧ x ∉ vars
theorem OddT.ex {H' : Hp} {v : V} (e : Ex H H') (h : OddT K H v) : OddT K H' v := let ⟨a, x, h1, h2, h3⟩ := h; ⟨a, x, h1, ex_t e h2, h3⟩
end
end K12
end
section
namespace K12
open PySem PySem.Spec PyProof.Rows L2 Evl RZ Dw M20
section
variable {P : Program} {w : World} {K : PySem.W.Frag} {mg : Str → Option Value} {base : Heap} {σ : L2.St} {H : Hp} {P0 B0 T0 G0 : Addr} {va : Addr}
theorem et_isNP {ta : TE} (h : EvP ta σ H fun v _ => ∃ a, v = .ref a) : EvT (tTest (tOp (fun x y H Q => y = .non ∧ Q (.bl (!decide (x = .non))) H) ta (tC .non))) σ H true := fun H1 e Q q => h H1 e _ fun v H2 e2 ⟨a, hv⟩ => by
  subst hv
  exact ⟨rfl, _, rfl, q H2 e2⟩
/-- no term over sg -/
def BadT (K : PySem.W.Frag) (H : Hp) (sg : List (Str × Nat)) (v : V) : Prop := OddT K H v ∨ ∃ tm : Tm, TmV K H tm v ∧ tm.ok sg ∧ tm.sz ≤ 100 ∧ 60 < tm.sz
theorem BadT.ex {H' : Hp} {sg : List (Str × Nat)} {v : V} (e : Ex H H') (h : BadT K H sg v) : BadT K H' sg v := h.imp (·.ex e) fun ⟨tm, h1, h2⟩ => ⟨tm, h1.et (Dw.Ex.et e), h2⟩
end
end K12
end
section
namespace K12
open PySem PySem.Spec PyProof.Rows L2 Evl RZ Dw M20
mutual
def Tm.spots : Tm → List Nat → List (List Nat × Tm)
  | .var x, p => [(p, .var x)]
  | .deed f ts, p => (p, .deed f ts) :: spotss ts p 0
def spotss : List Tm → List Nat → Nat → List (List Nat × Tm)
  | [], _, _ => []
  | t :: ts, p, k => t.spots (p ++ [k]) ++ spotss ts p (k + 1)
end
mutual
theorem spots_fst : ∀ (t : Tm) (p : List Nat), (t.spots p).map (·.1) = t.pths.map (p ++ ·)
  | .var x, p => by
    rw [Tm.spots, Tm.pths]
    show [p] = [p ++ []]
    rw [List.append_nil]
  | .deed f ts, p => by
    rw [Tm.spots, Tm.pths, List.map_cons, List.map_cons, List.append_nil, spotss_fst ts p 0]
theorem spotss_fst : ∀ (ts : List Tm) (p : List Nat) (k : Nat), (spotss ts p k).map (·.1) = (pthss k ts).map (p ++ ·)
  | [], p, k => by
    rw [spotss, pthss]
    rfl
  | t :: ts, p, k => by
    rw [spotss, pthss, List.map_append, List.map_append, spots_fst t (p ++ [k]), spotss_fst ts p (k + 1), List.map_map]
    congr 1
    refine List.map_congr_left fun q _ => ?_
    show (p ++ [k]) ++ q = p ++ (k :: q)
    rw [List.append_assoc]
    rfl
end
theorem spots_len (t : Tm) (p : List Nat) : (t.spots p).length = t.sz := by
  rw [← pths_len t]
  have := congrArg List.length (spots_fst t p)
  rw [List.length_map, List.length_map] at this
  exact this
section
variable {P : Program} {w : World} {K : PySem.W.Frag} {mg : Str → Option Value} {base : Heap} {σ : L2.St} {H : Hp}
def SpV (K : PySem.W.Frag) (H : Hp) (u : V) (e : List Nat × Tm) : Prop := ∃ (a b : Addr) (v : V), u = .ref a ∧ SqT K H a [.ref b, v] ∧ SqT K H b (e.1.map vi) ∧ TmV K H e.2 v
theorem SpV.et {H' : Hp} {u : V} {e : List Nat × Tm} (x : ET K H H') (h : SpV K H u e) : SpV K H' u e := let ⟨a, b, v, h1, h2, h3, h4⟩ := h; ⟨a, b, v, h1, x _ _ h2, x _ _ h3, h4.et x⟩
def SpsV (K : PySem.W.Frag) (H : Hp) (v : V) (es : List (List Nat × Tm)) : Prop := ∃ (l : Addr) (us : List V), v = .ref l ∧ H l = some (.lst us) ∧ Paired (SpV K H) us es
theorem SpsV.ex {H' : Hp} {u : V} {e : List (List Nat × Tm)} (x : Ex H H') (h : SpsV K H u e) : SpsV K H' u e := let ⟨a, us, h1, h2, h3⟩ := h; ⟨a, us, h1, x _ _ h2, paired_imp (fun _ _ z => z.et (Dw.Ex.et x)) h3⟩
def natsD (p : List Nat) : List PyData := p.map fun k => .int ((k : Nat) : Int)
theorem cat_at {Q : VK} {x y : V} {xs ys : List V} (ha : TupV K H x xs) (hb : TupV K H y ys) (hl : xs.length + ys.length ≤ 100000) (q : ∀ v H', Ex H H' → TupV K H' v (xs ++ ys) → Q v H') : rCatA K x y H Q := by
  obtain ⟨a, rfl, sa⟩ := ha
  obtain ⟨b, rfl, sb⟩ := hb
  refine ⟨a, b, xs, ys, rfl, rfl, sa, sb, sz_of hl, fun z => ?_, fun _ z => ?_, fun _ _ p np => ?_⟩
  · subst z
    exact q _ H (Ex.refl _) ⟨b, rfl, sb⟩
  · subst z
    rw [List.append_nil] at q
    exact q _ H (Ex.refl _) ⟨a, rfl, sa⟩
  · exact q _ _ (Ex.new np) ⟨p, rfl, st_of upd_same⟩
end
end K12
end
section
namespace K12
open PySem PySem.Spec PyProof.Rows L2 Evl RZ Dw M20
section
variable {P : Program} {w : World} {K : PySem.W.Frag} {mg : Str → Option Value} {base : Heap} {σ : L2.St} {H : Hp} {P0 B0 T0 G0 a1 a2 a3 a4 a5 a6 : Addr} {va : Addr}
def StrsV (H : Hp) (v : V) (ws : List Str) : Prop := ∃ l, v = .ref l ∧ H l = some (.lst (ws.map V.str))
theorem StrsV.ex {H' : Hp} {v : V} {ws : List Str} (e : Ex H H') (h : StrsV H v ws) : StrsV H' v ws := let ⟨l, a, b⟩ := h; ⟨l, a, e _ _ b⟩
theorem do_callS {sp : Sp} {E : L2.St → XK} {ta : TA} {D : Ends} (h : ta σ H fun vs H1 => sp vs H1 (fun _ H2 => D.nx σ H2) (E σ)) : tDrop (tCallS sp E ta) D σ H := h
end
end K12
end
section
namespace K12
open PySem PySem.Spec PyProof.Rows L2 Evl RZ Dw M20
section
variable {P : Program} {w : World} {K : PySem.W.Frag} {mg : Str → Option Value} {base : Heap} {σ : L2.St} {H : Hp} {P0 B0 T0 G0 : Addr} {va : Addr}
/-- can be shown -/
def RpV (K : PySem.W.Frag) (H : Hp) (v : V) : Prop := (∃ (a : Addr) (d : PyData), v = .ref a ∧ Dp K H (.ref a) d ∧ Gd 5 100000 d) ∨ v = .non ∨ (∃ i : Int, v = .int i ∧ i.natAbs.log2 < 1920) ∨ ∃ z : Str, v = .str z ∧ (reprText z).length ≤ sizeLine
mutual
theorem dp_ex {H' : Hp} (e : Ex H H') : ∀ {v : V} {d : PyData}, Dp K H v d → Dp K H' v d
  | _, _, .non => .non
  | _, _, .bl b => .bl b
  | _, _, .int i => .int i
  | _, _, .str x => .str x
  | _, _, .lst s h => .lst (ex_l e s) (dps_ex e h)
  | _, _, .tup s h => .tup (ex_t e s) (dps_ex e h)
theorem dps_ex {H' : Hp} (e : Ex H H') : ∀ {vs : List V} {ds : List PyData}, DpAll K H vs ds → DpAll K H' vs ds
  | _, _, .nil => .nil
  | _, _, .cons a b => .cons (dp_ex e a) (dps_ex e b)
end
theorem RpV.ex {H' : Hp} {v : V} (e : Ex H H') (h : RpV K H v) : RpV K H' v := h.imp (fun ⟨a, d, h1, h2, h3⟩ => ⟨a, d, h1, dp_ex e h2, h3⟩) id
/-- what _law_odd looks at -/
def ThV (K : PySem.W.Frag) (H : Hp) (t : Tm) (v : V) : Prop := (OddV K H t v ∧ RpV K H v) ∨ ∃ a, v = .ref a ∧ SqT K H a []
theorem ThV.ex {H' : Hp} {t : Tm} {v : V} (e : Ex H H') (h : ThV K H t v) : ThV K H' t v := h.imp (fun ⟨a, b⟩ => ⟨a.ex e, b.ex e⟩) fun ⟨a, h1, h2⟩ => ⟨a, h1, ex_t e h2⟩
end
end K12
end
section
namespace K12
open PySem PySem.Spec PyProof.Rows L2 Evl RZ Dw M20
section
variable {P : Program} {w : World} {K : PySem.W.Frag} {mg : Str → Option Value} {base : Heap} {σ : L2.St} {H : Hp} {P0 B0 T0 G0 : Addr} {va : Addr}
end
end K12
end
section
namespace K12
open PySem PySem.Spec PyProof.Rows L2 Evl RZ Dw M20
section
variable {P : Program} {w : World} {K : PySem.W.Frag} {mg : Str → Option Value} {base : Heap} {σ : L2.St} {H : Hp} {P0 B0 T0 G0 : Addr} {va : Addr}
/-! words -/
def dWs (ws : List Str) : PyData := .list (ws.map PyData.str)
theorem StrsV.dp {v : V} {ws : List Str} (h : StrsV H v ws) : Dp K H v (dWs ws) := by
  obtain ⟨l, rfl, hl⟩ := h
  exact .lst (sq_of hl) (dps_strs ws)
def dPs (ps : List (List Nat)) : PyData := .list (ps.map fun p => .tuple (natsD p))
theorem dps_paths {as : List Addr} {ps : List (List Nat)} (h : Paired (fun a p => SqT K H a (p.map vi)) as ps) : DpAll K H (as.map V.ref) (ps.map fun p => .tuple (natsD p)) := by
  induction h with
  | nil => exact .nil
  | cons a b ih => exact .cons (.tup a (dps_vi _)) ih
theorem PathsV.dp {l : Addr} {ps : List (List Nat)} (h : PathsV K H l ps) : Dp K H (.ref l) (dPs ps) := by
  obtain ⟨as, ha, pr⟩ := h
  exact .lst (sq_of ha) (dps_paths pr)
theorem SpsV.len {v : V} {y : Tm} (h : SpsV K H v (y.spots [])) : ∃ l us, v = .ref l ∧ H l = some (.lst us) ∧ us.length = y.sz := by
  obtain ⟨l, us, rfl, hl, pr⟩ := h
  exact ⟨l, us, rfl, hl, by rw [← spots_len y []]; exact paired_len pr⟩
end
end K12
end
section
namespace K12
open PySem PySem.Spec PyProof.Rows L2 Evl RZ Dw M20
section
variable {P : Program} {w : World} {K : PySem.W.Frag} {mg : Str → Option Value} {base : Heap} {σ : L2.St} {H : Hp} {P0 B0 T0 G0 : Addr} {va : Addr}
end
end K12
end
section
namespace K12
open PySem PySem.Spec PyProof.Rows L2 Evl RZ Dw M20
/-- a bent term: a letter, a deed over bent terms, anything else -/
inductive Bt where
  | var (x : Str)
  | deed (f : Str) (ts : List Bt)
  | odd (d : PyData)
/-- what is no text -/
inductive NoStr (K : PySem.W.Frag) (H : Hp) : V → Prop where
  | non : NoStr K H .non
  | int (i : Int) : NoStr K H (.int i)
  | tup {a : Addr} {xs : List V} (h : SqT K H a xs) : NoStr K H (.ref a)
/-- a list that is not of the purse -/
def FarL (H : Hp) (xs : List V) : Prop := xs = [] ∨ ∃ x r, xs = x :: r ∧ ((∃ s, x = .str s) ∨ ∃ b ys, x = .ref b ∧ H b = some (.tup ys))
theorem FarL.ex {H H' : Hp} {xs : List V} (e : Ex H H') (h : FarL H xs) : FarL H' xs := h.imp id fun ⟨x, r, q, z⟩ => ⟨x, r, q, z.imp id fun ⟨b, ys, q, s⟩ => ⟨b, ys, q, e _ _ s⟩⟩
/-- data without lists, or a list of such, or a deed over one -/
inductive Dq (K : PySem.W.Frag) (H : Hp) : V → PyData → Prop where
  | fl {v : V} {d : PyData} (h : Dp K H v d) (nl : noL d = true) : Dq K H v d
  | lst {a : Addr} {xs : List V} {ds : List PyData} (h : H a = some (.lst xs)) (hd : DpAll K H xs ds) (nl : noLs ds = true) (far : FarL H xs) : Dq K H (.ref a) (.list ds)
  | deed {a b : Addr} {f : Str} {xs : List V} {ds : List PyData} (h0 : SqT K H a [.str "deed", .str f, .ref b]) (h : H b = some (.lst xs)) (hd : DpAll K H xs ds) (nl : noLs ds = true) (far : FarL H xs) : Dq K H (.ref a) (.tuple [.str "deed", .str f, .list ds])
theorem Dq.dp {K : PySem.W.Frag} {H : Hp} {v : V} {d : PyData} (h : Dq K H v d) : Dp K H v d := by
  cases h with
  | fl h => exact h
  | lst h hd => exact .lst (sq_of h) hd
  | deed h0 h hd => exact .tup h0 (.cons (.str _) (.cons (.str _) (.cons (.lst (sq_of h) hd) .nil)))
theorem Dq.ex {K : PySem.W.Frag} {H H' : Hp} {v : V} {d : PyData} (e : Ex H H') (h : Dq K H v d) : Dq K H' v d := by
  cases h with
  | fl h nl => exact .fl (dp_ex e h) nl
  | lst h hd nl far => exact .lst (e _ _ h) (dps_ex e hd) nl (far.ex e)
  | deed h0 h hd nl far => exact .deed (ex_t e h0) (e _ _ h) (dps_ex e hd) nl (far.ex e)
/-- what is no tuple (truths too) -/
inductive NoTu (H : Hp) : V → Prop where
  | non : NoTu H .non
  | int (i : Int) : NoTu H (.int i)
  | bl (b : Bool) : NoTu H (.bl b)
  | str (z : Str) : NoTu H (.str z)
  | lst {a : Addr} {xs : List V} (h : H a = some (.lst xs)) (far : FarL H xs) : NoTu H (.ref a)
/-- no term's form, at its own place -/
inductive NF (K : PySem.W.Frag) (H : Hp) (sg : List (Str × Nat)) : V → Prop where
  | tup {v : V} (h : NoTu H v) : NF K H sg v
  | len {a : Addr} {xs : List V} (h : SqT K H a xs) (h2 : xs.length ≠ 2) (h3 : xs.length ≠ 3) : NF K H sg (.ref a)
  | two {a : Addr} {z : Str} {x : V} (h : SqT K H a [.str z, x]) (ne : z ≠ "var") : NF K H sg (.ref a)
  | letter {a : Addr} {x : V} (h : SqT K H a [.str "var", x]) (fl : flatV x = true) (no : inV x (vars.map V.str) = false) : NF K H sg (.ref a)
  | three {a : Addr} {z : Str} {x y : V} (h : SqT K H a [.str z, x, y]) (ne : z ≠ "deed") : NF K H sg (.ref a)
  | name {a : Addr} {x y : V} (h : SqT K H a [.str "deed", x, y]) (no : NoStr K H x) : NF K H sg (.ref a)
  | terms {a : Addr} {f : Str} {y : V} (h : SqT K H a [.str "deed", .str f, y]) (no : NoTu H y) : NF K H sg (.ref a)
  | many {a b : Addr} {f : Str} {us : List V} (h : SqT K H a [.str "deed", .str f, .ref b]) (h2 : SqT K H b us) (no : (f, us.length) ∉ sg) (sk : PyData.strOk f = true) : NF K H sg (.ref a)
section
variable {P : Program} {w : World} {K : PySem.W.Frag} {mg : Str → Option Value} {base : Heap} {σ : L2.St} {H H' : Hp} {va : Addr} {sg : List (Str × Nat)}
theorem NoStr.ex {v : V} (e : Ex H H') (h : NoStr K H v) : NoStr K H' v := by
  cases h with
  | non => exact .non
  | int i => exact .int i
  | tup h => exact .tup (ex_t e h)
theorem NoTu.ex {v : V} (e : Ex H H') (h : NoTu H v) : NoTu H' v := by
  cases h with
  | non => exact .non
  | int i => exact .int i
  | bl b => exact .bl b
  | str z => exact .str z
  | lst h far => exact .lst (e _ _ h) (far.ex e)
theorem NF.ex {v : V} (e : Ex H H') (h : NF K H sg v) : NF K H' sg v := by
  cases h with
  | tup h => exact .tup (h.ex e)
  | len h h2 h3 => exact .len (ex_t e h) h2 h3
  | two h ne => exact .two (ex_t e h) ne
  | letter h fl no => exact .letter (ex_t e h) fl no
  | three h ne => exact .three (ex_t e h) ne
  | name h no => exact .name (ex_t e h) (no.ex e)
  | terms h no => exact .terms (ex_t e h) (no.ex e)
  | many h h2 no sk => exact .many (ex_t e h) (ex_t e h2) no sk
mutual
def BtV (K : PySem.W.Frag) (H : Hp) (sg : List (Str × Nat)) : Bt → V → Prop
  | .var x => fun v => ∃ a, v = .ref a ∧ SqT K H a [.str "var", .str x]
  | .deed f ts => fun v => ∃ a b vs, v = .ref a ∧ SqT K H a [.str "deed", .str f, .ref b] ∧ SqT K H b vs ∧ BtsV K H sg ts vs
  | .odd d => fun v => Dq K H v d ∧ NF K H sg v
def BtsV (K : PySem.W.Frag) (H : Hp) (sg : List (Str × Nat)) : List Bt → List V → Prop
  | [] => fun vs => vs = []
  | t :: ts => fun vs => ∃ v us, vs = v :: us ∧ BtV K H sg t v ∧ BtsV K H sg ts us
end
mutual
/-- letters and deeds in their form -/
def Bt.ok (sg : List (Str × Nat)) : Bt → Prop
  | .var x => x ∈ vars
  | .deed f ts => (f, ts.length) ∈ sg ∧ boks sg ts
  | .odd _ => True
def boks (sg : List (Str × Nat)) : List Bt → Prop
  | [] => True
  | t :: ts => t.ok sg ∧ boks sg ts
end
mutual
theorem BtV.ex (e : Ex H H') : ∀ {t : Bt} {v : V}, BtV K H sg t v → BtV K H' sg t v
  | .var x, v, h => by
    rw [BtV] at h ⊢
    obtain ⟨a, q, s⟩ := h
    exact ⟨a, q, ex_t e s⟩
  | .deed f ts, v, h => by
    rw [BtV] at h ⊢
    obtain ⟨a, b, vs, q, s, s2, r⟩ := h
    exact ⟨a, b, vs, q, ex_t e s, ex_t e s2, BtsV.ex e r⟩
  | .odd d, v, h => by
    rw [BtV] at h ⊢
    exact ⟨h.1.ex e, h.2.ex e⟩
theorem BtsV.ex (e : Ex H H') : ∀ {ts : List Bt} {vs : List V}, BtsV K H sg ts vs → BtsV K H' sg ts vs
  | [], vs, h => by
    rw [BtsV] at h ⊢
    exact h
  | t :: ts, vs, h => by
    rw [BtsV] at h ⊢
    obtain ⟨v, us, q, a, b⟩ := h
    exact ⟨v, us, q, BtV.ex e a, BtsV.ex e b⟩
end
theorem BtsV.len : ∀ {ts : List Bt} {vs : List V}, BtsV K H sg ts vs → vs.length = ts.length
  | [], vs, h => by
    rw [BtsV] at h
    rw [h]
    rfl
  | t :: ts, vs, h => by
    rw [BtsV] at h
    obtain ⟨v, us, rfl, _, b⟩ := h
    rw [List.length_cons, List.length_cons, BtsV.len b]
/-- has it a term's form? -/
def Bt.fits : Bt → Bool
  | .odd _ => false
  | _ => true
/-- the dict of a signature's deeds, and nothing else -/
def PlcX (H : Hp) (d : Addr) (sg : List (Str × Nat)) : Prop := ∃ kvs : List (Key × V), H d = some (.dK kvs) ∧ (∀ p ∈ sg, valV kvs (.inr p.1) = some (vi p.2)) ∧ ∀ x, x ∉ sg.map (·.1) → valV kvs (.inr x) = none
theorem PlcX.ex {d : Addr} (e : Ex H H') (h : PlcX H d sg) : PlcX H' d sg := let ⟨k, a, b⟩ := h; ⟨k, e _ _ a, b⟩
theorem kit_is : PySem.W.kitOne K (.type "int") (.type "str") = some false := kit_ty (by decide +kernel)
end
end K12
end
section
namespace K12
open PySem PySem.Spec PyProof.Rows L2 Evl RZ Dw M20
mutual
/-- how many parts are met -/
def Bt.sz : Bt → Nat
  | .var _ => 1
  | .deed _ ts => 1 + bszs ts
  | .odd _ => 1
def bszs : List Bt → Nat
  | [] => 0
  | t :: ts => t.sz + bszs ts
end
mutual
/-- what is met, with its paths -/
def Bt.met : Bt → List Nat → List (List Nat × Bt)
  | .var x, p => [(p, .var x)]
  | .deed f ts, p => (p, .deed f ts) :: mets ts p 0
  | .odd d, p => [(p, .odd d)]
def mets : List Bt → List Nat → Nat → List (List Nat × Bt)
  | [], _, _ => []
  | t :: ts, p, k => t.met (p ++ [k]) ++ mets ts p (k + 1)
end
theorem BtsV.put {K : PySem.W.Frag} {H : Hp} {sg : List (Str × Nat)} : ∀ {ts : List Bt} {us : List V} {k : Nat} (h : k < ts.length), BtsV K H sg ts us → ∃ v, us[k]? = some v ∧ BtV K H sg ts[k] v
  | [], us, k, h, _ => absurd h (Nat.not_lt_zero _)
  | t :: ts, us, 0, h, r => by
    rw [BtsV] at r
    obtain ⟨v, ws, rfl, a, _⟩ := r
    exact ⟨v, rfl, a⟩
  | t :: ts, us, k + 1, h, r => by
    rw [BtsV] at r
    obtain ⟨v, ws, rfl, _, b⟩ := r
    exact BtsV.put (k := k) (Nat.lt_of_succ_lt_succ h) b
section
variable {P : Program} {w : World} {K : PySem.W.Frag} {mg : Str → Option Value} {base : Heap} {σ : L2.St} {H H0 H' : Hp} {va : Addr} {sg : List (Str × Nat)}
/-- something on the stack: the thing as it stood at H0 -/
def SbV (K : PySem.W.Frag) (H0 H : Hp) (sg : List (Str × Nat)) (n : Nat) (u : V) (q : List Nat × Bt) : Prop := ∃ (a pa : Addr) (v : V), u = .ref a ∧ SqT K H a [.ref pa, v] ∧ SqT K H pa (q.1.map vi) ∧ q.1.length + q.2.sz ≤ n ∧ BtV K H0 sg q.2 v ∧ q.2.ok sg
theorem SbV.et {n : Nat} {u : V} {q : List Nat × Bt} (e : ET K H H') (h : SbV K H0 H sg n u q) : SbV K H0 H' sg n u q := let ⟨a, pa, v, z, s, p, l, tv⟩ := h; ⟨a, pa, v, z, e _ _ s, e _ _ p, l, tv⟩
end
end K12
end
section
namespace K12
open PySem PySem.Spec PyProof.Rows L2 Evl RZ Dw M20
section
variable {P : Program} {w : World} {K : PySem.W.Frag} {mg : Str → Option Value} {base : Heap} {σ : L2.St} {H : Hp} {P0 B0 T0 G0 : Addr} {va : Addr}
end
end K12
end
section
namespace K12
open PySem PySem.Spec PyProof.Rows L2 Evl RZ Dw M20
section
variable {P : Program} {w : World} {K : PySem.W.Frag} {mg : Str → Option Value} {base : Heap} {σ : L2.St} {H : Hp} {va : Addr}
end
end K12
end
section
namespace K12
open PySem PySem.Spec PyProof.Rows L2 Evl RZ Dw M20
section
variable {P : Program} {w : World} {K : PySem.W.Frag} {mg : Str → Option Value} {base : Heap} {σ : L2.St} {H : Hp} {va : Addr} {sg : List (Str × Nat)}
def SmV (K : PySem.W.Frag) (H : Hp) (sg : List (Str × Nat)) (u : V) (e : List Nat × Bt) : Prop := ∃ (a b : Addr) (v : V), u = .ref a ∧ SqT K H a [.ref b, v] ∧ SqT K H b (e.1.map vi) ∧ BtV K H sg e.2 v
theorem SmV.ex {H' : Hp} {u : V} {e : List Nat × Bt} (x : Ex H H') (h : SmV K H sg u e) : SmV K H' sg u e := let ⟨a, b, v, h1, h2, h3, h4⟩ := h; ⟨a, b, v, h1, ex_t x h2, ex_t x h3, h4.ex x⟩
def SmsV (K : PySem.W.Frag) (H : Hp) (sg : List (Str × Nat)) (v : V) (es : List (List Nat × Bt)) : Prop := ∃ (l : Addr) (us : List V), v = .ref l ∧ H l = some (.lst us) ∧ Paired (SmV K H sg) us es
theorem SmsV.ex {H' : Hp} {u : V} {e : List (List Nat × Bt)} (x : Ex H H') (h : SmsV K H sg u e) : SmsV K H' sg u e := let ⟨a, us, h1, h2, h3⟩ := h; ⟨a, us, h1, x _ _ h2, paired_imp (fun _ _ z => z.ex x) h3⟩
end
end K12
end
section
namespace K12
open PySem PySem.Spec PyProof.Rows L2 Evl RZ Dw M20
section
variable {P : Program} {w : World} {K : PySem.W.Frag} {mg : Str → Option Value} {base : Heap} {σ : L2.St} {H : Hp} {va : Addr} {sg : List (Str × Nat)}
end
end K12
end
section
namespace K12
open PySem PySem.Spec PyProof.Rows L2 Evl RZ Dw M20
mutual
def Bt.data : Bt → PyData
  | .var x => .tuple [.str "var", .str x]
  | .deed f ts => .tuple [.str "deed", .str f, .tuple (bdatas ts)]
  | .odd d => d
def bdatas : List Bt → List PyData
  | [] => []
  | t :: ts => t.data :: bdatas ts
end
mutual
def Bt.fine : Bt → Prop
  | .var _ => True
  | .deed _ ts => bfines ts
  | .odd d => Gd 5 100 d
def bfines : List Bt → Prop
  | [] => True
  | t :: ts => t.fine ∧ bfines ts
end
section
variable {P : Program} {w : World} {K : PySem.W.Frag} {mg : Str → Option Value} {base : Heap} {σ : L2.St} {H H' : Hp} {va p c : Addr} {n : Nat} {sg : List (Str × Nat)}
mutual
theorem BtV.dp : ∀ {t : Bt} {v : V}, BtV K H sg t v → Dp K H v t.data
  | .var x, v, h => by
    rw [BtV] at h
    obtain ⟨a, rfl, s⟩ := h
    rw [Bt.data]
    exact .tup s (.cons (.str _) (.cons (.str _) .nil))
  | .deed f ts, v, h => by
    rw [BtV] at h
    obtain ⟨a, b, us, rfl, s, s2, r⟩ := h
    rw [Bt.data]
    exact .tup s (.cons (.str _) (.cons (.str _) (.cons (.tup s2 (BtsV.dp r)) .nil)))
  | .odd d, v, h => by
    rw [BtV] at h
    rw [Bt.data]
    exact h.1.dp
theorem BtsV.dp : ∀ {ts : List Bt} {vs : List V}, BtsV K H sg ts vs → DpAll K H vs (bdatas ts)
  | [], vs, h => by
    rw [BtsV] at h
    rw [h, bdatas]
    exact .nil
  | t :: ts, vs, h => by
    rw [BtsV] at h
    obtain ⟨v, us, rfl, a, b⟩ := h
    rw [bdatas]
    exact .cons (BtV.dp a) (BtsV.dp b)
end
theorem far_ne {a : Addr} {xs : List V} (pu : Pur H p c n) (h : H a = some (.lst xs)) (far : FarL H xs) : a ≠ p ∧ a ≠ c := by
  obtain ⟨hp, cs, cne, _, hc⟩ := pu
  constructor
  · intro e
    rw [e, hp] at h
    injection h with h
    injection h with h
    subst h
    rcases far with far | ⟨x, r, q, far⟩
    · cases far
    · injection q with q1 q2
      subst q1
      rcases far with ⟨s, z⟩ | ⟨b, ys, z, hb⟩
      · cases z
      · cases z
        rw [hc] at hb
        cases hb
  · intro e
    rw [e, hc] at h
    injection h with h
    injection h with h
    subst h
    cases cs with
    | nil => exact cne rfl
    | cons i cs =>
      rcases far with far | ⟨x, r, q, far⟩
      · cases far
      · injection q with q1 q2
        subst q1
        rcases far with ⟨s, z⟩ | ⟨b, ys, z, hb⟩ <;> cases z
theorem FarL.off {xs : List V} (pu : Pur H p c n) (o : Off H H' p c) (h : FarL H xs) : FarL H' xs := h.imp id fun ⟨x, r, q, z⟩ => ⟨x, r, q, z.imp id fun ⟨b, ys, q, s⟩ => ⟨b, ys, q, o _ _ (fun e => by
  rw [e, pu.1] at s
  cases s) (fun e => by
  obtain ⟨_, cs, _, _, hc⟩ := pu
  rw [e, hc] at s
  cases s) s⟩⟩
mutual
theorem dp_off (pu : Pur H p c n) (o : Off H H' p c) : ∀ {v : V} {d : PyData}, Dp K H v d → noL d = true → Dp K H' v d
  | _, _, .non, _ => .non
  | _, _, .bl b, _ => .bl b
  | _, _, .int i, _ => .int i
  | _, _, .str x, _ => .str x
  | _, _, .lst _ _, h => by
    rw [noL] at h
    cases h
  | _, _, .tup s r, h => by
    rw [noL] at h
    exact .tup (o.et pu _ _ s) (dps_off pu o r h)
theorem dps_off (pu : Pur H p c n) (o : Off H H' p c) : ∀ {vs : List V} {ds : List PyData}, DpAll K H vs ds → noLs ds = true → DpAll K H' vs ds
  | _, _, .nil, _ => .nil
  | _, _, .cons a b, h => by
    rw [noLs, Bool.and_eq_true] at h
    exact .cons (dp_off pu o a h.1) (dps_off pu o b h.2)
end
theorem Dq.off {v : V} {d : PyData} (pu : Pur H p c n) (o : Off H H' p c) (h : Dq K H v d) : Dq K H' v d := by
  cases h with
  | fl h nl => exact .fl (dp_off pu o h nl) nl
  | lst h hd nl far => exact .lst (o _ _ (far_ne pu h far).1 (far_ne pu h far).2 h) (dps_off pu o hd nl) nl (far.off pu o)
  | deed h0 h hd nl far => exact .deed (o.et pu _ _ h0) (o _ _ (far_ne pu h far).1 (far_ne pu h far).2 h) (dps_off pu o hd nl) nl (far.off pu o)
theorem NoTu.off {v : V} (pu : Pur H p c n) (o : Off H H' p c) (h : NoTu H v) : NoTu H' v := by
  cases h with
  | non => exact .non
  | int i => exact .int i
  | bl b => exact .bl b
  | str z => exact .str z
  | lst h far => exact .lst (o _ _ (far_ne pu h far).1 (far_ne pu h far).2 h) (far.off pu o)
theorem NoStr.off {v : V} (pu : Pur H p c n) (o : Off H H' p c) (h : NoStr K H v) : NoStr K H' v := by
  cases h with
  | non => exact .non
  | int i => exact .int i
  | tup h => exact .tup (o.et pu _ _ h)
theorem NF.off {v : V} (pu : Pur H p c n) (o : Off H H' p c) (h : NF K H sg v) : NF K H' sg v := by
  have e : ET K H H' := o.et pu
  cases h with
  | tup h => exact .tup (h.off pu o)
  | len h h2 h3 => exact .len (e _ _ h) h2 h3
  | two h ne => exact .two (e _ _ h) ne
  | letter h fl no => exact .letter (e _ _ h) fl no
  | three h ne => exact .three (e _ _ h) ne
  | name h no => exact .name (e _ _ h) (no.off pu o)
  | terms h no => exact .terms (e _ _ h) (no.off pu o)
  | many h h2 no sk => exact .many (e _ _ h) (e _ _ h2) no sk
mutual
theorem BtV.off (pu : Pur H p c n) (o : Off H H' p c) : ∀ {t : Bt} {v : V}, BtV K H sg t v → BtV K H' sg t v
  | .var x, v, h => by
    rw [BtV] at h ⊢
    obtain ⟨a, q, s⟩ := h
    exact ⟨a, q, o.et pu _ _ s⟩
  | .deed f ts, v, h => by
    rw [BtV] at h ⊢
    obtain ⟨a, b, vs, q, s, s2, r⟩ := h
    exact ⟨a, b, vs, q, o.et pu _ _ s, o.et pu _ _ s2, BtsV.off pu o r⟩
  | .odd d, v, h => by
    rw [BtV] at h ⊢
    exact ⟨h.1.off pu o, h.2.off pu o⟩
theorem BtsV.off (pu : Pur H p c n) (o : Off H H' p c) : ∀ {ts : List Bt} {vs : List V}, BtsV K H sg ts vs → BtsV K H' sg ts vs
  | [], vs, h => by
    rw [BtsV] at h ⊢
    exact h
  | t :: ts, vs, h => by
    rw [BtsV] at h ⊢
    obtain ⟨v, us, q, a, b⟩ := h
    exact ⟨v, us, q, BtV.off pu o a, BtsV.off pu o b⟩
end
theorem btv_var {a : Addr} {x : Str} (h : SqT K H a [.str "var", .str x]) : BtV K H sg (.var x) (.ref a) := by
  rw [BtV]
  exact ⟨a, rfl, h⟩
theorem BtsV.app : ∀ {a b : List Bt} {us vs : List V}, BtsV K H sg a us → BtsV K H sg b vs → BtsV K H sg (a ++ b) (us ++ vs)
  | [], b, us, vs, h1, h2 => by
    rw [BtsV] at h1
    subst h1
    exact h2
  | t :: a, b, us, vs, h1, h2 => by
    rw [BtsV] at h1
    obtain ⟨v, ws, rfl, x, y⟩ := h1
    rw [List.cons_append, List.cons_append, BtsV]
    exact ⟨v, _, rfl, x, BtsV.app y h2⟩
theorem BtsV.one {t : Bt} {v : V} (h : BtV K H sg t v) : BtsV K H sg [t] [v] := by
  rw [BtsV]
  exact ⟨v, [], rfl, h, by rw [BtsV]⟩
theorem BtsV.nil : BtsV K H sg [] [] := by rw [BtsV]
theorem BtsV.take : ∀ {ts : List Bt} {us : List V} (k : Nat), BtsV K H sg ts us → BtsV K H sg (ts.take k) (us.take k)
  | [], us, k, h => by
    rw [BtsV] at h
    subst h
    rw [List.take_nil, List.take_nil]
    exact BtsV.nil
  | t :: ts, us, 0, h => BtsV.nil
  | t :: ts, us, k + 1, h => by
    rw [BtsV] at h
    obtain ⟨v, ws, rfl, x, y⟩ := h
    rw [List.take_succ_cons, List.take_succ_cons, BtsV]
    exact ⟨v, _, rfl, x, BtsV.take k y⟩
theorem BtsV.drop : ∀ {ts : List Bt} {us : List V} (k : Nat), BtsV K H sg ts us → BtsV K H sg (ts.drop k) (us.drop k)
  | [], us, k, h => by
    rw [BtsV] at h
    subst h
    rw [List.drop_nil, List.drop_nil]
    exact BtsV.nil
  | t :: ts, us, 0, h => h
  | t :: ts, us, k + 1, h => by
    rw [BtsV] at h
    obtain ⟨v, ws, rfl, x, y⟩ := h
    exact BtsV.drop k y
end
mutual
def Tm.bt : Tm → Bt
  | .var x => .var x
  | .deed f ts => .deed f (bts ts)
def bts : List Tm → List Bt
  | [] => []
  | t :: ts => t.bt :: bts ts
end
end K12
end
section
namespace K12
open PySem PySem.Spec PyProof.Rows L2 Evl RZ Dw M20
section
variable {P : Program} {w : World} {K : PySem.W.Frag} {mg : Str → Option Value} {base : Heap} {σ : L2.St} {H H' : Hp} {va p c : Addr} {n : Nat} {sg : List (Str × Nat)}
/-! bent things as they are built -/
def TpB (K : PySem.W.Frag) (sg : List (Str × Nat)) (ts : List Bt) (v : V) (H : Hp) : Prop := ∃ a vs, v = .ref a ∧ SqT K H a vs ∧ BtsV K H sg ts vs
theorem TpB.ex {ts : List Bt} {v : V} (e : Ex H H') (h : TpB K sg ts v H) : TpB K sg ts v H' := let ⟨a, vs, q, s, r⟩ := h; ⟨a, vs, q, ex_t e s, r.ex e⟩
/-! long ones -/
/-! another one laid -/
end
end K12
end
section
namespace K12
open PySem PySem.Spec PyProof.Rows L2 Evl RZ Dw M20
theorem gd_strN {z : Str} {n : Nat} (h : ∀ c ∈ z.cps.toList, c < 0x110000) (l : z.cps.size ≤ n) (l2 : n ≤ 100) : Gd 0 n (.str z) := by
  have g := gd_str h (Nat.le_trans l l2)
  exact ⟨g.lay, g.dep, by rw [PyData.weight]; exact l, g.its, g.sho⟩
def leafD (x : Str) : PyData := .tuple [.str "var", .str x]
section
variable {P : Program} {w : World} {K : PySem.W.Frag} {mg : Str → Option Value} {base : Heap} {σ : L2.St} {H H' : Hp} {va p c : Addr} {n : Nat} {sg : List (Str × Nat)}
/-- something to lay -/
def ThB (K : PySem.W.Frag) (H : Hp) (sg : List (Str × Nat)) (v : V) : Prop := ∃ b : Bt, BtV K H sg b v ∧ b.ok sg ∧ b.fine ∧ b.sz ≤ 4
theorem ThB.ex {v : V} (e : Ex H H') (h : ThB K H sg v) : ThB K H' sg v := let ⟨b, x, y⟩ := h; ⟨b, x.ex e, y⟩
/-- a leaf -/
structure Lf (K : PySem.W.Frag) (H : Hp) (lf : Addr) (x : Str) : Prop where
  at_ : H lf = some (.tup [.str "var", .str x])
  mem : x ∈ vars
theorem Lf.ex {lf : Addr} {x : Str} (e : Ex H H') (h : Lf K H lf x) : Lf K H' lf x := ⟨e _ _ h.at_, h.mem⟩
theorem Lf.dp {lf : Addr} {x : Str} (h : Lf K H lf x) : Dp K H (.ref lf) (leafD x) := .tup (st_of h.at_) (.cons (.str _) (.cons (.str _) .nil))
theorem Lf.bt {lf : Addr} {x : Str} (h : Lf K H lf x) : BtV K H sg (.var x) (.ref lf) := btv_var (st_of h.at_)
theorem Lf.th {lf : Addr} {x : Str} (h : Lf K H lf x) : ThB K H sg (.ref lf) := ⟨.var x, h.bt, by rw [Bt.ok]; exact h.mem, by rw [Bt.fine]; trivial, by rw [Bt.sz]; decide⟩
/-- a tuple of so many leaves -/
def RpT (K : PySem.W.Frag) (H : Hp) (v : V) (xs : List V) : Prop := ∃ b, v = .ref b ∧ SqT K H b xs
theorem RpT.ex {v : V} {xs : List V} (e : Ex H H') (h : RpT K H v xs) : RpT K H' v xs := let ⟨b, q, s⟩ := h; ⟨b, q, ex_t e s⟩
end
end K12
end
section
namespace K12
open PySem PySem.Spec PyProof.Rows L2 Evl RZ Dw M20
theorem flatten_rep {α : Type} (x : α) : ∀ k, (List.replicate k [x]).flatten = List.replicate k x
  | 0 => rfl
  | k + 1 => by
    rw [List.replicate_succ, List.flatten_cons, flatten_rep x k, List.replicate_succ]
    rfl
section
variable {P : Program} {w : World} {K : PySem.W.Frag} {mg : Str → Option Value} {base : Heap} {σ : L2.St} {H H' Hb : Hp} {va p c : Addr} {n m : Nat} {sg : List (Str × Nat)}
/-- (x,) * k -/
theorem ep_repT {ta tk : TE} {x : V} {k : Int} {j : Nat} (ha : Ev ta σ H x) (hk : ∀ H1, Ex H H1 → Ev tk σ H1 (.int k)) (h0 : -10 ≤ k) (h1 : k ≤ 10) (ej : k.toNat = j) : EvP (tOp (rRepTA K) (tTup (tCons ta tNil)) tk) σ H (fun v H' => RpT K H' v (List.replicate j x)) := fun H1 e Q q => by
  subst ej
  refine do_op (eu_tup (ea_cons ha ea_nil) (by show 1 ≤ 100000; decide) H1 e _ fun l H2 _ e2 hl => hk H2 (e.trans e2) H2 (Ex.refl _) _ fun H3 e3 => ?_)
  have x13 := e2.trans e3
  refine ⟨l, k, [x], rfl, rfl, st_of (e3 _ _ hl), by simp, h0, by omega, by show 1 ≤ 1000; decide, fun k0 p np => ?_, fun k1 => ?_, fun k2 p np => ?_⟩
  · refine q _ _ (x13.trans (Ex.new np)) ⟨p, rfl, ?_⟩
    rw [show k.toNat = 0 by omega]
    exact st_of upd_same
  · refine q _ _ x13 ⟨l, rfl, ?_⟩
    rw [show k.toNat = 1 by omega]
    exact st_of (e3 _ _ hl)
  · refine q _ _ (x13.trans (Ex.new np)) ⟨p, rfl, ?_⟩
    rw [flatten_rep]
    exact st_of upd_same
/-- a list of n such, new since Hb -/
def ThL (K : PySem.W.Frag) (sg : List (Str × Nat)) (Hb : Hp) (n : Nat) (v : V) (H : Hp) : Prop := ∃ (l : Addr) (xs : List V) (Hm : Hp), v = .ref l ∧ H l = some (.lst xs) ∧ xs.length = n ∧ Ex Hb Hm ∧ Hm l = none ∧ Ex Hm H ∧ ∀ x ∈ xs, ThB K Hm sg x
theorem ThL.ex {v : V} (e : Ex H H') (h : ThL K sg Hb n v H) : ThL K sg Hb n v H' := let ⟨l, xs, Hm, a, b, d, f, g, i, j⟩ := h; ⟨l, xs, Hm, a, e _ _ b, d, f, g, i.trans e, j⟩
/-! the single ones -/
theorem gd_int {i : Int} (h : i.natAbs < 1000) (hs : PyData.intsShort 13 (.int i) = true) : Gd 3 22 (.int i) := by
  have l9 : i.natAbs.log2 ≤ 9 := log_low (by omega)
  refine ⟨by rw [PyData.canLay0], by rw [PyData.depth]; decide, ?_, hs, ?_⟩
  · rw [PyData.weight]
    split <;> omega
  · rw [PyData.showable]
    exact decide_eq_true (by omega)
end
end K12
end
section
namespace K12
open PySem PySem.Spec PyProof.Rows L2 Evl RZ Dw M20
section
variable {P : Program} {w : World} {K : PySem.W.Frag} {mg : Str → Option Value} {base : Heap} {σ : L2.St} {H H' Hb : Hp} {va p c : Addr} {n m : Nat} {sg : List (Str × Nat)}
theorem ThL.now {v : V} (h : ThL K sg Hb n v H) : ∃ (l : Addr) (xs : List V), v = .ref l ∧ H l = some (.lst xs) ∧ xs.length = n ∧ ∀ x ∈ xs, ThB K H sg x := let ⟨l, xs, Hm, a, b, d, f, g, i, j⟩ := h; ⟨l, xs, a, b, d, fun x hx => (j x hx).ex i⟩
theorem SmsV.far {l : Addr} {es : List (List Nat × Bt)} (h : SmsV K H sg (.ref l) es) (ne : es ≠ []) (pu : Pur H p c n) : l ≠ p ∧ l ≠ c := by
  obtain ⟨l', us, e, hl, pr⟩ := h
  cases e
  constructor
  · intro z
    rw [z, pu.1] at hl
    injection hl with hl
    injection hl with hl
    rw [← hl] at pr
    cases pr with
    | cons a b =>
      cases b with
      | cons a2 b2 =>
        obtain ⟨_, _, _, e, _⟩ := a2
        cases e
  · intro z
    obtain ⟨cs, cne, _, hc⟩ := pu.2
    rw [z, hc] at hl
    injection hl with hl
    injection hl with hl
    cases cs with
    | nil => exact cne rfl
    | cons x xs =>
      rw [← hl] at pr
      cases pr with
      | cons a b =>
        obtain ⟨_, _, _, e, _⟩ := a
        cases e
end
end K12
end
section
namespace K12
open PySem PySem.Spec PyProof.Rows L2 Evl RZ Dw M20
section
variable {P : Program} {w : World} {K : PySem.W.Frag} {mg : Str → Option Value} {base : Heap} {σ : L2.St} {H H' Hb : Hp} {P0 B0 T0 G0 a1 a2 a3 a4 a5 a6 : Addr} {sg : List (Str × Nat)}
end
end K12
end
section
namespace K12
open PySem PySem.Spec PyProof.Rows L2 Evl RZ Dw M20
/-! data whose lists are none of the purse's -/
mutual
inductive Dz (K : PySem.W.Frag) (p c : Addr) (H : Hp) : V → PyData → Prop where
  | non : Dz K p c H .non .none
  | bl (b : Bool) : Dz K p c H (.bl b) (.bool b)
  | int (i : Int) : Dz K p c H (.int i) (.int i)
  | str (x : Str) : Dz K p c H (.str x) (.str x)
  | lst {a : Addr} {xs : List V} {ds : List PyData} (h : H a = some (.lst xs)) (hp : a ≠ p) (hc : a ≠ c) (r : DzAll K p c H xs ds) : Dz K p c H (.ref a) (.list ds)
  | tup {a : Addr} {xs : List V} {ds : List PyData} (h : SqT K H a xs) (r : DzAll K p c H xs ds) : Dz K p c H (.ref a) (.tuple ds)
inductive DzAll (K : PySem.W.Frag) (p c : Addr) (H : Hp) : List V → List PyData → Prop where
  | nil : DzAll K p c H [] []
  | cons {v : V} {vs : List V} {d : PyData} {ds : List PyData} (a : Dz K p c H v d) (b : DzAll K p c H vs ds) : DzAll K p c H (v :: vs) (d :: ds)
end
section
variable {P : Program} {w : World} {K : PySem.W.Frag} {mg : Str → Option Value} {base : Heap} {σ : L2.St} {H H' : Hp} {p c : Addr} {n : Nat} {v : V} {d : PyData}
mutual
theorem Dz.dp : ∀ {v : V} {d : PyData}, Dz K p c H v d → Dp K H v d
  | _, _, .non => .non
  | _, _, .bl b => .bl b
  | _, _, .int i => .int i
  | _, _, .str x => .str x
  | _, _, .lst h _ _ r => .lst (sq_of h) (DzAll.dp r)
  | _, _, .tup h r => .tup h (DzAll.dp r)
theorem DzAll.dp : ∀ {vs : List V} {ds : List PyData}, DzAll K p c H vs ds → DpAll K H vs ds
  | _, _, .nil => .nil
  | _, _, .cons a b => .cons (Dz.dp a) (DzAll.dp b)
end
mutual
theorem Dz.ex (e : Ex H H') : ∀ {v : V} {d : PyData}, Dz K p c H v d → Dz K p c H' v d
  | _, _, .non => .non
  | _, _, .bl b => .bl b
  | _, _, .int i => .int i
  | _, _, .str x => .str x
  | _, _, .lst h hp hc r => .lst (e _ _ h) hp hc (DzAll.ex e r)
  | _, _, .tup h r => .tup (ex_t e h) (DzAll.ex e r)
theorem DzAll.ex (e : Ex H H') : ∀ {vs : List V} {ds : List PyData}, DzAll K p c H vs ds → DzAll K p c H' vs ds
  | _, _, .nil => .nil
  | _, _, .cons a b => .cons (Dz.ex e a) (DzAll.ex e b)
end
mutual
theorem Dz.off (pu : Pur H p c n) (o : Off H H' p c) : ∀ {v : V} {d : PyData}, Dz K p c H v d → Dz K p c H' v d
  | _, _, .non => .non
  | _, _, .bl b => .bl b
  | _, _, .int i => .int i
  | _, _, .str x => .str x
  | _, _, .lst h hp hc r => .lst (o _ _ hp hc h) hp hc (DzAll.off pu o r)
  | _, _, .tup h r => .tup (o.et pu _ _ h) (DzAll.off pu o r)
theorem DzAll.off (pu : Pur H p c n) (o : Off H H' p c) : ∀ {vs : List V} {ds : List PyData}, DzAll K p c H vs ds → DzAll K p c H' vs ds
  | _, _, .nil => .nil
  | _, _, .cons a b => .cons (Dz.off pu o a) (DzAll.off pu o b)
end
theorem DzAll.len : ∀ {vs : List V} {ds : List PyData}, DzAll K p c H vs ds → vs.length = ds.length
  | _, _, .nil => rfl
  | _, _, .cons a b => by rw [List.length_cons, List.length_cons, DzAll.len b]
theorem DzAll.get : ∀ {vs : List V} {ds : List PyData} {k : Nat} {x : V}, DzAll K p c H vs ds → vs[k]? = some x → ∃ e, ds[k]? = some e ∧ Dz K p c H x e
  | _, _, k, _, .nil, h => by
    rw [List.getElem?_nil] at h
    cases h
  | _, _, 0, x, .cons a b, h => by
    cases Option.some.inj h
    exact ⟨_, rfl, a⟩
  | _, _, k + 1, x, .cons a b, h => DzAll.get (k := k) b h
theorem DzAll.put : ∀ {vs : List V} {ds : List PyData} {k : Nat} {e : PyData}, DzAll K p c H vs ds → ds[k]? = some e → ∃ x, vs[k]? = some x ∧ Dz K p c H x e
  | _, _, k, _, .nil, h => by
    rw [List.getElem?_nil] at h
    cases h
  | _, _, 0, x, .cons a b, h => by
    cases Option.some.inj h
    exact ⟨_, rfl, a⟩
  | _, _, k + 1, x, .cons a b, h => DzAll.put (k := k) b h
theorem DzAll.app : ∀ {vs us : List V} {ds es : List PyData}, DzAll K p c H vs ds → DzAll K p c H us es → DzAll K p c H (vs ++ us) (ds ++ es)
  | _, _, _, _, .nil, h => h
  | _, _, _, _, .cons a b, h => .cons a (DzAll.app b h)
theorem DzAll.take : ∀ {vs : List V} {ds : List PyData} (k : Nat), DzAll K p c H vs ds → DzAll K p c H (vs.take k) (ds.take k)
  | _, _, k, .nil => by
    rw [List.take_nil, List.take_nil]
    exact .nil
  | _, _, 0, .cons a b => .nil
  | _, _, k + 1, .cons a b => .cons a (DzAll.take k b)
theorem DzAll.drop : ∀ {vs : List V} {ds : List PyData} (k : Nat), DzAll K p c H vs ds → DzAll K p c H (vs.drop k) (ds.drop k)
  | _, _, k, .nil => by
    rw [List.drop_nil, List.drop_nil]
    exact .nil
  | _, _, 0, .cons a b => .cons a b
  | _, _, k + 1, .cons a b => DzAll.drop k b
theorem DzAll.rep (h : Dz K p c H v d) : ∀ k, DzAll K p c H (List.replicate k v) (List.replicate k d)
  | 0 => .nil
  | k + 1 => .cons h (DzAll.rep h k)
/-! bounded data, ints of up to forty signs -/
structure Gb (k W : Nat) (d : PyData) : Prop where
  lay : d.canLay0 = true
  dep : d.depth ≤ k
  wgt : d.weight ≤ W
  its : d.intsShort 40 = true
  sho : d.showable = true
theorem Gb.mono {k W k' W' : Nat} {d : PyData} (h : Gb k W d) (a : k ≤ k') (b : W ≤ W') : Gb k' W' d := ⟨h.lay, Nat.le_trans h.dep a, Nat.le_trans h.wgt b, h.its, h.sho⟩
mutual
theorem ints_mono : ∀ d : PyData, d.intsShort 13 = true → d.intsShort 40 = true
  | .none, _ => by rw [PyData.intsShort]
  | .bool _, _ => by rw [PyData.intsShort]
  | .str _, _ => by rw [PyData.intsShort]
  | .dict _, _ => by rw [PyData.intsShort]
  | .int i, h => by
    rw [PyData.intsShort, decide_eq_true_eq] at h ⊢
    omega
  | .list xs, h => by
    rw [PyData.intsShort] at h ⊢
    exact ints_monos xs h
  | .tuple xs, h => by
    rw [PyData.intsShort] at h ⊢
    exact ints_monos xs h
theorem ints_monos : ∀ ds : List PyData, PyData.intsShortAll 13 ds = true → PyData.intsShortAll 40 ds = true
  | [], _ => by rw [PyData.intsShortAll]
  | d :: ds, h => by
    rw [PyData.intsShortAll, Bool.and_eq_true] at h ⊢
    exact ⟨ints_mono d h.1, ints_monos ds h.2⟩
end
theorem Gd.gb {k W : Nat} {d : PyData} (h : Gd k W d) : Gb k W d := ⟨h.lay, h.dep, h.wgt, ints_mono d h.its, h.sho⟩
theorem Gb.len {k W : Nat} {d : PyData} (h : Gb k W d) (b : W ≤ 100000) : d.shown.length ≤ sizeLine := by
  have z := PyData.shown_le 40 (by decide) d (PyData.leavesShort_of_canLay0 40 d h.lay h.its)
  have y := h.wgt
  rw [sizeLine_eq]
  omega
/-! what isinstance says -/
def isTup : PyData → Bool
  | .tuple _ => true
  | _ => false
def wholeB : PyData → Bool
  | .int _ => true
  | _ => false
theorem ev_isTup {ta tb : TE} (ha : Ev ta σ H v) (hc : Ev tb σ H (.ty "tuple")) (h : Dz K p c H v d) : Ev (tCB (rIsi K) (tCons ta (tCons tb tNil))) σ H (.bl (isTup d)) := by
  cases h with
  | non => exact ev_isi (b := false) ha hc (.ty _) (fun _ _ => tyx_non) (kit_ty (by decide +kernel))
  | bl b => exact ev_isi (b := false) ha hc (.ty _) (fun _ _ => tyx_bl b) (kit_ty (by decide +kernel))
  | int i => exact ev_isi (b := false) ha hc (.ty _) (fun _ _ => tyx_int i) (kit_ty (by decide +kernel))
  | str z => exact ev_isi (b := false) ha hc (.ty _) (fun _ _ => tyx_str z) (kit_ty (by decide +kernel))
  | lst h _ _ _ => exact ev_isi (b := false) ha hc (.ty _) (fun _ e => .base (.lst (e _ _ h))) (kit_ty (by decide +kernel))
  | tup h _ => exact ev_isi (b := true) ha hc (.ty _) (fun _ e => tyx_tup (ex_t e h)) (kit_ty (by decide +kernel))
theorem ev_isIntB {ta tb tc td : TE} (ha : Ev ta σ H v) (hc : Ev tb σ H (.ty "int")) (ha2 : Ev tc σ H v) (hc2 : Ev td σ H (.ty "bool")) (h : Dz K p c H v d) : Ev (tAndV (tCB (rIsi K) (tCons ta (tCons tb tNil))) (tNotV (tCB (rIsi K) (tCons tc (tCons td tNil))))) σ H (.bl (wholeB d)) := by
  cases h with
  | non => exact ev_andV (a := false) (b := false) (ev_isi ha hc (.ty _) (fun _ _ => tyx_non) (kit_ty (by decide +kernel))) (fun z => by cases z)
  | bl b => exact ev_andV (a := true) (b := false) (ev_isi ha hc (.ty _) (fun _ _ => tyx_bl b) (kit_ty (by decide +kernel))) (fun _ => ev_notV (a := true) (ev_isi ha2 hc2 (.ty _) (fun _ _ => tyx_bl b) (kit_ty (by decide +kernel))))
  | int i => exact ev_andV (a := true) (b := true) (ev_isi ha hc (.ty _) (fun _ _ => tyx_int i) (kit_ty (by decide +kernel))) (fun _ => ev_notV (a := false) (ev_isi ha2 hc2 (.ty _) (fun _ _ => tyx_int i) (kit_ty (by decide +kernel))))
  | str z => exact ev_andV (a := false) (b := false) (ev_isi ha hc (.ty _) (fun _ _ => tyx_str z) (kit_ty (by decide +kernel))) (fun z => by cases z)
  | lst h _ _ _ => exact ev_andV (a := false) (b := false) (ev_isi ha hc (.ty _) (fun _ e => .base (.lst (e _ _ h))) (kit_ty (by decide +kernel))) (fun z => by cases z)
  | tup h _ => exact ev_andV (a := false) (b := false) (ev_isi ha hc (.ty _) (fun _ e => tyx_tup (ex_t e h)) (kit_ty (by decide +kernel))) (fun z => by cases z)
end
def belowB (n : Int) : PyData → Bool
  | .int i => decide (0 ≤ i) && decide (i < n)
  | _ => false
theorem filt_first {f : Nat → Bool} {n i : Nat} (hi : i < n) (h0 : ∀ j, j < i → f j = false) (h1 : f i = true) : ∃ r, (List.range n).filter f = i :: r := by
  obtain ⟨m, rfl⟩ : ∃ m, n = i + (m + 1) := ⟨n - i - 1, by omega⟩
  rw [List.range_add, List.filter_append]
  have e : (List.range i).filter f = [] := List.filter_eq_nil_iff.mpr (fun j hj => by rw [h0 j (List.mem_range.mp hj)]; decide)
  rw [e, List.nil_append, List.range_succ_eq_map, List.map_cons, List.filter_cons_of_pos (by rw [Nat.add_zero]; exact h1)]
  exact ⟨_, rfl⟩
theorem filt_none {f : Nat → Bool} {n : Nat} (h0 : ∀ j, j < n → f j = false) : (List.range n).filter f = [] := List.filter_eq_nil_iff.mpr (fun j hj => by rw [h0 j (List.mem_range.mp hj)]; decide)
section
variable {P : Program} {w : World} {K : PySem.W.Frag} {mg : Str → Option Value} {base : Heap} {σ : L2.St} {H H' : Hp} {p c : Addr} {n : Nat} {v : V} {d : PyData}
def sp_whole_any (K : PySem.W.Frag) : Sp := spX (fun (z : (Addr × Addr) × PyData) vs H => (fun (p c : Addr) (d : PyData) => ∃ v, vs = [v] ∧ Dz K p c H v d) z.1.1 z.1.2 z.2) (fun z v H => (fun (d : PyData) => v = .bl (wholeB d)) z.2)
theorem c_whole_any (T : Txt mg) (D : Df K mg "is_whole" s_is_whole ["thing"]) : Cl P w K mg base 1 "is_whole" (sp_whole_any K) := by
  refine cl_of (k := 0) D sc_is_whole (fun vs H Q E h => ?_) (fun f cdv A outer s H vs Q E hr h => ?_)
  · obtain ⟨d, ⟨v, rfl, _⟩, _⟩ := h
    rfl
  · obtain ⟨⟨⟨p, c⟩, d⟩, ⟨v, rfl, hv⟩, q⟩ := h
    refine ⟨_, (pss_one (ps_ret (pe_and (pe_callB call_isi (by rfl) T.z_isinstance (by decide +kernel) (pa_cons (pv 0) (pa_cons (pe_ty "int" (by rfl) T.z_int (by decide +kernel)) pa_nil))) (pe_one (pe_not (pe_callB call_isi (by rfl) T.z_isinstance (by decide +kernel) (pa_cons (pv 0) (pa_cons (pe_ty "bool" (by rfl) T.z_bool (by decide +kernel)) pa_nil)))))))), ?_⟩
    exact s_ret (ev_isIntB (K := K) (ev_var rfl) ev_c (ev_var rfl) ev_c hv) fun H1 e1 => q _ H1 e1 rfl
theorem whole_int (h : Dz K p c H v d) (w : wholeB d = true) : ∃ i, v = .int i ∧ d = .int i := by
  cases h with
  | int i => exact ⟨i, rfl, rfl⟩
  | non => cases w
  | bl b => cases w
  | str z => cases w
  | lst _ _ _ _ => cases w
  | tup _ _ => cases w
def sp_below_any (K : PySem.W.Frag) : Sp := spX (fun (z : (Addr × Addr) × PyData × Int) vs H => (fun (p c : Addr) (q : PyData × Int) => ∃ v, vs = [v, .int q.2] ∧ Dz K p c H v q.1) z.1.1 z.1.2 z.2) (fun z v H => (fun (q : PyData × Int) => v = .bl (belowB q.2 q.1)) z.2)
theorem c_below_any (T : Txt mg) (D : Df K mg "is_below" s_is_below ["thing", "size"]) (c_whole_any : Cl P w K mg base 1 "is_whole" (sp_whole_any K)) : Cl P w K mg base 2 "is_below" (sp_below_any K) := by
  refine cl_of (k := 1) D sc_is_below (fun vs H Q E h => ?_) (fun f cdv A outer s H vs Q E hr h => ?_)
  · obtain ⟨d, ⟨v, rfl, _⟩, _⟩ := h
    rfl
  · obtain ⟨⟨⟨p, c⟩, d, n⟩, ⟨v, rfl, hv⟩, q⟩ := h
    have c_is_whole := c_whole_any
    refine ⟨_, (pss_one (ps_ret (pe_and (pe_cl c_is_whole hr (by first | decide | omega) (by rfl) (pa_cons (pv 0) pa_nil)) (pe_one (pe_chain op_le op_lt pe_int (pv 0) (pv 1)))))), ?_⟩
    replace hv : Dz K p c H v d := hv
    replace q : ∀ r H', Ex H H' → r = .bl (belowB n d) → Q r H' := q
    by_cases hw : wholeB d = true
    · obtain ⟨i, rfl, rfl⟩ := whole_int hv hw
      refine s_ret (ev_andV (a := true) (b := belowB n (.int i)) (ev_callV (v := .bl true) ((p, c), PyData.int i) (ea_cons (ev_var rfl) ea_nil) (fun H1 e1 => ⟨_, rfl, .int i⟩) (fun _ _ z => z.trans rfl)) (fun _ => ev_chain ev_c (ev_var rfl) (fun _ => ev_var rfl) rv_I0 (fun _ => rv_I0))) fun H1 e1 => q _ H1 e1 rfl
    · have hw2 : wholeB d = false := by simpa using hw
      refine s_ret (ev_andV (a := false) (b := false) (ev_callV (v := .bl false) ((p, c), d) (ea_cons (ev_var rfl) ea_nil) (fun H1 e1 => ⟨_, rfl, hv.ex e1⟩) (fun _ _ z => by rw [z, hw2])) (fun z => by cases z)) fun H1 e1 => q _ H1 e1 ?_
      cases d <;> first | rfl | cases hw2
end
end K12
end
section
namespace K12
open PySem PySem.Spec PyProof.Rows L2 Evl RZ Dw M20
section
variable {P : Program} {w : World} {K : PySem.W.Frag} {mg : Str → Option Value} {base : Heap} {σ : L2.St} {H H' : Hp} {p c : Addr} {n : Nat} {v : V} {d : PyData} {P0 B0 T0 G0 S0 : Addr}
theorem tup_of (h : Dz K p c H v d) (hs : isTup d = true) : ∃ a us ds, v = .ref a ∧ d = .tuple ds ∧ SqT K H a us ∧ DzAll K p c H us ds := by
  cases h with
  | @tup a us ds hS r => exact ⟨a, us, ds, rfl, rfl, hS, r⟩
  | non => cases hs
  | bl b => cases hs
  | int i => cases hs
  | str z => cases hs
  | lst _ _ _ _ => cases hs
end
end K12
end
section
namespace K12
open PySem PySem.Spec PyProof.Rows L2 Evl RZ Dw M20
section
variable {P : Program} {w : World} {K : PySem.W.Frag} {mg : Str → Option Value} {base : Heap} {σ : L2.St} {H H' : Hp} {p c : Addr} {n : Nat} {v : V} {d : PyData} {S0 G0 a1 a2 a3 a4 a5 a6 a7 a8 : Addr}
theorem one_of {α : Type} {r : List α} (l : r.length = 1) : ∃ x, r = [x] := by
  match r, l with
  | [x], _ => exact ⟨x, rfl⟩
theorem two_of {α : Type} {r : List α} (l : r.length = 2) : ∃ x y, r = [x, y] := by
  match r, l with
  | [x, y], _ => exact ⟨x, y, rfl⟩
end
end K12
end
section
namespace K12
open PySem PySem.Spec PyProof.Rows L2 Evl RZ Dw M20
section
variable {P : Program} {w : World} {K : PySem.W.Frag} {mg : Str → Option Value} {base : Heap} {σ : L2.St} {H H' : Hp} {p c : Addr} {n : Nat} {v : V} {d : PyData}
def sp_lwhole_any (K : PySem.W.Frag) : Sp := spX (fun (z : (Addr × Addr) × PyData) vs H => (fun (p c : Addr) (d : PyData) => ∃ v, vs = [v] ∧ Dz K p c H v d) z.1.1 z.1.2 z.2) (fun z v H => (fun (d : PyData) => v = .bl (wholeB d)) z.2)
theorem c_lwhole_any (T : Txt mg) (D : Df K mg "_law_whole" s__law_whole ["_law_piece"]) : Cl P w K mg base 1 "_law_whole" (sp_lwhole_any K) := by
  refine cl_of (k := 0) D sc__law_whole (fun vs H Q E h => ?_) (fun f cdv A outer s H vs Q E hr h => ?_)
  · obtain ⟨d, ⟨v, rfl, _⟩, _⟩ := h
    rfl
  · obtain ⟨⟨⟨p, c⟩, d⟩, ⟨v, rfl, hv⟩, q⟩ := h
    refine ⟨_, (pss_one (ps_ret (pe_and (pe_callB call_isi (by rfl) T.z_isinstance (by decide +kernel) (pa_cons (pv 0) (pa_cons (pe_ty "int" (by rfl) T.z_int (by decide +kernel)) pa_nil))) (pe_one (pe_not (pe_callB call_isi (by rfl) T.z_isinstance (by decide +kernel) (pa_cons (pv 0) (pa_cons (pe_ty "bool" (by rfl) T.z_bool (by decide +kernel)) pa_nil)))))))), ?_⟩
    exact s_ret (ev_isIntB (K := K) (ev_var rfl) ev_c (ev_var rfl) ev_c hv) fun H1 e1 => q _ H1 e1 rfl
end
end K12
end
section
namespace K12
open PySem PySem.Spec PyProof.Rows L2 Evl RZ Dw M20
section
variable {P : Program} {w : World} {K : PySem.W.Frag} {mg : Str → Option Value} {base : Heap} {σ : L2.St} {H H' : Hp} {p c : Addr} {n : Nat} {v : V} {d : PyData}
end
end K12
end
section
namespace K12
open PySem PySem.Spec PyProof.Rows L2 Evl RZ Dw M20
/-! bounded rows of data -/
structure GbA (k W : Nat) (ds : List PyData) : Prop where
  lay : PyData.canLayAll0 ds = true
  dep : PyData.depthAll ds ≤ k
  wgt : PyData.weightAll ds ≤ W
  its : PyData.intsShortAll 40 ds = true
  sho : PyData.showableAll ds = true
theorem GbA.mono {k W k' W' : Nat} {d : List PyData} (h : GbA k W d) (a : k ≤ k') (b : W ≤ W') : GbA k' W' d := ⟨h.lay, Nat.le_trans h.dep a, Nat.le_trans h.wgt b, h.its, h.sho⟩
theorem gba_nil : GbA 0 0 [] := ⟨by rw [PyData.canLayAll0], by rw [PyData.depthAll]; exact Nat.le_refl _, by rw [PyData.weightAll]; exact Nat.le_refl _, by rw [PyData.intsShortAll], by rw [PyData.showableAll]⟩
theorem gba_cons {k W W' : Nat} {d : PyData} {ds : List PyData} (g : Gb k W d) (h : GbA k W' ds) : GbA k (W + 1 + W') (d :: ds) := by
  have g1 := g.dep
  have g2 := g.wgt
  have h1 := h.dep
  have h2 := h.wgt
  exact ⟨by rw [PyData.canLayAll0, g.lay, h.lay]; rfl, by rw [PyData.depthAll]; omega, by rw [PyData.weightAll]; omega, by rw [PyData.intsShortAll, g.its, h.its]; rfl, by rw [PyData.showableAll, g.sho, h.sho]; rfl⟩
theorem gba_one {k W : Nat} {d : PyData} (g : Gb k W d) : GbA k (W + 1) [d] := gba_cons g (gba_nil.mono (Nat.zero_le _) (Nat.le_refl _))
theorem gba_app {k W W' : Nat} : ∀ {as bs : List PyData}, GbA k W as → GbA k W' bs → GbA k (W + W') (as ++ bs)
  | [], bs, _, h => h.mono (Nat.le_refl _) (by omega)
  | d :: as, bs, g, h => by
    have g1 := g.lay
    have g2 := g.dep
    have g3 := g.wgt
    have g4 := g.its
    have g5 := g.sho
    rw [PyData.canLayAll0, Bool.and_eq_true] at g1
    rw [PyData.depthAll] at g2
    rw [PyData.weightAll] at g3
    rw [PyData.intsShortAll, Bool.and_eq_true] at g4
    rw [PyData.showableAll, Bool.and_eq_true] at g5
    have r := gba_app (k := k) (W := PyData.weightAll as) (W' := W') (as := as) (bs := bs) ⟨g1.2, by omega, Nat.le_refl _, g4.2, g5.2⟩ h
    exact (gba_cons (k := k) (W := d.weight) ⟨g1.1, by omega, Nat.le_refl _, g4.1, g5.1⟩ r).mono (Nat.le_refl _) (by omega)
theorem gba_split {k W : Nat} : ∀ {as bs : List PyData}, GbA k W (as ++ bs) → ∃ W1 W2, W1 + W2 ≤ W ∧ GbA k W1 as ∧ GbA k W2 bs
  | [], bs, h => ⟨0, W, by omega, gba_nil.mono (Nat.zero_le _) (Nat.le_refl _), h⟩
  | d :: as, bs, g => by
    have g1 := g.lay
    have g2 := g.dep
    have g3 := g.wgt
    have g4 := g.its
    have g5 := g.sho
    rw [List.cons_append] at g1 g2 g3 g4 g5
    rw [PyData.canLayAll0, Bool.and_eq_true] at g1
    rw [PyData.depthAll] at g2
    rw [PyData.weightAll] at g3
    rw [PyData.intsShortAll, Bool.and_eq_true] at g4
    rw [PyData.showableAll, Bool.and_eq_true] at g5
    obtain ⟨W1, W2, l, a, b⟩ := gba_split (k := k) (W := PyData.weightAll (as ++ bs)) (as := as) (bs := bs) ⟨g1.2, by omega, Nat.le_refl _, g4.2, g5.2⟩
    exact ⟨d.weight + 1 + W1, W2, by omega, gba_cons ⟨g1.1, by omega, Nat.le_refl _, g4.1, g5.1⟩ a, b⟩
theorem gb_tup {k W : Nat} {ds : List PyData} (h : GbA k W ds) : Gb (k + 1) W (.tuple ds) := ⟨by rw [PyData.canLay0]; exact h.lay, by rw [PyData.depth]; have := h.dep; omega, by rw [PyData.weight]; exact h.wgt, by rw [PyData.intsShort]; exact h.its, by rw [PyData.showable]; exact h.sho⟩
theorem gb_lst {k W : Nat} {ds : List PyData} (h : GbA k W ds) : Gb (k + 1) W (.list ds) := ⟨by rw [PyData.canLay0]; exact h.lay, by rw [PyData.depth]; have := h.dep; omega, by rw [PyData.weight]; exact h.wgt, by rw [PyData.intsShort]; exact h.its, by rw [PyData.showable]; exact h.sho⟩
theorem gba_take {k W : Nat} {ds : List PyData} (n : Nat) (g : GbA k W ds) : GbA k W (ds.take n) := by
  have g2 := g
  rw [← List.take_append_drop n ds] at g2
  obtain ⟨W1, W2, l, a, b⟩ := gba_split g2
  exact a.mono (Nat.le_refl _) (by omega)
theorem gba_drop {k W : Nat} {ds : List PyData} (n : Nat) (g : GbA k W ds) : GbA k W (ds.drop n) := by
  have g2 := g
  rw [← List.take_append_drop n ds] at g2
  obtain ⟨W1, W2, l, a, b⟩ := gba_split g2
  exact b.mono (Nat.le_refl _) (by omega)
theorem gba_rep {k W : Nat} {d : PyData} (g : Gb k W d) : ∀ n, GbA k (n * (W + 1)) (List.replicate n d)
  | 0 => gba_nil.mono (Nat.zero_le _) (Nat.zero_le _)
  | n + 1 => by
    rw [List.replicate_succ]
    exact (gba_cons g (gba_rep g n)).mono (Nat.le_refl _) (by rw [Nat.succ_mul]; omega)
theorem gb_str {z : Str} (h : (∀ c ∈ z.cps.toList, c < 0x110000) ∧ z.cps.size ≤ 22) : Gb 0 22 (.str z) := K12.Gd.gb (gd_strN h.1 h.2 (by decide))
theorem gb_none : Gb 0 0 .none := ⟨by rw [PyData.canLay0], by rw [PyData.depth]; decide, by rw [PyData.weight]; decide, by rw [PyData.intsShort], by rw [PyData.showable]⟩
theorem gb_bool (b : Bool) : Gb 0 0 (.bool b) := ⟨by rw [PyData.canLay0], by rw [PyData.depth]; decide, by rw [PyData.weight]; decide, by rw [PyData.intsShort], by rw [PyData.showable]⟩
theorem gb_int {i : Int} (w : (PyData.int i).weight ≤ 100) (s : (PyData.int i).intsShort 40 = true) (h : (PyData.int i).showable = true) : Gb 0 100 (.int i) := ⟨by rw [PyData.canLay0], by rw [PyData.depth]; exact Nat.le_refl _, w, s, h⟩
section
variable {P : Program} {w : World} {K : PySem.W.Frag} {mg : Str → Option Value} {base : Heap} {σ : L2.St} {H H' Hb : Hp} {p c : Addr} {n m k W : Nat} {v : V} {d : PyData}
/-- data of bounded size -/
def ThZ (K : PySem.W.Frag) (p c : Addr) (k W : Nat) (v : V) (H : Hp) : Prop := ∃ d, Dz K p c H v d ∧ Gb k W d
theorem ThZ.ex (e : Ex H H') (h : ThZ K p c k W v H) : ThZ K p c k W v H' := let ⟨d, x, y⟩ := h; ⟨d, x.ex e, y⟩
theorem ThZ.off (pu : Pur H p c n) (o : Off H H' p c) (h : ThZ K p c k W v H) : ThZ K p c k W v H' := let ⟨d, x, y⟩ := h; ⟨d, x.off pu o, y⟩
theorem ThZ.mono {k' W' : Nat} (h : ThZ K p c k W v H) (a : k ≤ k') (b : W ≤ W') : ThZ K p c k' W' v H := let ⟨d, x, y⟩ := h; ⟨d, x, y.mono a b⟩
theorem ep_mono {te : TE} {k' W' : Nat} (h : EvP te σ H (ThZ K p c k W)) (a : k ≤ k') (b : W ≤ W') : EvP te σ H (ThZ K p c k' W') := h.imp fun _ _ _ z => z.mono a b
/-- a tuple of so many values, bounded -/
def RwZ (K : PySem.W.Frag) (p c : Addr) (k W : Nat) (vs : List V) (H : Hp) : Prop := ∃ ds, DzAll K p c H vs ds ∧ GbA k W ds
theorem RwZ.ex {vs : List V} (e : Ex H H') (h : RwZ K p c k W vs H) : RwZ K p c k W vs H' := let ⟨ds, x, y⟩ := h; ⟨ds, x.ex e, y⟩
theorem ep_z {te : TE} (h : Ev te σ H v) (hz : ThZ K p c k W v H) : EvP te σ H (ThZ K p c k W) := ep_ev h fun _ e => hz.ex e
theorem ep_tupz {te : TE} {vs : List V} (h : EvP te σ H fun v H' => TupV K H' v vs) (hz : RwZ K p c k W vs H) : EvP te σ H (ThZ K p c (k + 1) W) := h.imp fun v H' e ht => by
  obtain ⟨a, rfl, s⟩ := ht
  obtain ⟨ds, r, g⟩ := hz.ex e
  exact ⟨.tuple ds, .tup s r, gb_tup g⟩
/-- rows of data -/
def EvZs (K : PySem.W.Frag) (p c : Addr) (k W n : Nat) (ta : TA) (σ : L2.St) (H : Hp) : Prop := ∀ H1, Ex H H1 → ∀ Q : List V → Hp → Prop, (∀ vs H2, Ex H1 H2 → vs.length = n → (∀ x ∈ vs, ThZ K p c k W x H2) → Q vs H2) → ta σ H1 Q
theorem ezs_nil : EvZs K p c k W 0 tNil σ H := fun H1 _ Q q => q [] H1 (Ex.refl _) rfl (fun x hx => by cases hx)
theorem ezs_cons {te : TE} {tr : TA} (h : EvP te σ H (ThZ K p c k W)) (hr : EvZs K p c k W n tr σ H) : EvZs K p c k W (n + 1) (tCons te tr) σ H := fun H1 e Q q => do_cons (h H1 e _ fun v H2 e2 hv => hr H2 (e.trans e2) _ fun vs H3 e3 ln hvs => q _ H3 (e2.trans e3) (by rw [List.length_cons, ln]) (fun x hx => by
  rcases List.mem_cons.mp hx with z | z
  · rw [z]
    exact hv.ex e3
  · exact hvs x z))
theorem rows_of : ∀ {vs : List V}, (∀ x ∈ vs, ThZ K p c k W x H) → ∃ ds, DzAll K p c H vs ds ∧ GbA k (vs.length * (W + 1)) ds
  | [], _ => ⟨[], .nil, gba_nil.mono (Nat.zero_le _) (Nat.zero_le _)⟩
  | x :: vs, h => by
    obtain ⟨d, a, g⟩ := h x (List.mem_cons_self ..)
    obtain ⟨ds, b, g2⟩ := rows_of (vs := vs) fun y hy => h y (List.mem_cons_of_mem _ hy)
    exact ⟨d :: ds, .cons a b, (gba_cons g g2).mono (Nat.le_refl _) (by rw [List.length_cons, Nat.succ_mul]; omega)⟩
/-- a tuple of such -/
theorem ep_tupN {ta : TA} (h : EvZs K p c k W n ta σ H) (l : n ≤ 1000) : EvP (tTup ta) σ H (ThZ K p c (k + 1) (n * (W + 1))) := fun H1 e Q q => do_tup (h H1 e _ fun vs H2 e2 ln hv => ⟨sz_of (by omega), fun a na => by
  obtain ⟨ds, r, g⟩ := rows_of hv
  rw [ln] at g
  exact q _ _ (e2.trans (Ex.new na)) ⟨.tuple ds, .tup (st_of upd_same) (r.ex (Ex.new na)), gb_tup g⟩⟩)
/-- a list of such, new since the purse -/
theorem ep_lstN {ta : TA} (h : EvZs K p c k W n ta σ H) (l : n ≤ 1000) (pu : Pur H p c m) : EvP (tLst ta) σ H (ThZ K p c (k + 1) (n * (W + 1))) := fun H1 e Q q => do_lst (h H1 e _ fun vs H2 e2 ln hv => ⟨sz_of (by omega), fun a na => by
  obtain ⟨ds, r, g⟩ := rows_of hv
  rw [ln] at g
  obtain ⟨ap, ac⟩ := (pu.ex (e.trans e2)).fresh na
  exact q _ _ (e2.trans (Ex.new na)) ⟨.list ds, .lst upd_same ap ac (r.ex (Ex.new na)), gb_lst g⟩⟩)
/-- one picked out of a new list -/
theorem do_pickN {ta : TA} {tp : TE} {t : Nat} {E : XK} {Q : VK} (h : EvZs K p c k W n ta σ H) (hp : Ev tp σ H (.ref p)) (pu : Pur H p c t) (t1 : t ≤ 90000) (n1 : 1 ≤ n) (n2 : n ≤ 1000) (q : ∀ x H', Off H H' p c → Pur H' p c (t + 1) → ThZ K p c k W x H' → Q x H') :
    tCall (sp_pick K) [] E (tCons tp (tCons (tLst ta) tNil)) σ H Q := do_cons (do_ev hp fun H1 e1 => do_cons (do_lst (h H1 e1 _ fun vs H2 e2 ln hv => ⟨sz_of (by omega), fun a na => by
  have x2 := e1.trans e2
  obtain ⟨ap, ac⟩ := (pu.ex x2).fresh na
  have e3 : Ex H2 (upd H2 a (.lst vs)) := Ex.new na
  refine do_nil ⟨p, c, t, pu.ex (x2.trans e3), t1, .inr ⟨a, vs, rfl, .inl (sq_of upd_same), ap, ac, by omega, by omega, fun j x H4 hx o4 pu4 => ?_⟩⟩
  exact q _ H4 ((Off.of_ex (x2.trans e3)).trans o4) pu4 (((hv _ (List.mem_of_getElem? hx)).ex e3).off (pu.ex (x2.trans e3)) o4)⟩)))
end
end K12
end
section
namespace K12
open PySem PySem.Spec PyProof.Rows L2 Evl RZ Dw M20
theorem gb_29 : Gb 0 100 (.int (10 ^ 29)) := gb_int (by rw [PyData.weight]; decide +kernel) (by rw [PyData.intsShort]; decide +kernel) (by rw [PyData.showable]; decide +kernel)
section
variable {P : Program} {w : World} {K : PySem.W.Frag} {mg : Str → Option Value} {base : Heap} {σ : L2.St} {H H' Hb : Hp} {p c : Addr} {n m k W : Nat} {v : V} {d : PyData}
/-- a list of so many such -/
def LsZ (K : PySem.W.Frag) (p c : Addr) (k W n : Nat) (v : V) (H : Hp) : Prop := ∃ (l : Addr) (vs : List V), v = .ref l ∧ H l = some (.lst vs) ∧ l ≠ p ∧ l ≠ c ∧ vs.length = n ∧ ∀ x ∈ vs, ThZ K p c k W x H
theorem LsZ.ex (e : Ex H H') (h : LsZ K p c k W n v H) : LsZ K p c k W n v H' := let ⟨l, vs, a, b, d, f, g, i⟩ := h; ⟨l, vs, a, e _ _ b, d, f, g, fun x hx => (i x hx).ex e⟩
theorem ep_lstL {ta : TA} (h : EvZs K p c k W n ta σ H) (l : n ≤ 1000) (pu : Pur H p c m) : EvP (tLst ta) σ H (LsZ K p c k W n) := fun H1 e Q q => do_lst (h H1 e _ fun vs H2 e2 ln hv => ⟨sz_of (by omega), fun a na => by
  obtain ⟨ap, ac⟩ := (pu.ex (e.trans e2)).fresh na
  exact q _ _ (e2.trans (Ex.new na)) ⟨a, vs, rfl, upd_same, ap, ac, ln, fun x hx => (hv x hx).ex (Ex.new na)⟩⟩)
theorem ep_zc {x : V} {e : PyData} (h : ∀ H, Dz K p c H x e) (g : Gb k W e) : EvP (tC x) σ H (ThZ K p c k W) := ep_ev ev_c fun _ _ => ⟨e, h _, g⟩
end
end K12
end
section
namespace K12
open PySem PySem.Spec PyProof.Rows L2 Evl RZ Dw M20
section
variable {P : Program} {w : World} {K : PySem.W.Frag} {mg : Str → Option Value} {base : Heap} {σ : L2.St} {H H' Hb : Hp} {p c : Addr} {n m k W : Nat} {v : V} {d : PyData} {S0 G0 a1 a2 a3 a4 a5 a6 a7 a8 : Addr}
end
end K12
end
section
namespace K12
open PySem PySem.Spec PyProof.Rows L2 Evl RZ Dw M20
theorem gb_low {i : Nat} (h : i ≤ 3) : Gb 0 4 (.int (i : Int)) := by
  have : i = 0 ∨ i = 1 ∨ i = 2 ∨ i = 3 := by omega
  rcases this with rfl | rfl | rfl | rfl <;> exact ⟨by rw [PyData.canLay0], by rw [PyData.depth]; decide, by rw [PyData.weight]; decide, by rw [PyData.intsShort]; decide, by rw [PyData.showable]; decide⟩
def pairD2 (p : Str × Nat) : PyData := .tuple [.str p.1, .int ((p.2 : Nat) : Int)]
def sigD (sg : List (Str × Nat)) : PyData := .tuple (sg.map pairD2)
theorem gba_sig : ∀ {sg : List (Str × Nat)}, (∀ x ∈ sg, Name x.1 ∧ x.2 ≤ 2) → GbA 1 (11 * sg.length) (sg.map pairD2)
  | [], _ => gba_nil.mono (by decide) (by decide)
  | x :: sg, h => by
    obtain ⟨nm, p2⟩ := h x (List.mem_cons_self ..)
    have g1 : Gb 0 4 (.str x.1) := K12.Gd.gb (gd_strB (name_cps nm) nm.l4)
    have g2 : Gb 0 4 (.int ((x.2 : Nat) : Int)) := gb_low (by omega)
    have g3 : Gb 1 10 (pairD2 x) := (gb_tup (gba_cons g1 (gba_one g2))).mono (by decide) (by decide)
    rw [List.map_cons, List.length_cons]
    exact (gba_cons g3 (gba_sig fun y hy => h y (List.mem_cons_of_mem _ hy))).mono (Nat.le_refl _) (by omega)
theorem gb_sig {sg : List (Str × Nat)} (so : SigOk sg) : Gb 2 44 (sigD sg) := (gb_tup (gba_sig fun x hx => ⟨so.nm x hx, so.pl x hx⟩)).mono (Nat.le_refl _) (by have := so.l4; omega)
section
variable {P : Program} {w : World} {K : PySem.W.Frag} {mg : Str → Option Value} {base : Heap} {σ : L2.St} {H H' Hb : Hp} {p c : Addr} {n m k W : Nat} {v : V} {d : PyData}
theorem fsig_dz {sg : List (Str × Nat)} (h : FSig K H v sg) : Dz K p c H v (sigD sg) := by
  obtain ⟨a, o, ps, rfl, ha, _, pr⟩ := h
  have r : ∀ {ps : List Addr} {sg : List (Str × Nat)}, Paired (fun (r : Addr) (d : Str × Nat) => SqT K H r [.str d.1, vi d.2]) ps sg → DzAll K p c H (ps.map V.ref) (sg.map pairD2) := fun {ps sg} pr => by
    induction pr with
    | nil => exact .nil
    | cons a b ih => exact .cons (.tup a (.cons (.str _) (.cons (.int _) .nil))) ih
  exact .tup (.inl (.inr ⟨o, ha⟩)) (r pr)
theorem rv_ne' {x y : V} (h : scal x y = true) (e : x = y) : RV rNe x y H (.bl false) := by
  subst e
  have z := rv_ne (H := H) h
  rw [show (!decide (x = x)) = false by simp] at z
  exact z
theorem ev_reprB {X : Cx} {te : TE} (hg : X.A.guards = some []) (hK : X.K = K) (h : EvP te σ H fun v H' => Dp K H' v d) (g : Gb k W d) (hk : k ≤ 190) (hW : W ≤ 100000) : Ev (tCB (rReprW X) (tCons te tNil)) σ H (.str d.shown) := by
  subst hK
  intro H1 e1 Q q
  exact do_cb (do_cons (h H1 e1 _ fun v H2 e2 hv => do_nil ⟨v, d, rfl, hv, hg, g.sho, PyData.hasDict_of_canLay _ g.lay, Nat.le_trans g.dep hk, g.len hW, q H2 e2⟩))
end
end K12
end
section
namespace K12
open PySem PySem.Spec PyProof.Rows L2 Evl RZ Dw M20
/-! what is wrong in a model, as data -/
def sizeB : PyData → Bool
  | .int i => decide (1 ≤ i) && decide (i ≤ 6)
  | _ => false
def cellsOf : PyData → List PyData
  | .tuple cs => cs
  | _ => []
def tableB (n pl : Nat) : PyData → Bool
  | .tuple cs => decide (cs.length = n ^ pl)
  | _ => false
def plOf (sg : List (Str × Nat)) (k : Nat) : Nat := (sg.getD k ("", 0)).2
def badK (sg : List (Str × Nat)) (n : Nat) (tds : List PyData) : List Nat := (List.range sg.length).filter fun k => !tableB n (plOf sg k) (tds.getD k .none)
def oddRow (n : Nat) (cs : List PyData) : List Nat := (List.range cs.length).filter fun j => !belowB (n : Int) (cs.getD j .none)
def oddT (n : Nat) (tds : List PyData) : List Nat := (List.range tds.length).filter fun k => !(oddRow n (cellsOf (tds.getD k .none))).isEmpty
def intD (k : Nat) : PyData := .int ((k : Nat) : Int)
/-- the first odd cell -/
def oddW (n : Nat) (tds : List PyData) : Option (Nat × Nat) := match oddT n tds with
  | k :: _ => match oddRow n (cellsOf (tds.getD k .none)) with
    | j :: _ => some (k, j)
    | [] => none
  | [] => none
def modW4 (sg : List (Str × Nat)) (n : Nat) (tds : List PyData) : PyData := match badK sg n tds with
  | k :: _ => .tuple [.str "table", intD k]
  | [] => match oddW n tds with
    | some (k, j) => .tuple [.str "cell", intD k, intD j]
    | none => .none
def modW3 (sg : List (Str × Nat)) : PyData → PyData → PyData
  | .int i, .tuple tds => if tds.length = sg.length then modW4 sg i.toNat tds else .tuple [.str "tables"]
  | _, _ => .tuple [.str "tables"]
def modW2 (sg : List (Str × Nat)) (s t : PyData) : PyData := if sizeB s = true then modW3 sg s t else .tuple [.str "size"]
def modW (sg : List (Str × Nat)) : PyData → PyData
  | .tuple [s, t] => modW2 sg s t
  | _ => .tuple [.str "model"]
theorem oddRow_none {n : Nat} {cs : List PyData} (h : ∀ j, j < cs.length → belowB (n : Int) (cs.getD j .none) = true) : oddRow n cs = [] := filt_none (fun j hj => by rw [h j hj]; rfl)
theorem oddRow_first {n i : Nat} {cs : List PyData} (hi : i < cs.length) (h0 : ∀ j, j < i → belowB (n : Int) (cs.getD j .none) = true) (h1 : belowB (n : Int) (cs.getD i .none) = false) : ∃ r, oddRow n cs = i :: r := filt_first hi (fun j hj => by rw [h0 j hj]; rfl) (by rw [h1]; rfl)
theorem oddT_none {n : Nat} {tds : List PyData} (h : ∀ k, k < tds.length → oddRow n (cellsOf (tds.getD k .none)) = []) : oddW n tds = none := by
  have e : oddT n tds = [] := filt_none (fun k hk => by rw [h k hk]; rfl)
  rw [oddW, e]
theorem oddT_first {n k j : Nat} {tds : List PyData} {r : List Nat} (hk : k < tds.length) (h0 : ∀ i, i < k → oddRow n (cellsOf (tds.getD i .none)) = []) (h1 : oddRow n (cellsOf (tds.getD k .none)) = j :: r) : oddW n tds = some (k, j) := by
  obtain ⟨r2, e⟩ : ∃ r2, oddT n tds = k :: r2 := filt_first hk (fun i hi => by rw [h0 i hi]; rfl) (by rw [h1]; rfl)
  rw [oddW, e]
  show (match oddRow n (cellsOf (tds.getD k .none)) with
    | j :: _ => some (k, j)
    | [] => none) = some (k, j)
  rw [h1]
section
variable {P : Program} {w : World} {K : PySem.W.Frag} {mg : Str → Option Value} {base : Heap} {σ : L2.St} {H H' Hb : Hp} {p c : Addr} {n m k W : Nat} {v : V} {d : PyData}
def sp_size_any (K : PySem.W.Frag) : Sp := spX (fun (z : (Addr × Addr) × PyData) vs H => ∃ v, vs = [v] ∧ Dz K z.1.1 z.1.2 H v z.2) (fun z v H => v = .bl (sizeB z.2))
theorem c_size_any (T : Txt mg) (D : Df K mg "is_size" s_is_size ["thing"]) (c_whole_any : Cl P w K mg base 1 "is_whole" (sp_whole_any K)) : Cl P w K mg base 2 "is_size" (sp_size_any K) := by
  refine cl_of (k := 1) D sc_is_size (fun vs H Q E h => ?_) (fun f cdv A outer s H vs Q E hr h => ?_)
  · obtain ⟨d, ⟨v, rfl, _⟩, _⟩ := h
    rfl
  · obtain ⟨⟨⟨p, c⟩, d⟩, ⟨v, rfl, hv⟩, q⟩ := h
    have c_is_whole := c_whole_any
    refine ⟨_, (pss_one (ps_ret (pe_and (pe_cl c_is_whole hr (by first | decide | omega) (by rfl) (pa_cons (pv 0) pa_nil)) (pe_one (pe_chain op_le op_le pe_int (pv 0) (pe_gi (by rfl) T.c_MOST_SIZE)))))), ?_⟩
    replace hv : Dz K p c H v d := hv
    replace q : ∀ r H', Ex H H' → r = .bl (sizeB d) → Q r H' := q
    by_cases hw : wholeB d = true
    · obtain ⟨i, rfl, rfl⟩ := whole_int hv hw
      refine s_ret (ev_andV (a := true) (b := sizeB (.int i)) (ev_callV (v := .bl true) ((p, c), PyData.int i) (ea_cons (ev_var rfl) ea_nil) (fun H1 e1 => ⟨_, rfl, .int i⟩) (fun _ _ z => z.trans rfl)) (fun _ => ev_chain ev_c (ev_var rfl) (fun _ => ev_c) rv_I0 (fun _ => rv_I0))) fun H1 e1 => q _ H1 e1 rfl
    · have hw2 : wholeB d = false := by simpa using hw
      refine s_ret (ev_andV (a := false) (b := false) (ev_callV (v := .bl false) ((p, c), d) (ea_cons (ev_var rfl) ea_nil) (fun H1 e1 => ⟨_, rfl, hv.ex e1⟩) (fun _ _ z => by rw [z, hw2])) (fun z => by cases z)) fun H1 e1 => q _ H1 e1 ?_
      cases d <;> first | rfl | cases hw2
/-- what first_odd_cell tells -/
def oddD (n : Nat) (tds : List PyData) : PyData := match oddW n tds with
  | some (k, j) => .tuple [intD k, intD j]
  | none => .none
theorem put_get {us : List V} {ds : List PyData} (r : DzAll K p c H us ds) {i : Nat} {x : V} (hx : us[i]? = some x) : i < ds.length ∧ ∃ x', ds[i]? = some x' ∧ ds.getD i .none = x' ∧ Dz K p c H x x' := by
  obtain ⟨x', ex', dx⟩ := r.get hx
  exact ⟨(List.getElem?_eq_some_iff.mp ex').1, x', ex', by rw [List.getD_eq_getElem?_getD, ex']; rfl, dx⟩
def sp_odd_any (K : PySem.W.Frag) : Sp := spX (fun (z : (Addr × Addr) × Nat × List PyData) vs H => (∃ a us, vs = [vi z.2.1, .ref a] ∧ SqT K H a us ∧ DzAll K z.1.1 z.1.2 H us z.2.2) ∧ ∀ t ∈ z.2.2, isTup t = true) (fun z v H => Dp K H v (oddD z.2.1 z.2.2))
theorem c_odd_any (T : Txt mg) (D : Df K mg "first_odd_cell" s_first_odd_cell ["size", "tables"]) (c_below_any : Cl P w K mg base 2 "is_below" (sp_below_any K)) : Cl P w K mg base 3 "first_odd_cell" (sp_odd_any K) := by
  refine cl_of (k := 2) D sc_first_odd_cell (fun vs H Q E h => ?_) (fun f cdv A outer s H vs Q E hr h => ?_)
  · obtain ⟨z, ⟨⟨a, us, rfl, _⟩, _⟩, _⟩ := h
    rfl
  · obtain ⟨⟨⟨p, c⟩, n, tds⟩, ⟨⟨a, us, rfl, hS, r⟩, tups⟩, q⟩ := h
    have c_is_below := c_below_any
    refine ⟨_, (pss_cons (ps_for PassesOwn.never (by rfl) (pi_enumT (by rfl) T.z_enumerate (pa_cons (pv 1) pa_nil)) (pg_tup (by rfl) (pgs_cons (pg_name (i := 2) sc_first_odd_cell.nd rfl (.inl rfl)) (pgs_cons (pg_name (i := 3) sc_first_odd_cell.nd rfl (.inl rfl)) pgs_nil)))
        (pss_one (ps_for PassesOwn.never (by rfl) (pi_enumT (by rfl) T.z_enumerate (pa_cons (pv 3) pa_nil)) (pg_tup (by rfl) (pgs_cons (pg_name (i := 4) sc_first_odd_cell.nd rfl (.inl rfl)) (pgs_cons (pg_name (i := 5) sc_first_odd_cell.nd rfl (.inl rfl)) pgs_nil)))
          (pss_one (ps_if (pt_not (pt_val (pe_cl c_is_below hr (by first | decide | omega) (by rfl) (pa_cons (pv 5) (pa_cons (pv 0) pa_nil)))))
            (pss_one (ps_ret (pe_tup (pa_cons (pv 2) (pa_cons (pv 4) pa_nil)))))
            pss_nil)))))
      (pss_one (ps_ret pe_non))), ?_⟩
    replace hS : SqT K H a us := hS
    replace r : DzAll K p c H us tds := r
    replace tups : ∀ t ∈ tds, isTup t = true := tups
    replace q : ∀ r H', Ex H H' → Dp K H' r (oddD n tds) → Q r H' := q
    have hl := r.len
    refine q_enumT (K := K) (ea_cons (ev_var rfl) ea_nil) hS (fun i σ H' => Ex H H' ∧ (∀ j, j < i → oddRow n (cellsOf (tds.getD j .none)) = []) ∧ ∃ y2 y3 y4 y5, σ = [some (vi n), some (.ref a), y2, y3, y4, y5]) (fun H2 e2 => ⟨e2, fun j hj => absurd hj (Nat.not_lt_zero _), none, none, none, none, rfl⟩) (fun i σ H' _ ⟨e, _⟩ => ex_t e hS) (fun i x σ H2 H3 hx ⟨e, good, y2, y3, y4, y5, hσ⟩ e3 => ?_) (fun σ H2 ⟨e2, good, y2, y3, y4, y5, hσ⟩ => ?_)
    · subst hσ
      obtain ⟨hi, x', ex', gd, dx⟩ := put_get r hx
      have e03 : Ex H H3 := e.trans e3
      obtain ⟨b, xs, cs, rfl, rfl, hT, rc⟩ := tup_of (dx.ex e03) (tups x' (List.mem_of_getElem? ex'))
      have hlc := rc.len
      show tFor _ _ _ _ [some (vi n), some (.ref a), some (vi i), some (.ref b), y4, y5] H3
      refine s_enumT (K := K) (ea_cons (ev_var rfl) ea_nil) hT (fun j σ H' => Ex H3 H' ∧ (∀ m, m < j → belowB (n : Int) (cs.getD m .none) = true) ∧ ∃ y4 y5, σ = [some (vi n), some (.ref a), some (vi i), some (.ref b), y4, y5]) (fun H4 e4 => ⟨e4, fun j hj => absurd hj (Nat.not_lt_zero _), _, _, rfl⟩) (fun j σ H' _ ⟨e, _⟩ => ex_t e hT) (fun j x σ H4 H5 hx4 ⟨e4, good4, z4, z5, hσ⟩ e5 => ?_) (fun σ H4 ⟨e4, good4, z4, z5, hσ⟩ => ?_)
      · subst hσ
        obtain ⟨hj, y', ey', gy, dy⟩ := put_get rc hx4
        have e35 := e4.trans e5
        show tIfS _ _ _ _ [some (vi n), some (.ref a), some (vi i), some (.ref b), some (vi j), some x] H5
        refine s_when (b := !belowB (n : Int) y') (et_not (et_val (ev_callV (v := .bl (belowB (n : Int) y')) ((p, c), y', (n : Int)) (ea_cons (ev_var rfl) (ea_cons (ev_var rfl) ea_nil)) (fun H6 e6 => ⟨_, rfl, dy.ex (e35.trans e6)⟩) (fun _ _ z => z)))) (fun hb2 H6 e6 => ?_) (fun hb2 H6 e6 => ⟨e35.trans e6, fun m hm => ?_, _, _, rfl⟩)
        · rw [Bool.not_eq_true'] at hb2
          refine s_retU (eu_tup (vs := [vi i, vi j]) (ea_cons (ev_var rfl) (ea_cons (ev_var rfl) ea_nil)) (by show 2 ≤ 100000; decide)) fun r2 H7 _ e7 hr7 => q _ H7 ((e03.trans (e35.trans e6)).trans e7) ?_
          obtain ⟨rr, hrr⟩ := oddRow_first hj good4 (by rw [gy]; exact hb2)
          have ow := oddT_first (n := n) (tds := tds) (k := i) (j := j) (r := rr) hi good (by rw [gd]; exact hrr)
          rw [oddD, ow]
          exact .tup (st_of hr7) (.cons (.int _) (.cons (.int _) .nil))
        · rw [Bool.not_eq_false'] at hb2
          by_cases z : m < j
          · exact good4 m z
          · rw [show m = j by omega, gy]
            exact hb2
      · subst hσ
        rw [hlc] at good4
        refine ⟨e03.trans e4, fun m hm => ?_, _, _, _, _, rfl⟩
        by_cases z : m < i
        · exact good m z
        · rw [show m = i by omega, gd]
          exact oddRow_none good4
    · subst hσ
      rw [hl] at good
      refine s_ret (v := .non) ev_c fun H3 e3 => q _ H3 (e2.trans e3) ?_
      rw [oddD, oddT_none good]
      exact .non
end
end K12
end
section
namespace K12
open PySem PySem.Spec PyProof.Rows L2 Evl RZ Dw M20
theorem nat_of {i : Int} (h : sizeB (.int i) = true) : ∃ m : Nat, i = (m : Int) ∧ 1 ≤ m ∧ m ≤ 6 := by
  rw [sizeB, Bool.and_eq_true, decide_eq_true_eq, decide_eq_true_eq] at h
  exact ⟨i.toNat, by omega, by omega, by omega⟩
section
variable {P : Program} {w : World} {K : PySem.W.Frag} {mg : Str → Option Value} {base : Heap} {σ : L2.St} {H H' Hb : Hp} {p c : Addr} {n m k W : Nat} {v : V} {d : PyData}
theorem ne_len {t : TE} {a : Addr} {xs : List V} {m : Nat} {u : TE} (h : Ev t σ H (.ref a)) (s : SqT K H a xs) (hu : Ev u σ H (vi m)) : EvT (tTest (tOp rNe (tCB (rLenS K) (tCons t tNil)) u)) σ H (!decide (xs.length = m)) := et_is (et_test (ev_op (ev_lenT h s) hu (rv_ne rfl))) (by
  show (!decide (V.int (xs.length : Int) = V.int (m : Int))) = _
  congr 1
  rw [decide_eq_decide]
  exact ⟨fun y => by injection y with y; omega, fun y => by rw [y]⟩)
theorem s_word {wd : Str} {D : Ends} (h : ∀ r H', Ex H H' → Dp K H' r (.tuple [.str wd]) → D.rt r H') : tRet (tTup (tCons (tC (.str wd)) tNil)) D σ H := s_retU (eu_tup (ea_cons ev_c ea_nil) (by show 1 ≤ 100000; decide)) fun r H2 _ e2 hr2 => h _ H2 e2 (.tup (st_of hr2) (.cons (.str _) .nil))
def MPre (K : PySem.W.Frag) (z : (Addr × Addr) × List (Str × Nat) × PyData) (vs : List V) (H : Hp) : Prop := (∃ u v, vs = [u, v] ∧ FSig K H u z.2.1 ∧ Dz K z.1.1 z.1.2 H v z.2.2) ∧ SigOk z.2.1
def sp_mod_any (K : PySem.W.Frag) : Sp := spX (MPre K) (fun z v H => Dp K H v (modW z.2.1 z.2.2))
theorem c_mod_any (T : Txt mg) (D : Df K mg "model_wrong" s_model_wrong ["signature", "thing"]) (c_need_signature : Cl P w K mg base 5 "need_signature" (sp_need_signature K)) (c_size_any : Cl P w K mg base 2 "is_size" (sp_size_any K)) (c_power : Cl P w K mg base 1 "power" sp_power) (c_odd_any : Cl P w K mg base 3 "first_odd_cell" (sp_odd_any K)) : Cl P w K mg base 6 "model_wrong" (sp_mod_any K) := by
  refine cl_of (k := 5) D sc_model_wrong (fun vs H Q E h => ?_) (fun f cdv A outer s H vs Q E hr h => ?_)
  · obtain ⟨z, ⟨⟨u, v, rfl, _⟩, _⟩, _⟩ := h
    rfl
  · obtain ⟨⟨⟨p, c⟩, sg, d⟩, ⟨⟨u, v, rfl, hF, hv⟩, sok⟩, q⟩ := h
    have c_is_size := c_size_any
    have c_first_odd_cell := c_odd_any
    refine ⟨_, (pss_cons (ps_expr (pe_cl c_need_signature hr (by first | decide | omega) (by rfl) (pa_cons (pv 0) pa_nil)))
      (pss_cons (ps_if (PW.pt (pw_or (pt_not (pt_val (pe_callB call_isi (by rfl) T.z_isinstance (by decide +kernel) (pa_cons (pv 1) (pa_cons (pe_ty "tuple" (by rfl) T.z_tuple (by decide +kernel)) pa_nil))))) (pw_or1 (pt_cmpR op_ne (pe_callB call_len_seq (by rfl) T.z_len PySem.boot_len (pa_cons (pv 1) pa_nil)) pe_int (nomark _)))))
        (pss_one (ps_ret (pe_tup (pa_cons pe_str pa_nil))))
        pss_nil)
      (pss_cons (ps_asg (pv 1) (pg_tup (by rfl) (pgs_cons (pg_name (i := 2) sc_model_wrong.nd rfl (.inl rfl)) (pgs_cons (pg_name (i := 3) sc_model_wrong.nd rfl (.inl rfl)) pgs_nil))))
      (pss_cons (ps_if (pt_not (pt_val (pe_cl c_is_size hr (by first | decide | omega) (by rfl) (pa_cons (pv 2) pa_nil))))
        (pss_one (ps_ret (pe_tup (pa_cons pe_str pa_nil))))
        pss_nil)
      (pss_cons (ps_if (PW.pt (pw_or (pt_not (pt_val (pe_callB call_isi (by rfl) T.z_isinstance (by decide +kernel) (pa_cons (pv 3) (pa_cons (pe_ty "tuple" (by rfl) T.z_tuple (by decide +kernel)) pa_nil))))) (pw_or1 (pt_cmpR op_ne (pe_callB call_len_seq (by rfl) T.z_len PySem.boot_len (pa_cons (pv 3) pa_nil)) (pe_callB call_len_seq (by rfl) T.z_len PySem.boot_len (pa_cons (pv 0) pa_nil)) (nomark _)))))
        (pss_one (ps_ret (pe_tup (pa_cons pe_str pa_nil))))
        pss_nil)
      (pss_cons (ps_for PassesOwn.never (by rfl) (pi_enumT (by rfl) T.z_enumerate (pa_cons (pv 0) pa_nil)) (pg_tup (by rfl) (pgs_cons (pg_name (i := 4) sc_model_wrong.nd rfl (.inl rfl)) (pgs_cons (pg_name (i := 5) sc_model_wrong.nd rfl (.inl rfl)) pgs_nil)))
        (pss_one (ps_if (PW.pt (pw_or (pt_not (pt_val (pe_callB call_isi (by rfl) T.z_isinstance (by decide +kernel) (pa_cons (pe_ix ix_tup (pv 3) (pv 4) (fun _ _ => rfl)) (pa_cons (pe_ty "tuple" (by rfl) T.z_tuple (by decide +kernel)) pa_nil))))) (pw_or1 (pt_cmpR op_ne (pe_callB call_len_seq (by rfl) T.z_len PySem.boot_len (pa_cons (pe_ix ix_tup (pv 3) (pv 4) (fun _ _ => rfl)) pa_nil)) (pe_cl c_power hr (by first | decide | omega) (by rfl) (pa_cons (pv 2) (pa_cons (pe_ix ix_tup (pv 5) pe_int (fun _ _ => rfl)) pa_nil))) (nomark _)))))
          (pss_one (ps_ret (pe_tup (pa_cons pe_str (pa_cons (pv 4) pa_nil)))))
          pss_nil)))
      (pss_cons (ps_set (i := 6) sc_model_wrong.nd rfl (.inl rfl) (pe_cl c_first_odd_cell hr (by first | decide | omega) (by rfl) (pa_cons (pv 2) (pa_cons (pv 3) pa_nil))))
      (pss_one (ps_ret (pe_ifExp (pt_cmpR op_isN (pv 6) pe_non (nomark _)) pe_non (pe_tup (pa_cons pe_str (pa_cons (pe_ix ix_tup (pv 6) pe_int (fun _ _ => rfl)) (pa_cons (pe_ix ix_tup (pv 6) pe_int (fun _ _ => rfl)) pa_nil)))))))))))))), ?_⟩
    replace hF : FSig K H u sg := hF
    replace hv : Dz K p c H v d := hv
    replace sok : SigOk sg := sok
    replace q : ∀ r H', Ex H H' → Dp K H' r (modW sg d) → Q r H' := q
    refine q_drop (ev_callV (v := .non) sg (ea_cons (ev_var rfl) ea_nil) (fun H1 e1 => ⟨⟨_, rfl, (hF.ex e1).sig⟩, sok⟩) (fun _ _ p => p)) fun H1 e1 => ?_
    by_cases hs2 : isTup d = false
    · exact q_when (b := true) (et_is (et_or (a := true) (b := false) (et_is (et_not (et_val (ev_isTup (K := K) (ev_var rfl) ev_c (hv.ex e1)))) (by rw [hs2]; rfl)) (fun z => by cases z)) rfl) (fun _ H2 e2 => s_word (K := K) fun r H3 e3 hr => q r H3 ((e1.trans e2).trans e3) (by
        have : modW sg d = .tuple [.str "model"] := by cases d <;> first | rfl | cases hs2
        rw [this]
        exact hr)) (fun hb => by cases hb)
    obtain ⟨b, xs, ds, rfl, rfl, hB, r⟩ := tup_of hv (by simpa using hs2)
    have lx := r.len
    refine q_when (b := !decide (xs.length = 2)) (et_is (et_or (a := false) (b := !decide (xs.length = 2)) (et_is (et_not (et_val (ev_isTup (K := K) (ev_var rfl) ev_c (hv.ex e1)))) rfl) (fun _ => ne_len (K := K) (m := 2) (ev_var rfl) (ex_t e1 hB) ev_c)) (by rw [Bool.false_or])) (fun hb H2 e2 => ?_) (fun hb H2 e2 => ?_)
    · have l2 : xs.length ≠ 2 := by simpa using hb
      refine s_word (K := K) fun r0 H3 e3 hr => q r0 H3 ((e1.trans e2).trans e3) ?_
      have : modW sg (.tuple ds) = .tuple [.str "model"] := by
        match ds, lx with
        | [], _ => rfl
        | [_], _ => rfl
        | [_, _], lx => exact absurd lx l2
        | _ :: _ :: _ :: _, _ => rfl
      rw [this]
      exact hr
    have l2 : xs.length = 2 := by simpa using hb
    obtain ⟨x1, x2, rfl⟩ := two_of l2
    obtain ⟨d1, d2, rfl⟩ := two_of (show ds.length = 2 by rw [← lx]; rfl)
    have e02 := e1.trans e2
    have y1 : Dz K p c H x1 d1 := by
      cases r with
      | cons x y => exact x
    have y2 : Dz K p c H x2 d2 := by
      cases r with
      | cons x y =>
        cases y with
        | cons x y => exact x
    refine do_setG (do_ev (ev_var rfl) fun H3 e3 => ⟨b, _, rfl, ex_t (e02.trans e3) hB, rfl, _, _, rfl, _, _, rfl, rfl, ?_⟩)
    have e03 := e02.trans e3
    show tSeq _ _ _ [some u, some (.ref b), some x1, some x2, none, none, none] H3
    refine q_when (b := !sizeB d1) (et_not (et_val (ev_callV (v := .bl (sizeB d1)) ((p, c), d1) (ea_cons (ev_var rfl) ea_nil) (fun H4 e4 => ⟨_, rfl, y1.ex (e03.trans e4)⟩) (fun _ _ z => z)))) (fun hbs H4 e4 => ?_) (fun hbs H4 e4 => ?_)
    · rw [Bool.not_eq_true'] at hbs
      refine s_word (K := K) fun r0 H5 e5 hr => q r0 H5 ((e03.trans e4).trans e5) ?_
      show Dp K H5 r0 (modW2 sg d1 d2)
      rw [modW2, if_neg (by rw [hbs]; decide)]
      exact hr
    rw [Bool.not_eq_false'] at hbs
    have e04 := e03.trans e4
    obtain ⟨i, rfl, rfl⟩ := whole_int y1 (by cases d1 <;> first | rfl | cases hbs)
    obtain ⟨m, rfl, m1, m6⟩ := nat_of hbs
    obtain ⟨sa, so1, ps, rfl, hsa, sod, prs⟩ := id hF
    have sqS : SqT K H sa (ps.map V.ref) := .inl (.inr ⟨so1, hsa⟩)
    have lps := paired_len prs
    show tSeq _ _ _ [some (.ref sa), some (.ref b), some (vi m), some x2, none, none, none] H4
    by_cases ht2 : isTup d2 = false
    · refine q_when (b := true) (et_is (et_or (a := true) (b := false) (et_is (et_not (et_val (ev_isTup (K := K) (ev_var rfl) ev_c (y2.ex e04)))) (by rw [ht2]; rfl)) (fun z => by cases z)) rfl) (fun _ H5 e5 => s_word (K := K) fun r0 H6 e6 hr => q r0 H6 ((e04.trans e5).trans e6) ?_) (fun hb => by cases hb)
      show Dp K H6 r0 (modW2 sg (.int (m : Int)) d2)
      rw [modW2, if_pos hbs]
      cases d2 <;> first | exact hr | cases ht2
    obtain ⟨ta, us, tds, rfl, rfl, hT, rT⟩ := tup_of y2 (by simpa using ht2)
    have lT := rT.len
    refine q_when (b := !decide (us.length = (ps.map V.ref).length)) (et_is (et_or (a := false) (b := !decide (us.length = (ps.map V.ref).length)) (et_is (et_not (et_val (ev_isTup (K := K) (ev_var rfl) ev_c (y2.ex e04)))) rfl) (fun _ => ne_len (K := K) (ev_var rfl) (ex_t e04 hT) (ev_lenT (ev_var rfl) (ex_t e04 sqS)))) (by rw [Bool.false_or])) (fun hb3 H5 e5 => ?_) (fun hb3 H5 e5 => ?_)
    · have l3 : ¬ tds.length = sg.length := by
        rw [Bool.not_eq_true', decide_eq_false_iff_not, List.length_map] at hb3
        omega
      refine s_word (K := K) fun r0 H6 e6 hr => q r0 H6 ((e04.trans e5).trans e6) ?_
      show Dp K H6 r0 (modW2 sg (.int (m : Int)) (.tuple tds))
      rw [modW2, if_pos hbs, modW3, if_neg l3]
      exact hr
    have l3 : tds.length = sg.length := by
      rw [Bool.not_eq_false', decide_eq_true_eq, List.length_map] at hb3
      omega
    have e05 := e04.trans e5
    have mw : modW sg (.tuple [.int (m : Int), .tuple tds]) = modW4 sg m tds := by
      show modW2 sg (.int (m : Int)) (.tuple tds) = _
      rw [modW2, if_pos hbs, modW3, if_pos l3]
      rfl
    refine q_enumT (K := K) (ea_cons (ev_var rfl) ea_nil) (ex_t e05 sqS) (fun i σ H' => Ex H H' ∧ (∀ j, j < i → tableB m (plOf sg j) (tds.getD j .none) = true) ∧ ∃ y4 y5, σ = [some (.ref sa), some (.ref b), some (vi m), some (.ref ta), y4, y5, none]) (fun H6 e6 => ⟨e05.trans e6, fun j hj => absurd hj (Nat.not_lt_zero _), none, none, rfl⟩) (fun i σ H' _ ⟨e, _⟩ => ex_t e sqS) (fun i x σ H6 H7 hx ⟨e, good, y4, y5, hσ⟩ e7 => ?_) (fun σ H6 ⟨e6, good, y4, y5, hσ⟩ => ?_)
    · subst hσ
      have ip : i < ps.length := by
        have := (List.getElem?_eq_some_iff.mp hx).1
        rw [List.length_map] at this
        exact this
      rw [List.getElem?_map, List.getElem?_eq_getElem ip] at hx
      cases Option.some.inj hx
      obtain ⟨dd, ed, hdd⟩ := paired_at prs (List.getElem?_eq_getElem ip)
      have memd : dd ∈ sg := List.mem_iff_getElem?.mpr ⟨i, ed⟩
      have pl2 : dd.2 ≤ 2 := sok.pl _ memd
      have gpl : plOf sg i = dd.2 := by
        rw [plOf, List.getD_eq_getElem?_getD, ed]
        rfl
      have e07 := e.trans e7
      have iu : i < us.length := by omega
      obtain ⟨hi, t', et', gd, dt⟩ := put_get rT (List.getElem?_eq_getElem iu)
      have tk : ∀ H8, Ex H7 H8 → Ev (tOp (rIxT K) (tVar 3) (tVar 4)) [some (.ref sa), some (.ref b), some (vi m), some (.ref ta), some (vi i), some (.ref ps[i]), none] H8 us[i] := fun H8 e8 => ev_op (ev_var rfl) (ev_var rfl) (rv_ixT (K := K) (ex_t (e07.trans e8) hT) (atI_nat (List.getElem?_eq_getElem iu)))
      show tIfS _ _ _ _ [some (.ref sa), some (.ref b), some (vi m), some (.ref ta), some (vi i), some (.ref ps[i]), none] H7
      have bad : ∀ {H8 : Hp}, Ex H7 H8 → tableB m (plOf sg i) (tds.getD i .none) = false → tRet (tTup (tCons (tC (.str "table")) (tCons (tVar 4) tNil))) { nx := fun _ H' => Q .non H', rt := Q } [some (.ref sa), some (.ref b), some (vi m), some (.ref ta), some (vi i), some (.ref ps[i]), none] H8 := fun {H8} e8 hbad => by
        refine s_retU (eu_tup (vs := [.str "table", vi i]) (ea_cons ev_c (ea_cons (ev_var rfl) ea_nil)) (by show 2 ≤ 100000; decide)) fun r2 H9 _ e9 hr9 => q _ H9 ((e07.trans e8).trans e9) ?_
        obtain ⟨rr, hrr⟩ : ∃ rr, badK sg m tds = i :: rr := filt_first (by omega) (fun j hj => by rw [good j hj]; rfl) (by rw [hbad]; rfl)
        rw [mw, modW4, hrr]
        exact .tup (st_of hr9) (.cons (.str _) (.cons (.int _) .nil))
      by_cases htt : isTup t' = false
      · exact s_when (b := true) (et_is (et_or (a := true) (b := false) (et_is (et_not (et_val (ev_isTup (K := K) (tk H7 (Ex.refl _)) ev_c (dt.ex e07)))) (by rw [htt]; rfl)) (fun z => by cases z)) rfl) (fun _ H8 e8 => bad e8 (by rw [gd]; cases t' <;> first | rfl | cases htt)) (fun hb => by cases hb)
      · obtain ⟨ca, cvs, cs, ecv, rfl, hC, rC⟩ := tup_of dt (by simpa using htt)
        have lc := rC.len
        have tk2 := tk H7 (Ex.refl _)
        rw [ecv] at tk2
        refine s_when (b := !decide (cvs.length = m ^ dd.2)) (et_is (et_or (a := false) (b := !decide (cvs.length = m ^ dd.2)) (et_is (et_not (et_val (ev_isTup (K := K) (tk H7 (Ex.refl _)) ev_c (dt.ex e07)))) rfl) (fun _ => ne_len (K := K) tk2 (ex_t e07 hC) (ev_callV (v := vi (m ^ dd.2)) (m, dd.2) (ea_cons (ev_var rfl) (ea_cons (ev_op (ev_var rfl) ev_c (rv_ixT (K := K) (ex_t e07 hdd) (atI_vi (k := 1) rfl))) ea_nil)) (fun _ _ => ⟨rfl, m6, Nat.le_trans pl2 (by decide)⟩) (fun _ _ p => p)))) (by rw [Bool.false_or])) (fun hb5 H8 e8 => bad e8 ?_) (fun hb5 H8 e8 => ⟨e07.trans e8, fun j hj => ?_, _, _, rfl⟩)
        · rw [Bool.not_eq_true', decide_eq_false_iff_not] at hb5
          rw [gd, gpl]
          show decide (cs.length = m ^ dd.2) = false
          rw [← lc]
          exact decide_eq_false hb5
        · rw [Bool.not_eq_false', decide_eq_true_eq] at hb5
          by_cases z : j < i
          · exact good j z
          · rw [show j = i by omega, gd, gpl]
            show decide (cs.length = m ^ dd.2) = true
            rw [← lc]
            exact decide_eq_true hb5
    · subst hσ
      rw [List.length_map] at good
      have nb : badK sg m tds = [] := filt_none (fun j hj => by rw [good j (by omega)]; rfl)
      have tups : ∀ t ∈ tds, isTup t = true := fun t ht => by
        obtain ⟨j, hj, e⟩ := List.mem_iff_getElem.mp ht
        have g := good j (by omega)
        have gj : tds.getD j .none = t := by
          rw [List.getD_eq_getElem?_getD, List.getElem?_eq_getElem hj, e]
          rfl
        rw [gj] at g
        cases t <;> first | rfl | cases g
      refine q_asgP (ep_call ((p, c), m, tds) (ea_cons (ev_var rfl) (ea_cons (ev_var rfl) ea_nil)) (fun H7 e7 => ⟨⟨ta, us, rfl, ex_t (e6.trans e7) hT, rT.ex (e6.trans e7)⟩, tups⟩)) fun ov H7 e7 hov => ?_
      replace hov : Dp K H7 ov (oddD m tds) := hov
      show tRet _ _ [some (.ref sa), some (.ref b), some (vi m), some (.ref ta), y4, y5, some ov] H7
      rw [mw, modW4, nb] at q
      cases ho : oddW m tds with
      | none =>
        rw [oddD, ho] at hov
        cases hov
        rw [ho] at q
        refine s_ret (ev_if (b := true) ?_ (fun _ => ev_c) (fun hb => by cases hb)) fun H8 e8 => q _ H8 ((e6.trans e7).trans e8) .non
        exact fun H7 e7 Q q => ⟨_, rfl, rfl, _, rfl, q H7 (Ex.refl H7)⟩
      | some kj =>
        obtain ⟨k0, j0⟩ := kj
        rw [oddD, ho] at hov
        rw [ho] at q
        cases hov with
        | tup sO rO =>
          cases rO with
          | cons a1 b1 =>
            cases a1
            cases b1 with
            | cons a2 b2 =>
              cases a2
              cases b2
              refine do_ret (do_if (b := false) (fun H8 e8 Q8 q8 => ⟨_, rfl, rfl, _, rfl, q8 H8 (Ex.refl H8)⟩) (fun hb => by cases hb) (fun _ H8 e8 => ?_))
              refine eu_tup (vs := [.str "cell", vi k0, vi j0]) (ea_cons ev_c (ea_cons (ev_op (ev_var rfl) ev_c (rv_ixT (K := K) (ex_t e8 sO) (atI_vi (k := 0) rfl))) (ea_cons (ev_op (ev_var rfl) ev_c (rv_ixT (K := K) (ex_t e8 sO) (atI_vi (k := 1) rfl))) ea_nil))) (by show 3 ≤ 100000; decide) H8 (Ex.refl _) _ fun r9 H9 _ e9 hr9 => q _ H9 ((e6.trans e7).trans (e8.trans e9)) (.tup (st_of hr9) (.cons (.str _) (.cons (.int _) (.cons (.int _) .nil))))
end
end K12
end
section
namespace K12
open PySem PySem.Spec PyProof.Rows L2 Evl RZ Dw M20
section
variable {P : Program} {w : World} {K : PySem.W.Frag} {mg : Str → Option Value} {base : Heap} {σ : L2.St} {H H' Hb : Hp} {p c : Addr} {n m k W : Nat} {v : V} {d : PyData}
/-- a kind of no equations -/
def sp_kind0 (K : PySem.W.Frag) : Sp := spX (fun (sg : List (Str × Nat)) vs H => (∃ a b u, vs = [.ref a] ∧ SqT K H a [u, .ref b] ∧ SqT K H b [] ∧ FSig K H u sg) ∧ SigOk sg) (fun _ v _ => v = .non)
theorem c_kind0 (T : Txt mg) (D : Df K mg "kind_wrong" s_kind_wrong ["thing"]) (c_signature_wrong : Cl P w K mg base 4 "signature_wrong" (sp_signature_wrong K)) : Cl P w K mg base 7 "kind_wrong" (sp_kind0 K) := by
  refine cl_of (k := 6) D sc_kind_wrong (fun vs H Q E h => ?_) (fun f cdv A outer s H vs Q E hr h => ?_)
  · obtain ⟨p, ⟨⟨a, b, u, rfl, _⟩, _⟩, _⟩ := h
    rfl
  · obtain ⟨sg, ⟨⟨a, b, u, rfl, hA, hB, hF⟩, sok⟩, q⟩ := h
    refine ⟨_, (pss_cons (ps_if (PW.pt (pw_or (pt_not (pt_val (pe_callB call_isi (by rfl) T.z_isinstance (by decide +kernel) (pa_cons (pv 0) (pa_cons (pe_ty "tuple" (by rfl) T.z_tuple (by decide +kernel)) pa_nil))))) (pw_or1 (pt_cmpR op_ne (pe_callB call_len_seq (by rfl) T.z_len PySem.boot_len (pa_cons (pv 0) pa_nil)) pe_int (nomark _)))))
        (pss_one (ps_ret (pe_tup (pa_cons pe_str pa_nil))))
        pss_nil)
      (pss_cons (ps_asg (pv 0) (pg_tup (by rfl) (pgs_cons (pg_name (i := 1) sc_kind_wrong.nd rfl (.inl rfl)) (pgs_cons (pg_name (i := 2) sc_kind_wrong.nd rfl (.inl rfl)) pgs_nil))))
      (pss_cons (ps_set (i := 3) sc_kind_wrong.nd rfl (.inl rfl) (pe_cl c_signature_wrong hr (by first | decide | omega) (by rfl) (pa_cons (pv 1) pa_nil)))
      (pss_cons (ps_if (pt_cmpR op_notN (pv 3) pe_non (nomark _))
        (pss_one (ps_ret (pe_tup (pa_cons pe_str (pa_cons (pv 3) pa_nil)))))
        pss_nil)
      (pss_cons (ps_if (PW.pt (pw_or (pt_not (pt_val (pe_callB call_isi (by rfl) T.z_isinstance (by decide +kernel) (pa_cons (pv 2) (pa_cons (pe_ty "tuple" (by rfl) T.z_tuple (by decide +kernel)) pa_nil))))) (pw_or1 (pt_cmpR op_gt (pe_callB call_len_seq (by rfl) T.z_len PySem.boot_len (pa_cons (pv 2) pa_nil)) (pe_gi (by rfl) T.c_MOST_EQUATIONS) (nomark _)))))
        (pss_one (ps_ret (pe_tup (pa_cons pe_str pa_nil))))
        pss_nil)
      (pss_cons (ps_for PassesOwn.never (by rfl) (pi_enumT (by rfl) T.z_enumerate (pa_cons (pv 2) pa_nil)) (pg_tup (by rfl) (pgs_cons (pg_name (i := 4) sc_kind_wrong.nd rfl (.inl rfl)) (pgs_cons (pg_name (i := 5) sc_kind_wrong.nd rfl (.inl rfl)) pgs_nil))) (pss_cons ps_never (pss_one ps_never)))
      (pss_one (ps_ret pe_non)))))))), ?_⟩
    replace sok : SigOk sg := sok
    refine q_when (b := false) (et_is (et_or (et_not (et_val (ev_isi (ev_var rfl) ev_c (.ty _) (fun _ e => tyx_tup (ex_t e hA)) kit_tt))) (fun _ => et_test (ev_op (ev_lenT (ev_var rfl) hA) ev_c (rv_ne rfl)))) rfl) (fun hb => by cases hb) (fun _ H1 e1 => ?_)
    refine ⟨.ref a, rfl, a, _, rfl, ex_t e1 hA, rfl, _, _, rfl, _, _, rfl, rfl, ?_⟩
    refine q_asg (ev_callV (v := .non) sg (ea_cons (ev_var rfl) ea_nil) (fun H2 e2 => ⟨⟨_, rfl, (hF.ex (e1.trans e2)).sig⟩, sok⟩) (fun _ _ p => p)) fun H2 e2 => ?_
    have e02 := e1.trans e2
    refine q_when (b := false) (et_is (et_isN (ev_var rfl)) rfl) (fun hb => by cases hb) (fun _ H3 e3 => ?_)
    have e03 := e02.trans e3
    refine q_when (b := false) (et_is (et_or (et_not (et_val (ev_isi (ev_var rfl) ev_c (.ty _) (fun _ e => tyx_tup (ex_t (e03.trans e) hB)) kit_tt))) (fun _ => et_test (ev_op (ev_lenT (ev_var rfl) (ex_t e03 hB)) ev_c rv_I0))) (by rfl)) (fun hb => by cases hb) (fun _ H4 e4 => ?_)
    have e04 := e03.trans e4
    refine q_enumT (ea_cons (ev_var rfl) ea_nil) (ex_t e04 hB) (fun i σ H' => Ex H H' ∧ ∃ y3 y4 y5, σ = [some (.ref a), some u, some (.ref b), y3, y4, y5]) (fun H5 e5 => ⟨e04.trans e5, _, _, _, rfl⟩) (fun i σ H' _ hP => ex_t hP.1 hB) (fun i x σ H5 H6 hx hP e6 => ?_) (fun σ H6 hP => ?_)
    · exact absurd (List.getElem?_eq_some_iff.mp hx).1 (Nat.not_lt_zero _)
    · obtain ⟨e6, y3, y4, y5, hσ⟩ := hP
      subst hσ
      exact s_ret ev_c fun H7 e7 => q _ H7 (e6.trans e7) rfl
theorem c_need_kind0 (T : Txt mg) (D : Df K mg "need_kind" s_need_kind ["kind"]) (c_kind0 : Cl P w K mg base 7 "kind_wrong" (sp_kind0 K)) : Cl P w K mg base 8 "need_kind" (sp_kind0 K) := by
  refine cl_of (k := 7) D sc_need_kind (fun vs H Q E h => ?_) (fun f cdv A outer s H vs Q E hr h => ?_)
  · obtain ⟨p, ⟨⟨a, b, u, rfl, _⟩, _⟩, _⟩ := h
    rfl
  · obtain ⟨sg, ⟨⟨a, b, u, rfl, hA, hB, hF⟩, sok⟩, q⟩ := h
    have c_kind_wrong := c_kind0
    refine ⟨_, (pss_one (ps_if (pt_cmpR op_notN (pe_cl c_kind_wrong hr (by first | decide | omega) (by rfl) (pa_cons (pv 0) pa_nil)) pe_non (nomark _))
        (pss_one ps_never)
        pss_nil)), ?_⟩
    exact s_when (b := false) (et_is (et_isN (ev_callV (v := .non) sg (ea_cons (ev_var rfl) ea_nil) (fun H2 e2 => ⟨⟨_, _, _, rfl, ex_t e2 hA, ex_t e2 hB, hF.ex e2⟩, sok⟩) (fun _ _ p => p))) rfl) (fun hb => by cases hb) (fun _ H1 e1 => q _ H1 e1 rfl)
end
end K12
end
section
namespace K12
open PySem PySem.Spec PyProof.Rows L2 Evl RZ Dw M20
open C8 (fnScope_by)
/-- the class's __init__ -/
abbrev s_Model__init : Stmt := (clsBody (topS 66)).getD 0 (.Pass ⟨0, 0, 0, 0⟩)
theorem sc_Model__init : FnScope ["self", "signature", "size", "tables"] ["self", "signature", "size", "tables"] (defScope s_Model__init) := fnScope_by (by decide +kernel)
/-- what the top says of the errors' classes -/
structure ErM (K : PySem.W.Frag) (mg : Str → Option Value) (S0 G0 a1 a2 a3 a4 a5 a6 a7 a8 a9 : Addr) : Prop where
  s : ExcT K mg "NoModel" S0
  g : mg "DeedError" = some (.ref G0)
  xs : PySem.W.exmOne K (.ref S0) (.ref G0) = some true
  m1 : mg "NoArgs" = some (.ref a1)
  m2 : mg "NoEquation" = some (.ref a2)
  m3 : mg "NoKind" = some (.ref a3)
  m4 : mg "NoLetters" = some (.ref a4)
  m5 : mg "NoName" = some (.ref a5)
  m6 : mg "NoSignature" = some (.ref a6)
  m7 : mg "NoTerm" = some (.ref a7)
  m8 : mg "NoText" = some (.ref a8)
  m9 : mg "NoWorths" = some (.ref a9)
  ht : PySem.W.kitOne K (.ref S0) (.ref S0) = some true
  hs : PySem.W.kitAny K (.ref S0) [.ref a1, .ref a2, .ref a3, .ref a4, .ref a5, .ref a6] = some false
  hs2 : PySem.W.kitAny K (.ref S0) [.ref a7, .ref a8, .ref a9] = some false
  hv : PySem.W.kitOne K (.ref S0) (.type "ValueError") = some true
section
variable {P : Program} {w : World} {K : PySem.W.Frag} {mg : Str → Option Value} {base : Heap} {σ : L2.St} {H H' : Hp} {p c : Addr} {n : Nat} {v : V} {d : PyData} {S0 G0 a1 a2 a3 a4 a5 a6 a7 a8 a9 : Addr}
/-- what is no model, ahead of anything -/
def MBad (K : PySem.W.Frag) (n : Nat) (z : (Addr × Addr) × List (Str × Nat) × PyData) (vs : List V) (H : Hp) : Prop := (∃ u v r, vs = u :: v :: r ∧ r.length = n ∧ FSig K H u z.2.1 ∧ Dz K z.1.1 z.1.2 H v z.2.2) ∧ SigOk z.2.1 ∧ modW z.2.1 z.2.2 ≠ .none
theorem mod_ref {v : V} {sg : List (Str × Nat)} {d : PyData} (h : Dp K H v (modW sg d)) (ne : modW sg d ≠ .none) : ∃ a, v = .ref a := by
  have e4 : ∀ n tds, modW4 sg n tds = .none ∨ ∃ ds, modW4 sg n tds = .tuple ds := fun n tds => by
    unfold modW4
    split
    · exact .inr ⟨_, rfl⟩
    · split
      · exact .inr ⟨_, rfl⟩
      · exact .inl rfl
  have e3 : ∀ s t, modW3 sg s t = .none ∨ ∃ ds, modW3 sg s t = .tuple ds := fun s t => by
    unfold modW3
    split
    · split
      · exact e4 _ _
      · exact .inr ⟨_, rfl⟩
    · exact .inr ⟨_, rfl⟩
  have e : modW sg d = .none ∨ ∃ ds, modW sg d = .tuple ds := by
    unfold modW
    split
    · unfold modW2
      split
      · exact e3 _ _
      · exact .inr ⟨_, rfl⟩
    · exact .inr ⟨_, rfl⟩
  rcases e with e | ⟨ds, e⟩
  · exact absurd e ne
  · rw [e] at h
    cases h with
    | tup s _ => exact ⟨_, rfl⟩
theorem c_need_modelM (T : Txt mg) (D : Df K mg "need_model" s_need_model ["signature", "model"]) (er : ErM K mg S0 G0 a1 a2 a3 a4 a5 a6 a7 a8 a9) (c_mod_any : Cl P w K mg base 6 "model_wrong" (sp_mod_any K)) : ClX P w K mg base 7 "need_model" (spE S0 (MBad K 0)) := by
  refine clx_of (k := 6) D sc_need_model (fun vs H Q E h => ?_) (fun f cdv A outer s H vs Q E hr h => ?_)
  · obtain ⟨d, ⟨⟨u, v, r, rfl, l, _⟩, _⟩, _⟩ := h
    rw [List.eq_nil_of_length_eq_zero l]
    rfl
  · obtain ⟨⟨⟨p, c⟩, sg, d⟩, ⟨⟨u, v, r, rfl, l, hF, hv⟩, so, bad⟩, q⟩ := h
    rw [List.eq_nil_of_length_eq_zero l]
    have c_model_wrong := c_mod_any
    refine ⟨_, (pss_one (ps_if (pt_cmpR op_notN (pe_cl c_model_wrong hr (by first | decide | omega) (by rfl) (pa_cons (pv 0) (pa_cons (pv 1) pa_nil))) pe_non (nomark _))
        (pss_one (ps_raise rfl (takes_of rfl rfl rfl rfl) (pmk_own PySem.F.excBase_ValueError er.s.q er.s.g er.s.k (raises_own er.s.c.hs er.s.t) (by rfl))))
        pss_nil)), ?_⟩
    exact s_when (b := true) (et_isNP ((ep_call ((p, c), sg, d) (ea_cons (ev_var rfl) (ea_cons (ev_var rfl) ea_nil)) (fun H1 e1 => ⟨⟨_, _, rfl, hF.ex e1, hv.ex e1⟩, so⟩)).imp fun r H1 _ hr1 => mod_ref hr1 bad)) (fun _ H1 e1 => q H1 e1) (fun hb => by cases hb)
theorem c_worth_byM (T : Txt mg) (D : Df K mg "worth_by" s_worth_by ["signature", "model", "term", "worths"]) (c_need_modelM : ClX P w K mg base 7 "need_model" (spE S0 (MBad K 0))) : ClX P w K mg base 8 "worth_by" (spE S0 (MBad K 2)) := by
  refine clx_of (k := 7) D sc_worth_by (fun vs H Q E h => ?_) (fun f cdv A outer s H vs Q E hr h => ?_)
  · obtain ⟨d, ⟨⟨u, v, r, rfl, l, _⟩, _⟩, _⟩ := h
    rw [List.length_cons, List.length_cons, l]
    rfl
  · obtain ⟨⟨⟨p, c⟩, sg, d⟩, ⟨⟨u, v, r, rfl, l, hF, hv⟩, so, bad⟩, q⟩ := h
    obtain ⟨x, y, rfl⟩ := two_of l
    refine ⟨_, (pss_cons (ps_expr (pe_clX c_need_modelM (takes_of rfl rfl rfl rfl) hr (by first | decide | omega) (by rfl) (pa_cons (pv 0) (pa_cons (pv 1) pa_nil))))
      (pss_cons (ps_never)
      (pss_cons (ps_never)
      (pss_cons (ps_never)
      (pss_one (ps_never)))))), ?_⟩
    exact do_try (W0 := fun _ => fun cls d _ H => E cls d H) (ea_cons (ev_var rfl) (ea_cons (ev_var rfl) ea_nil) H (Ex.refl _) _ fun H2 e2 => ⟨((p, c), sg, d), ⟨⟨_, _, _, rfl, rfl, hF.ex e2, hv.ex e2⟩, so, bad⟩, fun H3 e3 => q H3 (e2.trans e3)⟩)
theorem c_told_byM (T : Txt mg) (D : Df K mg "told_by" s_told_by ["signature", "model", "equations"]) (c_need_modelM : ClX P w K mg base 7 "need_model" (spE S0 (MBad K 0))) : ClX P w K mg base 8 "told_by" (spE S0 (MBad K 1)) := by
  refine clx_of (k := 7) D sc_told_by (fun vs H Q E h => ?_) (fun f cdv A outer s H vs Q E hr h => ?_)
  · obtain ⟨d, ⟨⟨u, v, r, rfl, l, _⟩, _⟩, _⟩ := h
    rw [List.length_cons, List.length_cons, l]
    rfl
  · obtain ⟨⟨⟨p, c⟩, sg, d⟩, ⟨⟨u, v, r, rfl, l, hF, hv⟩, so, bad⟩, q⟩ := h
    obtain ⟨x, rfl⟩ := one_of l
    refine ⟨_, (pss_cons (ps_expr (pe_clX c_need_modelM (takes_of rfl rfl rfl rfl) hr (by first | decide | omega) (by rfl) (pa_cons (pv 0) (pa_cons (pv 1) pa_nil))))
      (pss_cons (ps_never)
      (pss_one (ps_never)))), ?_⟩
    exact do_try (W0 := fun _ => fun cls d _ H => E cls d H) (ea_cons (ev_var rfl) (ea_cons (ev_var rfl) ea_nil) H (Ex.refl _) _ fun H2 e2 => ⟨((p, c), sg, d), ⟨⟨_, _, _, rfl, rfl, hF.ex e2, hv.ex e2⟩, so, bad⟩, fun H3 e3 => q H3 (e2.trans e3)⟩)
theorem c_model_textM (T : Txt mg) (D : Df K mg "model_text" s_model_text ["signature", "model"]) (c_need_modelM : ClX P w K mg base 7 "need_model" (spE S0 (MBad K 0))) : ClX P w K mg base 8 "model_text" (spE S0 (MBad K 0)) := by
  refine clx_of (k := 7) D sc_model_text (fun vs H Q E h => ?_) (fun f cdv A outer s H vs Q E hr h => ?_)
  · obtain ⟨d, ⟨⟨u, v, r, rfl, l, _⟩, _⟩, _⟩ := h
    rw [List.length_cons, List.length_cons, l]
    rfl
  · obtain ⟨⟨⟨p, c⟩, sg, d⟩, ⟨⟨u, v, r, rfl, l, hF, hv⟩, so, bad⟩, q⟩ := h
    rw [List.eq_nil_of_length_eq_zero l]
    refine ⟨_, (pss_cons (ps_expr (pe_clX c_need_modelM (takes_of rfl rfl rfl rfl) hr (by first | decide | omega) (by rfl) (pa_cons (pv 0) (pa_cons (pv 1) pa_nil))))
      (pss_one (ps_never))), ?_⟩
    exact do_try (W0 := fun _ => fun cls d _ H => E cls d H) (ea_cons (ev_var rfl) (ea_cons (ev_var rfl) ea_nil) H (Ex.refl _) _ fun H2 e2 => ⟨((p, c), sg, d), ⟨⟨_, _, _, rfl, rfl, hF.ex e2, hv.ex e2⟩, so, bad⟩, fun H3 e3 => q H3 (e2.trans e3)⟩)
/-- the kind of no equations, and what is no model -/
def KBad (K : PySem.W.Frag) (z : (Addr × Addr) × List (Str × Nat) × PyData) (vs : List V) (H : Hp) : Prop := (∃ a b u v, vs = [.ref a, v] ∧ SqT K H a [u, .ref b] ∧ SqT K H b [] ∧ FSig K H u z.2.1 ∧ Dz K z.1.1 z.1.2 H v z.2.2) ∧ SigOk z.2.1 ∧ modW z.2.1 z.2.2 ≠ .none
theorem c_first_brokenM (T : Txt mg) (D : Df K mg "first_broken" s_first_broken ["kind", "model"]) (c_need_kind0 : Cl P w K mg base 8 "need_kind" (sp_kind0 K)) (c_need_modelM : ClX P w K mg base 7 "need_model" (spE S0 (MBad K 0))) : ClX P w K mg base 9 "first_broken" (spE S0 (KBad K)) := by
  refine clx_of (k := 8) D sc_first_broken (fun vs H Q E h => ?_) (fun f cdv A outer s H vs Q E hr h => ?_)
  · obtain ⟨d, ⟨⟨a, b, u, v, rfl, _⟩, _⟩, _⟩ := h
    rfl
  · obtain ⟨⟨⟨p, c⟩, sg, d⟩, ⟨⟨a, b, u, v, rfl, sa, sb, hF, hv⟩, so, bad⟩, q⟩ := h
    have c_need_kind := c_need_kind0
    refine ⟨_, (pss_cons (ps_expr (pe_cl c_need_kind hr (by first | decide | omega) (by rfl) (pa_cons (pv 0) pa_nil)))
      (pss_cons (ps_expr (pe_clX c_need_modelM (takes_of rfl rfl rfl rfl) hr (by first | decide | omega) (by rfl) (pa_cons (pe_ix ix_tup (pv 0) pe_int (fun _ _ => rfl)) (pa_cons (pv 1) pa_nil))))
      (pss_one (ps_never)))), ?_⟩
    refine q_drop (ev_callV (v := .non) sg (ea_cons (ev_var rfl) ea_nil) (fun H1 e1 => ⟨⟨_, _, _, rfl, ex_t e1 sa, ex_t e1 sb, hF.ex e1⟩, so⟩) (fun _ _ z => z)) fun H1 e1 => ?_
    exact do_try (W0 := fun _ => fun cls d _ H => E cls d H) (ea_cons (ev_op (ev_var rfl) ev_c (rv_ixT (K := K) (ex_t e1 sa) (atI_vi (k := 0) rfl))) (ea_cons (ev_var rfl) ea_nil) H1 (Ex.refl _) _ fun H2 e2 => ⟨((p, c), sg, d), ⟨⟨_, _, _, rfl, rfl, hF.ex (e1.trans e2), hv.ex (e1.trans e2)⟩, so, bad⟩, fun H3 e3 => q H3 ((e1.trans e2).trans e3)⟩)
theorem s_retX {r : R2} {sp : Sp} {E : L2.St → XK} {ta : TA} {tb : TE} {D : Ends} (h : ta σ H fun vs H1 => sp vs H1 (fun x H2 => tb σ H2 fun y H3 => r x y H3 D.rt) (E σ)) : tRet (tOp r (tCallS sp E ta) tb) D σ H := h
theorem c_keepsM (T : Txt mg) (D : Df K mg "keeps" s_keeps ["kind", "model"]) (c_first_brokenM : ClX P w K mg base 9 "first_broken" (spE S0 (KBad K))) : ClX P w K mg base 10 "keeps" (spE S0 (KBad K)) := by
  refine clx_of (k := 9) D sc_keeps (fun vs H Q E h => ?_) (fun f cdv A outer s H vs Q E hr h => ?_)
  · obtain ⟨d, ⟨⟨a, b, u, v, rfl, _⟩, _⟩, _⟩ := h
    rfl
  · obtain ⟨⟨⟨p, c⟩, sg, d⟩, ⟨⟨a, b, u, v, rfl, sa, sb, hF, hv⟩, so, bad⟩, q⟩ := h
    refine ⟨_, (pss_one (ps_ret (pe_cmpR op_isN (pe_clX c_first_brokenM (takes_of rfl rfl rfl rfl) hr (by first | decide | omega) (by rfl) (pa_cons (pv 0) (pa_cons (pv 1) pa_nil))) pe_non (nomark _)))), ?_⟩
    exact s_retX (ea_cons (ev_var rfl) (ea_cons (ev_var rfl) ea_nil) H (Ex.refl _) _ fun H2 e2 => ⟨((p, c), sg, d), ⟨⟨_, _, _, _, rfl, ex_t e2 sa, ex_t e2 sb, hF.ex e2, hv.ex e2⟩, so, bad⟩, fun H3 e3 => q H3 (e2.trans e3)⟩)
/-- the class, of a size and tables that are no model's -/
def CBad (K : PySem.W.Frag) (z : (Addr × Addr) × List (Str × Nat) × PyData × PyData) (vs : List V) (H : Hp) : Prop := (∃ o u x y, vs = [o, u, x, y] ∧ FSig K H u z.2.1 ∧ Dz K z.1.1 z.1.2 H x z.2.2.1 ∧ Dz K z.1.1 z.1.2 H y z.2.2.2) ∧ SigOk z.2.1 ∧ modW z.2.1 (.tuple [z.2.2.1, z.2.2.2]) ≠ .none
theorem c_ModelM {C0 : Addr} (T : Txt mg) (D : DfM K mg "Model" "Model.__init__" C0 s_Model__init ["self", "signature", "size", "tables"]) (c_need_modelM : ClX P w K mg base 7 "need_model" (spE S0 (MBad K 0))) : ClM P w K mg base 8 "Model" C0 (spE S0 (CBad K)) := by
  refine clm_of (k := 7) D sc_Model__init (fun vs H Q E h => ?_) (fun f cdv A outer s H vs Q E hr h => ?_)
  · obtain ⟨d, ⟨⟨o, u, x, y, rfl, _⟩, _⟩, _⟩ := h
    rfl
  · obtain ⟨⟨⟨p, c⟩, sg, d1, d2⟩, ⟨⟨o, u, x, y, rfl, hF, hx, hy⟩, so, bad⟩, q⟩ := h
    refine ⟨_, (pss_cons (ps_expr (pe_clX c_need_modelM (takes_of rfl rfl rfl rfl) hr (by first | decide | omega) (by rfl) (pa_cons (pv 1) (pa_cons (pe_tup (pa_cons (pv 2) (pa_cons (pv 3) pa_nil))) pa_nil))))
      (pss_cons (ps_never)
      (pss_cons (ps_never)
      (pss_one (ps_never))))), ?_⟩
    refine do_try (W0 := fun _ => fun cls d _ H => E cls d H) (do_cons (do_ev (ev_var rfl) fun H1 e1 => do_cons (do_tup (do_cons (do_ev (ev_var rfl) fun H2 e2 => do_cons (do_ev (ev_var rfl) fun H3 e3 => do_nil ⟨by show 2 ≤ sizeLine; decide, fun r0 nr0 => do_nil ?_⟩))))))
    have e04 : Ex H (upd H3 r0 (.tup [x, y])) := ((e1.trans e2).trans e3).trans (Ex.new nr0)
    exact ⟨((p, c), sg, .tuple [d1, d2]), ⟨⟨_, _, [], rfl, rfl, hF.ex e04, .tup (st_of upd_same) (.cons (hx.ex e04) (.cons (hy.ex e04) .nil))⟩, so, bad⟩, fun H5 e5 => q H5 (e04.trans e5)⟩
end
end K12
end
section
namespace K12
open PySem PySem.Spec PyProof.Rows L2 Evl RZ Dw M20
section
variable {P : Program} {w : World} {K : PySem.W.Frag} {mg : Str → Option Value} {base : Heap} {σ : L2.St} {H H' Hb : Hp} {p c : Addr} {n m k W : Nat} {v : V} {d : PyData}
def sp_ldueM (K : PySem.W.Frag) : Sp := spX (MPre K) (fun z v H => Dp K H v (modW z.2.1 z.2.2))
theorem c_ldueM (T : Txt mg) (D : Df K mg "_law_due" s__law_due ["_law_deeds_here", "_law_thing"]) (c_lwhole_any : Cl P w K mg base 1 "_law_whole" (sp_lwhole_any K)) (c_cells : Cl P w K mg base 1 "_law_cells" sp_cells) : Cl P w K mg base 2 "_law_due" (sp_ldueM K) := by
  refine cl_of (k := 1) D sc__law_due (fun vs H Q E h => ?_) (fun f cdv A outer s H vs Q E hr h => ?_)
  · obtain ⟨z, ⟨⟨u, v, rfl, _⟩, _⟩, _⟩ := h
    rfl
  · obtain ⟨⟨⟨p, c⟩, sg, d⟩, ⟨⟨u, v, rfl, hF, hv⟩, sok⟩, q⟩ := h
    have c_whole := c_lwhole_any
    refine ⟨_, (pss_cons (ps_if (PW.pt (pw_or (pt_not (pt_val (pe_callB call_isi (by rfl) T.z_isinstance (by decide +kernel) (pa_cons (pv 1) (pa_cons (pe_ty "tuple" (by rfl) T.z_tuple (by decide +kernel)) pa_nil))))) (pw_or1 (pt_cmpR op_ne (pe_callB call_len_seq (by rfl) T.z_len PySem.boot_len (pa_cons (pv 1) pa_nil)) pe_int (nomark _)))))
        (pss_one (ps_ret (pe_tup (pa_cons pe_str pa_nil))))
        pss_nil)
      (pss_cons (ps_asg (pv 1) (pg_tup (by rfl) (pgs_cons (pg_name (i := 2) sc__law_due.nd rfl (.inl rfl)) (pgs_cons (pg_name (i := 3) sc__law_due.nd rfl (.inl rfl)) pgs_nil))))
      (pss_cons (ps_if (PW.pt (pw_or (pt_not (pt_val (pe_cl c_whole hr (by first | decide | omega) (by rfl) (pa_cons (pv 2) pa_nil)))) (pw_or (pt_cmpR op_lt (pv 2) pe_int (nomark _)) (pw_or1 (pt_cmpR op_gt (pv 2) pe_int (nomark _))))))
        (pss_one (ps_ret (pe_tup (pa_cons pe_str pa_nil))))
        pss_nil)
      (pss_cons (ps_if (PW.pt (pw_or (pt_not (pt_val (pe_callB call_isi (by rfl) T.z_isinstance (by decide +kernel) (pa_cons (pv 3) (pa_cons (pe_ty "tuple" (by rfl) T.z_tuple (by decide +kernel)) pa_nil))))) (pw_or1 (pt_cmpR op_ne (pe_callB call_len_seq (by rfl) T.z_len PySem.boot_len (pa_cons (pv 3) pa_nil)) (pe_callB call_len_seq (by rfl) T.z_len PySem.boot_len (pa_cons (pv 0) pa_nil)) (nomark _)))))
        (pss_one (ps_ret (pe_tup (pa_cons pe_str pa_nil))))
        pss_nil)
      (pss_cons (ps_for PassesOwn.never (by rfl) (pi_enumT (by rfl) T.z_enumerate (pa_cons (pv 0) pa_nil)) (pg_tup (by rfl) (pgs_cons (pg_name (i := 4) sc__law_due.nd rfl (.inl rfl)) (pgs_cons (pg_name (i := 5) sc__law_due.nd rfl (.inl rfl)) pgs_nil)))
        (pss_one (ps_if (PW.pt (pw_or (pt_not (pt_val (pe_callB call_isi (by rfl) T.z_isinstance (by decide +kernel) (pa_cons (pe_ix ix_tup (pv 3) (pv 4) (fun _ _ => rfl)) (pa_cons (pe_ty "tuple" (by rfl) T.z_tuple (by decide +kernel)) pa_nil))))) (pw_or1 (pt_cmpR op_ne (pe_callB call_len_seq (by rfl) T.z_len PySem.boot_len (pa_cons (pe_ix ix_tup (pv 3) (pv 4) (fun _ _ => rfl)) pa_nil)) (pe_cl c_cells hr (by first | decide | omega) (by rfl) (pa_cons (pv 2) (pa_cons (pe_ix ix_tup (pv 5) pe_int (fun _ _ => rfl)) pa_nil))) (nomark _)))))
          (pss_one (ps_ret (pe_tup (pa_cons pe_str (pa_cons (pv 4) pa_nil)))))
          pss_nil)))
      (pss_cons (ps_for PassesOwn.never (by rfl) (pi_enumT (by rfl) T.z_enumerate (pa_cons (pv 3) pa_nil)) (pg_tup (by rfl) (pgs_cons (pg_name (i := 4) sc__law_due.nd rfl (.inl rfl)) (pgs_cons (pg_name (i := 6) sc__law_due.nd rfl (.inl rfl)) pgs_nil)))
        (pss_one (ps_for PassesOwn.never (by rfl) (pi_enumT (by rfl) T.z_enumerate (pa_cons (pv 6) pa_nil)) (pg_tup (by rfl) (pgs_cons (pg_name (i := 7) sc__law_due.nd rfl (.inl rfl)) (pgs_cons (pg_name (i := 8) sc__law_due.nd rfl (.inl rfl)) pgs_nil)))
          (pss_one (ps_if (PW.pt (pw_or (pt_not (pt_val (pe_cl c_whole hr (by first | decide | omega) (by rfl) (pa_cons (pv 8) pa_nil)))) (pw_or (pt_cmpR op_lt (pv 8) pe_int (nomark _)) (pw_or1 (pt_cmpR op_ge (pv 8) (pv 2) (nomark _))))))
            (pss_one (ps_ret (pe_tup (pa_cons pe_str (pa_cons (pv 4) (pa_cons (pv 7) pa_nil))))))
            pss_nil)))))
      (pss_one (ps_ret pe_non)))))))), ?_⟩
    replace hF : FSig K H u sg := hF
    replace hv : Dz K p c H v d := hv
    replace sok : SigOk sg := sok
    replace q : ∀ r H', Ex H H' → Dp K H' r (modW sg d) → Q r H' := q
    have e1 : Ex H H := Ex.refl H
    by_cases hs2 : isTup d = false
    · exact q_when (b := true) (et_is (et_or (a := true) (b := false) (et_is (et_not (et_val (ev_isTup (K := K) (ev_var rfl) ev_c (hv.ex e1)))) (by rw [hs2]; rfl)) (fun z => by cases z)) rfl) (fun _ H2 e2 => s_word (K := K) fun r H3 e3 hr => q r H3 ((e1.trans e2).trans e3) (by
        have : modW sg d = .tuple [.str "model"] := by cases d <;> first | rfl | cases hs2
        rw [this]
        exact hr)) (fun hb => by cases hb)
    obtain ⟨b, xs, ds, rfl, rfl, hB, r⟩ := tup_of hv (by simpa using hs2)
    have lx := r.len
    refine q_when (b := !decide (xs.length = 2)) (et_is (et_or (a := false) (b := !decide (xs.length = 2)) (et_is (et_not (et_val (ev_isTup (K := K) (ev_var rfl) ev_c (hv.ex e1)))) rfl) (fun _ => ne_len (K := K) (m := 2) (ev_var rfl) (ex_t e1 hB) ev_c)) (by rw [Bool.false_or])) (fun hb H2 e2 => ?_) (fun hb H2 e2 => ?_)
    · have l2 : xs.length ≠ 2 := by simpa using hb
      refine s_word (K := K) fun r0 H3 e3 hr => q r0 H3 ((e1.trans e2).trans e3) ?_
      have : modW sg (.tuple ds) = .tuple [.str "model"] := by
        match ds, lx with
        | [], _ => rfl
        | [_], _ => rfl
        | [_, _], lx => exact absurd lx l2
        | _ :: _ :: _ :: _, _ => rfl
      rw [this]
      exact hr
    have l2 : xs.length = 2 := by simpa using hb
    obtain ⟨x1, x2, rfl⟩ := two_of l2
    obtain ⟨d1, d2, rfl⟩ := two_of (show ds.length = 2 by rw [← lx]; rfl)
    have e02 := e1.trans e2
    have y1 : Dz K p c H x1 d1 := by
      cases r with
      | cons x y => exact x
    have y2 : Dz K p c H x2 d2 := by
      cases r with
      | cons x y =>
        cases y with
        | cons x y => exact x
    refine do_setG (do_ev (ev_var rfl) fun H3 e3 => ⟨b, _, rfl, ex_t (e02.trans e3) hB, rfl, _, _, rfl, _, _, rfl, rfl, ?_⟩)
    have e03 := e02.trans e3
    show tSeq _ _ _ [some u, some (.ref b), some x1, some x2, none, none, none, none, none] H3
    have y13 := y1.ex e03
    have szT : EvT (tOr (tNot (tB (tCall (sp_lwhole_any K) [] E0 (tCons (tVar 2) tNil)))) (tOr (tTest (tOp (rI0 fun i j => .bl (decide (i < j))) (tVar 2) (tC (.int 1)))) (tTest (tOp (rI0 fun i j => .bl (decide (i > j))) (tVar 2) (tC (.int 6)))))) [some u, some (.ref b), some x1, some x2, none, none, none, none, none] H3 (!sizeB d1) := by
      by_cases hw : wholeB d1 = true
      · obtain ⟨i, rfl, rfl⟩ := whole_int y1 hw
        refine et_is (et_or (a := false) (et_is (et_not (et_val (ev_callV (v := .bl true) ((p, c), PyData.int i) (ea_cons (ev_var rfl) ea_nil) (fun H1 e1 => ⟨_, rfl, .int i⟩) (fun _ _ z => z.trans rfl)))) rfl) (fun _ => et_or (et_test (ev_op (ev_var rfl) ev_c rv_I0)) (fun _ => et_test (ev_op (ev_var rfl) ev_c rv_I0)))) ?_
        show (false || (decide (i < 1) || decide (i > 6))) = !(decide (1 ≤ i) && decide (i ≤ 6))
        rw [Bool.false_or]
        by_cases h1 : 1 ≤ i
        · by_cases h6 : i ≤ 6
          · rw [decide_eq_true h1, decide_eq_true h6, decide_eq_false (by omega), decide_eq_false (by omega)]
            rfl
          · rw [decide_eq_true h1, decide_eq_false h6, decide_eq_false (by omega), decide_eq_true (by omega)]
            rfl
        · rw [decide_eq_false h1, decide_eq_true (by omega)]
          rfl
      · have hw2 : wholeB d1 = false := by simpa using hw
        refine et_is (et_or (a := true) (b := false) (et_is (et_not (et_val (ev_callV (v := .bl false) ((p, c), d1) (ea_cons (ev_var rfl) ea_nil) (fun H1 e1 => ⟨_, rfl, y13.ex e1⟩) (fun _ _ z => by rw [z, hw2])))) rfl) (fun z => by cases z)) ?_
        cases d1 <;> first | rfl | cases hw2
    refine q_when (b := !sizeB d1) szT (fun hbs H4 e4 => ?_) (fun hbs H4 e4 => ?_)
    · rw [Bool.not_eq_true'] at hbs
      refine s_word (K := K) fun r0 H5 e5 hr => q r0 H5 ((e03.trans e4).trans e5) ?_
      show Dp K H5 r0 (modW2 sg d1 d2)
      rw [modW2, if_neg (by rw [hbs]; decide)]
      exact hr
    rw [Bool.not_eq_false'] at hbs
    have e04 := e03.trans e4
    obtain ⟨i, rfl, rfl⟩ := whole_int y1 (by cases d1 <;> first | rfl | cases hbs)
    obtain ⟨m, rfl, m1, m6⟩ := nat_of hbs
    obtain ⟨sa, so1, ps, rfl, hsa, sod, prs⟩ := id hF
    have sqS : SqT K H sa (ps.map V.ref) := .inl (.inr ⟨so1, hsa⟩)
    have lps := paired_len prs
    show tSeq _ _ _ [some (.ref sa), some (.ref b), some (vi m), some x2, none, none, none, none, none] H4
    by_cases ht2 : isTup d2 = false
    · refine q_when (b := true) (et_is (et_or (a := true) (b := false) (et_is (et_not (et_val (ev_isTup (K := K) (ev_var rfl) ev_c (y2.ex e04)))) (by rw [ht2]; rfl)) (fun z => by cases z)) rfl) (fun _ H5 e5 => s_word (K := K) fun r0 H6 e6 hr => q r0 H6 ((e04.trans e5).trans e6) ?_) (fun hb => by cases hb)
      show Dp K H6 r0 (modW2 sg (.int (m : Int)) d2)
      rw [modW2, if_pos hbs]
      cases d2 <;> first | exact hr | cases ht2
    obtain ⟨ta, us, tds, rfl, rfl, hT, rT⟩ := tup_of y2 (by simpa using ht2)
    have lT := rT.len
    refine q_when (b := !decide (us.length = (ps.map V.ref).length)) (et_is (et_or (a := false) (b := !decide (us.length = (ps.map V.ref).length)) (et_is (et_not (et_val (ev_isTup (K := K) (ev_var rfl) ev_c (y2.ex e04)))) rfl) (fun _ => ne_len (K := K) (ev_var rfl) (ex_t e04 hT) (ev_lenT (ev_var rfl) (ex_t e04 sqS)))) (by rw [Bool.false_or])) (fun hb3 H5 e5 => ?_) (fun hb3 H5 e5 => ?_)
    · have l3 : ¬ tds.length = sg.length := by
        rw [Bool.not_eq_true', decide_eq_false_iff_not, List.length_map] at hb3
        omega
      refine s_word (K := K) fun r0 H6 e6 hr => q r0 H6 ((e04.trans e5).trans e6) ?_
      show Dp K H6 r0 (modW2 sg (.int (m : Int)) (.tuple tds))
      rw [modW2, if_pos hbs, modW3, if_neg l3]
      exact hr
    have l3 : tds.length = sg.length := by
      rw [Bool.not_eq_false', decide_eq_true_eq, List.length_map] at hb3
      omega
    have e05 := e04.trans e5
    have mw : modW sg (.tuple [.int (m : Int), .tuple tds]) = modW4 sg m tds := by
      show modW2 sg (.int (m : Int)) (.tuple tds) = _
      rw [modW2, if_pos hbs, modW3, if_pos l3]
      rfl
    refine q_enumT (K := K) (ea_cons (ev_var rfl) ea_nil) (ex_t e05 sqS) (fun i σ H' => Ex H H' ∧ (∀ j, j < i → tableB m (plOf sg j) (tds.getD j .none) = true) ∧ ∃ y4 y5, σ = [some (.ref sa), some (.ref b), some (vi m), some (.ref ta), y4, y5, none, none, none]) (fun H6 e6 => ⟨e05.trans e6, fun j hj => absurd hj (Nat.not_lt_zero _), none, none, rfl⟩) (fun i σ H' _ ⟨e, _⟩ => ex_t e sqS) (fun i x σ H6 H7 hx ⟨e, good, y4, y5, hσ⟩ e7 => ?_) (fun σ H6 ⟨e6, good, y4, y5, hσ⟩ => ?_)
    · subst hσ
      have ip : i < ps.length := by
        have := (List.getElem?_eq_some_iff.mp hx).1
        rw [List.length_map] at this
        exact this
      rw [List.getElem?_map, List.getElem?_eq_getElem ip] at hx
      cases Option.some.inj hx
      obtain ⟨dd, ed, hdd⟩ := paired_at prs (List.getElem?_eq_getElem ip)
      have memd : dd ∈ sg := List.mem_iff_getElem?.mpr ⟨i, ed⟩
      have pl2 : dd.2 ≤ 2 := sok.pl _ memd
      have gpl : plOf sg i = dd.2 := by
        rw [plOf, List.getD_eq_getElem?_getD, ed]
        rfl
      have e07 := e.trans e7
      have iu : i < us.length := by omega
      obtain ⟨hi, t', et', gd, dt⟩ := put_get rT (List.getElem?_eq_getElem iu)
      have tk : ∀ H8, Ex H7 H8 → Ev (tOp (rIxT K) (tVar 3) (tVar 4)) [some (.ref sa), some (.ref b), some (vi m), some (.ref ta), some (vi i), some (.ref ps[i]), none, none, none] H8 us[i] := fun H8 e8 => ev_op (ev_var rfl) (ev_var rfl) (rv_ixT (K := K) (ex_t (e07.trans e8) hT) (atI_nat (List.getElem?_eq_getElem iu)))
      show tIfS _ _ _ _ [some (.ref sa), some (.ref b), some (vi m), some (.ref ta), some (vi i), some (.ref ps[i]), none, none, none] H7
      have bad : ∀ {H8 : Hp}, Ex H7 H8 → tableB m (plOf sg i) (tds.getD i .none) = false → tRet (tTup (tCons (tC (.str "table")) (tCons (tVar 4) tNil))) { nx := fun _ H' => Q .non H', rt := Q } [some (.ref sa), some (.ref b), some (vi m), some (.ref ta), some (vi i), some (.ref ps[i]), none, none, none] H8 := fun {H8} e8 hbad => by
        refine s_retU (eu_tup (vs := [.str "table", vi i]) (ea_cons ev_c (ea_cons (ev_var rfl) ea_nil)) (by show 2 ≤ 100000; decide)) fun r2 H9 _ e9 hr9 => q _ H9 ((e07.trans e8).trans e9) ?_
        obtain ⟨rr, hrr⟩ : ∃ rr, badK sg m tds = i :: rr := filt_first (by omega) (fun j hj => by rw [good j hj]; rfl) (by rw [hbad]; rfl)
        rw [mw, modW4, hrr]
        exact .tup (st_of hr9) (.cons (.str _) (.cons (.int _) .nil))
      by_cases htt : isTup t' = false
      · exact s_when (b := true) (et_is (et_or (a := true) (b := false) (et_is (et_not (et_val (ev_isTup (K := K) (tk H7 (Ex.refl _)) ev_c (dt.ex e07)))) (by rw [htt]; rfl)) (fun z => by cases z)) rfl) (fun _ H8 e8 => bad e8 (by rw [gd]; cases t' <;> first | rfl | cases htt)) (fun hb => by cases hb)
      · obtain ⟨ca, cvs, cs, ecv, rfl, hC, rC⟩ := tup_of dt (by simpa using htt)
        have lc := rC.len
        have tk2 := tk H7 (Ex.refl _)
        rw [ecv] at tk2
        refine s_when (b := !decide (cvs.length = m ^ dd.2)) (et_is (et_or (a := false) (b := !decide (cvs.length = m ^ dd.2)) (et_is (et_not (et_val (ev_isTup (K := K) (tk H7 (Ex.refl _)) ev_c (dt.ex e07)))) rfl) (fun _ => ne_len (K := K) tk2 (ex_t e07 hC) (ev_callV (v := vi (m ^ dd.2)) (m, dd.2) (ea_cons (ev_var rfl) (ea_cons (ev_op (ev_var rfl) ev_c (rv_ixT (K := K) (ex_t e07 hdd) (atI_vi (k := 1) rfl))) ea_nil)) (fun _ _ => ⟨rfl, m6, pl2⟩) (fun _ _ p => p)))) (by rw [Bool.false_or])) (fun hb5 H8 e8 => bad e8 ?_) (fun hb5 H8 e8 => ⟨e07.trans e8, fun j hj => ?_, _, _, rfl⟩)
        · rw [Bool.not_eq_true', decide_eq_false_iff_not] at hb5
          rw [gd, gpl]
          show decide (cs.length = m ^ dd.2) = false
          rw [← lc]
          exact decide_eq_false hb5
        · rw [Bool.not_eq_false', decide_eq_true_eq] at hb5
          by_cases z : j < i
          · exact good j z
          · rw [show j = i by omega, gd, gpl]
            show decide (cs.length = m ^ dd.2) = true
            rw [← lc]
            exact decide_eq_true hb5
    · subst hσ
      rw [List.length_map] at good
      have nb : badK sg m tds = [] := filt_none (fun j hj => by rw [good j (by omega)]; rfl)
      have tups : ∀ t ∈ tds, isTup t = true := fun t ht => by
        obtain ⟨j, hj, e⟩ := List.mem_iff_getElem.mp ht
        have g := good j (by omega)
        have gj : tds.getD j .none = t := by
          rw [List.getD_eq_getElem?_getD, List.getElem?_eq_getElem hj, e]
          rfl
        rw [gj] at g
        cases t <;> first | rfl | cases g
      show tSeq _ _ _ [some (.ref sa), some (.ref b), some (vi m), some (.ref ta), y4, y5, none, none, none] H6
      rw [mw, modW4, nb] at q
      refine q_enumT (K := K) (ea_cons (ev_var rfl) ea_nil) (ex_t e6 hT) (fun i σ H' => Ex H H' ∧ (∀ j, j < i → oddRow m (cellsOf (tds.getD j .none)) = []) ∧ ∃ y4 y6 y7 y8, σ = [some (.ref sa), some (.ref b), some (vi m), some (.ref ta), y4, y5, y6, y7, y8]) (fun H7 e7 => ⟨e6.trans e7, fun j hj => absurd hj (Nat.not_lt_zero _), _, _, _, _, rfl⟩) (fun i σ H' _ ⟨e, _⟩ => ex_t e hT) (fun i x σ H7 H8 hx ⟨e, good2, z4, z6, z7, z8, hσ⟩ e8 => ?_) (fun σ H7 ⟨e7, good2, z4, z6, z7, z8, hσ⟩ => ?_)
      · subst hσ
        obtain ⟨hi, x', ex', gd, dx⟩ := put_get rT hx
        have e08 : Ex H H8 := e.trans e8
        obtain ⟨ca, cvs, cs, rfl, rfl, hC, rC⟩ := tup_of (dx.ex e08) (tups x' (List.mem_of_getElem? ex'))
        have hlc := rC.len
        show tFor _ _ _ _ [some (.ref sa), some (.ref b), some (vi m), some (.ref ta), some (vi i), y5, some (.ref ca), z7, z8] H8
        refine s_enumT (K := K) (ea_cons (ev_var rfl) ea_nil) hC (fun j σ H' => Ex H8 H' ∧ (∀ a, a < j → belowB (m : Int) (cs.getD a .none) = true) ∧ ∃ y7 y8, σ = [some (.ref sa), some (.ref b), some (vi m), some (.ref ta), some (vi i), y5, some (.ref ca), y7, y8]) (fun H9 e9 => ⟨e9, fun j hj => absurd hj (Nat.not_lt_zero _), _, _, rfl⟩) (fun j σ H' _ ⟨e, _⟩ => ex_t e hC) (fun j x σ H9 H10 hx9 ⟨e9, good9, w7, w8, hσ⟩ e10 => ?_) (fun σ H9 ⟨e9, good9, w7, w8, hσ⟩ => ?_)
        · subst hσ
          obtain ⟨hj, y', ey', gy, dy⟩ := put_get rC hx9
          have e810 := e9.trans e10
          have dy10 := dy.ex e810
          show tIfS _ _ _ _ [some (.ref sa), some (.ref b), some (vi m), some (.ref ta), some (vi i), y5, some (.ref ca), some (vi j), some x] H10
          have test : EvT (tOr (tNot (tB (tCall (sp_lwhole_any K) [] E0 (tCons (tVar 8) tNil)))) (tOr (tTest (tOp (rI0 fun i j => .bl (decide (i < j))) (tVar 8) (tC (.int 0)))) (tTest (tOp (rI0 fun i j => .bl (decide (i ≥ j))) (tVar 8) (tVar 2))))) [some (.ref sa), some (.ref b), some (vi m), some (.ref ta), some (vi i), y5, some (.ref ca), some (vi j), some x] H10 (!belowB (m : Int) y') := by
            by_cases hw : wholeB y' = true
            · obtain ⟨a0, rfl, rfl⟩ := whole_int dy hw
              refine et_is (et_or (a := false) (et_is (et_not (et_val (ev_callV (v := .bl true) ((p, c), PyData.int a0) (ea_cons (ev_var rfl) ea_nil) (fun H1 e1 => ⟨_, rfl, .int a0⟩) (fun _ _ z => z.trans rfl)))) rfl) (fun _ => et_or (et_test (ev_op (ev_var rfl) ev_c rv_I0)) (fun _ => et_test (ev_op (ev_var rfl) (ev_var rfl) rv_I0)))) ?_
              show (false || (decide (a0 < 0) || decide (a0 ≥ (m : Int)))) = !(decide (0 ≤ a0) && decide (a0 < (m : Int)))
              rw [Bool.false_or]
              by_cases h1 : 0 ≤ a0
              · by_cases h6 : a0 < (m : Int)
                · rw [decide_eq_true h1, decide_eq_true h6, decide_eq_false (by omega), decide_eq_false (by omega)]
                  rfl
                · rw [decide_eq_true h1, decide_eq_false h6, decide_eq_false (by omega), decide_eq_true (by omega)]
                  rfl
              · rw [decide_eq_false h1, decide_eq_true (by omega)]
                rfl
            · have hw2 : wholeB y' = false := by simpa using hw
              refine et_is (et_or (a := true) (b := false) (et_is (et_not (et_val (ev_callV (v := .bl false) ((p, c), y') (ea_cons (ev_var rfl) ea_nil) (fun H1 e1 => ⟨_, rfl, dy10.ex e1⟩) (fun _ _ z => by rw [z, hw2])))) rfl) (fun z => by cases z)) ?_
              cases y' <;> first | rfl | cases hw2
          refine s_when (b := !belowB (m : Int) y') test (fun hb2 H11 e11 => ?_) (fun hb2 H11 e11 => ⟨e810.trans e11, fun a ha => ?_, _, _, rfl⟩)
          · rw [Bool.not_eq_true'] at hb2
            refine s_retU (eu_tup (vs := [.str "cell", vi i, vi j]) (ea_cons ev_c (ea_cons (ev_var rfl) (ea_cons (ev_var rfl) ea_nil))) (by show 3 ≤ 100000; decide)) fun r2 H12 _ e12 hr12 => q _ H12 ((e08.trans (e810.trans e11)).trans e12) ?_
            obtain ⟨rr, hrr⟩ := oddRow_first hj good9 (by rw [gy]; exact hb2)
            have ow := oddT_first (n := m) (tds := tds) (k := i) (j := j) (r := rr) hi good2 (by rw [gd]; exact hrr)
            rw [ow]
            exact .tup (st_of hr12) (.cons (.str _) (.cons (.int _) (.cons (.int _) .nil)))
          · rw [Bool.not_eq_false'] at hb2
            by_cases z : a < j
            · exact good9 a z
            · rw [show a = j by omega, gy]
              exact hb2
        · subst hσ
          rw [hlc] at good9
          refine ⟨e08.trans e9, fun a ha => ?_, _, _, _, _, rfl⟩
          by_cases z : a < i
          · exact good2 a z
          · rw [show a = i by omega, gd]
            exact oddRow_none good9
      · subst hσ
        rw [lT] at good2
        refine s_ret (v := .non) ev_c fun H8 e8 => q _ H8 (e7.trans e8) ?_
        rw [oddT_none good2]
        exact .non
end
end K12
end
section
namespace K12
open PySem PySem.Spec PyProof.Rows L2 Evl RZ Dw M20
theorem gb_dig {i : Nat} (h : i ≤ 7) : Gb 0 10 (.int (i : Int)) := by
  have : i = 0 ∨ i = 1 ∨ i = 2 ∨ i = 3 ∨ i = 4 ∨ i = 5 ∨ i = 6 ∨ i = 7 := by omega
  rcases this with rfl | rfl | rfl | rfl | rfl | rfl | rfl | rfl <;> exact ⟨by rw [PyData.canLay0], by rw [PyData.depth]; decide, by rw [PyData.weight]; decide, by rw [PyData.intsShort]; decide, by rw [PyData.showable]; decide⟩
theorem gb_strD {i : Nat} (h : i ≤ 7) : Gb 0 22 (.str (toString (i : Int))) := by
  have : i = 0 ∨ i = 1 ∨ i = 2 ∨ i = 3 ∨ i = 4 ∨ i = 5 ∨ i = 6 ∨ i = 7 := by omega
  rcases this with rfl | rfl | rfl | rfl | rfl | rfl | rfl | rfl <;> exact gb_str (by decide +kernel)
theorem gba_all {k W : Nat} : ∀ {ds : List PyData}, (∀ d ∈ ds, Gb k W d) → GbA k (ds.length * (W + 1)) ds
  | [], _ => gba_nil.mono (Nat.zero_le _) (Nat.zero_le _)
  | d :: ds, h => (gba_cons (h d (List.mem_cons_self ..)) (gba_all fun e he => h e (List.mem_cons_of_mem _ he))).mono (Nat.le_refl _) (by rw [List.length_cons, Nat.succ_mul]; omega)
theorem nil_filt {f : Nat → Bool} {n : Nat} (h : (List.range n).filter f = []) {i : Nat} (hi : i < n) : f i = false := by
  have := List.filter_eq_nil_iff.mp h i (List.mem_range.mpr hi)
  simpa using this
theorem modW_inv {sg : List (Str × Nat)} {d : PyData} (h : modW sg d = .none) : ∃ (n : Nat) (tds : List PyData), d = .tuple [.int (n : Int), .tuple tds] ∧ 1 ≤ n ∧ n ≤ 6 ∧ tds.length = sg.length ∧ badK sg n tds = [] ∧ oddW n tds = none := by
  cases d with
  | tuple ds =>
    match ds, h with
    | [s, t], h =>
      change modW2 sg s t = .none at h
      rw [modW2] at h
      split at h
      · rename_i hs
        cases s with
        | int i =>
          have hs2 : (decide (1 ≤ i) && decide (i ≤ 6)) = true := hs
          rw [Bool.and_eq_true, decide_eq_true_eq, decide_eq_true_eq] at hs2
          obtain ⟨n, rfl⟩ : ∃ n : Nat, i = (n : Int) := ⟨i.toNat, by omega⟩
          cases t with
          | tuple tds =>
            rw [modW3] at h
            split at h
            · rename_i hl
              rw [modW4] at h
              rw [show ((n : Nat) : Int).toNat = n from rfl] at h
              refine ⟨n, tds, rfl, by omega, by omega, hl, ?_, ?_⟩
              · cases e : badK sg n tds with
                | nil => rfl
                | cons a b =>
                  rw [e] at h
                  cases h
              · cases e : badK sg n tds with
                | cons a b =>
                  rw [e] at h
                  cases h
                | nil =>
                  rw [e] at h
                  cases e2 : oddW n tds with
                  | none => rfl
                  | some q =>
                    obtain ⟨k, j⟩ := q
                    rw [e2] at h
                    cases h
            · cases h
          | none => cases h
          | bool _ => cases h
          | int _ => cases h
          | str _ => cases h
          | list _ => cases h
          | dict _ => cases h
        | none => cases hs
        | bool _ => cases hs
        | tuple _ => cases hs
        | str _ => cases hs
        | list _ => cases hs
        | dict _ => cases hs
      · cases h
  | none => cases h
  | bool _ => cases h
  | int _ => cases h
  | str _ => cases h
  | list _ => cases h
  | dict _ => cases h
theorem tab_inv {sg : List (Str × Nat)} {n : Nat} {tds : List PyData} (so : SigOk sg) (n1 : 1 ≤ n) (n6 : n ≤ 6) (hl : tds.length = sg.length) (hb : badK sg n tds = []) (ho : oddW n tds = none) : ∀ x ∈ tds, ∃ cs, x = .tuple cs ∧ 1 ≤ cs.length ∧ cs.length ≤ 36 ∧ ∀ e ∈ cs, Gb 0 10 e := by
  intro x hx
  obtain ⟨k, hk, rfl⟩ := List.mem_iff_getElem.mp hx
  have b := nil_filt hb (i := k) (by omega)
  rw [Bool.not_eq_false'] at b
  have gd : tds.getD k .none = tds[k] := by rw [List.getD_eq_getElem?_getD, List.getElem?_eq_getElem hk]; rfl
  rw [gd] at b
  cases e : tds[k] with
  | tuple cs =>
    rw [e] at b gd
    have b2 : decide (cs.length = n ^ plOf sg k) = true := b
    rw [decide_eq_true_eq] at b2
    have pl : plOf sg k ≤ 2 := by
      rw [plOf, List.getD_eq_getElem?_getD, List.getElem?_eq_getElem (show k < sg.length by omega)]
      exact so.pl _ (List.getElem_mem _)
    have c1 : 1 ≤ n ^ plOf sg k := Nat.one_le_pow _ _ n1
    have c2 : n ^ plOf sg k ≤ 36 := Nat.le_trans (Nat.pow_le_pow_left n6 _) (Nat.le_trans (Nat.pow_le_pow_right (by decide) pl) (by decide))
    refine ⟨cs, rfl, by omega, by omega, fun y hy => ?_⟩
    have o2 : oddT n tds = [] := by
      rw [oddW] at ho
      cases z : oddT n tds with
      | nil => rfl
      | cons i r =>
        rw [z] at ho
        have mi : i ∈ oddT n tds := by rw [z]; exact List.mem_cons_self ..
        have zi := (List.mem_filter.mp mi).2
        rw [Bool.not_eq_true'] at zi
        cases z2 : oddRow n (cellsOf (tds.getD i .none)) with
        | nil =>
          rw [z2] at zi
          cases zi
        | cons j r2 =>
          have ho2 : (match oddRow n (cellsOf (tds.getD i .none)) with
            | j :: _ => some (i, j)
            | [] => none) = none := ho
          rw [z2] at ho2
          cases ho2
    have r := nil_filt o2 (i := k) hk
    rw [Bool.not_eq_false', gd] at r
    have r2 : oddRow n cs = [] := List.isEmpty_iff.mp r
    obtain ⟨j, hj, rfl⟩ := List.mem_iff_getElem.mp hy
    have f := nil_filt r2 (i := j) hj
    rw [Bool.not_eq_false', List.getD_eq_getElem?_getD, List.getElem?_eq_getElem hj] at f
    change belowB (n : Int) cs[j] = true at f
    cases e3 : cs[j] with
    | int i =>
      rw [e3] at f
      have f2 : (decide (0 ≤ i) && decide (i < (n : Int))) = true := f
      rw [Bool.and_eq_true, decide_eq_true_eq, decide_eq_true_eq] at f2
      obtain ⟨m, rfl⟩ : ∃ m : Nat, i = (m : Int) := ⟨i.toNat, by omega⟩
      exact gb_dig (by omega)
    | none => rw [e3] at f; cases f
    | bool _ => rw [e3] at f; cases f
    | str _ => rw [e3] at f; cases f
    | tuple _ => rw [e3] at f; cases f
    | list _ => rw [e3] at f; cases f
    | dict _ => rw [e3] at f; cases f
  | none => rw [e] at b; cases b
  | bool _ => rw [e] at b; cases b
  | int _ => rw [e] at b; cases b
  | str _ => rw [e] at b; cases b
  | list _ => rw [e] at b; cases b
  | dict _ => rw [e] at b; cases b
section
variable {P : Program} {w : World} {K : PySem.W.Frag} {mg : Str → Option Value} {base : Heap} {σ : L2.St} {H H' Hb : Hp} {p c : Addr} {n m k W : Nat} {v : V} {d : PyData}
theorem ep_cutBB {ta tb tc : TE} {a : Addr} {xs : List V} {i k : Nat} (h : Ev ta σ H (.ref a)) (hx : SqT K H a xs) (hb : Ev tb σ H (vi i)) (hc : Ev tc σ H (vi k)) (hi : i ≤ k) (hk : k ≤ xs.length) : EvP (tSl (rSlA K) ta (tPart tb) (tPart tc)) σ H (fun v H' => TupV K H' v ((xs.drop i).take (k - i))) := fun H1 e1 Q q =>
  h H1 e1 _ fun H2 e2 => hb H2 (e1.trans e2) _ fun H3 e3 => ⟨(i : Int), rfl, hc H3 ((e1.trans e2).trans e3) _ fun H4 e4 => ⟨(k : Int), rfl, a, xs, rfl, ex_t (((e1.trans e2).trans e3).trans e4) hx, fun z => by
    have z1 : HT.sIx xs.length 0 (some (i : Int)) = 0 := z.1
    have z2 : HT.sIx xs.length xs.length (some (k : Int)) = xs.length := z.2
    rw [show HT.sIx xs.length 0 (some (i : Int)) = min i xs.length from HT.sIx_nat _ _ i, Nat.min_eq_left (Nat.le_trans hi hk)] at z1
    rw [show HT.sIx xs.length xs.length (some (k : Int)) = min k xs.length from HT.sIx_nat _ _ k, Nat.min_eq_left hk] at z2
    refine q _ H4 ((e2.trans e3).trans e4) ⟨a, rfl, ?_⟩
    rw [z1, List.drop_zero, List.take_of_length_le (by omega)]
    exact ex_t (((e1.trans e2).trans e3).trans e4) hx, fun _ r nr => by
    have cut : cutV xs (some (i : Int)) (some (k : Int)) = (xs.drop i).take (k - i) := by
      unfold cutV
      rw [HT.sIx_nat, HT.sIx_nat, Nat.min_eq_left (Nat.le_trans hi hk), Nat.min_eq_left hk]
    rw [cut]
    exact q _ _ (((e2.trans e3).trans e4).trans (Ex.new nr)) ⟨r, rfl, st_of upd_same⟩⟩⟩
/-- lists of such, put together -/
theorem ep_catZ {ta tb : TE} (ha : EvP ta σ H (LsZ K p c k W m)) (hb : EvP tb σ H (LsZ K p c k W n)) (l : m + n ≤ 1000) {t : Nat} (pu : Pur H p c t) : EvP (tOp rCat ta tb) σ H (LsZ K p c k W (m + n)) := fun H1 e1 Q q => ha H1 e1 _ fun v H2 e2 hv => hb H2 (e1.trans e2) _ fun u H3 e3 hu => by
  obtain ⟨a, xs, rfl, hA, ap, ac, lx, zx⟩ := hv.ex e3
  obtain ⟨b, ys, rfl, hB, bp, bc, ly, zy⟩ := hu
  refine ⟨a, b, xs, ys, rfl, rfl, hA, hB, sz_of (by omega), fun r nr => ?_⟩
  obtain ⟨rp, rc⟩ := (pu.ex ((e1.trans e2).trans e3)).fresh nr
  refine q _ _ ((e2.trans e3).trans (Ex.new nr)) ⟨r, xs ++ ys, rfl, upd_same, rp, rc, by rw [List.length_append, lx, ly], fun x hx => ?_⟩
  rcases List.mem_append.mp hx with z | z
  · exact (zx x z).ex (Ex.new nr)
  · exact (zy x z).ex (Ex.new nr)
theorem ep_repZ {ta tb : TE} (ha : EvP ta σ H (LsZ K p c k W m)) (hb : ∀ H1, Ex H H1 → Ev tb σ H1 (vi n)) (l : m * n ≤ 1000) (n2 : n ≤ 1000) {t : Nat} (pu : Pur H p c t) : EvP (tOp rRep ta tb) σ H (LsZ K p c k W (m * n)) := fun H1 e1 Q q => ha H1 e1 _ fun v H2 e2 hv => hb H2 (e1.trans e2) H2 (Ex.refl _) _ fun H3 e3 => by
  obtain ⟨a, xs, rfl, hA, ap, ac, lx, zx⟩ := hv.ex e3
  refine ⟨a, (n : Int), xs, rfl, rfl, hA, by omega, by omega, by rw [Int.toNat_natCast, lx]; exact sz_of (by omega), fun r nr => ?_⟩
  rw [Int.toNat_natCast]
  obtain ⟨rp, rc⟩ := (pu.ex ((e1.trans e2).trans e3)).fresh nr
  refine q _ _ ((e2.trans e3).trans (Ex.new nr)) ⟨r, (List.replicate n xs).flatten, rfl, upd_same, rp, rc, by simp [lx, Nat.mul_comm], fun x hx => ?_⟩
  obtain ⟨l, hl, hx⟩ := List.mem_flatten.mp hx
  rw [(List.mem_replicate.mp hl).2] at hx
  exact (zx x hx).ex (Ex.new nr)
theorem ep_lz {te : TE} (h : Ev te σ H v) (hz : LsZ K p c k W n v H) : EvP te σ H (LsZ K p c k W n) := ep_ev h fun _ e => hz.ex e
end
end K12
end
section
namespace K12
open PySem PySem.Spec PyProof.Rows L2 Evl RZ Dw M20
section
variable {P : Program} {w : World} {K : PySem.W.Frag} {mg : Str → Option Value} {base : Heap} {σ : L2.St} {H H' Hb : Hp} {p c : Addr} {n m k W : Nat} {v : V} {d : PyData}
theorem ev_mn {i : Nat} {a : Nat} (h : σ[i]? = some (some (vi a))) : Ev (tCB (fun xs H Q => ∃ i j, xs = [.int i, .int j] ∧ Q (.int (if j < i then j else i)) H) (tCons (tC (.int 1)) (tCons (tVar i) tNil))) σ H (vi (min 1 a)) := ev_cb (vs := [.int 1, vi a]) (ea_cons ev_c (ea_cons (ev_var h) ea_nil)) (fun H3 e3 Q q => ⟨1, (a : Int), rfl, by
  have : (if (a : Int) < 1 then (a : Int) else 1) = ((min 1 a : Nat) : Int) := by
    split <;> omega
  rw [this]
  exact q H3 (Ex.refl _)⟩)
/-- a number below 8 -/
theorem ep_dig {te : TE} {i : Nat} {k W : Nat} (h : Ev te σ H (vi i)) (l : i ≤ 7) (w : 10 ≤ W) : EvP te σ H (ThZ K p c k W) := ep_ev h fun _ _ => ⟨_, .int _, (gb_dig l).mono (Nat.zero_le _) w⟩
theorem ep_addOne {ta te : TE} {xs : List V} {W2 : Nat} (ha : EvP ta σ H (fun v H' => TupV K H' v xs)) (he : EvP te σ H (ThZ K p c k W)) (hz : RwZ K p c k W2 xs H) (l : xs.length ≤ 1000) : EvP (tOp (rCatA K) ta (tTup (tCons te tNil))) σ H (ThZ K p c (k + 1) (W2 + (W + 1))) := fun H1 e1 Q q => ha H1 e1 _ fun v H2 e2 hv => do_tup (do_cons (he H2 (e1.trans e2) _ fun u H3 e3 hu => do_nil ⟨by show 1 ≤ sizeLine; decide, fun b nb => by
  have e4 : Ex H3 (upd H3 b (.tup [u])) := Ex.new nb
  refine cat_at (K := K) (xs := xs) (ys := [u]) (hv.ex (e3.trans e4)) ⟨b, rfl, st_of upd_same⟩ (by show xs.length + 1 ≤ 100000; omega) fun v' H5 e5 ht => q v' H5 (e2.trans (e3.trans (e4.trans e5))) ?_
  obtain ⟨a, rfl, s⟩ := ht
  obtain ⟨ds, r, g⟩ := hz.ex ((e1.trans e2).trans (e3.trans (e4.trans e5)))
  obtain ⟨d, z, gd⟩ := hu.ex (e4.trans e5)
  exact ⟨.tuple (ds ++ [d]), .tup s (r.app (.cons z .nil)), gb_tup (gba_app g (gba_one gd))⟩⟩))
theorem ep_repOne {te tk : TE} {j : Nat} (he : EvP te σ H (ThZ K p c k W)) (hk : ∀ H1, Ex H H1 → Ev tk σ H1 (vi j)) (l : j ≤ 10) : EvP (tOp (rRepTA K) (tTup (tCons te tNil)) tk) σ H (ThZ K p c (k + 1) (j * (W + 1))) := fun H1 e1 Q q => do_op (do_tup (do_cons (he H1 e1 _ fun u H2 e2 hu => do_nil ⟨by show 1 ≤ sizeLine; decide, fun b nb => by
  have e3 : Ex H2 (upd H2 b (.tup [u])) := Ex.new nb
  refine hk _ (e1.trans (e2.trans e3)) _ (Ex.refl _) _ fun H4 e4 => ?_
  have hb : SqT K H4 b [u] := ex_t e4 (st_of upd_same)
  have x14 : Ex H1 H4 := e2.trans (e3.trans e4)
  obtain ⟨d, z, gd⟩ := hu.ex (e3.trans e4)
  refine ⟨b, (j : Int), [u], rfl, rfl, hb, by simp, by omega, by omega, by show 1 ≤ 1000; decide, fun k0 r nr => ?_, fun k1 => ?_, fun k2 r nr => ?_⟩
  · refine q _ _ (x14.trans (Ex.new nr)) ⟨.tuple [], .tup (st_of upd_same) .nil, (gb_tup (k := 0) (W := 0) gba_nil).mono (by omega) (Nat.zero_le _)⟩
  · refine q _ _ x14 ⟨.tuple [d], .tup hb (.cons z .nil), (gb_tup (gba_one gd)).mono (Nat.le_refl _) ?_⟩
    rw [show j = 1 by omega, Nat.one_mul]
    exact Nat.le_refl _
  · refine q _ _ (x14.trans (Ex.new nr)) ⟨.tuple (List.replicate j d), .tup (st_of upd_same) ?_, gb_tup (gba_rep gd j)⟩
    rw [Int.toNat_natCast, flatten_rep]
    exact DzAll.rep (z.ex (Ex.new nr)) j⟩)))
theorem gimM : Gb 1 110 (.int (-1)) := (gb_int (by rw [PyData.weight]; decide) (by rw [PyData.intsShort]; decide) (by rw [PyData.showable]; decide)).mono (by decide) (by decide)
def sp_bentM (K : PySem.W.Frag) : Sp := fun vs H Q _ => ∃ (p c : Addr) (t : Nat) (dv v : V) (sg : List (Str × Nat)) (d : PyData), vs = [.ref p, dv, v] ∧ Pur H p c t ∧ t ≤ 80000 ∧ FSig K H dv sg ∧ SigOk sg ∧ Dz K p c H v d ∧ modW sg d = .none ∧ ∀ v' H' t', Off H H' p c → Pur H' p c t' → t' ≤ t + 5 → ThZ K p c 6 13000 v' H' → Q v' H'
theorem c_bentM (T : Txt mg) (D : Df K mg "_law_bent" s__law_bent ["_law_purse_here", "_law_deeds_here", "_law_thing"]) (c_draw : Cl P w K mg base 1 "_law_draw" sp_draw) (c_pick : Cl P w K mg base 2 "_law_pick" (sp_pick K)) : Cl P w K mg base 3 "_law_bent" (sp_bentM K) := by
  refine cl_of (k := 2) D sc__law_bent (fun vs H Q E h => ?_) (fun f cdv A outer s H vs Q E hr h => ?_)
  · obtain ⟨p, c, t, dv, v, sg, d, rfl, _⟩ := h
    rfl
  · obtain ⟨p, c, t, dv, v, sg, d, rfl, pu, t8, hF, so, hv, hm, q⟩ := h
    refine ⟨_, (pss_cons (ps_asg (pv 2) (pg_tup (by rfl) (pgs_cons (pg_name (i := 3) sc__law_bent.nd rfl (.inl rfl)) (pgs_cons (pg_name (i := 4) sc__law_bent.nd rfl (.inl rfl)) pgs_nil))))
      (pss_cons (ps_set (i := 5) sc__law_bent.nd rfl (.inl rfl) (pe_cl c_draw hr (by first | decide | omega) (by rfl) (pa_cons (pv 0) (pa_cons (pe_callB call_len_seq (by rfl) T.z_len PySem.boot_len (pa_cons (pv 4) pa_nil)) pa_nil))))
      (pss_cons (ps_set (i := 6) sc__law_bent.nd rfl (.inl rfl) (pe_ix ix_tup (pv 4) (pv 5) (fun _ _ => rfl)))
      (pss_cons (ps_set (i := 7) sc__law_bent.nd rfl (.inl rfl) (pe_cl c_draw hr (by first | decide | omega) (by rfl) (pa_cons (pv 0) (pa_cons (pe_callB call_len_seq (by rfl) T.z_len PySem.boot_len (pa_cons (pv 6) pa_nil)) pa_nil))))
      (pss_cons (ps_set (i := 8) sc__law_bent.nd rfl (.inl rfl) (pe_cl c_pick hr (by first | decide | omega) (by rfl) (pa_cons (pv 0) (pa_cons (pe_lst (pa_cons (pv 3) (pa_cons (pe_un un_neg pe_int) (pa_cons pe_bl (pa_cons pe_bl (pa_cons pe_str (pa_cons pe_non (pa_cons (pe_op op_pow pe_int pe_int) (pa_cons (pe_op op_add (pv 3) pe_int) (pa_cons (pe_tup (pa_cons pe_int pa_nil)) (pa_cons pe_int pa_nil))))))))))) pa_nil))))
      (pss_cons (ps_set (i := 9) sc__law_bent.nd rfl (.inl rfl) (pe_op op_catA (pe_op op_catA (pe_slice sl_tupA (pv 6) po_none (po_some (pv 7))) (pe_tup (pa_cons (pv 8) pa_nil))) (pe_slice sl_tupA (pv 6) (po_some (pe_op op_add (pv 7) pe_int)) po_none)))
      (pss_cons (ps_set (i := 10) sc__law_bent.nd rfl (.inl rfl) (pe_op op_catA (pe_op op_catA (pe_op op_catA (pe_op op_repTA (pe_tup (pa_cons (pv 8) pa_nil)) (pe_callB (call_min2 rfl) (by rfl) T.z_min (by decide +kernel) (pa_cons pe_int (pa_cons (pv 7) pa_nil)))) (pe_slice sl_tupA (pv 6) (po_some (pe_callB (call_min2 rfl) (by rfl) T.z_min (by decide +kernel) (pa_cons pe_int (pa_cons (pv 7) pa_nil)))) (po_some (pv 7)))) (pe_tup (pa_cons (pv 8) pa_nil))) (pe_slice sl_tupA (pv 6) (po_some (pe_op op_add (pv 7) pe_int)) po_none)))
      (pss_cons (ps_set (i := 11) sc__law_bent.nd rfl (.inl rfl) (pe_cl c_pick hr (by first | decide | omega) (by rfl) (pa_cons (pv 0) (pa_cons (pe_lst (pa_cons (pv 9) (pa_cons (pv 10) (pa_cons (pv 9) (pa_cons (pe_slice sl_tupA (pv 6) (po_some pe_int) po_none) (pa_cons (pe_op op_catA (pv 6) (pe_tup (pa_cons pe_int pa_nil))) (pa_cons (pe_callTy call_list_of (by rfl) T.z_list (by decide +kernel) (pa_cons (pv 6) pa_nil)) (pa_cons pe_non (pa_cons (pe_op op_repTA (pv 6) pe_int) (pa_cons (pe_tup pa_nil) pa_nil)))))))))) pa_nil))))
      (pss_cons (ps_set (i := 12) sc__law_bent.nd rfl (.inl rfl) (pe_op op_catA (pe_op op_catA (pe_slice sl_tupA (pv 4) po_none (po_some (pv 5))) (pe_tup (pa_cons (pv 11) pa_nil))) (pe_slice sl_tupA (pv 4) (po_some (pe_op op_add (pv 5) pe_int)) po_none)))
      (pss_cons (ps_set (i := 13) sc__law_bent.nd rfl (.inl rfl) (pe_op op_cat (pe_op op_rep (pe_lst (pa_cons (pe_tup (pa_cons (pv 3) (pa_cons (pv 12) pa_nil))) pa_nil)) pe_int) (pe_lst (pa_cons (pe_tup (pa_cons pe_int (pa_cons (pv 4) pa_nil))) (pa_cons (pe_tup (pa_cons pe_int (pa_cons (pv 4) pa_nil))) (pa_cons (pe_tup (pa_cons (pe_un un_neg pe_int) (pa_cons (pv 4) pa_nil))) (pa_cons (pe_tup (pa_cons pe_bl (pa_cons (pv 4) pa_nil))) pa_nil)))))))
      (pss_cons (ps_set (i := 13) sc__law_bent.nd rfl (.inl rfl) (pe_op op_cat (pv 13) (pe_lst (pa_cons (pe_tup (pa_cons (pe_callTy call_str_int (by rfl) T.z_str (by decide +kernel) (pa_cons (pv 3) pa_nil)) (pa_cons (pv 4) pa_nil))) (pa_cons (pe_tup (pa_cons (pe_op op_add (pe_op op_mod (pv 3) pe_int) pe_int) (pa_cons (pv 4) pa_nil))) (pa_cons (pe_tup (pa_cons pe_non (pa_cons (pv 4) pa_nil))) pa_nil))))))
      (pss_cons (ps_set (i := 13) sc__law_bent.nd rfl (.inl rfl) (pe_op op_cat (pv 13) (pe_lst (pa_cons (pe_tup (pa_cons (pv 3) (pa_cons (pe_slice sl_tupA (pv 4) (po_some pe_int) po_none) pa_nil))) (pa_cons (pe_tup (pa_cons (pv 3) (pa_cons (pe_op op_catA (pv 4) (pe_tup (pa_cons (pe_tup (pa_cons pe_int pa_nil)) pa_nil))) pa_nil))) (pa_cons (pe_tup (pa_cons (pv 3) (pa_cons (pe_callTy call_list_of (by rfl) T.z_list (by decide +kernel) (pa_cons (pv 4) pa_nil)) pa_nil))) pa_nil))))))
      (pss_cons (ps_set (i := 13) sc__law_bent.nd rfl (.inl rfl) (pe_op op_cat (pv 13) (pe_lst (pa_cons (pe_tup (pa_cons (pv 3) (pa_cons pe_non pa_nil))) (pa_cons (pe_tup (pa_cons (pv 3) pa_nil)) (pa_cons pe_non (pa_cons (pv 4) (pa_cons (pe_tup (pa_cons (pv 3) (pa_cons (pv 4) (pa_cons pe_int pa_nil)))) (pa_cons (pe_lst (pa_cons (pv 3) (pa_cons (pv 4) pa_nil))) pa_nil)))))))))
      (pss_cons (ps_set (i := 13) sc__law_bent.nd rfl (.inl rfl) (pe_op op_cat (pv 13) (pe_lst (pa_cons (pe_tup pa_nil) (pa_cons (pe_tup (pa_cons (pv 4) (pa_cons (pv 3) pa_nil))) pa_nil)))))
      (pss_cons (ps_set (i := 13) sc__law_bent.nd rfl (.inl rfl) (pe_op op_cat (pv 13) (pe_lst (pa_cons (pe_tup (pa_cons pe_int (pa_cons (pe_op op_repTA (pe_tup (pa_cons (pe_tup (pa_cons pe_int pa_nil)) pa_nil)) (pe_callB call_len_seq (by rfl) T.z_len PySem.boot_len (pa_cons (pv 1) pa_nil))) pa_nil))) (pa_cons pe_str pa_nil)))))
      (pss_one (ps_ret (pe_cl c_pick hr (by first | decide | omega) (by rfl) (pa_cons (pv 0) (pa_cons (pv 13) pa_nil)))))))))))))))))))), ?_⟩
    obtain ⟨n, tds, rfl, n1, n6, hl, hb, ho⟩ := modW_inv hm
    have tab := tab_inv so n1 n6 hl hb ho
    obtain ⟨b, xs, ds, rfl, eds, hB, r⟩ := tup_of hv rfl
    cases eds
    cases r with
    | @cons x1 xs1 _ _ z1 r =>
    cases r with
    | @cons x2 xs2 _ _ z2 r =>
    cases r
    cases z1
    obtain ⟨ta, us, tds', rfl, etds, hT, rT⟩ := tup_of z2 rfl
    cases etds
    obtain ⟨sa, so1, ps, rfl, hsa, sod, prs⟩ := id hF
    have sqS : SqT K H sa (ps.map V.ref) := .inl (.inr ⟨so1, hsa⟩)
    have lps := paired_len prs
    have lT := rT.len
    have l1 := so.l1
    have l4 := so.l4
    have gT : GbA 1 1600 tds := (gba_all (k := 1) (W := 397) fun x hx => by
      obtain ⟨cs, rfl, c1, c36, ge⟩ := tab x hx
      exact (gb_tup (gba_all ge)).mono (Nat.le_refl _) (by omega)).mono (Nat.le_refl _) (by omega)
    refine do_setG (do_ev (ev_var rfl) fun H1 e1 => ⟨b, _, rfl, ex_t e1 hB, rfl, _, _, rfl, _, _, rfl, rfl, ?_⟩)
    show tSeq _ _ _ [some (.ref p), some (.ref sa), some (.ref b), some (vi n), some (.ref ta), none, none, none, none, none, none, none, none, none] H1
    have pu1 := pu.ex e1
    refine do_set (do_draw (n := us.length) (ev_var rfl) (ev_lenT (ev_var rfl) (ex_t e1 hT)) pu1 (by omega) (by omega) (by omega) fun kk H2 hkk o2 pu2 => ?_)
    have o02 : Off H H2 p c := (Off.of_ex e1).trans o2
    show tSeq _ _ _ [some (.ref p), some (.ref sa), some (.ref b), some (vi n), some (.ref ta), some (vi kk), none, none, none, none, none, none, none, none] H2
    have hx : us[kk]? = some us[kk] := List.getElem?_eq_getElem hkk
    obtain ⟨de, hde, hxz⟩ := rT.get hx
    obtain ⟨cs, rfl, c1, c36, ge⟩ := tab de (List.mem_of_getElem? hde)
    obtain ⟨ca, cvs, cs', ecv, ecs, hC, rC⟩ := tup_of hxz rfl
    cases ecs
    have lC := rC.len
    have gC : GbA 0 396 cs := (gba_all ge).mono (Nat.le_refl _) (by omega)
    refine q_asg (v := .ref ca) (ev_op (ev_var rfl) (ev_var rfl) (rv_ixT (K := K) (o02.et pu _ _ hT) (atI_nat (by rw [hx, ecv])))) fun H3 e3 => ?_
    have o03 : Off H H3 p c := o02.trans (.of_ex e3)
    show tSeq _ _ _ [some (.ref p), some (.ref sa), some (.ref b), some (vi n), some (.ref ta), some (vi kk), some (.ref ca), none, none, none, none, none, none, none] H3
    refine do_set (do_draw (n := cvs.length) (ev_var rfl) (ev_lenT (ev_var rfl) (o03.et pu _ _ hC)) (pu2.ex e3) (by omega) (by omega) (by omega) fun aa H4 haa o4 pu4 => ?_)
    have o04 : Off H H4 p c := o03.trans o4
    show tSeq _ _ _ [some (.ref p), some (.ref sa), some (.ref b), some (vi n), some (.ref ta), some (vi kk), some (.ref ca), some (vi aa), none, none, none, none, none, none] H4
    refine do_set (do_pickN (K := K) (k := 1) (W := 110) (n := 10) (ezs_cons (ep_dig (ev_var rfl) (by omega) (by decide)) (ezs_cons (ep_ev (v := .int (-1)) (ev_un ev_c ru_neg) (fun _ _ => ⟨_, .int _, gimM⟩)) (ezs_cons (ep_zc (fun _ => .bl _) ((gb_bool _).mono (by decide) (by decide))) (ezs_cons (ep_zc (fun _ => .bl _) ((gb_bool _).mono (by decide) (by decide))) (ezs_cons (ep_zc (fun _ => .str _) ((gb_str (by decide)).mono (by decide) (by decide))) (ezs_cons (ep_zc (fun _ => .non) (gb_none.mono (by decide) (by decide))) (ezs_cons (ep_ev (v := .int (10 ^ 29)) (ev_is (ev_op ev_c ev_c (rv_I ⟨by decide, by decide, by decide⟩)) rfl) (fun _ _ => ⟨_, .int _, gb_29.mono (by decide) (by decide)⟩)) (ezs_cons (ep_dig (i := n + 1) (ev_addM (a := n) (b := 1) (ev_var rfl) ev_c) (by omega) (by decide)) (ezs_cons (ep_mono (ep_tupN (k := 0) (W := 10) (n := 1) (ezs_cons (ep_dig (i := 0) ev_c (by decide) (by decide)) ezs_nil) (by decide)) (by decide) (by decide)) (ezs_cons (ep_dig (i := 0) ev_c (by decide) (by decide)) ezs_nil)))))))))) (ev_var rfl) pu4 (by omega) (by decide) (by decide) fun od H5 o5 pu5 hod => ?_)
    have o05 : Off H H5 p c := o04.trans o5
    show tSeq _ _ _ [some (.ref p), some (.ref sa), some (.ref b), some (vi n), some (.ref ta), some (vi kk), some (.ref ca), some (vi aa), some od, none, none, none, none, none] H5
    have hC5 := o05.et pu _ _ hC
    have rC5 := rC.off pu o05
    have hT5 := o05.et pu _ _ hT
    have rT5 := rT.off pu o05
    have hS5 := o05.et pu _ _ sqS
    obtain ⟨eo, zo, go⟩ := hod
    have gC1 : GbA 1 396 cs := gC.mono (by decide) (Nat.le_refl _)
    refine q_asgP (ep_mono (k' := 2) (W' := 1100) (ep_tupz (K := K) (p := p) (c := c) (k := 1) (W := 396 + (110 + 1) + 396) (ep_cat (K := K) (ep_cat (K := K) (ep_cutTo (K := K) (k := aa) (ev_var rfl) hC5 (ev_var rfl) (by omega)) (ep_tup1 (K := K) (ev_var rfl)) (by rw [List.length_take]; show _ + 1 ≤ 100000; omega)) (ep_cutFrom (K := K) (k := aa + 1) (ev_var rfl) hC5 (ev_addM (a := aa) (b := 1) (ev_var rfl) ev_c) (by omega)) (by rw [List.length_append, List.length_take, List.length_drop]; show _ + 1 + _ ≤ 100000; omega)) ⟨_, ((rC5.take aa).app (.cons zo .nil)).app (rC5.drop (aa + 1)), gba_app (gba_app (gba_take aa gC1) (gba_one go)) (gba_drop (aa + 1) gC1)⟩) (by decide) (by decide)) fun cv H6 e6 hcv => ?_
    show tSeq _ _ _ [some (.ref p), some (.ref sa), some (.ref b), some (vi n), some (.ref ta), some (vi kk), some (.ref ca), some (vi aa), some od, some cv, none, none, none, none] H6
    have hC6 := ex_t e6 hC5
    have rC6 := rC5.ex e6
    have zo6 := zo.ex e6
    refine q_asgP (ep_mono (k' := 2) (W' := 1100) (ep_tupz (K := K) (p := p) (c := c) (k := 1) (W := min 1 aa * (110 + 1) + 396 + (110 + 1) + 396) (ep_cat (K := K) (ep_cat (K := K) (ep_cat (K := K) ((ep_repT (K := K) (x := od) (k := ((min 1 aa : Nat) : Int)) (j := min 1 aa) (ev_var rfl) (fun H' e' => ev_mn rfl) (by omega) (by omega) (Int.toNat_natCast _)).imp fun _ _ _ z => z) (ep_cutBB (K := K) (i := min 1 aa) (k := aa) (ev_var rfl) hC6 (ev_mn rfl) (ev_var rfl) (by omega) (by omega)) (by rw [List.length_replicate, List.length_take, List.length_drop]; omega)) (ep_tup1 (K := K) (ev_var rfl)) (by rw [List.length_append, List.length_replicate, List.length_take, List.length_drop]; show _ + 1 ≤ 100000; omega)) (ep_cutFrom (K := K) (k := aa + 1) (ev_var rfl) hC6 (ev_addM (a := aa) (b := 1) (ev_var rfl) ev_c) (by omega)) (by rw [List.length_append, List.length_append, List.length_replicate, List.length_take, List.length_drop, List.length_drop]; show _ + 1 + _ ≤ 100000; omega)) ⟨_, (((DzAll.rep zo6 (min 1 aa)).app ((rC6.drop (min 1 aa)).take (aa - min 1 aa))).app (.cons zo6 .nil)).app (rC6.drop (aa + 1)), gba_app (gba_app (gba_app (gba_rep go (min 1 aa)) (gba_take _ (gba_drop _ gC1))) (gba_one go)) (gba_drop (aa + 1) gC1)⟩) (by decide) (by omega)) fun bv H7 e7 hbv => ?_
    show tSeq _ _ _ [some (.ref p), some (.ref sa), some (.ref b), some (vi n), some (.ref ta), some (vi kk), some (.ref ca), some (vi aa), some od, some cv, some bv, none, none, none] H7
    have e57 := e6.trans e7
    have hC7 := ex_t e57 hC5
    have rC7 := rC5.ex e57
    have hcv7 := hcv.ex e7
    have pu7 := pu5.ex e57
    refine do_set (do_pickN (K := K) (k := 2) (W := 1100) (n := 9) (ezs_cons (ep_z (ev_var rfl) hcv7) (ezs_cons (ep_z (ev_var rfl) hbv) (ezs_cons (ep_z (ev_var rfl) hcv7) (ezs_cons (ep_mono (ep_tupz (K := K) (p := p) (c := c) (k := 0) (W := 396) (ep_cutFrom (K := K) (k := 1) (ev_var rfl) hC7 ev_c (by omega)) ⟨_, rC7.drop 1, gba_drop 1 gC⟩) (by decide) (by decide)) (ezs_cons (ep_mono (ep_tupz (K := K) (p := p) (c := c) (k := 0) (W := 396 + (10 + 1)) (ep_cat (K := K) (xs := cvs) (ep_ev (ev_var rfl) fun H' e' => ⟨ca, rfl, ex_t e' hC7⟩) (ep_tup1 (K := K) (ev_c (v := .int 0))) (by show cvs.length + 1 ≤ 100000; omega)) ⟨_, rC7.app (.cons (.int 0) .nil), gba_app gC (gba_one (gb_dig (i := 0) (by decide)))⟩) (by decide) (by decide)) (ezs_cons ?_ (ezs_cons (ep_zc (fun _ => .non) (gb_none.mono (by decide) (by decide))) (ezs_cons ?_ (ezs_cons (ep_mono (ep_tupN (k := 0) (W := 0) ezs_nil (by decide)) (by decide) (by decide)) ezs_nil))))))))) (ev_var rfl) pu7 (by omega) (by decide) (by decide) fun wv H8 o8 pu8 hwv => ?_)
    · intro H13 e13 Q6 q6
      refine el_listT (K := K) (ev_var rfl) hC7 H13 e13 _ fun l H14 nl e14 hl14 => q6 _ H14 e14 ?_
      obtain ⟨lp, lc⟩ := (pu7.ex e13).fresh nl
      exact ⟨.list _, .lst hl14 lp lc (rC7.ex (e13.trans e14)), (gb_lst gC).mono (by decide) (by decide)⟩
    · intro H13 e13 Q6 q6
      refine do_op (do_ev (ev_var rfl) fun H14 e14 => do_ev ev_c fun H15 e15 => ?_)
      have e1315 := e14.trans e15
      refine ⟨ca, 2, cvs, rfl, rfl, ex_t (e13.trans e1315) hC7, fun z => ?_, by decide, by decide, by omega, fun z => absurd z (by decide), fun z => absurd z (by decide), fun _ p' np => ?_⟩
      · rw [z] at haa
        exact absurd haa (Nat.not_lt_zero _)
      · refine q6 _ _ (e1315.trans (Ex.new np)) ⟨.tuple (cs ++ cs), .tup (st_of upd_same) ?_, (gb_tup (gba_app gC gC)).mono (by decide) (by decide)⟩
        rw [show ((2 : Int).toNat) = 2 from rfl, show (List.replicate 2 cvs).flatten = cvs ++ cvs by simp [List.replicate]]
        exact (rC7.ex (e13.trans (e1315.trans (Ex.new np)))).app (rC7.ex (e13.trans (e1315.trans (Ex.new np))))
    have o58 : Off H5 H8 p c := (Off.of_ex e57).trans o8
    have o08 : Off H H8 p c := o05.trans o58
    show tSeq _ _ _ [some (.ref p), some (.ref sa), some (.ref b), some (vi n), some (.ref ta), some (vi kk), some (.ref ca), some (vi aa), some od, some cv, some bv, some wv, none, none] H8
    have hT8 := o08.et pu _ _ hT
    have rT8 := rT.off pu o08
    obtain ⟨ew, zw, gw⟩ := hwv
    have gT2 : GbA 2 1600 tds := gT.mono (by decide) (Nat.le_refl _)
    refine q_asgP (ep_mono (k' := 3) (W' := 4400) (ep_tupz (K := K) (p := p) (c := c) (k := 2) (W := 1600 + (1100 + 1) + 1600) (ep_cat (K := K) (ep_cat (K := K) (ep_cutTo (K := K) (k := kk) (ev_var rfl) hT8 (ev_var rfl) (by omega)) (ep_tup1 (K := K) (ev_var rfl)) (by rw [List.length_take]; show _ + 1 ≤ 100000; omega)) (ep_cutFrom (K := K) (k := kk + 1) (ev_var rfl) hT8 (ev_addM (a := kk) (b := 1) (ev_var rfl) ev_c) (by omega)) (by rw [List.length_append, List.length_take, List.length_drop]; show _ + 1 + _ ≤ 100000; omega)) ⟨_, ((rT8.take kk).app (.cons zw .nil)).app (rT8.drop (kk + 1)), gba_app (gba_app (gba_take kk gT2) (gba_one gw)) (gba_drop (kk + 1) gT2)⟩) (by decide) (by decide)) fun mv H9 e9 hmv => ?_
    have pu9 := pu8.ex e9
    have o09 : Off H H9 p c := o08.trans (.of_ex e9)
    have hT9 := ex_t e9 hT8
    have rT9 := rT8.ex e9
    have tb : ∀ {s : L2.St} {H2 : Hp}, s[4]? = some (some (.ref ta)) → Ex H9 H2 → EvP (tVar 4) s H2 (ThZ K p c 4 4400) := fun {s H2} h4 e => ep_z (ev_var h4) ⟨.tuple tds, .tup (ex_t e hT9) (rT9.ex e), (gb_tup gT).mono (by decide) (by decide)⟩
    have sz : ∀ {s : L2.St} {H2 : Hp}, s[3]? = some (some (vi n)) → EvP (tVar 3) s H2 (ThZ K p c 4 4400) := fun {s H2} h3 => ep_dig (ev_var h3) (by omega) (by decide)
    have two : ∀ {t1 t2 : TE} {s : L2.St} {H2 : Hp}, EvP t1 s H2 (ThZ K p c 4 4400) → EvP t2 s H2 (ThZ K p c 4 4400) → EvP (tTup (tCons t1 (tCons t2 tNil))) s H2 (ThZ K p c 6 13000) := fun {t1 t2 s H2} h1 h2 => ep_mono (ep_tupN (k := 4) (W := 4400) (ezs_cons h1 (ezs_cons h2 ezs_nil)) (by decide)) (by decide) (by decide)
    have up : ∀ {t1 : TE} {s : L2.St} {H2 : Hp}, EvP t1 s H2 (ThZ K p c 4 4400) → EvP t1 s H2 (ThZ K p c 6 13000) := fun {t1 s H2} h => ep_mono h (by decide) (by decide)
    have dg : ∀ {i : Nat} {s : L2.St} {H2 : Hp}, i ≤ 7 → EvP (tC (vi i)) s H2 (ThZ K p c 4 4400) := fun {i s H2} h => ep_dig ev_c h (by decide)
    show tSeq _ _ _ [some (.ref p), some (.ref sa), some (.ref b), some (vi n), some (.ref ta), some (vi kk), some (.ref ca), some (vi aa), some od, some cv, some bv, some wv, some mv, none] H9
    refine q_asgP (ep_catZ (K := K) (p := p) (c := c) (k := 6) (W := 13000) (m := 1 * 9) (n := 4) (ep_repZ (K := K) (m := 1) (n := 9) (ep_lstL (K := K) (ezs_cons (two (sz rfl) (ep_mono (ep_z (ev_var rfl) hmv) (by decide) (by decide))) ezs_nil) (by decide) pu9) (fun H1 _ => ev_c) (by decide) (by decide) pu9) (ep_lstL (K := K) (ezs_cons (two (dg (i := 0) (by decide)) (tb rfl (Ex.refl _))) (ezs_cons (two (dg (i := 7) (by decide)) (tb rfl (Ex.refl _))) (ezs_cons (two (ep_ev (v := .int (-1)) (ev_un ev_c ru_neg) (fun _ _ => ⟨_, .int _, gimM.mono (by decide) (by decide)⟩)) (tb rfl (Ex.refl _))) (ezs_cons (two (ep_zc (fun _ => .bl _) ((gb_bool _).mono (by decide) (by decide))) (tb rfl (Ex.refl _))) ezs_nil)))) (by decide) pu9) (by decide) pu9) fun s1 H10 e10 hs1 => ?_
    have pu10 := pu9.ex e10
    show tSeq _ _ _ [some (.ref p), some (.ref sa), some (.ref b), some (vi n), some (.ref ta), some (vi kk), some (.ref ca), some (vi aa), some od, some cv, some bv, some wv, some mv, some s1] H10
    refine q_asgP (ep_catZ (K := K) (p := p) (c := c) (k := 6) (W := 13000) (m := 13) (n := 3) (ep_lz (ev_var rfl) hs1) (ep_lstL (K := K) (ezs_cons (two (ep_ev (v := .str (toString (n : Int))) (ev_cb (vs := [vi n]) (ea_cons (ev_var rfl) ea_nil) (fun H3 e3 Q q => ⟨(n : Int), rfl, ?_, q H3 (Ex.refl _)⟩)) (fun _ _ => ⟨_, .str _, (gb_strD (by omega)).mono (by decide) (by decide)⟩)) (tb rfl e10)) (ezs_cons (two (ep_dig (i := n % 6 + 1) (ev_addM (a := n % 6) (b := 1) (ev_is (ev_op (ev_var rfl) ev_c (rv_I (by decide))) ?_) ev_c) (by omega) (by decide)) (tb rfl e10)) (ezs_cons (two (ep_zc (fun _ => .non) (gb_none.mono (by decide) (by decide))) (tb rfl e10)) ezs_nil))) (by decide) pu10) (by decide) pu10) fun s2 H11 e11 hs2 => ?_
    · have : n = 1 ∨ n = 2 ∨ n = 3 ∨ n = 4 ∨ n = 5 ∨ n = 6 := by omega
      rcases this with rfl | rfl | rfl | rfl | rfl | rfl <;> decide
    · rfl
    have e911 := e10.trans e11
    have pu11 := pu9.ex e911
    have hT11 := ex_t e911 hT9
    have rT11 := rT9.ex e911
    show tSeq _ _ _ [some (.ref p), some (.ref sa), some (.ref b), some (vi n), some (.ref ta), some (vi kk), some (.ref ca), some (vi aa), some od, some cv, some bv, some wv, some mv, some s2] H11
    refine q_asgP (ep_catZ (K := K) (p := p) (c := c) (k := 6) (W := 13000) (m := 16) (n := 3) (ep_lz (ev_var rfl) hs2) (ep_lstL (K := K) (ezs_cons (two (sz rfl) (ep_mono (ep_tupz (K := K) (p := p) (c := c) (k := 1) (W := 1600) (ep_cutFrom (K := K) (k := 1) (ev_var rfl) hT11 ev_c (by omega)) ⟨_, rT11.drop 1, gba_drop 1 gT⟩) (by decide) (by decide))) (ezs_cons (two (sz rfl) (ep_mono (ep_addOne (K := K) (k := 1) (W := 11) (W2 := 1600) (xs := us) (ep_ev (ev_var rfl) fun H' e' => ⟨ta, rfl, ex_t e' hT11⟩) (ep_tupN (k := 0) (W := 10) (n := 1) (ezs_cons (ep_dig (i := 0) ev_c (by decide) (by decide)) ezs_nil) (by decide)) ⟨_, rT11, gT⟩ (by omega)) (by decide) (by decide))) (ezs_cons (two (sz rfl) ?_) ezs_nil))) (by decide) pu11) (by decide) pu11) fun s3 H12 e12 hs3 => ?_
    · intro H13 e13 Q6 q6
      refine el_listT (K := K) (ev_var rfl) hT11 H13 e13 _ fun l H14 nl e14 hl14 => q6 _ H14 e14 ?_
      obtain ⟨lp, lc⟩ := (pu11.ex e13).fresh nl
      exact ⟨.list _, .lst hl14 lp lc (rT11.ex (e13.trans e14)), (gb_lst gT).mono (by decide) (by decide)⟩
    have e912 := e911.trans e12
    have pu12 := pu9.ex e912
    show tSeq _ _ _ [some (.ref p), some (.ref sa), some (.ref b), some (vi n), some (.ref ta), some (vi kk), some (.ref ca), some (vi aa), some od, some cv, some bv, some wv, some mv, some s3] H12
    refine q_asgP (ep_catZ (K := K) (p := p) (c := c) (k := 6) (W := 13000) (m := 19) (n := 6) (ep_lz (ev_var rfl) hs3) (ep_lstL (K := K) (ezs_cons (two (sz rfl) (ep_zc (fun _ => .non) (gb_none.mono (by decide) (by decide)))) (ezs_cons (ep_mono (ep_tupN (k := 4) (W := 4400) (n := 1) (ezs_cons (sz rfl) ezs_nil) (by decide)) (by decide) (by decide)) (ezs_cons (ep_zc (fun _ => .non) (gb_none.mono (by decide) (by decide))) (ezs_cons (up (tb rfl e912)) (ezs_cons (ep_mono (ep_tupN (k := 4) (W := 4300) (n := 3) (ezs_cons (ep_dig (ev_var rfl) (by omega) (by decide)) (ezs_cons (ep_z (ev_var rfl) ⟨.tuple tds, .tup (ex_t e912 hT9) (rT9.ex e912), (gb_tup gT).mono (by decide) (by decide)⟩) (ezs_cons (ep_dig (i := 0) ev_c (by decide) (by decide)) ezs_nil))) (by decide)) (by decide) (by decide)) (ezs_cons (ep_mono (ep_lstN (k := 4) (W := 4400) (n := 2) (ezs_cons (sz rfl) (ezs_cons (tb rfl e912) ezs_nil)) (by decide) pu12) (by decide) (by decide)) ezs_nil)))))) (by decide) pu12) (by decide) pu12) fun s4 H13 e13 hs4 => ?_
    have e913 := e912.trans e13
    have pu13 := pu9.ex e913
    show tSeq _ _ _ [some (.ref p), some (.ref sa), some (.ref b), some (vi n), some (.ref ta), some (vi kk), some (.ref ca), some (vi aa), some od, some cv, some bv, some wv, some mv, some s4] H13
    refine q_asgP (ep_catZ (K := K) (p := p) (c := c) (k := 6) (W := 13000) (m := 25) (n := 2) (ep_lz (ev_var rfl) hs4) (ep_lstL (K := K) (ezs_cons (ep_mono (ep_tupN (k := 0) (W := 0) ezs_nil (by decide)) (by decide) (by decide)) (ezs_cons (two (tb rfl e913) (sz rfl)) ezs_nil)) (by decide) pu13) (by decide) pu13) fun s5 H14 e14 hs5 => ?_
    have e914 := e913.trans e14
    have pu14 := pu9.ex e914
    have hS14 := ex_t e914 (o09.et pu _ _ sqS)
    show tSeq _ _ _ [some (.ref p), some (.ref sa), some (.ref b), some (vi n), some (.ref ta), some (vi kk), some (.ref ca), some (vi aa), some od, some cv, some bv, some wv, some mv, some s5] H14
    refine q_asgP (ep_catZ (K := K) (p := p) (c := c) (k := 6) (W := 13000) (m := 27) (n := 2) (ep_lz (ev_var rfl) hs5) (ep_lstL (K := K) (ezs_cons (two (dg (i := 1) (by decide)) (ep_mono (ep_repOne (K := K) (k := 1) (W := 11) (j := (ps.map V.ref).length) (ep_tupN (k := 0) (W := 10) (n := 1) (ezs_cons (ep_dig (i := 0) ev_c (by decide) (by decide)) ezs_nil) (by decide)) (fun H1 e' => ev_lenT (ev_var rfl) (ex_t e' hS14)) (by rw [List.length_map]; omega)) (by decide) (by rw [List.length_map]; omega))) (ezs_cons (ep_zc (fun _ => .str _) ((gb_str (by decide)).mono (by decide) (by decide))) ezs_nil)) (by decide) pu14) (by decide) pu14) fun s6 H15 e15 hs6 => ?_
    have e915 := e914.trans e15
    have pu15 := pu9.ex e915
    show tRet _ _ [some (.ref p), some (.ref sa), some (.ref b), some (vi n), some (.ref ta), some (vi kk), some (.ref ca), some (vi aa), some od, some cv, some bv, some wv, some mv, some s6] H15
    obtain ⟨l, vs, rfl, hl15, lp, lc, ln, hv15⟩ := hs6
    refine do_ret (do_cons (do_ev (ev_var rfl) fun H16 e16 => do_cons (do_ev (ev_var rfl) fun H17 e17 => do_nil ⟨p, c, t + 4, ?_, by omega, .inr ⟨l, vs, rfl, .inl (sq_of ((e16.trans e17) _ _ hl15)), lp, lc, by omega, by omega, fun j x H18 hx18 o18 pu18 => ?_⟩⟩)))
    · exact pu15.ex (e16.trans e17)
    · have e1517 := e16.trans e17
      exact q x H18 (t + 5) ((o09.trans (.of_ex (e915.trans e1517))).trans o18) pu18 (by omega) (((hv15 x (List.mem_of_getElem? hx18)).ex e1517).off (pu15.ex e1517) o18)
end
end K12
end
section
namespace K12
open PySem PySem.Spec PyProof.Rows L2 Evl RZ Dw M20
section
variable {P : Program} {w : World} {K : PySem.W.Frag} {mg : Str → Option Value} {base : Heap} {σ : L2.St} {H H' Hb : Hp} {p c : Addr} {n m k W : Nat} {v : V} {d : PyData} {S0 G0 C0 a1 a2 a3 a4 a5 a6 a7 a8 a9 : Addr}
def sp_refM (K : PySem.W.Frag) : Sp := spX (fun (z : (Addr × Addr) × Nat × List (Str × Nat) × PyData) vs H => (∃ u v, vs = [vi z.2.1, u, v] ∧ FSig K H u z.2.2.1 ∧ Dz K z.1.1 z.1.2 H v z.2.2.2) ∧ z.2.1 < 5 ∧ (z.2.1 = 4 → ∃ x y, z.2.2.2 = .tuple [x, y]) ∧ SigOk z.2.2.1 ∧ modW z.2.2.1 z.2.2.2 ≠ .none) (fun _ v _ => v = .bl true)
theorem c_refM (T : Txt mg) (D : Df K mg "_law_refused" s__law_refused ["_law_which", "_law_deeds_here", "_law_thing"]) (er : ErM K mg S0 G0 a1 a2 a3 a4 a5 a6 a7 a8 a9) (c_worth_byM : ClX P w K mg base 8 "worth_by" (spE S0 (MBad K 2))) (c_keepsM : ClX P w K mg base 10 "keeps" (spE S0 (KBad K))) (c_told_byM : ClX P w K mg base 8 "told_by" (spE S0 (MBad K 1))) (c_model_textM : ClX P w K mg base 8 "model_text" (spE S0 (MBad K 0))) (c_ModelM : ClM P w K mg base 8 "Model" C0 (spE S0 (CBad K))) : Cl P w K mg base 11 "_law_refused" (sp_refM K) := by
  refine cl_of (k := 10) D sc__law_refused (fun vs H Q E h => ?_) (fun f cdv A outer s H vs Q E hr h => ?_)
  · obtain ⟨q, ⟨⟨u, v, rfl, _⟩, _⟩, _⟩ := h
    rfl
  · obtain ⟨⟨⟨p, c⟩, which, sg, d⟩, ⟨⟨u, v, rfl, hF, hv⟩, w5, two, so, bad⟩, q⟩ := h
    refine ⟨_, (pss_cons (ps_set (i := 3) sc__law_refused.nd rfl (.inl rfl) pe_non)
      (pss_cut (ps_try_trk (i := 4) rfl rfl rfl sc__law_refused.nd rfl rfl ⟨rfl, by decide, .inl er.g⟩ (fun W pn xe tk _ => (pss_cons (ps_if (pt_cmpR op_eq (pv 0) pe_int (nomark _)) (pss_one (ps_expr (pe_clX c_worth_byM tk hr (by first | decide | omega) (by rfl) (pa_cons (pv 1) (pa_cons (pv 2) (pa_cons pe_non (pa_cons pe_non pa_nil))))))) pss_nil) (pss_cons (ps_if (pt_cmpR op_eq (pv 0) pe_int (nomark _)) (pss_one (ps_expr (pe_clX c_keepsM tk hr (by first | decide | omega) (by rfl) (pa_cons (pe_tup (pa_cons (pv 1) (pa_cons (pe_tup pa_nil) pa_nil))) (pa_cons (pv 2) pa_nil))))) pss_nil) (pss_cons (ps_if (pt_cmpR op_eq (pv 0) pe_int (nomark _)) (pss_one (ps_expr (pe_clX c_told_byM tk hr (by first | decide | omega) (by rfl) (pa_cons (pv 1) (pa_cons (pv 2) (pa_cons (pe_lst (pa_cons pe_non pa_nil)) pa_nil)))))) pss_nil) (pss_cons (ps_if (pt_cmpR op_eq (pv 0) pe_int (nomark _)) (pss_one (ps_expr (pe_clX c_model_textM tk hr (by first | decide | omega) (by rfl) (pa_cons (pv 1) (pa_cons (pv 2) pa_nil))))) pss_nil) (pss_one (ps_if (pt_cmpR op_eq (pv 0) pe_int (nomark _)) (pss_one (ps_expr (pe_clM c_ModelM tk hr (by first | decide | omega) (by rfl) (pa_cons (pv 1) (pa_cons (pe_ix (ix_tupK K) (pv 2) pe_int (fun _ _ => rfl)) (pa_cons (pe_ix (ix_tupK K) (pv 2) pe_int (fun _ _ => rfl)) pa_nil)))))) pss_nil))))))) (fun a pn => pss_one (ps_set (i := 3) sc__law_refused.nd rfl (.inl rfl) (pv 4))))
      (pss_cons (ps_if (pt_val (pe_callB call_isCT (by rfl) T.z_isinstance (by decide +kernel) (pa_cons (pv 3) (pa_cons (pe_tup (pa_cons (pe_gv (by rfl) er.m1) (pa_cons (pe_gv (by rfl) er.m2) (pa_cons (pe_gv (by rfl) er.m3) (pa_cons (pe_gv (by rfl) er.m4) (pa_cons (pe_gv (by rfl) er.m5) (pa_cons (pe_gv (by rfl) er.m6) pa_nil))))))) pa_nil))))
        (pss_one (ps_ret pe_bl))
        pss_nil)
      (pss_cons (ps_if (pt_val (pe_callB call_isCT (by rfl) T.z_isinstance (by decide +kernel) (pa_cons (pv 3) (pa_cons (pe_tup (pa_cons (pe_gv (by rfl) er.m7) (pa_cons (pe_gv (by rfl) er.m8) (pa_cons (pe_gv (by rfl) er.m9) pa_nil)))) pa_nil))))
        (pss_one (ps_ret pe_bl))
        pss_nil)
      (pss_one (ps_ret (pe_and (pe_callB call_isC (by rfl) T.z_isinstance (by decide +kernel) (pa_cons (pv 3) (pa_cons (pe_gv (by rfl) er.s.g) pa_nil))) (pe_one (pe_callB call_isC (by rfl) T.z_isinstance (by decide +kernel) (pa_cons (pv 3) (pa_cons (pe_ty "ValueError" (by rfl) T.z_ValueError (by decide +kernel)) pa_nil))))))))))), ?_⟩
    replace hF : FSig K H u sg := hF
    replace hv : Dz K p c H v d := hv
    replace so : SigOk sg := so
    replace bad : modW sg d ≠ .none := bad
    replace w5 : which < 5 := w5
    replace two : which = 4 → ∃ x y, d = .tuple [x, y] := two
    replace q : ∀ r H', Ex H H' → r = .bl true → Q r H' := q
    refine q_asg ev_c fun H1 e1 => ?_
    refine q_cut (M := fun σ' H' => Ex H H' ∧ ∃ (x : Addr), TyC K H' (.ref x) (.ref S0) ∧ σ' = [some (vi which), some u, some v, some (.ref x), none]) ?_ (fun σ' H' hM => ?_)
    · show tSeq _ _ _ [some (vi which), some u, some v, some .non, none] H1
      have eq0 : ∀ {n : Nat} {H2 : Hp}, EvT (tTest (tOp rEq (tVar 0) (tC (.int n)))) [some (vi which), some u, some v, some .non, none] H2 (decide (which = n)) := fun {n H2} => et_is (et_test (ev_op (ev_var rfl) ev_c (rv_eq rfl))) (by
        show decide (V.int (which : Int) = V.int (n : Int)) = decide (which = n)
        by_cases e : which = n
        · rw [decide_eq_true e, decide_eq_true (by rw [e])]
        · rw [decide_eq_false e, decide_eq_false (fun z => e (by
            injection z with z
            omega))])
      have kept : ∀ {H4 : Hp}, Ex H H4 → ∀ a, H4 a = none → ∀ H5, Ex (upd H4 a (ExcAt a (.ref S0) none)) H5 → (Ex H H5 ∧ ∃ (x : Addr), TyC K H5 (.ref x) (.ref S0) ∧ [some (vi which), some u, some v, some (.ref a), none] = [some (vi which), some u, some v, some (.ref x), none]) := fun {H4} e4 a na H5 e5 => ⟨(e4.trans (Ex.new na)).trans e5, a, .inr ⟨a, S0, rfl, e5 _ _ upd_same, er.s.c, rfl⟩, rfl⟩
      have pre : ∀ {n : Nat} {H4 : Hp}, Ex H H4 → ∀ (xs : List V), xs.length = n → MBad K n ((p, c), sg, d) (u :: v :: xs) H4 := fun {n H4} e4 xs l => ⟨⟨_, _, _, rfl, l, hF.ex e4, hv.ex e4⟩, so, bad⟩
      have five : which = 0 ∨ which = 1 ∨ which = 2 ∨ which = 3 ∨ which = 4 := by omega
      rcases five with rfl | rfl | rfl | rfl | rfl
      · refine q_when (b := true) eq0 (fun _ H2 e2 => ?_) (fun hb => by cases hb)
        exact do_callS (ea_cons (ev_var rfl) (ea_cons (ev_var rfl) (ea_cons ev_c (ea_cons ev_c ea_nil))) H2 (Ex.refl _) _ fun I1 f1 => ⟨((p, c), sg, d), pre ((e1.trans e2).trans f1) [_, _] rfl, fun I2 f2 => ⟨er.xs, fun a na => s_asg (ev_var rfl) fun I3 f3 => kept (((e1.trans e2).trans f1).trans f2) a na I3 f3⟩⟩)
      · refine q_when (b := false) eq0 (fun hb => by cases hb) (fun _ H2 e2 => ?_)
        refine q_when (b := true) eq0 (fun _ H3 e3 => ?_) (fun hb => by cases hb)
        refine do_callS (do_cons (do_tup (do_cons (do_ev (ev_var rfl) fun I1 f1 => do_cons (do_tup (do_nil ⟨by show 0 ≤ sizeLine; decide, fun r0 nr0 => do_nil ⟨by show 2 ≤ sizeLine; decide, fun r1 nr1 => do_cons (do_ev (ev_var rfl) fun I2 f2 => do_nil ?_)⟩⟩))))))
        have x0 : Ex I1 (upd I1 r0 (.tup [])) := Ex.new nr0
        have x1 : Ex (upd I1 r0 (.tup [])) (upd (upd I1 r0 (.tup [])) r1 (.tup [u, .ref r0])) := Ex.new nr1
        have g4 := ((e1.trans e2).trans e3).trans (f1.trans (x0.trans (x1.trans f2)))
        exact ⟨((p, c), sg, d), ⟨⟨r1, r0, u, v, rfl, ex_t f2 (st_of upd_same), ex_t (x1.trans f2) (st_of upd_same), hF.ex g4, hv.ex g4⟩, so, bad⟩, fun I5 f5 => ⟨er.xs, fun a na => s_asg (ev_var rfl) fun I6 f6 => kept (g4.trans f5) a na I6 f6⟩⟩
      · refine q_when (b := false) eq0 (fun hb => by cases hb) (fun _ H2 e2 => ?_)
        refine q_when (b := false) eq0 (fun hb => by cases hb) (fun _ H3 e3 => ?_)
        refine q_when (b := true) eq0 (fun _ H4 e4 => ?_) (fun hb => by cases hb)
        refine do_callS (do_cons (do_ev (ev_var rfl) fun I1 f1 => do_cons (do_ev (ev_var rfl) fun I2 f2 => do_cons (do_lst (do_cons (do_ev ev_c fun I3 f3 => do_nil ⟨by show 1 ≤ sizeLine; decide, fun l nl => do_nil ?_⟩))))))
        have x0 : Ex I3 (upd I3 l (.lst [.non])) := Ex.new nl
        have g4 := ((e1.trans e2).trans (e3.trans e4)).trans ((f1.trans f2).trans (f3.trans x0))
        exact ⟨((p, c), sg, d), pre g4 [_] rfl, fun I5 f5 => ⟨er.xs, fun a na => s_asg (ev_var rfl) fun I6 f6 => kept (g4.trans f5) a na I6 f6⟩⟩
      · refine q_when (b := false) eq0 (fun hb => by cases hb) (fun _ H2 e2 => ?_)
        refine q_when (b := false) eq0 (fun hb => by cases hb) (fun _ H3 e3 => ?_)
        refine q_when (b := false) eq0 (fun hb => by cases hb) (fun _ H4 e4 => ?_)
        refine q_when (b := true) eq0 (fun _ H5 e5 => ?_) (fun hb => by cases hb)
        exact do_callS (ea_cons (ev_var rfl) (ea_cons (ev_var rfl) ea_nil) H5 (Ex.refl _) _ fun I1 f1 => ⟨((p, c), sg, d), pre (((((e1.trans e2).trans e3).trans e4).trans e5).trans f1) [] rfl, fun I2 f2 => ⟨er.xs, fun a na => s_asg (ev_var rfl) fun I3 f3 => kept ((((((e1.trans e2).trans e3).trans e4).trans e5).trans f1).trans f2) a na I3 f3⟩⟩)
      · refine q_when (b := false) eq0 (fun hb => by cases hb) (fun _ H2 e2 => ?_)
        refine q_when (b := false) eq0 (fun hb => by cases hb) (fun _ H3 e3 => ?_)
        refine q_when (b := false) eq0 (fun hb => by cases hb) (fun _ H4 e4 => ?_)
        refine q_when (b := false) eq0 (fun hb => by cases hb) (fun _ H5 e5 => ?_)
        refine s_when (b := true) eq0 (fun _ H6 e6 => ?_) (fun hb => by cases hb)
        obtain ⟨d1, d2, rfl⟩ := two rfl
        obtain ⟨b, xs, ds, rfl, eds, hB, r⟩ := tup_of hv rfl
        cases eds
        cases r with
        | @cons x1 xs1 _ _ z1 r =>
        cases r with
        | @cons x2 xs2 _ _ z2 r =>
        cases r
        have e06 := ((((e1.trans e2).trans e3).trans e4).trans e5).trans e6
        have hB6 := ex_t e06 hB
        refine do_makeS (ea_cons (ev_var rfl) (ea_cons (ev_op (ev_var rfl) ev_c (rv_ixT (K := K) hB6 (atI_vi (k := 0) rfl))) (ea_cons (ev_op (ev_var rfl) ev_c (rv_ixT (K := K) hB6 (atI_vi (k := 1) rfl))) ea_nil)) H6 (Ex.refl _) _ fun I1 f1 x dx nx ndx ne => ?_)
        have x0 : Ex I1 (upd I1 dx (.own x)) := Ex.new ndx
        have x1' : Ex (upd I1 dx (.own x)) (upd (upd I1 dx (.own x)) x (.ins C0 dx [])) := Ex.new (by rw [upd_ne (Ne.symm ne)]; exact nx)
        have g4 := (e06.trans f1).trans (x0.trans x1')
        exact ⟨((p, c), sg, d1, d2), ⟨⟨_, _, _, _, rfl, hF.ex g4, z1.ex g4, z2.ex g4⟩, so, bad⟩, fun I2 f2 => ⟨er.xs, fun a na => s_asg (ev_var rfl) fun I3 f3 => kept (g4.trans f2) a na I3 f3⟩⟩
    · obtain ⟨e2, x, tc, hσ⟩ := hM
      subst hσ
      refine q_when (b := false) (et_val ?_) (fun hb => by cases hb) (fun _ H4 e4 => ?_)
      · intro H4 e4 Q4 q4
        refine do_cb (do_cons (do_ev (fun H5 e5 => ev_var rfl H5 (e4.trans e5)) fun H5 e5 => do_cons (do_tup (do_cons (do_ev ev_c fun I1 f1 => do_cons (do_ev ev_c fun I2 f2 => do_cons (do_ev ev_c fun I3 f3 => do_cons (do_ev ev_c fun I4 f4 => do_cons (do_ev ev_c fun I5 f5 => do_cons (do_ev ev_c fun I6 f6 => do_nil ⟨by show 6 ≤ sizeLine; decide, fun tp ntp => do_nil ?_⟩))))))))))
        have g6 := ((e5.trans f1).trans (f2.trans f3)).trans ((f4.trans f5).trans f6)
        exact ⟨.ref x, tp, _, .ref S0, _, false, rfl, upd_same, .cons (.own _) (.cons (.own _) (.cons (.own _) (.cons (.own _) (.cons (.own _) (.cons (.own _) .nil))))), tc.ex (e4.trans (g6.trans (Ex.new ntp))), er.hs, q4 _ (g6.trans (Ex.new ntp))⟩
      refine q_when (b := false) (et_val ?_) (fun hb => by cases hb) (fun _ H6 e6 => ?_)
      · intro H5 e5' Q4 q4
        refine do_cb (do_cons (do_ev (fun H5 e5 => ev_var rfl H5 (e5'.trans e5)) fun H5 e5 => do_cons (do_tup (do_cons (do_ev ev_c fun I1 f1 => do_cons (do_ev ev_c fun I2 f2 => do_cons (do_ev ev_c fun I3 f3 => do_nil ⟨by show 3 ≤ sizeLine; decide, fun tp ntp => do_nil ?_⟩)))))))
        have g6 := (e5.trans f1).trans (f2.trans f3)
        exact ⟨.ref x, tp, _, .ref S0, _, false, rfl, upd_same, .cons (.own _) (.cons (.own _) (.cons (.own _) .nil)), tc.ex ((e4.trans e5').trans (g6.trans (Ex.new ntp))), er.hs2, q4 _ (g6.trans (Ex.new ntp))⟩
      have tc6 := tc.ex (e4.trans e6)
      refine s_ret (v := .bl true) (ev_andV (a := true) (b := true) (ev_isC (ev_var rfl) ev_c (.own _) tc6 er.ht) (fun _ => ev_isC (ev_var rfl) ev_c (.ty _) tc6 er.hv)) fun H5 e5 => q _ H5 ((e2.trans (e4.trans e6)).trans e5) rfl
end
end K12
end
section
namespace K12
open PySem PySem.Spec PyProof.Rows L2 Evl RZ Dw M20
theorem pow36 {n pl : Nat} (n6 : n ≤ 6) (h : pl ≤ 2) : n ^ pl ≤ 36 := Nat.le_trans (Nat.pow_le_pow_left n6 _) (Nat.le_trans (Nat.pow_le_pow_right (by decide) h) (by decide))
theorem gb_intK {k : Nat} (h : k ≤ 1000) : Gb 0 22 (intD k) := (K12.Gd.gb (Dw.gd_int h)).mono (Nat.le_refl _) (by decide)
theorem plOf_le {sg : List (Str × Nat)} (so : SigOk sg) (k : Nat) : plOf sg k ≤ 2 := by
  rw [plOf, List.getD_eq_getElem?_getD]
  cases e : sg[k]? with
  | none => exact Nat.zero_le _
  | some x => exact so.pl _ (List.mem_of_getElem? e)
theorem gb_modW4 {sg : List (Str × Nat)} {n : Nat} {tds : List PyData} (so : SigOk sg) (n6 : n ≤ 6) (l : tds.length = sg.length) : Gb 2 200 (modW4 sg n tds) := by
  have l4 := so.l4
  rw [modW4]
  split
  · rename_i k r e
    have : k ∈ badK sg n tds := by rw [e]; exact List.mem_cons_self ..
    have := List.mem_range.mp (List.mem_filter.mp this).1
    exact (gb_tup (gba_cons (gb_str (by decide)) (gba_one (gb_intK (by omega))))).mono (by decide) (by decide)
  · rename_i e
    split
    · rename_i k j e2
      have : k < tds.length ∧ j < 36 := by
        rw [oddW] at e2
        split at e2
        · rename_i k' r' e3
          split at e2
          · rename_i j' r2 e4
            cases e2
            have mk : k ∈ oddT n tds := by rw [e3]; exact List.mem_cons_self ..
            have mk2 := List.mem_range.mp (List.mem_filter.mp mk).1
            have mj : j ∈ oddRow n (cellsOf (tds.getD k .none)) := by rw [e4]; exact List.mem_cons_self ..
            have mj2 := List.mem_range.mp (List.mem_filter.mp mj).1
            have b := nil_filt e (i := k) (by omega)
            rw [Bool.not_eq_false'] at b
            refine ⟨mk2, ?_⟩
            cases z : tds.getD k .none with
            | tuple cs =>
              rw [z] at b mj2
              have b2 : decide (cs.length = n ^ plOf sg k) = true := b
              rw [decide_eq_true_eq] at b2
              have p := pow36 n6 (plOf_le so k)
              have mj3 : j < cs.length := mj2
              omega
            | none => rw [z] at b; cases b
            | bool _ => rw [z] at b; cases b
            | int _ => rw [z] at b; cases b
            | str _ => rw [z] at b; cases b
            | list _ => rw [z] at b; cases b
            | dict _ => rw [z] at b; cases b
          · cases e2
        · cases e2
      exact (gb_tup (gba_cons (gb_str (by decide)) (gba_cons (gb_intK (by omega)) (gba_one (gb_intK (by omega)))))).mono (by decide) (by decide)
    · exact gb_none.mono (by decide) (by decide)
theorem gb_modW {sg : List (Str × Nat)} (so : SigOk sg) (d : PyData) : Gb 2 200 (modW sg d) := by
  have one : ∀ {z : Str}, (∀ c ∈ z.cps.toList, c < 0x110000) ∧ z.cps.size ≤ 22 → Gb 2 200 (.tuple [.str z]) := fun {z} h => (gb_tup (gba_one (gb_str h))).mono (by decide) (by decide)
  unfold modW
  split
  · rw [modW2]
    split
    · rename_i s t hs
      unfold modW3
      split
      · rename_i i tds
        split
        · rename_i hl
          have hs2 : (decide (1 ≤ i) && decide (i ≤ 6)) = true := hs
          rw [Bool.and_eq_true, decide_eq_true_eq, decide_eq_true_eq] at hs2
          exact gb_modW4 so (by omega) hl
        · exact one (by decide)
      · exact one (by decide)
    · exact one (by decide)
  · exact one (by decide)
def tabD (t : List Nat) : PyData := .tuple (t.map intD)
def modD (n : Nat) (ts : List (List Nat)) : PyData := .tuple [.int (n : Int), .tuple (ts.map tabD)]
theorem gb_modD {sg : List (Str × Nat)} {n : Nat} {ts : List (List Nat)} (so : SigOk sg) (m : MdlOk sg n ts) : Gb 6 13000 (modD n ts) := by
  have l4 := so.l4
  have n6 := m.n6
  have ln := m.len
  have row : ∀ d ∈ ts.map tabD, Gb 1 828 d := fun d hd => by
    obtain ⟨t, ht, rfl⟩ := List.mem_map.mp hd
    obtain ⟨i, hi, rfl⟩ := List.mem_iff_getElem.mp ht
    have tl := (m.tab i (by omega) hi).len
    have p := pow36 n6 (so.pl _ (List.getElem_mem (show i < sg.length by omega)))
    have cell : ∀ e ∈ (ts[i]).map intD, Gb 0 22 e := fun e he => by
      obtain ⟨k, hk, rfl⟩ := List.mem_map.mp he
      have := m.low _ ht k hk
      exact gb_intK (by omega)
    exact (gb_tup (gba_all cell)).mono (Nat.le_refl _) (by rw [List.length_map]; omega)
  have g1 : Gb 2 3316 (.tuple (ts.map tabD)) := (gb_tup (gba_all row)).mono (Nat.le_refl _) (by rw [List.length_map]; omega)
  exact (gb_tup (gba_cons ((gb_dig (show n ≤ 7 by omega)).mono (Nat.zero_le 2) (Nat.le_refl _)) (gba_one g1))).mono (by decide) (by decide)
section
variable {P : Program} {w : World} {K : PySem.W.Frag} {mg : Str → Option Value} {base : Heap} {σ : L2.St} {H H' Hb : Hp} {p c : Addr} {n m k W : Nat} {v : V} {d : PyData} {sg : List (Str × Nat)}
theorem mdl_dz {ts : List (List Nat)} (h : Mdl K H v n ts) : Dz K p c H v (modD n ts) := by
  obtain ⟨a, u, rfl, s, b, vs, rfl, s2, pr⟩ := h
  have cs : ∀ t : List Nat, DzAll K p c H (t.map vi) (t.map intD) := fun t => by
    induction t with
    | nil => exact .nil
    | cons x t ih => exact .cons (.int _) ih
  have r : ∀ {vs : List V} {ts : List (List Nat)}, Paired (Nats K H) vs ts → DzAll K p c H vs (ts.map tabD) := fun {vs ts} pr => by
    induction pr with
    | nil => exact .nil
    | cons a b ih =>
      obtain ⟨r, rfl, s⟩ := a
      exact .cons (.tup s (cs _)) ih
  exact .tup s (.cons (.int _) (.cons (.tup s2 (r pr)) .nil))
theorem ev_intB {te : TE} {b : Bool} (h : Ev te σ H (.bl b)) : Ev (tCB (fun xs H Q => (∃ i, xs = [.int i] ∧ Q (.int i) H) ∨ ∃ k, xs = [.bl k] ∧ Q (.int (if k then 1 else 0)) H) (tCons te tNil)) σ H (vi (if b then 1 else 0)) := ev_cb (ea_cons h ea_nil) (fun H3 e3 Q q => .inr ⟨b, rfl, by cases b <;> exact q H3 (Ex.refl _)⟩)
theorem et_isNone {ta : TE} {x : V} (h : Ev ta σ H x) : EvT (tTest (tOp (fun x y H Q => y = .non ∧ Q (.bl (decide (x = .non))) H) ta (tC .non))) σ H (decide (x = .non)) := fun H1 e Q q =>
  h H1 e _ fun H2 e2 => ⟨rfl, _, rfl, q H2 e2⟩
theorem et_isNoneP {ta : TE} (h : EvP ta σ H fun v _ => ∃ a, v = .ref a) : EvT (tTest (tOp (fun x y H Q => y = .non ∧ Q (.bl (decide (x = .non))) H) ta (tC .non))) σ H false := fun H1 e Q q => h H1 e _ fun v H2 e2 ⟨a, hv⟩ => by
  subst hv
  exact ⟨rfl, _, rfl, q H2 e2⟩
/-- a new list of two -/
theorem ep_lst2 {t1 t2 : TE} {x y : V} {d1 d2 : PyData} (h1 : Ev t1 σ H x) (h2 : Ev t2 σ H y) (z1 : Dz K p c H x d1) (z2 : Dz K p c H y d2) : EvP (tLst (tCons t1 (tCons t2 tNil))) σ H (fun v H' => Dp K H' v (.list [d1, d2])) := fun H1 e1 Q q => do_lst (do_cons (h1 H1 e1 _ fun H2 e2 => do_cons (h2 H2 (e1.trans e2) _ fun H3 e3 => do_nil ⟨by show 2 ≤ sizeLine; decide, fun l nl => by
  have e4 : Ex H3 (upd H3 l (.lst [x, y])) := Ex.new nl
  have e14 := (e1.trans e2).trans (e3.trans e4)
  exact q _ _ (e2.trans (e3.trans e4)) (.lst (sq_of upd_same) (.cons (z1.ex e14).dp (.cons (z2.ex e14).dp .nil)))⟩)))
end
end K12
end
section
namespace K12
open PySem PySem.Spec PyProof.Rows L2 Evl RZ Dw M20
section
variable {P : Program} {w : World} {K : PySem.W.Frag} {mg : Str → Option Value} {base : Heap} {σ : L2.St} {H H' Hb : Hp} {p c : Addr} {n m k W : Nat} {v : V} {d : PyData} {sg : List (Str × Nat)}
theorem ev_notN {ta : TE} {x : V} (h : Ev ta σ H x) : Ev (tOp (fun x y H Q => y = .non ∧ Q (.bl (!decide (x = .non))) H) ta (tC .non)) σ H (.bl (!decide (x = .non))) := fun H1 e Q q => h H1 e _ fun H2 e2 => ⟨rfl, q H2 e2⟩
abbrev lawN : List Str := ["_law_script", "_law_purse_here", "_law_turn", "_law_deeds_here", "_law_thing", "_law_again", "_law_kept", "_law_due_here", "_law_ways", "_law_which"]
/-- ahead of each turn -/
def Turn (a p c : Addr) (i : Nat) (σ : L2.St) (H : Hp) : Prop := (∃ t, Pur H p c t ∧ t ≤ 500 * i) ∧ ∃ y2 y3 y4 y5 y6 y7 y8 y9 : Option V, σ = [some (.ref a), some (.ref p), y2, y3, y4, y5, y6, y7, y8, y9]
theorem law_ok (T : Txt mg) (c_purse : Cl P w K mg base 1 "_law_purse" (sp_purse K)) (c_deeds : Cl P w K mg base 3 "_law_deeds" (sp_deeds K)) (c_model : Cl P w K mg base 2 "_law_model" (sp_model K)) (c_draw : Cl P w K mg base 1 "_law_draw" sp_draw) (c_bentM : Cl P w K mg base 3 "_law_bent" (sp_bentM K)) (c_ldueM : Cl P w K mg base 2 "_law_due" (sp_ldueM K)) (c_mod_any : Cl P w K mg base 6 "model_wrong" (sp_mod_any K)) (c_refM : Cl P w K mg base 11 "_law_refused" (sp_refM K))
    (room : Room 20 callerA) (s : Shared) (H : Hp) (fa : Addr) (cdv : Value) (a : Addr) (ns : List Int) (len : ns.length ≤ 63) (seq : SqL K H a (ns.map V.int)) :
    ∃ t, PSs (cxOf CX0 P w K mg base lawN "law" (defScope s_law) fa cdv callerA [] s H E0).nox (defBody s_law) t ∧ t { nx := fun _ _ => False, rt := fun v _ => v = .bl true } (L2.start lawN [.ref a]) H := by
  have hr : Room 19 (callerA.deeper (envOfC "law" (defScope s_law) s.heap.objs.size fa cdv)) := room.deeper _
  have c_bent := c_bentM
  have c_due := c_ldueM
  have c_model_wrong := c_mod_any
  have c_refused := c_refM
  refine ⟨_, (pss_cons (ps_set (i := 1) sc_law.nd rfl (.inl rfl) (pe_cl c_purse hr (by first | decide | omega) (by rfl) (pa_cons (pv 0) pa_nil)))
      (pss_cons (ps_if (pt_cmpR op_ne (pe_gi (by rfl) T.c_MOST_SIZE) pe_int (nomark _))
        (pss_one (ps_ret pe_bl))
        pss_nil)
      (pss_cons (ps_for PassesOwn.never (by rfl) (pi_range1 (by rfl) T.z_range (pa_cons pe_int pa_nil)) (pg_name (i := 2) sc_law.nd rfl (.inl rfl))
        (pss_cons (ps_set (i := 3) sc_law.nd rfl (.inl rfl) (pe_cl c_deeds hr (by first | decide | omega) (by rfl) (pa_cons (pv 1) pa_nil)))
        (pss_cons (ps_set (i := 4) sc_law.nd rfl (.inl rfl) (pe_cl c_model hr (by first | decide | omega) (by rfl) (pa_cons (pv 1) (pa_cons (pv 3) pa_nil))))
        (pss_cons (ps_for PassesOwn.never (by rfl) (pi_range1 (by rfl) T.z_range (pa_cons (pe_cl c_draw hr (by first | decide | omega) (by rfl) (pa_cons (pv 1) (pa_cons pe_int pa_nil))) pa_nil)) (pg_name (i := 5) sc_law.nd rfl (.inl rfl))
          (pss_one (ps_if (pt_cmpR op_isN (pe_cl c_due hr (by first | decide | omega) (by rfl) (pa_cons (pv 3) (pa_cons (pv 4) pa_nil))) pe_non (nomark _))
            (pss_one (ps_set (i := 4) sc_law.nd rfl (.inl rfl) (pe_cl c_bent hr (by first | decide | omega) (by rfl) (pa_cons (pv 1) (pa_cons (pv 3) (pa_cons (pv 4) pa_nil))))))
            pss_nil)))
        (pss_cons (ps_set (i := 6) sc_law.nd rfl (.inl rfl) (pe_callB (call_reprW hr) (by rfl) T.z_repr (by decide +kernel) (pa_cons (pe_lst (pa_cons (pv 3) (pa_cons (pv 4) pa_nil))) pa_nil)))
        (pss_cons (ps_set (i := 7) sc_law.nd rfl (.inl rfl) (pe_cl c_due hr (by first | decide | omega) (by rfl) (pa_cons (pv 3) (pa_cons (pv 4) pa_nil))))
        (pss_cons (ps_for PassesOwn.never (by rfl) (pi_range1 (by rfl) T.z_range (pa_cons pe_int pa_nil)) (pg_name (i := 5) sc_law.nd rfl (.inl rfl))
          (pss_one (ps_if (pt_cmpR op_ne (pe_callB (call_reprW hr) (by rfl) T.z_repr (by decide +kernel) (pa_cons (pe_cl c_model_wrong hr (by first | decide | omega) (by rfl) (pa_cons (pv 3) (pa_cons (pv 4) pa_nil))) pa_nil)) (pe_callB (call_reprW hr) (by rfl) T.z_repr (by decide +kernel) (pa_cons (pv 7) pa_nil)) (nomark _))
            (pss_one (ps_ret pe_bl))
            pss_nil)))
        (pss_cons (ps_set (i := 8) sc_law.nd rfl (.inl rfl) (pe_op op_add pe_int (pe_callTy call_int1 (by rfl) T.z_int (by decide +kernel) (pa_cons (pe_and (pe_callB call_isi (by rfl) T.z_isinstance (by decide +kernel) (pa_cons (pv 4) (pa_cons (pe_ty "tuple" (by rfl) T.z_tuple (by decide +kernel)) pa_nil))) (pe_one (pe_cmpR op_eq (pe_callB call_len_seq (by rfl) T.z_len PySem.boot_len (pa_cons (pv 4) pa_nil)) pe_int (nomark _)))) pa_nil))))
        (pss_cons (ps_for PassesOwn.never (by rfl) (pi_range1 (by rfl) T.z_range (pa_cons (pe_op op_mul (pv 8) (pe_callTy call_int1 (by rfl) T.z_int (by decide +kernel) (pa_cons (pe_cmpR op_notN (pv 7) pe_non (nomark _)) pa_nil))) pa_nil)) (pg_name (i := 9) sc_law.nd rfl (.inl rfl))
          (pss_one (ps_if (pt_not (pt_val (pe_cl c_refused hr (by first | decide | omega) (by rfl) (pa_cons (pv 9) (pa_cons (pv 3) (pa_cons (pv 4) pa_nil))))))
            (pss_one (ps_ret pe_bl))
            pss_nil)))
        (pss_one (ps_if (pt_cmpR op_ne (pe_callB (call_reprW hr) (by rfl) T.z_repr (by decide +kernel) (pa_cons (pe_lst (pa_cons (pv 3) (pa_cons (pv 4) pa_nil))) pa_nil)) (pv 6) (nomark _))
          (pss_one (ps_ret pe_bl))
          pss_nil)))))))))))
      (pss_one (ps_ret pe_bl))))), ?_⟩
  refine do_set (ea_cons (ev_var rfl) ea_nil H (Ex.refl H) _ fun H0 e0 => ⟨a, ns, rfl, ex_l e0 seq, len, fun p c H1 e1 np nc pu => ?_⟩)
  refine q_when (b := false) (et_is (et_test (ev_op ev_c ev_c (rv_ne rfl))) (by decide)) (fun hb => by cases hb) (fun _ Hz ez => ?_)
  refine q_forR1 (n := ((8 : Nat) : Int)) (ea_cons ev_c ea_nil) ⟨by decide, by decide⟩ (Turn a p c) (fun H2 e2 => ⟨⟨0, pu.ex (ez.trans e2), Nat.zero_le _⟩, none, none, none, none, none, none, none, none, rfl⟩) (fun i σ H2 hi tn => ?_) (fun σ H2 tn => ?_)
  · obtain ⟨⟨t, pu2, lt⟩, y2, y3, y4, y5, y6, y7, y8, y9, hσ⟩ := tn
    subst hσ
    have i8 : i < 8 := by omega
    refine do_set (ea_cons (ev_var rfl) ea_nil H2 (Ex.refl H2) _ fun H3 e3 => ⟨p, c, t, rfl, pu2.ex e3, by omega, fun sv sg t4 H4 o4 pu4 l4 hG4 so => ?_⟩)
    show tSeq _ _ _ [some (.ref a), some (.ref p), some (vi i), some sv, y4, y5, y6, y7, y8, y9] H4
    refine do_set (ea_cons (ev_var rfl) (ea_cons (ev_var rfl) ea_nil) H4 (Ex.refl _) _ fun H5 e5 => ⟨p, c, t4, sv, sg, rfl, pu4.ex e5, by omega, hG4.ex e5, so, fun mv n ts t6 H6 o6 pu6 l6 hM6 mo => ?_⟩)
    have hG6 := (hG4.ex e5).off (pu4.ex e5) o6
    show tSeq _ _ _ [some (.ref a), some (.ref p), some (vi i), some sv, some mv, y5, y6, y7, y8, y9] H6
    refine q_forRX (fun n H1 => n < 3 ∧ Off H6 H1 p c ∧ Pur H1 p c (t6 + 1)) (fun Q' q' => do_cons (do_draw (n := 3) (ev_var rfl) ev_c pu6 (by omega) (by decide) (by decide) fun k H' hk o' pu' => do_nil (q' k H' ⟨hk, o', pu'⟩))) (fun n H1 hc => by omega) (fun n j σ' H' => n < 3 ∧ ∃ (t' : Nat) (pv : V) (y5 : Option V), Pur H' p c t' ∧ t' ≤ t6 + 1 + 5 * j ∧ ThZ K p c 6 13000 pv H' ∧ FSig K H' sv sg ∧ σ' = [some (.ref a), some (.ref p), some (vi i), some sv, some pv, y5, y6, y7, y8, y9])
      (fun n H16 hc => ⟨hc.1, t6 + 1, mv, y5, hc.2.2, by omega, ⟨modD _ ts, (mdl_dz (p := p) (c := c) hM6).off pu6 hc.2.1, gb_modD so mo⟩, hG6.off pu6 hc.2.1, rfl⟩) (fun n j σ' H16 hj hP => ?_) (fun n σ' H16 hP => ?_)
    · obtain ⟨n3, t16, pv, z5, pu16, l16, ⟨d, hz, gz⟩, hG16, hσ⟩ := hP
      subst hσ
      show tIfS _ _ _ _ [some (.ref a), some (.ref p), some (vi i), some sv, some pv, some (vi j), y6, y7, y8, y9] H16
      by_cases hm : modW sg d = .none
      · refine s_when (b := true) (et_is (et_isNone (ev_callV (v := .non) ((p, c), sg, d) (ea_cons (ev_var rfl) (ea_cons (ev_var rfl) ea_nil)) (fun H1 e1 => ⟨⟨_, _, rfl, hG16.ex e1, hz.ex e1⟩, so⟩) (fun r _ z => ?_))) (by simp)) (fun _ H17 e17 => ?_) (fun hb => by cases hb)
        · have z2 : Dp K _ r (modW sg d) := z
          rw [hm] at z2
          cases z2
          rfl
        · refine do_asg (ea_cons (ev_var rfl) (ea_cons (ev_var rfl) (ea_cons (ev_var rfl) ea_nil)) H17 (Ex.refl _) _ fun H18 e18 => ⟨p, c, t16, sv, pv, sg, d, rfl, pu16.ex (e17.trans e18), by omega, hG16.ex (e17.trans e18), so, hz.ex (e17.trans e18), hm, fun v' H19 t19 o19 pu19 l19 hv19 => ?_⟩)
          exact ⟨n3, t19, v', _, pu19, by omega, hv19, (hG16.ex (e17.trans e18)).off (pu16.ex (e17.trans e18)) o19, rfl⟩
      · refine s_when (b := false) (et_isNoneP ((ep_call ((p, c), sg, d) (ea_cons (ev_var rfl) (ea_cons (ev_var rfl) ea_nil)) (fun H1 e1 => ⟨⟨_, _, rfl, hG16.ex e1, hz.ex e1⟩, so⟩)).imp fun r H1 _ hr1 => mod_ref hr1 hm)) (fun hb => by cases hb) (fun _ H17 e17 => ?_)
        exact ⟨n3, t16, pv, _, pu16.ex e17, by omega, ⟨d, hz.ex e17, gz⟩, hG16.ex e17, rfl⟩
    · obtain ⟨n3, t16, pv, z5, pu16, l16, ⟨d, hz, gz⟩, hG16, hσ⟩ := hP
      subst hσ
      show tSeq _ _ _ [some (.ref a), some (.ref p), some (vi i), some sv, some pv, z5, y6, y7, y8, y9] H16
      have gl : Gb 7 14000 (.list [sigD sg, d]) := (gb_lst (gba_cons ((gb_sig so).mono (show 2 ≤ 6 by decide) (Nat.le_refl _)) (gba_one gz))).mono (by decide) (by decide)
      have gw := gb_modW so d
      refine q_asg (ev_reprB (K := K) rfl rfl (ep_lst2 (p := p) (c := c) (ev_var rfl) (ev_var rfl) (fsig_dz hG16) hz) gl (by decide) (by decide)) fun H17 e17 => ?_
      obtain ⟨KEPT, hKEPT⟩ : ∃ z : Str, z = (PyData.list [sigD sg, d]).shown := ⟨_, rfl⟩
      rw [← hKEPT]
      have hz17 := hz.ex e17
      have hG17 := hG16.ex e17
      show tSeq _ _ _ [some (.ref a), some (.ref p), some (vi i), some sv, some pv, z5, some (.str KEPT), y7, y8, y9] H17
      refine q_asgP (ep_call ((p, c), sg, d) (ea_cons (ev_var rfl) (ea_cons (ev_var rfl) ea_nil)) (fun H' e' => ⟨⟨_, _, rfl, hG17.ex e', hz17.ex e'⟩, so⟩)) fun dv H18 e18 hdv => ?_
      replace hdv : Dp K H18 dv (modW sg d) := hdv
      have hz18 := hz17.ex e18
      have hG18 := hG17.ex e18
      show tSeq _ _ _ [some (.ref a), some (.ref p), some (vi i), some sv, some pv, z5, some (.str KEPT), some dv, y8, y9] H18
      refine q_forR1 (n := ((2 : Nat) : Int)) (ea_cons ev_c ea_nil) ⟨by decide, by decide⟩ (fun j σ H' => Ex H18 H' ∧ ∃ y5, σ = [some (.ref a), some (.ref p), some (vi i), some sv, some pv, y5, some (.str KEPT), some dv, y8, y9]) (fun H' e' => ⟨e', _, rfl⟩) (fun j σ H19 hj tn => ?_) (fun σ H19 tn => ?_)
      · obtain ⟨e19, w5, hσ⟩ := tn
        subst hσ
        have hz19 := hz18.ex e19
        have hG19 := hG18.ex e19
        have hdv19 := dp_ex e19 hdv
        show tIfS _ _ _ _ [some (.ref a), some (.ref p), some (vi i), some sv, some pv, some (vi j), some (.str KEPT), some dv, y8, y9] H19
        exact s_when (b := false) (et_is (et_test (ev_op (ev_reprB (K := K) rfl rfl (ep_call ((p, c), sg, d) (ea_cons (ev_var rfl) (ea_cons (ev_var rfl) ea_nil)) (fun H' e' => ⟨⟨_, _, rfl, hG19.ex e', hz19.ex e'⟩, so⟩)) gw (by decide) (by decide)) (ev_reprB (K := K) rfl rfl (ep_ev (ev_var rfl) fun H' e' => dp_ex e' hdv19) gw (by decide) (by decide)) (rv_ne' rfl rfl))) rfl) (fun hb => by cases hb) (fun _ H20 e20 => ⟨e19.trans e20, _, rfl⟩)
      · obtain ⟨e19, w5, hσ⟩ := tn
        subst hσ
        have hz19 := hz18.ex e19
        have hG19 := hG18.ex e19
        have hdv19 := dp_ex e19 hdv
        show tSeq _ _ _ [some (.ref a), some (.ref p), some (vi i), some sv, some pv, w5, some (.str KEPT), some dv, y8, y9] H19
        obtain ⟨b, hb2, hev⟩ : ∃ b : Bool, (b = true → ∃ x y, d = .tuple [x, y]) ∧ Ev (tAndV (tCB (rIsi K) (tCons (tVar 4) (tCons (tC (.ty "tuple")) tNil))) (tOp rEq (tCB (rLenS K) (tCons (tVar 4) tNil)) (tC (.int 2)))) [some (.ref a), some (.ref p), some (vi i), some sv, some pv, w5, some (.str KEPT), some dv, y8, y9] H19 (.bl b) := by
          by_cases ht : isTup d = true
          · obtain ⟨b0, xs, ds, rfl, rfl, hB, r⟩ := tup_of hz19 ht
            have lx := r.len
            refine ⟨_, fun hb => ?_, ev_andV (a := true) (ev_isTup (K := K) (ev_var rfl) ev_c hz19) (fun _ => ev_op (ev_lenT (ev_var rfl) hB) ev_c (rv_eq rfl))⟩
            rw [Bool.true_and, decide_eq_true_eq] at hb
            injection hb with hb
            have l2 : ds.length = 2 := by omega
            obtain ⟨x, y, rfl⟩ := two_of l2
            exact ⟨x, y, rfl⟩
          · have ht2 : isTup d = false := by simpa using ht
            refine ⟨false, fun hb => (by cases hb), ?_⟩
            exact ev_andV (a := false) (b := false) (ev_is (ev_isTup (K := K) (ev_var rfl) ev_c hz19) (by rw [ht2])) (fun z => by cases z)
        refine q_asg (v := vi (4 + (if b then 1 else 0))) (ev_addM (a := 4) (b := if b then 1 else 0) ev_c (ev_intB hev)) fun H20 e20 => ?_
        obtain ⟨N, hN⟩ : ∃ N : Nat, N = 4 + (if b then 1 else 0) := ⟨_, rfl⟩
        rw [← hN]
        have n5 : N ≤ 5 := by cases b <;> simp at hN <;> omega
        have n2 : N = 5 → ∃ x y, d = .tuple [x, y] := fun e => hb2 (by cases b <;> simp at hN <;> first | rfl | omega)
        have hz20 := hz19.ex e20
        have hG20 := hG19.ex e20
        show tSeq _ _ _ [some (.ref a), some (.ref p), some (vi i), some sv, some pv, w5, some (.str KEPT), some dv, some (vi N), y9] H20
        refine q_forR1 (n := ((N * (if !decide (dv = .non) then 1 else 0) : Nat) : Int)) (ea_cons (ev_mulM (ev_var rfl) (ev_intB (ev_notN (ev_var rfl))) (by omega)) ea_nil) ⟨by omega, by split <;> omega⟩ (fun j σ H' => Ex H20 H' ∧ ∃ y9, σ = [some (.ref a), some (.ref p), some (vi i), some sv, some pv, w5, some (.str KEPT), some dv, some (vi N), y9]) (fun H' e' => ⟨e', _, rfl⟩) (fun j σ H21 hj tn => ?_) (fun σ H21 tn => ?_)
        · obtain ⟨e21, w9, hσ⟩ := tn
          subst hσ
          have nn : dv ≠ .non := fun z => by
            rw [if_neg (by rw [z]; decide)] at hj
            omega
          have jN : j < N := by
            rw [if_pos (by simpa using nn)] at hj
            omega
          have bad : modW sg d ≠ .none := fun y => by
            rw [y] at hdv
            cases hdv
            exact nn rfl
          show tIfS _ _ _ _ [some (.ref a), some (.ref p), some (vi i), some sv, some pv, w5, some (.str KEPT), some dv, some (vi N), some (vi j)] H21
          exact s_when (b := false) (et_is (et_not (et_val (ev_callV (v := .bl true) ((p, c), j, sg, d) (ea_cons (ev_var rfl) (ea_cons (ev_var rfl) (ea_cons (ev_var rfl) ea_nil))) (fun H' e' => ⟨⟨_, _, rfl, hG20.ex (e21.trans e'), hz20.ex (e21.trans e')⟩, by show j < 5; omega, fun z => n2 (by have z2 : j = 4 := z; omega), so, bad⟩) (fun _ _ z => z)))) rfl) (fun hb => by cases hb) (fun _ H22 e22 => ⟨e21.trans e22, _, rfl⟩)
        · obtain ⟨e21, w9, hσ⟩ := tn
          subst hσ
          have e1621 := ((e17.trans e18).trans (e19.trans e20)).trans e21
          show tIfS _ _ _ _ [some (.ref a), some (.ref p), some (vi i), some sv, some pv, w5, some (.str KEPT), some dv, some (vi N), w9] H21
          refine s_when (b := false) (et_is (et_test (ev_op (ev_reprB (K := K) rfl rfl (ep_lst2 (p := p) (c := c) (ev_var rfl) (ev_var rfl) (fsig_dz (hG16.ex e1621)) (hz.ex e1621)) gl (by decide) (by decide)) (ev_var rfl) (rv_ne' rfl (by rw [hKEPT])))) rfl) (fun hb => by cases hb) (fun _ H22 e22 => ?_)
          exact ⟨⟨t16, pu16.ex (e1621.trans e22), by omega⟩, _, _, _, _, _, _, _, _, rfl⟩
  · exact s_ret (v := .bl true) ev_c fun H3 e3 => rfl
end
end K12
end
section
namespace K12
open PySem PySem.Spec PyProof.Rows L2 Evl RZ Dw M20
section
variable {K : PySem.W.Frag} {h : Heap} {mg : Str → Option Value}
/-- a def by what the top has written -/
structure Wr (K : PySem.W.Frag) (x : Str) (st : Stmt) (f : Addr) : Prop where
  ex : ∃ (fd : FuncData), Fun K x x st f fd
  at_ : PySem.W.nsIn K mainGlobals x = some (some (.ref f))
theorem wr_mk {x : Str} {st : Stmt} {f : Addr} {od an : Option Addr} {sl : Array (Option Value)} {oc kV dc pm cd ct : Value} (a1 : PySem.W.nsIn K mainGlobals x = some (some (.ref f)))
    (l1 : K.lookup f = some ⟨oc, od, .func (PySem.W.fnOf x x (defArgs st) (defBody st) (defScope st) .none kV dc pm an cd ct), sl⟩) (c1 : PySem.W.codeIn K cd x = true) (k1 : PySem.W.keepIn K (.ref f) = true) : Wr K x st f := ⟨⟨_, fun_mk l1 c1 k1⟩, a1⟩
theorem Wr.df {x : Str} {st : Stmt} {f : Addr} {ps : List Str} (W : Wr K x st f) (X : K.In h) (G : h.Ns mainGlobals mg) (b : ∀ fd, Fun K x x st f fd → Binds K fd ps []) : Df K mg x st ps := by
  obtain ⟨fd, F⟩ := W.ex
  exact ⟨f, fd, F, PySem.W.mg_of X G W.at_, b fd F⟩

/-- a class by what the top has written -/
structure WC (K : PySem.W.Frag) (x q : Str) (st : Stmt) (C f : Addr) : Prop where
  ex : ∃ (fd : FuncData), Fun K "__init__" q st f fd
  at_ : PySem.W.nsIn K mainGlobals x = some (some (.ref C))
  md : Mk K C f
theorem wc_mk {x q : Str} {st : Stmt} {C f : Addr} {od an : Option Addr} {sl : Array (Option Value)} {oc kV dc pm cd ct : Value} (a1 : PySem.W.nsIn K mainGlobals x = some (some (.ref C)))
    (m1 : PySem.W.makesIn K C = true) (m2 : PySem.W.findIn K (.ref C) "__init__" = some (some (.ref f))) (m3 : PySem.W.isFn K (.ref f) = true) (m4 : PySem.W.keepIn K (.ref C) = true)
    (l1 : K.lookup f = some ⟨oc, od, .func (PySem.W.fnOf "__init__" q (defArgs st) (defBody st) (defScope st) .none kV dc pm an cd ct), sl⟩) (c1 : PySem.W.codeIn K cd q = true) (k1 : PySem.W.keepIn K (.ref f) = true) : WC K x q st C f := ⟨⟨_, fun_mk l1 c1 k1⟩, a1, ⟨m1, m2, m3, m4⟩⟩
theorem WC.df {x q : Str} {st : Stmt} {C f : Addr} {ps : List Str} (W : WC K x q st C f) (X : K.In h) (G : h.Ns mainGlobals mg) (b : ∀ fd, Fun K "__init__" q st f fd → Binds K fd ps []) : DfM K mg x q C st ps := by
  obtain ⟨fd, F⟩ := W.ex
  exact ⟨f, fd, F, W.md, PySem.W.mg_of X G W.at_, b fd F⟩
/-- the variables, as the top has written them -/
structure WV (K : PySem.W.Frag) (va : Addr) : Prop where
  at_ : PySem.W.nsIn K mainGlobals "VARIABLES" = some (some (.ref va))
  sq : ∀ H, SqT K H va (vars.map V.str)
theorem wv_mk {va : Addr} {sl : Array (Option Value)} {n : Nat} {t0 t1 t2 t3 t4 t5 : Tok} (a1 : PySem.W.nsIn K mainGlobals "VARIABLES" = some (some (.ref va))) (l1 : K.lookup va = some ⟨.type "tuple", none, .seq #[.str "u" t0, .str "v" t1, .str "w" t2, .str "x" t3, .str "y" t4, .str "z" t5] n, sl⟩) : WV K va :=
  ⟨a1, fun H => .inr ⟨_, _, _, l1, rfl, rfl, by show 6 ≤ sizeLine; decide, .cons ⟨_, rfl⟩ (.cons ⟨_, rfl⟩ (.cons ⟨_, rfl⟩ (.cons ⟨_, rfl⟩ (.cons ⟨_, rfl⟩ (.cons ⟨_, rfl⟩ .nil)))))⟩⟩
end
theorem all_mk {P : Program} {w : World} {K : PySem.W.Frag} {h : Heap} {mg : Str → Option Value} {fa : Addr} (X : K.In h) (G : h.Ns mainGlobals mg) (hfa : mg "law" = some (.ref fa)) (room : Room 20 callerA)
    {fl : Addr} {f0 : Addr} {f1 : Addr} {f2 : Addr} {f3 : Addr} {f4 : Addr} {f5 : Addr} {f6 : Addr} {f7 : Addr} {f8 : Addr} {f9 : Addr} {f10 : Addr} {f11 : Addr} {f12 : Addr} {f13 : Addr} {f14 : Addr} {f15 : Addr} {f16 : Addr} {f17 : Addr} {f18 : Addr} {f19 : Addr} {f20 : Addr} {f21 : Addr} {f22 : Addr} {f23 : Addr} {f24 : Addr} {f25 : Addr} {f26 : Addr} {f27 : Addr} {f28 : Addr} {f29 : Addr} {C0 i0 : Addr} {va : Addr} {S0 G0 a1 a2 a3 a4 a5 a6 a7 a8 a9 : Addr}
    {t_NAME_LETTERS : Tok} {t_MOST_NAME : Tok} {t_MOST_DEEDS : Tok} {t_MOST_PLACES : Tok} {t_MOST_PARTS : Tok} {t_MOST_SIDE : Tok} {t_MOST_LETTERS : Tok} {t_MOST_EQUATIONS : Tok} {t_MOST_SIZE : Tok}
    (w0 : Wr K "is_whole" s_is_whole f0)
    (w1 : Wr K "is_below" s_is_below f1)
    (w2 : Wr K "power" s_power f2)
    (w3 : Wr K "is_name" s_is_name f3)
    (w4 : Wr K "is_deed" s_is_deed f4)
    (w5 : Wr K "signature_wrong" s_signature_wrong f5)
    (w6 : Wr K "need_signature" s_need_signature f6)
    (w7 : Wr K "_law_purse" s_purse f7)
    (w8 : Wr K "_law_draw" s_draw f8)
    (w9 : Wr K "_law_pick" s_pick f9)
    (w10 : Wr K "_law_cells" s_cls f10)
    (w11 : Wr K "_law_deeds" s_dds f11)
    (w12 : Wr K "_law_model" s_mdl f12)
    (w13 : Wr K "is_whole" s_is_whole f13)
    (w14 : Wr K "is_below" s_is_below f14)
    (w15 : Wr K "_law_whole" s__law_whole f15)
    (w16 : Wr K "is_size" s_is_size f16)
    (w17 : Wr K "first_odd_cell" s_first_odd_cell f17)
    (w18 : Wr K "model_wrong" s_model_wrong f18)
    (w19 : Wr K "kind_wrong" s_kind_wrong f19)
    (w20 : Wr K "need_kind" s_need_kind f20)
    (w21 : Wr K "need_model" s_need_model f21)
    (w22 : Wr K "worth_by" s_worth_by f22)
    (w23 : Wr K "told_by" s_told_by f23)
    (w24 : Wr K "model_text" s_model_text f24)
    (w25 : Wr K "first_broken" s_first_broken f25)
    (w26 : Wr K "keeps" s_keeps f26)
    (w27 : Wr K "_law_due" s__law_due f27)
    (w28 : Wr K "_law_bent" s__law_bent f28)
    (w29 : Wr K "_law_refused" s__law_refused f29)
    (wl : Wr K "law" s_law fl)
    (wc0 : WC K "Model" "Model.__init__" s_Model__init C0 i0)
    (wv : WV K va)
    (xaS : PySem.W.nsIn K mainGlobals "NoModel" = some (some (.ref S0)))
    (xkS : PySem.W.keepIn K (.ref S0) = true)
    (xqS : PySem.W.excIn K S0 [.type "ValueError", .type "Exception", .type "BaseException", .type "object"] "ValueError.__new__" = true)
    (xtS : PySem.W.typeIn K (.ref S0) = some (.type "type"))
    (x1S : PySem.W.findIn K (.ref S0) "__getattribute__" = some (some (.builtin "BaseException.__getattribute__")))
    (x2S : PySem.W.findIn K (.ref S0) "__getattr__" = some none)
    (x3S : PySem.W.subIn K (.ref S0) (.type "BaseException") = some true)
    (x4S : PySem.W.hasDictIn K S0 = true)
    (x5S : PySem.W.findIn K (.ref S0) "__class__" = some (some (.builtin "object.__class__")))
    (x8S : PySem.W.mroIn K S0 (.type "object") = some true)
    (x6 : PySem.W.specialIn K (.builtin "object.__class__") "__get__" = some (some (.builtin "getset_descriptor.__get__")))
    (x7 : PySem.W.takesIn K (.builtin "object.__class__") = some true)
    (xg : PySem.W.nsIn K mainGlobals "DeedError" = some (some (.ref G0)))
    (y1 : PySem.W.subIn K (.ref G0) (.type "BaseException") = some true)
    (y2 : PySem.W.hasDictIn K G0 = true)
    (y3 : PySem.W.typeIn K (.ref G0) = some (.type "type"))
    (y4S : PySem.W.subIn K (.ref S0) (.ref G0) = some true)
    (m1 : PySem.W.nsIn K mainGlobals "NoArgs" = some (some (.ref a1)))
    (m2 : PySem.W.nsIn K mainGlobals "NoEquation" = some (some (.ref a2)))
    (m3 : PySem.W.nsIn K mainGlobals "NoKind" = some (some (.ref a3)))
    (m4 : PySem.W.nsIn K mainGlobals "NoLetters" = some (some (.ref a4)))
    (m5 : PySem.W.nsIn K mainGlobals "NoName" = some (some (.ref a5)))
    (m6 : PySem.W.nsIn K mainGlobals "NoSignature" = some (some (.ref a6)))
    (m7 : PySem.W.nsIn K mainGlobals "NoTerm" = some (some (.ref a7)))
    (m8 : PySem.W.nsIn K mainGlobals "NoText" = some (some (.ref a8)))
    (m9 : PySem.W.nsIn K mainGlobals "NoWorths" = some (some (.ref a9)))
    (oSS : PySem.W.kitOne K (.ref S0) (.ref S0) = some true)
    (oSs0 : PySem.W.kitAny K (.ref S0) [.ref a1, .ref a2, .ref a3, .ref a4, .ref a5, .ref a6] = some false)
    (oSs1 : PySem.W.kitAny K (.ref S0) [.ref a7, .ref a8, .ref a9] = some false)
    (oSv : PySem.W.kitOne K (.ref S0) (.type "ValueError") = some true)
    (z_ValueError : PySem.W.nsIn K mainGlobals "ValueError" = some none)
    (z_all : PySem.W.nsIn K mainGlobals "all" = some none)
    (z_bool : PySem.W.nsIn K mainGlobals "bool" = some none)
    (z_dict : PySem.W.nsIn K mainGlobals "dict" = some none)
    (z_enumerate : PySem.W.nsIn K mainGlobals "enumerate" = some none)
    (z_int : PySem.W.nsIn K mainGlobals "int" = some none)
    (z_isinstance : PySem.W.nsIn K mainGlobals "isinstance" = some none)
    (z_len : PySem.W.nsIn K mainGlobals "len" = some none)
    (z_list : PySem.W.nsIn K mainGlobals "list" = some none)
    (z_min : PySem.W.nsIn K mainGlobals "min" = some none)
    (z_range : PySem.W.nsIn K mainGlobals "range" = some none)
    (z_repr : PySem.W.nsIn K mainGlobals "repr" = some none)
    (z_reversed : PySem.W.nsIn K mainGlobals "reversed" = some none)
    (z_set : PySem.W.nsIn K mainGlobals "set" = some none)
    (z_sorted : PySem.W.nsIn K mainGlobals "sorted" = some none)
    (z_str : PySem.W.nsIn K mainGlobals "str" = some none)
    (z_super : PySem.W.nsIn K mainGlobals "super" = some none)
    (z_tuple : PySem.W.nsIn K mainGlobals "tuple" = some none)
    (z_zip : PySem.W.nsIn K mainGlobals "zip" = some none)
    (k_NAME_LETTERS : PySem.W.nsIn K mainGlobals "NAME_LETTERS" = some (some (.str "abcdefghijklmnopqrst" t_NAME_LETTERS)))
    (k_MOST_NAME : PySem.W.nsIn K mainGlobals "MOST_NAME" = some (some (.int 4 t_MOST_NAME)))
    (k_MOST_DEEDS : PySem.W.nsIn K mainGlobals "MOST_DEEDS" = some (some (.int 4 t_MOST_DEEDS)))
    (k_MOST_PLACES : PySem.W.nsIn K mainGlobals "MOST_PLACES" = some (some (.int 2 t_MOST_PLACES)))
    (k_MOST_PARTS : PySem.W.nsIn K mainGlobals "MOST_PARTS" = some (some (.int 60 t_MOST_PARTS)))
    (k_MOST_SIDE : PySem.W.nsIn K mainGlobals "MOST_SIDE" = some (some (.int 12 t_MOST_SIDE)))
    (k_MOST_LETTERS : PySem.W.nsIn K mainGlobals "MOST_LETTERS" = some (some (.int 4 t_MOST_LETTERS)))
    (k_MOST_EQUATIONS : PySem.W.nsIn K mainGlobals "MOST_EQUATIONS" = some (some (.int 8 t_MOST_EQUATIONS)))
    (k_MOST_SIZE : PySem.W.nsIn K mainGlobals "MOST_SIZE" = some (some (.int 6 t_MOST_SIZE))) :
    ∃ (fd : FuncData) (st : Stmt) (N : List Str), Fun K "law" "law" st fa fd ∧ FnScope N ["_law_script"] (defScope st) ∧ (∀ (s : Shared) (u : Value), BindsTo s fd ⟨[u], []⟩ [("_law_script", u)]) ∧
      ∀ (base : Heap) (s : Shared) (H : Hp) (cdv : Value) (a : Addr) (ns : List Int), K.In base → base.Ns mainGlobals mg → ns.length ≤ 63 → SqL K H a (ns.map V.int) →
        ∃ t, PSs (cxOf CX0 P w K mg base N "law" (defScope st) fa cdv callerA [] s H E0).nox (defBody st) t ∧ t { nx := fun _ _ => False, rt := fun v _ => v = .bl true } (L2.start N [.ref a]) H := by
  have e := hfa.symm.trans (PySem.W.mg_of X G wl.at_)
  cases e
  have T : Txt mg := {
    z_ValueError := PySem.W.mg_none_of X G z_ValueError
    z_all := PySem.W.mg_none_of X G z_all
    z_bool := PySem.W.mg_none_of X G z_bool
    z_dict := PySem.W.mg_none_of X G z_dict
    z_enumerate := PySem.W.mg_none_of X G z_enumerate
    z_int := PySem.W.mg_none_of X G z_int
    z_isinstance := PySem.W.mg_none_of X G z_isinstance
    z_len := PySem.W.mg_none_of X G z_len
    z_list := PySem.W.mg_none_of X G z_list
    z_min := PySem.W.mg_none_of X G z_min
    z_range := PySem.W.mg_none_of X G z_range
    z_repr := PySem.W.mg_none_of X G z_repr
    z_reversed := PySem.W.mg_none_of X G z_reversed
    z_set := PySem.W.mg_none_of X G z_set
    z_sorted := PySem.W.mg_none_of X G z_sorted
    z_str := PySem.W.mg_none_of X G z_str
    z_super := PySem.W.mg_none_of X G z_super
    z_tuple := PySem.W.mg_none_of X G z_tuple
    z_zip := PySem.W.mg_none_of X G z_zip
    c_NAME_LETTERS := ⟨_, PySem.W.mg_of X G k_NAME_LETTERS⟩
    c_MOST_NAME := ⟨_, PySem.W.mg_of X G k_MOST_NAME⟩
    c_MOST_DEEDS := ⟨_, PySem.W.mg_of X G k_MOST_DEEDS⟩
    c_MOST_PLACES := ⟨_, PySem.W.mg_of X G k_MOST_PLACES⟩
    c_MOST_PARTS := ⟨_, PySem.W.mg_of X G k_MOST_PARTS⟩
    c_MOST_SIDE := ⟨_, PySem.W.mg_of X G k_MOST_SIDE⟩
    c_MOST_LETTERS := ⟨_, PySem.W.mg_of X G k_MOST_LETTERS⟩
    c_MOST_EQUATIONS := ⟨_, PySem.W.mg_of X G k_MOST_EQUATIONS⟩
    c_MOST_SIZE := ⟨_, PySem.W.mg_of X G k_MOST_SIZE⟩ }
  have V0 : Vars K mg va := ⟨PySem.W.mg_of X G wv.at_, wv.sq⟩
  have er : ErM K mg S0 G0 a1 a2 a3 a4 a5 a6 a7 a8 a9 := ⟨⟨PySem.W.mg_of X G xaS, xkS, xqS, xtS, ⟨x1S, x2S, x3S, x4S, x5S, x6, x7, x8S⟩⟩, PySem.W.mg_of X G xg, PySem.W.exm_ref y1 y2 y3 y4S, PySem.W.mg_of X G m1, PySem.W.mg_of X G m2, PySem.W.mg_of X G m3, PySem.W.mg_of X G m4, PySem.W.mg_of X G m5, PySem.W.mg_of X G m6, PySem.W.mg_of X G m7, PySem.W.mg_of X G m8, PySem.W.mg_of X G m9, oSS, oSs0, oSs1, oSv⟩
  have D0 : Df K mg "is_whole" s_is_whole ["thing"] := w0.df X G fun fd F => by
    obtain ⟨oc, od, kV, doc, pm, an, cdv, ct, osl, e, _⟩ := F.ex
    subst e
    exact F.binds fun _ _ _ _ _ _ us hl => match us, hl with | [_], _ => rfl
  have D1 : Df K mg "is_below" s_is_below ["thing", "size"] := w1.df X G fun fd F => by
    obtain ⟨oc, od, kV, doc, pm, an, cdv, ct, osl, e, _⟩ := F.ex
    subst e
    exact F.binds fun _ _ _ _ _ _ us hl => match us, hl with | [_, _], _ => rfl
  have D2 : Df K mg "power" s_power ["base", "many"] := w2.df X G fun fd F => by
    obtain ⟨oc, od, kV, doc, pm, an, cdv, ct, osl, e, _⟩ := F.ex
    subst e
    exact F.binds fun _ _ _ _ _ _ us hl => match us, hl with | [_, _], _ => rfl
  have D3 : Df K mg "is_name" s_is_name ["thing"] := w3.df X G fun fd F => by
    obtain ⟨oc, od, kV, doc, pm, an, cdv, ct, osl, e, _⟩ := F.ex
    subst e
    exact F.binds fun _ _ _ _ _ _ us hl => match us, hl with | [_], _ => rfl
  have D4 : Df K mg "is_deed" s_is_deed ["thing"] := w4.df X G fun fd F => by
    obtain ⟨oc, od, kV, doc, pm, an, cdv, ct, osl, e, _⟩ := F.ex
    subst e
    exact F.binds fun _ _ _ _ _ _ us hl => match us, hl with | [_], _ => rfl
  have D5 : Df K mg "signature_wrong" s_signature_wrong ["thing"] := w5.df X G fun fd F => by
    obtain ⟨oc, od, kV, doc, pm, an, cdv, ct, osl, e, _⟩ := F.ex
    subst e
    exact F.binds fun _ _ _ _ _ _ us hl => match us, hl with | [_], _ => rfl
  have D6 : Df K mg "need_signature" s_need_signature ["signature"] := w6.df X G fun fd F => by
    obtain ⟨oc, od, kV, doc, pm, an, cdv, ct, osl, e, _⟩ := F.ex
    subst e
    exact F.binds fun _ _ _ _ _ _ us hl => match us, hl with | [_], _ => rfl
  have D7 : Df K mg "_law_purse" s_purse ["_law_script"] := w7.df X G fun fd F => by
    obtain ⟨oc, od, kV, doc, pm, an, cdv, ct, osl, e, _⟩ := F.ex
    subst e
    exact F.binds fun _ _ _ _ _ _ us hl => match us, hl with | [_], _ => rfl
  have D8 : Df K mg "_law_draw" s_draw ["_law_purse_here", "_law_out_of"] := w8.df X G fun fd F => by
    obtain ⟨oc, od, kV, doc, pm, an, cdv, ct, osl, e, _⟩ := F.ex
    subst e
    exact F.binds fun _ _ _ _ _ _ us hl => match us, hl with | [_, _], _ => rfl
  have D9 : Df K mg "_law_pick" s_pick ["_law_purse_here", "_law_some"] := w9.df X G fun fd F => by
    obtain ⟨oc, od, kV, doc, pm, an, cdv, ct, osl, e, _⟩ := F.ex
    subst e
    exact F.binds fun _ _ _ _ _ _ us hl => match us, hl with | [_, _], _ => rfl
  have D10 : Df K mg "_law_cells" s_cls ["_law_size", "_law_places"] := w10.df X G fun fd F => by
    obtain ⟨oc, od, kV, doc, pm, an, cdv, ct, osl, e, _⟩ := F.ex
    subst e
    exact F.binds fun _ _ _ _ _ _ us hl => match us, hl with | [_, _], _ => rfl
  have D11 : Df K mg "_law_deeds" s_dds ["_law_purse_here"] := w11.df X G fun fd F => by
    obtain ⟨oc, od, kV, doc, pm, an, cdv, ct, osl, e, _⟩ := F.ex
    subst e
    exact F.binds fun _ _ _ _ _ _ us hl => match us, hl with | [_], _ => rfl
  have D12 : Df K mg "_law_model" s_mdl ["_law_purse_here", "_law_deeds_here"] := w12.df X G fun fd F => by
    obtain ⟨oc, od, kV, doc, pm, an, cdv, ct, osl, e, _⟩ := F.ex
    subst e
    exact F.binds fun _ _ _ _ _ _ us hl => match us, hl with | [_, _], _ => rfl
  have D13 : Df K mg "is_whole" s_is_whole ["thing"] := w13.df X G fun fd F => by
    obtain ⟨oc, od, kV, doc, pm, an, cdv, ct, osl, e, _⟩ := F.ex
    subst e
    exact F.binds fun _ _ _ _ _ _ us hl => match us, hl with | [_], _ => rfl
  have D14 : Df K mg "is_below" s_is_below ["thing", "size"] := w14.df X G fun fd F => by
    obtain ⟨oc, od, kV, doc, pm, an, cdv, ct, osl, e, _⟩ := F.ex
    subst e
    exact F.binds fun _ _ _ _ _ _ us hl => match us, hl with | [_, _], _ => rfl
  have D15 : Df K mg "_law_whole" s__law_whole ["_law_piece"] := w15.df X G fun fd F => by
    obtain ⟨oc, od, kV, doc, pm, an, cdv, ct, osl, e, _⟩ := F.ex
    subst e
    exact F.binds fun _ _ _ _ _ _ us hl => match us, hl with | [_], _ => rfl
  have D16 : Df K mg "is_size" s_is_size ["thing"] := w16.df X G fun fd F => by
    obtain ⟨oc, od, kV, doc, pm, an, cdv, ct, osl, e, _⟩ := F.ex
    subst e
    exact F.binds fun _ _ _ _ _ _ us hl => match us, hl with | [_], _ => rfl
  have D17 : Df K mg "first_odd_cell" s_first_odd_cell ["size", "tables"] := w17.df X G fun fd F => by
    obtain ⟨oc, od, kV, doc, pm, an, cdv, ct, osl, e, _⟩ := F.ex
    subst e
    exact F.binds fun _ _ _ _ _ _ us hl => match us, hl with | [_, _], _ => rfl
  have D18 : Df K mg "model_wrong" s_model_wrong ["signature", "thing"] := w18.df X G fun fd F => by
    obtain ⟨oc, od, kV, doc, pm, an, cdv, ct, osl, e, _⟩ := F.ex
    subst e
    exact F.binds fun _ _ _ _ _ _ us hl => match us, hl with | [_, _], _ => rfl
  have D19 : Df K mg "kind_wrong" s_kind_wrong ["thing"] := w19.df X G fun fd F => by
    obtain ⟨oc, od, kV, doc, pm, an, cdv, ct, osl, e, _⟩ := F.ex
    subst e
    exact F.binds fun _ _ _ _ _ _ us hl => match us, hl with | [_], _ => rfl
  have D20 : Df K mg "need_kind" s_need_kind ["kind"] := w20.df X G fun fd F => by
    obtain ⟨oc, od, kV, doc, pm, an, cdv, ct, osl, e, _⟩ := F.ex
    subst e
    exact F.binds fun _ _ _ _ _ _ us hl => match us, hl with | [_], _ => rfl
  have D21 : Df K mg "need_model" s_need_model ["signature", "model"] := w21.df X G fun fd F => by
    obtain ⟨oc, od, kV, doc, pm, an, cdv, ct, osl, e, _⟩ := F.ex
    subst e
    exact F.binds fun _ _ _ _ _ _ us hl => match us, hl with | [_, _], _ => rfl
  have D22 : Df K mg "worth_by" s_worth_by ["signature", "model", "term", "worths"] := w22.df X G fun fd F => by
    obtain ⟨oc, od, kV, doc, pm, an, cdv, ct, osl, e, _⟩ := F.ex
    subst e
    exact F.binds fun _ _ _ _ _ _ us hl => match us, hl with | [_, _, _, _], _ => rfl
  have D23 : Df K mg "told_by" s_told_by ["signature", "model", "equations"] := w23.df X G fun fd F => by
    obtain ⟨oc, od, kV, doc, pm, an, cdv, ct, osl, e, _⟩ := F.ex
    subst e
    exact F.binds fun _ _ _ _ _ _ us hl => match us, hl with | [_, _, _], _ => rfl
  have D24 : Df K mg "model_text" s_model_text ["signature", "model"] := w24.df X G fun fd F => by
    obtain ⟨oc, od, kV, doc, pm, an, cdv, ct, osl, e, _⟩ := F.ex
    subst e
    exact F.binds fun _ _ _ _ _ _ us hl => match us, hl with | [_, _], _ => rfl
  have D25 : Df K mg "first_broken" s_first_broken ["kind", "model"] := w25.df X G fun fd F => by
    obtain ⟨oc, od, kV, doc, pm, an, cdv, ct, osl, e, _⟩ := F.ex
    subst e
    exact F.binds fun _ _ _ _ _ _ us hl => match us, hl with | [_, _], _ => rfl
  have D26 : Df K mg "keeps" s_keeps ["kind", "model"] := w26.df X G fun fd F => by
    obtain ⟨oc, od, kV, doc, pm, an, cdv, ct, osl, e, _⟩ := F.ex
    subst e
    exact F.binds fun _ _ _ _ _ _ us hl => match us, hl with | [_, _], _ => rfl
  have D27 : Df K mg "_law_due" s__law_due ["_law_deeds_here", "_law_thing"] := w27.df X G fun fd F => by
    obtain ⟨oc, od, kV, doc, pm, an, cdv, ct, osl, e, _⟩ := F.ex
    subst e
    exact F.binds fun _ _ _ _ _ _ us hl => match us, hl with | [_, _], _ => rfl
  have D28 : Df K mg "_law_bent" s__law_bent ["_law_purse_here", "_law_deeds_here", "_law_thing"] := w28.df X G fun fd F => by
    obtain ⟨oc, od, kV, doc, pm, an, cdv, ct, osl, e, _⟩ := F.ex
    subst e
    exact F.binds fun _ _ _ _ _ _ us hl => match us, hl with | [_, _, _], _ => rfl
  have D29 : Df K mg "_law_refused" s__law_refused ["_law_which", "_law_deeds_here", "_law_thing"] := w29.df X G fun fd F => by
    obtain ⟨oc, od, kV, doc, pm, an, cdv, ct, osl, e, _⟩ := F.ex
    subst e
    exact F.binds fun _ _ _ _ _ _ us hl => match us, hl with | [_, _, _], _ => rfl
  have DC0 : DfM K mg "Model" "Model.__init__" C0 s_Model__init ["self", "signature", "size", "tables"] := wc0.df X G fun fd F => by
    obtain ⟨oc, od, kV, doc, pm, an, cdv, ct, osl, e, _⟩ := F.ex
    subst e
    exact F.binds fun _ _ _ _ _ _ us hl => match us, hl with | [_, _, _, _], _ => rfl
  obtain ⟨fd, F⟩ := wl.ex
  refine ⟨fd, s_law, ["_law_script", "_law_purse_here", "_law_turn", "_law_deeds_here", "_law_thing", "_law_again", "_law_kept", "_law_due_here", "_law_ways", "_law_which"], F, sc_law, fun s u => ?_, fun base s H cdv a ns inB nsB len seq => ?_⟩
  · obtain ⟨oc, od, kV, doc, pm, an, cdv, ct, osl, e, _⟩ := F.ex
    subst e
    exact .of_eq rfl
  · have c_is_whole := c_is_whole (P := P) (w := w) (base := base) T D0 
    have c_is_below := c_is_below (P := P) (w := w) (base := base) T D1 c_is_whole
    have c_power := c_power (P := P) (w := w) (base := base) T D2 
    have c_is_name := c_is_name (P := P) (w := w) (base := base) T D3 
    have c_is_deed := c_is_deed (P := P) (w := w) (base := base) T D4 c_is_name c_is_below
    have c_signature_wrong := c_signature_wrong (P := P) (w := w) (base := base) T D5 c_is_deed
    have c_need_signature := c_need_signature (P := P) (w := w) (base := base) T D6 c_signature_wrong
    have c_purse := c_purse (P := P) (w := w) (base := base) T D7 
    have c_draw := c_draw (P := P) (w := w) (base := base) T D8 
    have c_pick := c_pick (P := P) (w := w) (base := base) T D9 c_draw
    have c_cells := c_cells (P := P) (w := w) (base := base) T D10 
    have c_deeds := c_deeds (P := P) (w := w) (base := base) T D11 c_draw c_pick
    have c_model := c_model (P := P) (w := w) (base := base) T D12 c_draw c_cells
    have c_whole_any := c_whole_any (P := P) (w := w) (base := base) T D13 
    have c_below_any := c_below_any (P := P) (w := w) (base := base) T D14 c_whole_any
    have c_lwhole_any := c_lwhole_any (P := P) (w := w) (base := base) T D15 
    have c_size_any := c_size_any (P := P) (w := w) (base := base) T D16 c_whole_any
    have c_odd_any := c_odd_any (P := P) (w := w) (base := base) T D17 c_below_any
    have c_mod_any := c_mod_any (P := P) (w := w) (base := base) T D18 c_need_signature c_size_any c_power c_odd_any
    have c_kind0 := c_kind0 (P := P) (w := w) (base := base) T D19 c_signature_wrong
    have c_need_kind0 := c_need_kind0 (P := P) (w := w) (base := base) T D20 c_kind0
    have c_need_modelM := c_need_modelM (P := P) (w := w) (base := base) T D21 er c_mod_any
    have c_worth_byM := c_worth_byM (P := P) (w := w) (base := base) T D22 c_need_modelM
    have c_told_byM := c_told_byM (P := P) (w := w) (base := base) T D23 c_need_modelM
    have c_model_textM := c_model_textM (P := P) (w := w) (base := base) T D24 c_need_modelM
    have c_first_brokenM := c_first_brokenM (P := P) (w := w) (base := base) T D25 c_need_kind0 c_need_modelM
    have c_keepsM := c_keepsM (P := P) (w := w) (base := base) T D26 c_first_brokenM
    have c_ldueM := c_ldueM (P := P) (w := w) (base := base) T D27 c_lwhole_any c_cells
    have c_ModelM := c_ModelM (P := P) (w := w) (base := base) T DC0 c_need_modelM
    have c_bentM := c_bentM (P := P) (w := w) (base := base) T D28 c_draw c_pick
    have c_refM := c_refM (P := P) (w := w) (base := base) T D29 er c_worth_byM c_keepsM c_told_byM c_model_textM c_ModelM
    exact law_ok T c_purse c_deeds c_model c_draw c_bentM c_ldueM c_mod_any c_refM room s H fa cdv a ns len seq
end K12
end
open PySem PySem.W PyProof.Rows
set_option maxHeartbeats 0 in
theorem PySem.Challenge.cw_deedworlds_k12_models_looked_at_holds : PySem.Challenge.rw_deedworlds_k12_models_looked_at.Holds := by
  w_on; o_law; k_head; (case hw => w_witness2)
  k_fill
  refine Dw.walkG (l := PySem.Challenge.rw_deedworlds_k12_models_looked_at) (n := 63) (k := 19) (x := "_law_script") rfl (by decide) rfl ⟨rfl, by decide, by decide⟩ (fun w h Y => PySem.W.kIn_of Y) ?F
  case F =>
    intro w mg fa h KX G hmg
    refine' K12.all_mk KX G hmg ⟨rfl, by decide, by decide⟩ (K12.wr_mk ?a0 ?l0 ?c0 ?k0) (K12.wr_mk ?a1 ?l1 ?c1 ?k1) (K12.wr_mk ?a2 ?l2 ?c2 ?k2) (K12.wr_mk ?a3 ?l3 ?c3 ?k3) (K12.wr_mk ?a4 ?l4 ?c4 ?k4) (K12.wr_mk ?a5 ?l5 ?c5 ?k5) (K12.wr_mk ?a6 ?l6 ?c6 ?k6) (K12.wr_mk ?a7 ?l7 ?c7 ?k7) (K12.wr_mk ?a8 ?l8 ?c8 ?k8) (K12.wr_mk ?a9 ?l9 ?c9 ?k9) (K12.wr_mk ?a10 ?l10 ?c10 ?k10) (K12.wr_mk ?a11 ?l11 ?c11 ?k11) (K12.wr_mk ?a12 ?l12 ?c12 ?k12) (K12.wr_mk ?a13 ?l13 ?c13 ?k13) (K12.wr_mk ?a14 ?l14 ?c14 ?k14) (K12.wr_mk ?a15 ?l15 ?c15 ?k15) (K12.wr_mk ?a16 ?l16 ?c16 ?k16) (K12.wr_mk ?a17 ?l17 ?c17 ?k17) (K12.wr_mk ?a18 ?l18 ?c18 ?k18) (K12.wr_mk ?a19 ?l19 ?c19 ?k19) (K12.wr_mk ?a20 ?l20 ?c20 ?k20) (K12.wr_mk ?a21 ?l21 ?c21 ?k21) (K12.wr_mk ?a22 ?l22 ?c22 ?k22) (K12.wr_mk ?a23 ?l23 ?c23 ?k23) (K12.wr_mk ?a24 ?l24 ?c24 ?k24) (K12.wr_mk ?a25 ?l25 ?c25 ?k25) (K12.wr_mk ?a26 ?l26 ?c26 ?k26) (K12.wr_mk ?a27 ?l27 ?c27 ?k27) (K12.wr_mk ?a28 ?l28 ?c28 ?k28) (K12.wr_mk ?a29 ?l29 ?c29 ?k29) (K12.wr_mk ?al ?ll ?cl ?kl) (K12.wc_mk ?Ca0 ?Cm0 ?Cn0 ?Co0 ?Cp0 ?Cl0 ?Cc0 ?Ck0) (K12.wv_mk ?av ?lv) ?xaS ?xkS ?xqS ?xtS ?x1S ?x2S ?x3S ?x4S ?x5S ?x8S ?x6 ?x7 ?xg ?y1 ?y2 ?y3 ?y4S ?m1 ?m2 ?m3 ?m4 ?m5 ?m6 ?m7 ?m8 ?m9 ?oSS ?oSs0 ?oSs1 ?oSv ?z_ValueError ?z_all ?z_bool ?z_dict ?z_enumerate ?z_int ?z_isinstance ?z_len ?z_list ?z_min ?z_range ?z_repr ?z_reversed ?z_set ?z_sorted ?z_str ?z_super ?z_tuple ?z_zip ?k_NAME_LETTERS ?k_MOST_NAME ?k_MOST_DEEDS ?k_MOST_PLACES ?k_MOST_PARTS ?k_MOST_SIDE ?k_MOST_LETTERS ?k_MOST_EQUATIONS ?k_MOST_SIZE
    (case a0 => k_is); (case l0 => k_is); (case c0 => k_is); (case k0 => k_is)
    (case a1 => k_is); (case l1 => k_is); (case c1 => k_is); (case k1 => k_is)
    (case a2 => k_is); (case l2 => k_is); (case c2 => k_is); (case k2 => k_is)
    (case a3 => k_is); (case l3 => k_is); (case c3 => k_is); (case k3 => k_is)
    (case a4 => k_is); (case l4 => k_is); (case c4 => k_is); (case k4 => k_is)
    (case a5 => k_is); (case l5 => k_is); (case c5 => k_is); (case k5 => k_is)
    (case a6 => k_is); (case l6 => k_is); (case c6 => k_is); (case k6 => k_is)
    (case a7 => k_is); (case l7 => k_is); (case c7 => k_is); (case k7 => k_is)
    (case a8 => k_is); (case l8 => k_is); (case c8 => k_is); (case k8 => k_is)
    (case a9 => k_is); (case l9 => k_is); (case c9 => k_is); (case k9 => k_is)
    (case a10 => k_is); (case l10 => k_is); (case c10 => k_is); (case k10 => k_is)
    (case a11 => k_is); (case l11 => k_is); (case c11 => k_is); (case k11 => k_is)
    (case a12 => k_is); (case l12 => k_is); (case c12 => k_is); (case k12 => k_is)
    (case a13 => k_is); (case l13 => k_is); (case c13 => k_is); (case k13 => k_is)
    (case a14 => k_is); (case l14 => k_is); (case c14 => k_is); (case k14 => k_is)
    (case a15 => k_is); (case l15 => k_is); (case c15 => k_is); (case k15 => k_is)
    (case a16 => k_is); (case l16 => k_is); (case c16 => k_is); (case k16 => k_is)
    (case a17 => k_is); (case l17 => k_is); (case c17 => k_is); (case k17 => k_is)
    (case a18 => k_is); (case l18 => k_is); (case c18 => k_is); (case k18 => k_is)
    (case a19 => k_is); (case l19 => k_is); (case c19 => k_is); (case k19 => k_is)
    (case a20 => k_is); (case l20 => k_is); (case c20 => k_is); (case k20 => k_is)
    (case a21 => k_is); (case l21 => k_is); (case c21 => k_is); (case k21 => k_is)
    (case a22 => k_is); (case l22 => k_is); (case c22 => k_is); (case k22 => k_is)
    (case a23 => k_is); (case l23 => k_is); (case c23 => k_is); (case k23 => k_is)
    (case a24 => k_is); (case l24 => k_is); (case c24 => k_is); (case k24 => k_is)
    (case a25 => k_is); (case l25 => k_is); (case c25 => k_is); (case k25 => k_is)
    (case a26 => k_is); (case l26 => k_is); (case c26 => k_is); (case k26 => k_is)
    (case a27 => k_is); (case l27 => k_is); (case c27 => k_is); (case k27 => k_is)
    (case a28 => k_is); (case l28 => k_is); (case c28 => k_is); (case k28 => k_is)
    (case a29 => k_is); (case l29 => k_is); (case c29 => k_is); (case k29 => k_is)
    (case al => k_is); (case ll => k_is); (case cl => k_is); (case kl => k_is)
    (case Ca0 => k_is); (case Cm0 => k_is); (case Cn0 => k_is); (case Co0 => k_is); (case Cp0 => k_is); (case Cl0 => k_is); (case Cc0 => k_is); (case Ck0 => k_is)
    (case av => k_is); (case lv => k_is)
    (case xaS => k_is); (case xkS => k_is); (case xqS => k_exc); (case xtS => k_is); (case x1S => k_is); (case x2S => k_is); (case x3S => k_is); (case x4S => k_is); (case x5S => k_is); (case x8S => k_is); (case x6 => k_is); (case x7 => k_is); (case xg => k_is); (case y1 => k_is); (case y2 => k_is); (case y3 => k_is); (case y4S => first | rfl | k_is); (case m1 => k_is); (case m2 => k_is); (case m3 => k_is); (case m4 => k_is); (case m5 => k_is); (case m6 => k_is); (case m7 => k_is); (case m8 => k_is); (case m9 => k_is); (case oSS => kit_is); (case oSs0 => kit_is); (case oSs1 => kit_is); (case oSv => kit_is)
    (case z_ValueError => k_is); (case z_all => k_is); (case z_bool => k_is); (case z_dict => k_is); (case z_enumerate => k_is); (case z_int => k_is); (case z_isinstance => k_is); (case z_len => k_is); (case z_list => k_is); (case z_min => k_is); (case z_range => k_is); (case z_repr => k_is); (case z_reversed => k_is); (case z_set => k_is); (case z_sorted => k_is); (case z_str => k_is); (case z_super => k_is); (case z_tuple => k_is); (case z_zip => k_is)
    (case k_NAME_LETTERS => k_is); (case k_MOST_NAME => k_is); (case k_MOST_DEEDS => k_is); (case k_MOST_PLACES => k_is); (case k_MOST_PARTS => k_is); (case k_MOST_SIDE => k_is); (case k_MOST_LETTERS => k_is); (case k_MOST_EQUATIONS => k_is); (case k_MOST_SIZE => k_is)
