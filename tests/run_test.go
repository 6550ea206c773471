package tests

import (
	"fmt"
	"math"
	"math/rand"
	"runtime"
	"slices"
	gosync "sync"
	"testing"
	"time"

	"loop.example/s01906/impl"
)

// steps is a run that is done call by call by the functions under Run, with the
// states of its chain beside it, the last one being that of the tip.
type steps struct {
	store   impl.Store
	chain   []chainState
	pages   int
	calls   []impl.Call
	reports []impl.Report
}

func newSteps(t *testing.T, pages int) *steps {
	t.Helper()
	return &steps{store: formatted(t, pages), chain: []chainState{{coins: map[impl.Point]impl.Coin{}}}, pages: pages}
}

func (x *steps) state() chainState {
	return x.chain[len(x.chain)-1]
}

// asked gives the changes of a call, and the chain behind it.
func (x *steps) asked(t *testing.T, c impl.Call) ([]impl.Change, []chainState, int) {
	t.Helper()
	switch c.Kind {
	case impl.CallConnect:
		changes, next, code := modelConnect(x.state(), c.Raw)
		return changes, append(slices.Clip(x.chain), next), code
	case impl.CallDisconnect:
		changes, code := modelDisconnect(entriesOf(t, x.store.Disk, x.store.Super.Root))
		return changes, x.chain[:max(0, len(x.chain)-1)], code
	}
	return nil, nil, impl.NoStore
}

// step does a call. Behind it the tip and the coins must be those before, or
// those that the call makes (promise 13), and no more than all subsidies
// (promise 12).
func (x *steps) step(t *testing.T, c impl.Call) int {
	t.Helper()
	changes, chain, code := x.asked(t, c)
	x.calls = append(x.calls, c)
	if code == 0 {
		code = x.carryOut(t, c, changes, chain)
	}
	now := stateOf(t, x.store)
	if !sameState(now, x.state()) || !impl.Whole(x.store.Disk, x.store.Super) {
		t.Fatalf("call %d: the store is that of another chain", len(x.calls))
	}
	if most := subsidiesTo(now.height); now.worth() > most {
		t.Fatalf("call %d: coins of %d, subsidies of %d", len(x.calls), now.worth(), most)
	}
	x.reports = append(x.reports, impl.Report{Code: code, Height: now.height, Tip: now.tip})
	return code
}

func (x *steps) carryOut(t *testing.T, c impl.Call, changes []impl.Change, chain []chainState) int {
	t.Helper()
	ops, next, code := impl.Update(x.store.Disk, x.store.Super, changes)
	if code != 0 {
		return impl.NoRoom
	}
	if c.Stop < 0 {
		x.store, x.chain = impl.Store{Disk: played(t, x.store.Disk, ops...), Super: next}, chain
		return 0
	}
	old := x.store.Super
	x.store = opened(t, crashed(t, x.store.Disk, ops, min(c.Stop, len(ops)), c.Choice))
	switch x.store.Super {
	case old:
	case next:
		x.chain = chain
	default:
		t.Fatalf("call %d: %v is neither %v nor %v", len(x.calls), x.store.Super, old, next)
	}
	return 0
}

func subsidiesTo(height int) int {
	sum := 0
	for h := 1; h <= height; h++ {
		sum += modelSubsidy(h)
	}
	return sum
}

// checkRun fails unless Run gives what the steps gave.
func (x *steps) checkRun(t *testing.T, name string) {
	t.Helper()
	before := deepCopy(x.calls)
	s, reports, ok := impl.Run(x.pages, x.calls)
	if !ok || !slices.Equal(reports, x.reports) {
		t.Fatalf("%s: %v, %v, not %v", name, ok, reports, x.reports)
	}
	if !sameStore(s, x.store) {
		t.Fatalf("%s: the store is another: %v, not %v", name, s.Super, x.store.Super)
	}
	checkKept(t, name+": Run", x.calls, before)
	checkApart(t, name+": Run", []any{s, reports}, x.calls)
}

func connectCall(b impl.Block) impl.Call {
	return impl.Call{Kind: impl.CallConnect, Raw: rawBlock(b), Stop: -1}
}

func disconnectCall() impl.Call {
	return impl.Call{Kind: impl.CallDisconnect, Stop: -1}
}

func codesOf(reports []impl.Report) []int {
	var codes []int
	for _, r := range reports {
		codes = append(codes, r.Code)
	}
	return codes
}

func TestRunUpAndDown(t *testing.T) {
	x := newSteps(t, 100)
	x.checkRun(t, "no calls")
	bases := []impl.Tx{{}, baseTx(1, 2000, 3000), baseTx(2, 5000), baseTx(3, 2500)}
	for h := 1; h <= 3; h++ {
		x.step(t, connectCall(blockOn(x.state(), bases[h])))
		x.checkRun(t, fmt.Sprintf("height %d", h))
	}
	one := spendTx([]impl.Point{outOf(bases[1], 1)}, 1000, 1500)
	x.step(t, connectCall(blockOn(x.state(), baseTx(4, 3000), one)))
	x.step(t, connectCall(blockOn(x.state(), baseTx(5, 2500), spendTx([]impl.Point{outOf(one, 0), outOf(bases[1], 0)}, 2999), spendTx([]impl.Point{outOf(bases[2], 0)}, 1, 2))))
	x.checkRun(t, "coins are spent")
	for range 6 {
		x.step(t, disconnectCall())
		x.checkRun(t, "on the way down")
	}
	x.step(t, connectCall(blockOn(x.state(), baseTx(1, 1))))
	x.checkRun(t, "up again")
	want := []int{0, 0, 0, 0, 0, 0, 0, 0, 0, 0, impl.AtStart, 0}
	if !slices.Equal(codesOf(x.reports), want) || x.reports[4].Height != 5 || x.reports[10].Height != 0 || x.reports[10].Tip != (impl.Hash{}) {
		t.Errorf("%v", x.reports)
	}
}

// Each code of a report, and what is refused changes nothing.
func TestRunCodes(t *testing.T) {
	x := newSteps(t, 100)
	base := baseTx(1, 10)
	x.step(t, connectCall(blockOn(x.state(), base)))
	c := x.state()
	wrong := blockOn(c, baseTx(2, 1))
	wrong.Root[0] ^= 1
	kept := deepCopy(x.store)
	for _, y := range []struct {
		call impl.Call
		code int
	}{
		{impl.Call{Kind: impl.CallConnect, Stop: -1}, impl.BadBytes},
		{connectCall(blockOn(chainState{}, baseTx(1, 1))), impl.BadParent},
		{connectCall(wrong), impl.BadRoot},
		{connectCall(blockOn(c)), impl.BadShape},
		{connectCall(blockOn(c, baseTx(2, 1), spendTx([]impl.Point{outOf(base, 1)}, 1))), impl.NoCoin},
		{connectCall(blockOn(c, baseTx(2, 1), spendTx([]impl.Point{outOf(base, 0)}, 1))), impl.NotRipe},
		{connectCall(blockOn(c, baseTx(2, 5001))), impl.BadPay},
		{impl.Call{}, impl.NoStore},
		{impl.Call{Kind: 3, Raw: rawBlock(blockOn(c, baseTx(2, 1))), Stop: -1}, impl.NoStore},
		{impl.Call{Kind: -1, Stop: 3, Choice: []byte{1}}, impl.NoStore},
		{impl.Call{Kind: math.MaxInt}, impl.NoStore},
		{impl.Call{Kind: math.MinInt}, impl.NoStore},
	} {
		for _, stop := range []int{-1, 0, 7, math.MaxInt} {
			call := y.call
			call.Stop = stop
			if code := x.step(t, call); code != y.code {
				t.Fatalf("%v: code %d, not %d", call, code, y.code)
			}
		}
		x.checkRun(t, fmt.Sprintf("code %d", y.code))
		if !sameStore(x.store, kept) {
			t.Fatalf("code %d: something is changed", y.code)
		}
	}
	for h := 2; h <= 4; h++ {
		x.step(t, connectCall(blockOn(x.state(), baseTx(h, 1))))
	}
	if code := x.step(t, connectCall(blockOn(x.state(), baseTx(5, 1), spendTx([]impl.Point{outOf(base, 0)}, 11)))); code != impl.BadSum {
		t.Errorf("code %d", code)
	}
	x.checkRun(t, "the sum")
	start := newSteps(t, 8)
	for range 3 {
		if code := start.step(t, disconnectCall()); code != impl.AtStart {
			t.Errorf("code %d", code)
		}
	}
	start.checkRun(t, "at the start")
}

// For a disconnecting call Raw is not looked at; Choice counts only with a Stop.
func TestRunFieldsThatDoNotCount(t *testing.T) {
	x := newSteps(t, 40)
	call := connectCall(blockOn(x.state(), baseTx(1, 1)))
	call.Choice = []byte{0, 1, 255}
	x.step(t, call)
	raw := rawBlock(blockOn(x.state(), baseTx(2, 1)))
	call = impl.Call{Kind: impl.CallDisconnect, Raw: raw, Stop: -1, Choice: []byte{0}}
	if code := x.step(t, call); code != 0 || x.state().height != 0 {
		t.Errorf("code %d, height %d", code, x.state().height)
	}
	x.checkRun(t, "fields")
}

func TestRunRefused(t *testing.T) {
	good := connectCall(blockOn(chainState{}, baseTx(1, 1)))
	for _, pages := range []int{math.MinInt, -8, -1, 0, 1, 7, 1025, 4096, math.MaxInt} {
		for _, calls := range [][]impl.Call{nil, {good}} {
			if s, reports, ok := impl.Run(pages, calls); ok || len(reports) != 0 || !sameStore(s, impl.Store{}) {
				t.Errorf("%d pages: %v %v", pages, ok, reports)
			}
		}
	}
	for _, pages := range []int{8, 9, 1023, 1024} {
		x := newSteps(t, pages)
		x.checkRun(t, fmt.Sprintf("%d pages, no calls", pages))
		x.step(t, good)
		x.checkRun(t, fmt.Sprintf("%d pages", pages))
	}
	for _, n := range []int{201, 202, 1000} {
		if s, reports, ok := impl.Run(20, slices.Repeat([]impl.Call{good}, n)); ok || len(reports) != 0 || !sameStore(s, impl.Store{}) {
			t.Errorf("%d calls: %v, %d reports", n, ok, len(reports))
		}
	}
	if _, _, ok := impl.Run(7, make([]impl.Call, 201)); ok {
		t.Errorf("too few pages and too many calls")
	}
}

// Promise 14: one report for each of 200 calls, and a whole store.
func TestRunTwoHundredCalls(t *testing.T) {
	x := newSteps(t, 20)
	for i := range 200 {
		switch i % 4 {
		case 0, 2:
			x.step(t, connectCall(blockOn(x.state(), baseTx(x.state().height+1, 1+i))))
		case 1:
			x.step(t, disconnectCall())
		case 3:
			x.step(t, impl.Call{Kind: impl.CallDisconnect, Stop: i % 30, Choice: []byte{byte(i)}})
		}
	}
	x.checkRun(t, "200 calls")
	if len(x.reports) != 200 {
		t.Errorf("%d reports", len(x.reports))
	}
	s, reports, ok := impl.Run(8, make([]impl.Call, 200))
	if !ok || len(reports) != 200 || !sameStore(s, formatted(t, 8)) {
		t.Errorf("200 calls of no kind: %v, %d reports", ok, len(reports))
	}
}

// When there is no room, nothing happens, and calls go on behind it.
func TestRunNoRoom(t *testing.T) {
	for _, pages := range []int{8, 9, 10, 12, 16, 24} {
		x := newSteps(t, pages)
		refused := 0
		for i := range 40 {
			before := deepCopy(x.store)
			call := connectCall(blockOn(x.state(), baseTx(x.state().height+1, 1, 1, 1, 1)))
			if i%3 == 1 {
				call.Stop = i
			}
			if i%8 == 7 {
				call = disconnectCall()
			}
			if x.step(t, call) != impl.NoRoom {
				continue
			}
			refused++
			if !sameStore(x.store, before) {
				t.Fatalf("%d pages: something is changed", pages)
			}
		}
		x.checkRun(t, fmt.Sprintf("%d pages", pages))
		if refused == 0 || x.reports[0].Height != 1 {
			t.Errorf("%d pages: %d were refused, %v", pages, refused, x.reports[0])
		}
	}
	x := newSteps(t, 8)
	x.step(t, connectCall(blockOn(x.state(), baseTx(1, 1, 1, 1, 1, 1, 1))))
	if code := x.step(t, disconnectCall()); code != impl.NoRoom && code != 0 {
		t.Errorf("code %d", code)
	}
	x.checkRun(t, "a block of six Outs")
}

// Promise 13: a call that is cut off behind each of its ops leaves the tip and
// the coins before it or behind it.
func TestRunStopsAtEachOp(t *testing.T) {
	up := newSteps(t, 30)
	base := baseTx(1, 1000, 2000, 3, 4)
	up.step(t, connectCall(blockOn(up.state(), base)))
	for h := 2; h <= 3; h++ {
		up.step(t, connectCall(blockOn(up.state(), baseTx(h, h))))
	}
	four := blockOn(up.state(), baseTx(4, 5, 6), spendTx([]impl.Point{outOf(base, 0), outOf(base, 3)}, 7, 8, 9), spendTx([]impl.Point{outOf(base, 1)}, 10))
	checkStops(t, "connect", up, connectCall(four))
	top := *up
	top.calls, top.reports = slices.Clone(up.calls), slices.Clone(up.reports)
	top.step(t, connectCall(four))
	checkStops(t, "disconnect", &top, disconnectCall())
	start := newSteps(t, 30)
	checkStops(t, "the first block", start, connectCall(blockOn(start.state(), baseTx(1, 1, 2))))
	start.step(t, connectCall(blockOn(start.state(), baseTx(1, 1, 2))))
	checkStops(t, "back to the start", start, disconnectCall())
}

func checkStops(t *testing.T, name string, from *steps, call impl.Call) {
	t.Helper()
	changes, chain, code := from.asked(t, call)
	ops, _, updated := impl.Update(from.store.Disk, from.store.Super, changes)
	if code != 0 || updated != 0 {
		t.Fatalf("%s: codes %d %d", name, code, updated)
	}
	before, behind := from.state(), chain[len(chain)-1]
	seen := map[int]int{}
	stops := append(numbers(-2, len(ops)+2), math.MinInt, math.MaxInt)
	for _, stop := range stops {
		for i, choice := range choices(rand.New(rand.NewSource(int64(stop))), 1) {
			if stop < 0 && i > 0 {
				break
			}
			x := *from
			x.calls, x.reports = slices.Clone(from.calls), slices.Clone(from.reports)
			call.Stop, call.Choice = stop, choice
			if code := x.step(t, call); code != 0 {
				t.Fatalf("%s: stop %d, choice %v: code %d", name, stop, choice, code)
			}
			x.checkRun(t, fmt.Sprintf("%s: stop %d, choice %v", name, stop, choice))
			switch height := x.state().height; {
			case (stop < 0 || stop >= len(ops)) && height != behind.height,
				stop >= 0 && stop < len(ops)-4 && height != before.height:
				t.Fatalf("%s: stop %d, choice %v: height %d", name, stop, choice, height)
			default:
				seen[height]++
			}
		}
	}
	if seen[before.height] < 10 || seen[behind.height] < 10 {
		t.Errorf("%s: %v", name, seen)
	}
}

// Promises 11 to 14 on random runs, with blocks that are taken and such that
// are not, and calls that are cut off anywhere.
func TestRunRandom(t *testing.T) {
	for i, pages := range []int{10, 14, 30, 90, 200} {
		r := rand.New(rand.NewSource(int64(70 + i)))
		x := newSteps(t, pages)
		seen := map[int]int{}
		for k := range 80 {
			seen[x.step(t, randomCall(r, x))]++
			if k%16 == 0 {
				x.checkRun(t, fmt.Sprintf("%d pages, %d calls", pages, k+1))
			}
		}
		x.checkRun(t, fmt.Sprintf("%d pages", pages))
		if pages >= 30 && seen[0] < 20 || seen[0] == 0 {
			t.Errorf("%d pages: %v", pages, seen)
		}
	}
}

func randomCall(r *rand.Rand, x *steps) impl.Call {
	c := impl.Call{Kind: impl.CallConnect, Stop: -1}
	next := randomNext(r, x.state())
	switch r.Intn(10) {
	case 0, 1:
		c.Kind = impl.CallDisconnect
	case 2:
		c.Raw = spoilt(r, x.state(), next)
	default:
		c.Raw = rawBlock(next)
	}
	if r.Intn(2) == 0 {
		c.Stop = r.Intn(60)
		if r.Intn(2) == 0 {
			c.Stop = 60 + r.Intn(100)
		}
		c.Choice = make([]byte, r.Intn(9))
		r.Read(c.Choice)
	}
	return c
}

// mixedCalls are calls with and without a Stop.
func mixedCalls(t *testing.T) *steps {
	t.Helper()
	x := newSteps(t, 40)
	r := rand.New(rand.NewSource(80))
	for range 40 {
		x.step(t, randomCall(r, x))
	}
	return x
}

// The goroutine of a call has ended when the call answers. (The last of its
// steps, when it has said so, may still be under way.)
func TestRunEndsItsGoroutines(t *testing.T) {
	x := mixedCalls(t)
	before := runtime.NumGoroutine()
	for range 5 {
		x.checkRun(t, "mixed")
		for wait := 0; runtime.NumGoroutine() > before; wait++ {
			if wait > 200 {
				t.Fatalf("%d goroutines, before %d", runtime.NumGoroutine(), before)
			}
			time.Sleep(time.Millisecond)
		}
	}
}

// The answer does not hang on how goroutines run: with one thread, with many
// runs at once.
func TestRunIsTheSameAlways(t *testing.T) {
	x := mixedCalls(t)
	threads := runtime.GOMAXPROCS(1)
	x.checkRun(t, "one thread")
	runtime.GOMAXPROCS(threads)
	var all gosync.WaitGroup
	for range 8 {
		all.Go(func() {
			s, reports, ok := impl.Run(x.pages, x.calls)
			if !ok || !slices.Equal(reports, x.reports) || !sameStore(s, x.store) {
				t.Errorf("another answer when many run at once")
			}
		})
	}
	all.Wait()
}
