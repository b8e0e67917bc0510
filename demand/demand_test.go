package demand

import (
	"math"
	"math/big"
	"math/rand"
	"reflect"
	"testing"

	"carrefour/api"
	"carrefour/frac"
)

const (
	least    = math.MinInt64
	greatest = math.MaxInt64
)

func fr(n, d int64) api.Frac { return api.Frac{Num: n, Den: d} }

func head(volume, sat int64, use api.Frac) api.Head {
	return api.Head{Volume: volume, Sat: sat, Use: use}
}

// answer is a fraction, or an error beside the zero one.
type answer struct {
	f api.Frac
	e api.Errno
}

func ok(n, d int64) answer { return answer{fr(n, d), api.OK} }

func no(e api.Errno) answer { return answer{api.Frac{}, e} }

func asked(f api.Frac, e api.Errno) answer { return answer{f, e} }

// fits tells whether a number in lowest terms is one of layer 2.
func fits(r *big.Rat) bool { return r.Num().IsInt64() && r.Denom().IsInt64() }

// over tells n / d, both of any size, by math/big alone.
func over(n, d *big.Int) (*big.Rat, api.Errno) {
	if d.Sign() == 0 {
		return nil, api.ErrZero
	}
	r := new(big.Rat).SetFrac(n, d)
	if !fits(r) {
		return nil, api.ErrOver
	}
	return r, api.OK
}

// told holds the chapter's steps of a volume, or of a ratio, one behind the other, by math/big alone.
func told(h api.Head, peak api.Frac, ratio bool) answer {
	use, e := over(big.NewInt(h.Use.Num), big.NewInt(h.Use.Den))
	if e != api.OK {
		return no(e)
	}
	volume := use.Mul(use, new(big.Rat).SetInt64(h.Volume))
	if !fits(volume) {
		return no(api.ErrOver)
	}
	factor, e := over(big.NewInt(peak.Num), big.NewInt(peak.Den))
	if e != api.OK {
		return no(e)
	}
	num := new(big.Int).Mul(volume.Num(), factor.Denom())
	den := new(big.Int).Mul(volume.Denom(), factor.Num())
	counted, e := over(num, den)
	if e == api.OK && ratio {
		counted, e = over(counted.Num(), new(big.Int).Mul(counted.Denom(), big.NewInt(h.Sat)))
	}
	if e != api.OK {
		return no(e)
	}
	return ok(counted.Num().Int64(), counted.Denom().Int64())
}

// hold asks both calls and holds them against the chapter's steps.
func hold(t *testing.T, h api.Head, peak api.Frac) {
	t.Helper()
	if got, want := asked(Volume(h, peak)), told(h, peak, false); got != want {
		t.Fatalf("Volume %d, Use %v, Peak %v: %v; want %v", h.Volume, h.Use, peak, got, want)
	}
	if got, want := asked(Ratio(h, peak)), told(h, peak, true); got != want {
		t.Fatalf("Volume %d, Sat %d, Use %v, Peak %v: ratio %v; want %v", h.Volume, h.Sat, h.Use, peak, got, want)
	}
}

// Promises 9.1 and 9.2: the chapter's examples.
func TestExamples(t *testing.T) {
	h := head(400, 1800, fr(21, 20))
	if got := asked(Volume(h, fr(9, 10))); got != ok(1400, 3) {
		t.Error("Volume:", got)
	}
	ratio := asked(Ratio(h, fr(9, 10)))
	if ratio != ok(7, 27) {
		t.Error("Ratio:", ratio)
	}
	if s, e := Rate(ratio.f, 3); s != "0.259" || e != api.OK {
		t.Error("Rate:", s, e)
	}
}

// row is a head's numbers and the peak hour's factor, with the volume and the ratio that the chapter has for them.
type row struct {
	volume, sat   int64
	use, peak     api.Frac
	counts, ratio answer
}

func holdRows(t *testing.T, l []row) {
	t.Helper()
	for _, r := range l {
		h := head(r.volume, r.sat, r.use)
		if got := asked(Volume(h, r.peak)); got != r.counts {
			t.Errorf("Volume %d, Use %v, Peak %v: %v; want %v", r.volume, r.use, r.peak, got, r.counts)
		}
		if got := asked(Ratio(h, r.peak)); got != r.ratio {
			t.Errorf("Volume %d, Sat %d, Use %v, Peak %v: ratio %v; want %v", r.volume, r.sat, r.use, r.peak, got, r.ratio)
		}
		hold(t, h, r.peak)
	}
}

// Promise 9.1: ordinary numbers; those of Use and Peak need not be in lowest terms, nor above 0.
func TestOrdinary(t *testing.T) {
	holdRows(t, []row{
		{600, 1500, fr(1, 2), fr(4, 5), ok(375, 1), ok(1, 4)},
		{600, 1500, fr(105, 210), fr(80, 100), ok(375, 1), ok(1, 4)},
		{0, 1500, fr(1, 2), fr(4, 5), ok(0, 1), ok(0, 1)},
		{600, 1500, fr(0, 7), fr(4, 5), ok(0, 1), ok(0, 1)},
		{600, 600, fr(1, 1), fr(1, 1), ok(600, 1), ok(1, 1)},
		{600, 1, fr(1, 1), fr(1, 1), ok(600, 1), ok(600, 1)},
		{1900, 1800, fr(1, 1), fr(1, 1), ok(1900, 1), ok(19, 18)},
		{-600, 1500, fr(1, 2), fr(4, 5), ok(-375, 1), ok(-1, 4)},
		{600, -1500, fr(1, 2), fr(4, 5), ok(375, 1), ok(-1, 4)},
		{600, 1500, fr(1, -2), fr(4, 5), ok(-375, 1), ok(-1, 4)},
		{600, 1500, fr(-1, -2), fr(4, 5), ok(375, 1), ok(1, 4)},
		{600, 1500, fr(1, 2), fr(-4, 5), ok(-375, 1), ok(-1, 4)},
		{600, 1500, fr(1, 2), fr(-4, -5), ok(375, 1), ok(1, 4)},
	})
}

// Promise 9.1: quotients by 0, in Use, in Peak (its factor may be 0, too) and by Sat.
func TestByNought(t *testing.T) {
	zero := no(api.ErrZero)
	holdRows(t, []row{
		{600, 1500, fr(1, 0), fr(4, 5), zero, zero},
		{600, 1500, fr(0, 0), fr(4, 5), zero, zero},
		{0, 1500, fr(least, 0), fr(4, 5), zero, zero},
		{600, 1500, fr(1, 2), fr(4, 0), zero, zero},
		{600, 1500, fr(1, 2), fr(0, 0), zero, zero},
		{600, 1500, fr(1, 2), fr(0, 5), zero, zero},
		{0, 1500, fr(1, 2), fr(0, 5), zero, zero},
		{600, 0, fr(1, 2), fr(4, 5), ok(375, 1), zero},
		{0, 0, fr(1, 2), fr(4, 5), ok(0, 1), zero},
		{0, 0, fr(0, 0), fr(0, 0), zero, zero},
	})
}

// Promise 9.1: the ends of the type at each place, and which answers of it fit: in lowest terms, with a denominator above 0.
func TestEnds(t *testing.T) {
	tooGreat := no(api.ErrOver)
	one := fr(1, 1)
	holdRows(t, []row{
		{greatest, greatest, one, one, ok(greatest, 1), ok(1, 1)},
		{least, least, one, one, ok(least, 1), ok(1, 1)},
		{greatest, least, one, one, ok(greatest, 1), tooGreat},
		{least, greatest, one, one, ok(least, 1), ok(least, greatest)},
		{1, greatest, one, one, ok(1, 1), ok(1, greatest)},
		{1, least, one, one, ok(1, 1), tooGreat},
		{2, least, one, one, ok(2, 1), ok(-1, 1<<62)},
		{least, -1, one, one, ok(least, 1), tooGreat},
		{least, 2, one, one, ok(least, 1), ok(-1<<62, 1)},
		{1, 1, fr(greatest, greatest), one, ok(1, 1), ok(1, 1)},
		{1, 1, fr(least, least), one, ok(1, 1), ok(1, 1)},
		{1, 1, fr(least, 1), one, ok(least, 1), ok(least, 1)},
		{1, 1, fr(least, -1), one, tooGreat, tooGreat},
		{0, 1, fr(least, -1), one, tooGreat, tooGreat},
		{least, 1, fr(1, least), one, tooGreat, tooGreat},
		{1, 1, fr(2, least), one, ok(-1, 1<<62), ok(-1, 1<<62)},
		{1, 1, fr(0, least), one, ok(0, 1), ok(0, 1)},
		{2, 1, fr(greatest, 1), one, tooGreat, tooGreat},
		{2, 1, fr(greatest, 2), one, ok(greatest, 1), ok(greatest, 1)},
		{greatest, 1, fr(greatest, greatest), one, ok(greatest, 1), ok(greatest, 1)},
		{greatest, 1, fr(1, greatest), one, ok(1, 1), ok(1, 1)},
		{least, 1, fr(-1, 1), one, tooGreat, tooGreat},
		{1, 1, one, fr(greatest, greatest), ok(1, 1), ok(1, 1)},
		{1, 1, one, fr(least, least), ok(1, 1), ok(1, 1)},
		{1, 1, one, fr(least, 1), tooGreat, tooGreat},
		{2, 1, one, fr(least, 1), ok(-1, 1<<62), ok(-1, 1<<62)},
		{1, 1, one, fr(1, least), tooGreat, tooGreat},
		{0, 1, one, fr(1, least), tooGreat, tooGreat},
		{1, 1, one, fr(2, least), ok(-1<<62, 1), ok(-1<<62, 1)},
		{1, 1, one, fr(least, -1), tooGreat, tooGreat},
		{2, 1, one, fr(1, greatest), tooGreat, tooGreat},
		{2, 2, one, fr(2, greatest), ok(greatest, 1), ok(greatest, 2)},
	})
}

// Promise 9.1: steps are done one by one: what is too great on the way is refused, though a later step would bring it back; what is too great within one step is not.
func TestStepByStep(t *testing.T) {
	tooGreat := no(api.ErrOver)
	holdRows(t, []row{
		{1 << 62, 4, fr(4, 1), fr(4, 1), tooGreat, tooGreat},
		{1 << 62, 4, fr(1, 1), fr(1, 4), tooGreat, tooGreat},
		{1 << 62, 4, fr(4, 8), fr(4, 1), ok(1<<59, 1), ok(1<<57, 1)},
		{1 << 62, 1 << 62, fr(3<<60, 1<<62), fr(3, 4), ok(1<<62, 1), ok(1, 1)},
		{3, 1, fr(1<<62, 3), fr(1<<61, 3), ok(6, 1), ok(6, 1)},
		{1_000_000_000, 1_000_000_000, fr(1_000_000_000, 1), fr(1, 1_000_000_000), tooGreat, tooGreat},
		{1_000_000_000, 1_000_000_000, fr(1_000_000_000, 1), fr(1, 9), ok(9_000_000_000_000_000_000, 1), ok(9_000_000_000, 1)},
		{1_000_000_000, 1_000_000_000, fr(1_000_000_000, 1), fr(1, 10), tooGreat, tooGreat},
		{1, 1_000_000_000, fr(1, 1_000_000_000), fr(9, 1), ok(1, 9_000_000_000), ok(1, 9_000_000_000_000_000_000)},
		{1, 1_000_000_000, fr(1, 1_000_000_000), fr(10, 1), ok(1, 10_000_000_000), tooGreat},
	})
}

// Promise 9.1, rule R2: where two steps would be refused, the first one's error is told.
func TestFirstError(t *testing.T) {
	zero, tooGreat := no(api.ErrZero), no(api.ErrOver)
	holdRows(t, []row{
		{2, 1, fr(1, 0), fr(1, least), zero, zero},
		{2, 1, fr(1, least), fr(1, 0), tooGreat, tooGreat},
		{2, 1, fr(1, least), fr(0, 1), tooGreat, tooGreat},
		{2, 1, fr(least, -1), fr(0, 0), tooGreat, tooGreat},
		{2, 1, fr(greatest, 1), fr(1, 0), tooGreat, tooGreat},
		{2, 1, fr(greatest, 1), fr(0, 1), tooGreat, tooGreat},
		{2, 0, fr(greatest, 1), fr(1, 1), tooGreat, tooGreat},
		{2, 0, fr(1, 1), fr(1, least), tooGreat, tooGreat},
		{2, 0, fr(1, 1), fr(1, greatest), tooGreat, tooGreat},
		{1, 0, fr(1, least), fr(1, 1), tooGreat, tooGreat},
		{1, least, fr(1, 0), fr(1, 1), zero, zero},
		{1, least, fr(1, 1), fr(1, 0), zero, zero},
		{1, least, fr(1, 1), fr(0, 1), zero, zero},
	})
}

// edges: around 0, a limit of api, and the ends of the type.
func edges() []int64 {
	return []int64{least, least + 1, -1 << 62, -6, -1, 0, 1, 2, 9, api.MaxVolume, 1 << 62, greatest - 1, greatest}
}

// Promise 9.1, rules R1 and R2: each two edges as Use, as Peak, and as Volume and Sat, with some others beside them. (All rows of six edges would be too many.)
func TestEveryEdge(t *testing.T) {
	few := []int64{least, -4, 0, 1, 3, 1 << 62, greatest}
	for _, a := range edges() {
		for _, b := range edges() {
			for _, c := range few {
				for _, d := range few {
					for _, v := range few {
						hold(t, head(v, c, fr(a, b)), fr(c, d))
						hold(t, head(v, b, fr(c, d)), fr(a, b))
						hold(t, head(a, b, fr(c, d)), fr(v, 1))
						hold(t, head(a, b, fr(v, d)), fr(c, 12))
					}
				}
			}
		}
	}
}

// chance tells a number of any size, of both signs.
func chance(r *rand.Rand) int64 {
	n := int64(r.Uint64() >> r.Intn(64))
	if r.Intn(4) == 0 {
		n = -n
	}
	return n
}

// Promise 9.1: numbers of all sizes, all over the type, and such as networks have them.
func TestChance(t *testing.T) {
	r := rand.New(rand.NewSource(9))
	for range 200000 {
		hold(t, head(chance(r), chance(r), fr(chance(r), chance(r))), fr(chance(r), chance(r)))
		may := func() int64 { return 1 + r.Int63n(api.MaxVolume>>r.Intn(30)) }
		hold(t, head(may(), may(), fr(may(), may())), fr(may(), may()))
	}
}

// Promise 9.1: nothing of a head counts but its Volume, Use and, for the ratio, Sat.
func TestOtherFields(t *testing.T) {
	h := api.Head{
		Name: "to", Volume: 600, Sat: 1500, Use: fr(1, 2),
		Speed: least, Grade: greatest, Width: -1, Length: least, Green: 0, Pos: -7,
	}
	if got := asked(Ratio(h, fr(4, 5))); got != ok(1, 4) {
		t.Error(got)
	}
	h.Sat = 0
	if got := asked(Volume(h, fr(4, 5))); got != ok(375, 1) {
		t.Error(got)
	}
}

// Promise 9.1, and the way that it is asked for: each step goes on from what came ahead, and behind one that is refused none is done.
func TestReckoning(t *testing.T) {
	next := reckoning()
	done := 0
	do := func(a, b api.Frac) (api.Frac, api.Errno) {
		done++
		return frac.Add(a, b)
	}
	for i, want := range []answer{ok(3, 2), ok(2, 1), ok(5, 2)} {
		if got := asked(next(do, fr(2, 4))); got != want || done != i+1 {
			t.Fatal(i, got, done)
		}
	}
	if got := asked(next(do, fr(1, 0))); got != no(api.ErrZero) || done != 3 {
		t.Fatal(got, done)
	}
	if got := asked(next(do, fr(1, least))); got != no(api.ErrZero) || done != 3 {
		t.Fatal(got, done)
	}
	if got := asked(reckoning()(do, fr(1, 1))); got != ok(2, 1) {
		t.Fatal("of its own:", got)
	}
}

// Promise 9.3: of one volume and the next greater one, the greater one has the greater ratio, by as much as a volume of 1 has.
func TestGrows(t *testing.T) {
	factors := []api.Frac{fr(1, 1), fr(21, 20), fr(92, 100), fr(1, api.MaxVolume), fr(api.MaxVolume, 1), fr(999_999_937, 999_999_929)}
	volumes := []int64{least, -1000, -2, -1, 0, 1, 2, 399, 400, 999_999_998, 999_999_999, 1 << 62, greatest - 2, greatest - 1}
	grown := 0
	for _, use := range factors {
		for _, peak := range factors {
			for _, sat := range []int64{1, 7, 1800, api.MaxVolume, greatest} {
				for _, v := range volumes {
					less, e := Ratio(head(v, sat, use), peak)
					more, f := Ratio(head(v+1, sat, use), peak)
					one, g := Ratio(head(1, sat, use), peak)
					if e != api.OK || f != api.OK || g != api.OK {
						continue
					}
					grown++
					apart := new(big.Rat).Sub(big.NewRat(more.Num, more.Den), big.NewRat(less.Num, less.Den))
					if frac.Cmp(less, more) >= 0 || apart.Cmp(big.NewRat(one.Num, one.Den)) != 0 {
						t.Fatalf("Sat %d, Use %v, Peak %v: of %d %v, of %d %v", sat, use, peak, v, less, v+1, more)
					}
				}
			}
		}
	}
	if grown < 500 {
		t.Error("few ratios fit:", grown)
	}
}

// Promise 9.3: the same along the volumes of a network, one by one.
func TestGrowsOneByOne(t *testing.T) {
	ahead := fr(-1, 1)
	for v := int64(0); v <= 3000; v++ {
		f, e := Ratio(head(v, 1800, fr(21, 20)), fr(92, 100))
		if e != api.OK || frac.Cmp(ahead, f) >= 0 {
			t.Fatalf("%d: %v, error %d; ahead %v", v, f, e, ahead)
		}
		ahead = f
	}
}

// node is one whose heads have these volumes, a flow of 1000 and a use of 1.
func node(volumes ...int64) api.Node {
	x := api.Node{}
	for _, v := range volumes {
		x.Heads = append(x.Heads, head(v, 1000, fr(1, 1)))
	}
	return x
}

func city(nodes ...api.Node) api.Net { return api.Net{Peak: fr(1, 2), Nodes: nodes} }

// holdTable holds a table against its rows; of empty lists it does not matter whether they are nil.
func holdTable(t *testing.T, n api.Net, want ...[]api.Frac) {
	t.Helper()
	got, e := Table(n)
	if e != api.OK || len(got) != len(want) {
		t.Fatalf("%v, error %d; want %v", got, e, want)
	}
	for i, row := range want {
		if len(got[i]) != len(row) {
			t.Fatalf("node %d: %v; want %v", i, got[i], row)
		}
		for j := range row {
			if got[i][j] != row[j] {
				t.Fatalf("node %d: %v; want %v", i, got[i], row)
			}
		}
	}
}

// Promise 9.2: no nodes, nodes without heads, several nodes; in their order, whatever their names.
func TestTable(t *testing.T) {
	holdTable(t, api.Net{})
	holdTable(t, city())
	holdTable(t, city(node()), []api.Frac{})
	holdTable(t, api.Net{Nodes: []api.Node{{}, {}}}, nil, nil)
	holdTable(t, city(node(100)), []api.Frac{fr(1, 5)})
	holdTable(t, city(node(300, 100, 0, 200)), []api.Frac{fr(3, 5), fr(1, 5), fr(0, 1), fr(2, 5)})
	holdTable(t, city(node(300, 100), node(), node(7), node(100, 300, 100)),
		[]api.Frac{fr(3, 5), fr(1, 5)}, nil, []api.Frac{fr(7, 500)}, []api.Frac{fr(1, 5), fr(3, 5), fr(1, 5)})
}

// Promise 9.2: more nodes and heads than a network may have are told, too; each ratio is Ratio's.
func TestGreatTable(t *testing.T) {
	r := rand.New(rand.NewSource(92))
	n := api.Net{Peak: fr(92, 100)}
	want := [][]api.Frac{}
	for range 3 * api.MaxNodes {
		x, row := api.Node{Name: "same"}, []api.Frac{}
		for range r.Intn(3 * api.MaxHeads) {
			h := head(r.Int63n(5000), 1+r.Int63n(2000), fr(r.Int63n(100), 1+r.Int63n(100)))
			x.Heads = append(x.Heads, h)
			row = append(row, told(h, n.Peak, true).f)
		}
		n.Nodes, want = append(n.Nodes, x), append(want, row)
	}
	holdTable(t, n, want...)
}

// Promise 9.2, rule R2: the first error, by nodes and then by heads, and no table beside it.
func TestTableRefused(t *testing.T) {
	right, zero, tooGreat := head(100, 1000, fr(1, 1)), head(100, 0, fr(1, 1)), head(2, 1000, fr(greatest, 1))
	of := func(l ...api.Head) api.Node { return api.Node{Heads: l} }
	for i, x := range []struct {
		n    api.Net
		want api.Errno
	}{
		{city(of(zero)), api.ErrZero},
		{city(of(tooGreat)), api.ErrOver},
		{city(of(right, right, zero)), api.ErrZero},
		{city(of(right, tooGreat, right)), api.ErrOver},
		{city(of(right), of(), of(right, right, zero)), api.ErrZero},
		{city(of(right), of(right, tooGreat), of(right)), api.ErrOver},
		{city(of(zero, tooGreat)), api.ErrZero},
		{city(of(tooGreat, zero)), api.ErrOver},
		{city(of(right, zero), of(tooGreat)), api.ErrZero},
		{city(of(right, tooGreat), of(zero)), api.ErrOver},
		{city(of(right, right, zero), of(tooGreat, right)), api.ErrZero},
		{api.Net{Nodes: []api.Node{of(right)}}, api.ErrZero},
		{api.Net{Nodes: []api.Node{of(tooGreat, right)}}, api.ErrOver},
		{api.Net{Peak: fr(1, least), Nodes: []api.Node{of(), of(right, zero)}}, api.ErrOver},
	} {
		if got, e := Table(x.n); len(got) != 0 || e != x.want {
			t.Errorf("%d: %v, error %d; want none, error %d", i, got, e, x.want)
		}
	}
}

// Promise 9.2: without heads nothing is asked of the peak hour's factor.
func TestTableWithoutHeads(t *testing.T) {
	for _, peak := range []api.Frac{{}, fr(0, 1), fr(1, least)} {
		holdTable(t, api.Net{Peak: peak, Nodes: []api.Node{{}}}, nil)
	}
}

// Rule R4: a network is not changed, and no list that is handed out shares memory with another one, behind its end neither.
func TestTableMemory(t *testing.T) {
	made := func() api.Net { return city(node(100, 200), node(300), node()) }
	n := made()
	first, _ := Table(n)
	if !reflect.DeepEqual(n, made()) {
		t.Error("the network has changed")
	}
	for i := range first {
		row := first[i][:cap(first[i])]
		for j := range row {
			row[j] = fr(int64(-i-1), 1)
		}
	}
	for i, row := range first {
		for _, f := range row[:cap(row)] {
			if f != fr(int64(-i-1), 1) {
				t.Error("rows share memory:", first)
			}
		}
	}
	holdTable(t, n, []api.Frac{fr(1, 5), fr(2, 5)}, []api.Frac{fr(3, 5)}, nil)
}

// digits tells by math/big alone what Rate answers.
func digits(f api.Frac, places int) (string, api.Errno) {
	if places < 0 || places > 9 || f.Num < 0 || f.Den < 1 {
		return "", api.ErrArg
	}
	r := big.NewRat(f.Num, f.Den)
	if r.Denom().Int64() != f.Den {
		return "", api.ErrArg
	}
	unit := new(big.Int).Exp(big.NewInt(10), big.NewInt(int64(places)), nil)
	half := new(big.Rat).Add(new(big.Rat).Mul(r, new(big.Rat).SetInt(unit)), big.NewRat(1, 2))
	if !new(big.Int).Quo(half.Num(), half.Denom()).IsInt64() {
		return "", api.ErrOver
	}
	return r.FloatString(places), api.OK // a half goes away from 0: up, as nothing is below it
}

func holdRate(t *testing.T, f api.Frac, places int) {
	t.Helper()
	got, e := Rate(f, places)
	if want, err := digits(f, places); got != want || e != err {
		t.Fatalf("Rate(%v, %d): %q, error %d; want %q, error %d", f, places, got, e, want, err)
	}
}

// rate is a call of Rate and its answer.
type rate struct {
	f      api.Frac
	places int
	want   string
}

func holdRates(t *testing.T, l []rate) {
	t.Helper()
	for _, x := range l {
		if got, e := Rate(x.f, x.places); got != x.want || e != api.OK {
			t.Errorf("Rate(%v, %d): %q, error %d; want %q", x.f, x.places, got, e, x.want)
		}
		holdRate(t, x.f, x.places)
	}
}

// Promise 9.2: no place, one and nine; digits behind the point that begin with 0; what is carried over the point.
func TestRate(t *testing.T) {
	holdRates(t, []rate{
		{fr(0, 1), 0, "0"}, {fr(0, 1), 1, "0.0"}, {fr(0, 1), 9, "0.000000000"},
		{fr(7, 1), 0, "7"}, {fr(7, 1), 1, "7.0"}, {fr(7, 1), 9, "7.000000000"},
		{fr(10, 1), 0, "10"}, {fr(100, 1), 2, "100.00"}, {fr(1000, 1), 3, "1000.000"},
		{fr(1, 3), 0, "0"}, {fr(1, 3), 1, "0.3"}, {fr(1, 3), 9, "0.333333333"},
		{fr(2, 3), 0, "1"}, {fr(2, 3), 1, "0.7"}, {fr(2, 3), 9, "0.666666667"},
		{fr(1, 100), 2, "0.01"}, {fr(1, 100), 3, "0.010"}, {fr(1, 1000), 3, "0.001"}, {fr(1, 1000), 9, "0.001000000"},
		{fr(12007, 1000), 3, "12.007"}, {fr(12007, 1000), 5, "12.00700"}, {fr(100_000_001, 1000), 3, "100000.001"},
		{fr(1, 1_000_000_000), 9, "0.000000001"}, {fr(1, 1_000_000_000), 8, "0.00000000"},
		{fr(1_000_000_001, 1_000_000_000), 9, "1.000000001"},
		{fr(999, 1000), 2, "1.00"}, {fr(1999, 1000), 1, "2.0"}, {fr(9_999, 1000), 0, "10"}, {fr(99_999, 1000), 2, "100.00"},
		{fr(999_999_999, 1_000_000_000), 8, "1.00000000"}, {fr(999_999_999, 1_000_000_000), 9, "0.999999999"},
	})
}

// Promise 9.2: a rest just below, at and just above a half, of small numbers and of the greatest ones.
func TestHalves(t *testing.T) {
	holdRates(t, []rate{
		{fr(499, 1000), 0, "0"}, {fr(1, 2), 0, "1"}, {fr(501, 1000), 0, "1"},
		{fr(1499, 1000), 0, "1"}, {fr(3, 2), 0, "2"}, {fr(5, 2), 0, "3"}, {fr(19, 2), 0, "10"},
		{fr(1249, 10000), 2, "0.12"}, {fr(1, 8), 2, "0.13"}, {fr(1251, 10000), 2, "0.13"},
		{fr(49, 1000), 1, "0.0"}, {fr(1, 20), 1, "0.1"}, {fr(51, 1000), 1, "0.1"}, {fr(19, 20), 1, "1.0"},
		{fr(1, 2_000_000_000), 9, "0.000000001"}, {fr(1, 2_000_000_001), 9, "0.000000000"}, {fr(1, 1_999_999_999), 9, "0.000000001"},
		{fr(greatest/2, greatest), 0, "0"}, {fr(greatest/2+1, greatest), 0, "1"},
		{fr(1<<61-1, 1<<62), 0, "0"}, {fr(1<<61+1, 1<<62), 0, "1"},
		{fr(greatest-1, greatest), 9, "1.000000000"}, {fr(1, greatest), 9, "0.000000000"},
		{fr(greatest, 2), 0, "4611686018427387904"},
	})
}

// Promise 9.2: the product need not fit, the rounded answer must: around the greatest one that fits, with its half.
func TestRateFits(t *testing.T) {
	holdRates(t, []rate{
		{fr(greatest, 1), 0, "9223372036854775807"},
		{fr(greatest-1, greatest), 0, "1"},
		{fr(greatest, 10), 1, "922337203685477580.7"},
		{fr(922337203685477580, 1), 1, "922337203685477580.0"},
		{fr(922337203685477580*7+5, 7), 1, "922337203685477580.7"}, // 2^63 - 1, and less than a half
		{fr(9223372036, 1), 9, "9223372036.000000000"},
		{fr(greatest, 1_000_000_000), 9, "9223372036.854775807"},
		{fr(greatest, 1_000_000_007), 9, "9223371972.291172001"},
	})
	for _, x := range []rate{
		{fr(greatest, 1), 1, ""}, {fr(greatest, 1), 9, ""}, {fr(greatest, 9), 1, ""}, {fr(greatest, 999_999_999), 9, ""},
		{fr(922337203685477580*4+3, 4), 1, ""},                         // 2^63 - 1 and a half, rounded up
		{fr(922337203685477580*9+7, 9), 1, ""},                         // and more than a half
		{fr(922337203685477580*5+4, 5), 1, ""},                         // 2^63
		{fr(922337203685477581, 1), 1, ""}, {fr(9223372037, 1), 9, ""}, // its whole part alone
		{fr(1<<62, 1), 1, ""}, {fr(1<<62, 1), 9, ""}, {fr(2<<61, 3), 2, ""}, // and such as come back into the type, if they go round
	} {
		if got, e := Rate(x.f, x.places); got != "" || e != api.ErrOver {
			t.Errorf("Rate(%v, %d): %q, error %d; want none, error %d", x.f, x.places, got, e, api.ErrOver)
		}
		holdRate(t, x.f, x.places)
	}
}

// Promise 9.2: fractions whose rounded answer is around the greatest that fits, for each number of places.
func TestRateAroundTheEnd(t *testing.T) {
	r := rand.New(rand.NewSource(63))
	end := new(big.Int).SetUint64(1<<64 - 1) // twice the greatest that fits, and a half
	fitting, refused := 0, 0
	for places := range 10 {
		unit := int64(math.Pow10(places))
		for range 4000 {
			den := 1 + r.Int63n(unit)
			num := new(big.Int).Mul(end, big.NewInt(den))
			n := num.Quo(num, big.NewInt(2*unit)).Int64()
			for d := int64(-2); d <= 2; d++ {
				if n > greatest-d {
					continue
				}
				holdRate(t, fr(n+d, den), places)
				switch _, e := Rate(fr(n+d, den), places); e {
				case api.OK:
					fitting++
				case api.ErrOver:
					refused++
				}
			}
		}
	}
	if fitting < 1000 || refused < 1000 {
		t.Error("few are around the end:", fitting, refused)
	}
}

// Promise 9.2: places that may not be, and fractions that are below 0 or not right, also where the answer would not fit.
func TestRateRefused(t *testing.T) {
	for _, places := range []int{math.MinInt, math.MinInt + 1, -10, -9, -1, 10, 11, 19, 1 << 32, 1<<32 + 1, -1<<32 + 1, 256, math.MaxInt - 1, math.MaxInt} {
		for _, f := range []api.Frac{fr(0, 1), fr(1, 2), fr(greatest, 1), fr(-1, 1), fr(2, 4), {}} {
			if got, e := Rate(f, places); got != "" || e != api.ErrArg {
				t.Errorf("Rate(%v, %d): %q, error %d", f, places, got, e)
			}
		}
	}
	for places := range 10 {
		for _, f := range []api.Frac{
			fr(-1, 2), fr(-1, 1), fr(-1, 1<<62), fr(least, 1), fr(least, greatest), fr(-greatest, 1),
			{}, fr(1, 0), fr(5, 0), fr(greatest, 0), fr(least, 0),
			fr(0, -1), fr(1, -1), fr(1, -2), fr(-1, -2), fr(1, least), fr(least, least), fr(least, -1),
			fr(0, 2), fr(2, 4), fr(10, 5), fr(0, greatest), fr(greatest, greatest), fr(1<<62, 2), fr(3<<61, 3),
		} {
			if got, e := Rate(f, places); got != "" || e != api.ErrArg {
				t.Errorf("Rate(%v, %d): %q, error %d", f, places, got, e)
			}
		}
	}
}

// Promise 9.2: every small fraction, every edge and others by chance, with every number of places.
func TestEveryRate(t *testing.T) {
	r := rand.New(rand.NewSource(10))
	for places := -1; places <= 10; places++ {
		for n := int64(-2); n <= 130; n++ {
			for d := int64(-2); d <= 130; d++ {
				holdRate(t, fr(n, d), places)
			}
		}
		for _, n := range edges() {
			for _, d := range edges() {
				holdRate(t, fr(n, d), places)
			}
		}
		for range 20000 {
			holdRate(t, fr(chance(r), chance(r)), places)
			if f, e := frac.Of(chance(r), chance(r)); e == api.OK {
				holdRate(t, f, places)
			}
		}
	}
}

// Rule R5: an answer does not hang on what was asked ahead of it, a refusal among that.
func TestAskedAgain(t *testing.T) {
	h, wrong := head(600, 1500, fr(1, 2)), head(600, 0, fr(1, 0))
	for range 3 {
		if got := asked(Ratio(h, fr(4, 5))); got != ok(1, 4) {
			t.Error("Ratio:", got)
		}
		if got := asked(Ratio(wrong, fr(4, 5))); got != no(api.ErrZero) {
			t.Error("Ratio:", got)
		}
		if got := asked(Volume(h, fr(4, 5))); got != ok(375, 1) {
			t.Error("Volume:", got)
		}
		if got, e := Rate(fr(7, 27), 3); got != "0.259" || e != api.OK {
			t.Error("Rate:", got, e)
		}
		if got, e := Rate(fr(7, 0), 3); got != "" || e != api.ErrArg {
			t.Error("Rate:", got, e)
		}
	}
}
