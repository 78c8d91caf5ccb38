package trees

import (
	"math/big"
	"math/bits"
	"math/rand"
	"slices"
	"testing"

	"voltaic/api"
	"voltaic/direct"
	"voltaic/net"
)

func rat(q api.Q) *big.Rat {
	x, ok := new(big.Rat).SetString(string(q))
	if !ok || x.RatString() != string(q) {
		panic("not in lowest terms: " + string(q))
	}
	return x
}

func whole(n int) *big.Rat { return big.NewRat(int64(n), 1) }

func plus(x, y *big.Rat) *big.Rat  { return new(big.Rat).Add(x, y) }
func times(x, y *big.Rat) *big.Rat { return new(big.Rat).Mul(x, y) }

// lead is how well a part leads.
func lead(p api.Part) *big.Rat { return new(big.Rat).Inv(rat(p.Value)) }

func someOhms(r *rand.Rand) api.Q {
	return api.Q(big.NewRat(int64(1+r.Intn(9)), int64(1+r.Intn(4))).RatString())
}

// someNet draws a net of resistors.
func someNet(r *rand.Rand, nodes, parts int) api.Net {
	n := netOf(nodes)
	for range parts {
		n.Parts = append(n.Parts, ohms(r.Intn(nodes), r.Intn(nodes), someOhms(r)))
	}
	return n
}

// joinedNet draws one all of whose nodes are joined.
func joinedNet(r *rand.Rand) api.Net {
	n := netOf(1 + r.Intn(api.MaxNodes))
	for node := 1; node < n.Nodes; node++ {
		n.Parts = append(n.Parts, ohms(node, r.Intn(node), someOhms(r)))
	}
	for range r.Intn(api.MaxParts + 1 - len(n.Parts)) {
		n.Parts = append(n.Parts, ohms(r.Intn(n.Nodes), r.Intn(n.Nodes), someOhms(r)))
	}
	r.Shuffle(len(n.Parts), func(i, k int) { n.Parts[i], n.Parts[k] = n.Parts[k], n.Parts[i] })
	return n
}

// triedWeight goes through all sets of parts.
func triedWeight(n api.Net) *big.Rat {
	sum := new(big.Rat)
	for set := range 1 << len(n.Parts) {
		if bits.OnesCount(uint(set)) != n.Nodes-1 {
			continue
		}
		some, product := netOf(n.Nodes), whole(1)
		for i, p := range n.Parts {
			if set>>i&1 == 1 {
				some.Parts = append(some.Parts, p)
				product = times(product, lead(p))
			}
		}
		if tree, _ := net.Tree(some); len(tree) == n.Nodes-1 {
			sum = plus(sum, product)
		}
	}
	return sum
}

// P4.2

func TestWeightAgainstAllTrees(t *testing.T) {
	r := rand.New(rand.NewSource(1))
	none, many := 0, 0
	for range 400 {
		n := someNet(r, 1+r.Intn(6), r.Intn(11))
		want := triedWeight(n)
		wantWeight(t, n, api.Q(want.RatString()))
		if want.Sign() == 0 {
			none++
		} else if n.Nodes > 2 {
			many++
		}
	}
	wantWeight(t, netOf(8, someNet(r, 7, 16).Parts...), "0")
	if none < 40 || many < 40 {
		t.Errorf("%d nets without a tree, %d with", none, many)
	}
}

// alone is a net without what isn't joined to a node, which is its ground; and what the nodes are there.
func alone(n api.Net, ground int) (api.Net, []int) {
	islands, _ := net.Islands(n)
	at := slices.Repeat([]int{-1}, n.Nodes)
	at[ground] = 0
	out := netOf(1)
	for node, island := range islands {
		if island == islands[ground] && node != ground {
			at[node] = out.Nodes
			out.Nodes++
		}
	}
	for _, p := range n.Parts {
		if islands[p.A] == islands[ground] {
			out.Parts = append(out.Parts, ohms(at[p.A], at[p.B], p.Value))
		}
	}
	return out, at
}

func TestBetweenIsWhatChapter3Sees(t *testing.T) {
	r := rand.New(rand.NewSource(2))
	apart, joined := 0, 0
	for range 300 {
		n := someNet(r, 1+r.Intn(api.MaxNodes), r.Intn(api.MaxParts+1))
		for a := range n.Nodes {
			island, at := alone(n, a)
			for b := range n.Nodes {
				if at[b] < 0 {
					wantNotBetween(t, n, a, b, api.ErrNone, 0)
					apart++
					continue
				}
				_, want, f := direct.Seen(island, 0, at[b])
				if f.Code != api.OK {
					t.Fatalf("%v: %v", island, f)
				}
				wantBetween(t, n, a, b, want)
				joined++
			}
		}
	}
	if apart < 500 || joined < 500 {
		t.Errorf("%d apart, %d joined", apart, joined)
	}
}

// P4.3

// wantMean: at a it is 1, at b 0, where neither can be come to 0, elsewhere what the next step comes to. There is one such answer.
func wantMean(t *testing.T, n api.Net, a, b int, got []api.Q) {
	t.Helper()
	islands, _ := net.Islands(n)
	for node := range n.Nodes {
		sum, all := new(big.Rat), new(big.Rat)
		for _, p := range n.Parts {
			if p.A == p.B || p.A != node && p.B != node {
				continue
			}
			all = plus(all, lead(p))
			sum = plus(sum, times(lead(p), rat(got[p.A+p.B-node])))
		}
		want := new(big.Rat)
		switch {
		case node == a:
			want = whole(1)
		case node == b, islands[node] != islands[a] && islands[node] != islands[b]:
		default:
			want.Quo(sum, all)
		}
		if rat(got[node]).Cmp(want) != 0 {
			t.Fatalf("Walk(%v, %d, %d): %v: of %d want %v", n, a, b, got, node, want)
		}
	}
}

func TestWalkIsTheMeanOfTheNextStep(t *testing.T) {
	r := rand.New(rand.NewSource(3))
	for range 500 {
		n := someNet(r, 2+r.Intn(api.MaxNodes-1), r.Intn(api.MaxParts+1))
		for a := range n.Nodes {
			b := (a + 1 + r.Intn(n.Nodes-1)) % n.Nodes
			got, f := Walk(n, a, b)
			if len(got) != n.Nodes || f != (api.Fault{}) {
				t.Fatalf("Walk(%v, %d, %d): %v, %v", n, a, b, got, f)
			}
			wantMean(t, n, a, b, got)
		}
	}
}

// P4.4

func TestFoster(t *testing.T) {
	r := rand.New(rand.NewSource(4))
	for range 500 {
		n := joinedNet(r)
		sum := new(big.Rat)
		for _, p := range n.Parts {
			between, _ := Between(n, p.A, p.B)
			sum = plus(sum, times(rat(between), lead(p)))
		}
		if sum.Cmp(whole(n.Nodes-1)) != 0 {
			t.Fatalf("%v: Foster's sum is %v", n, sum)
		}
	}
}

func TestRayleigh(t *testing.T) {
	r := rand.New(rand.NewSource(5))
	greater := 0
	for range 500 {
		n := joinedNet(r)
		if len(n.Parts) == 0 {
			continue
		}
		raised := netOf(n.Nodes, slices.Clone(n.Parts)...)
		p := &raised.Parts[r.Intn(len(n.Parts))]
		p.Value = api.Q(plus(rat(p.Value), rat(someOhms(r))).RatString())
		for a := range n.Nodes {
			for b := range n.Nodes {
				was, _ := Between(n, a, b)
				is, _ := Between(raised, a, b)
				if rat(is).Cmp(rat(was)) < 0 {
					t.Fatalf("%v, then %v: between %d and %d %s, then %s", n, raised, a, b, was, is)
				}
				greater += max(0, rat(is).Cmp(rat(was)))
			}
		}
	}
	if greater < 500 {
		t.Errorf("it is greater %d times only", greater)
	}
}

// What is handed in stays, and the spare room behind it, too; what is answered is no one else's.
func TestNothingIsShared(t *testing.T) {
	r := rand.New(rand.NewSource(6))
	for range 100 {
		n := joinedNet(r)
		if n.Nodes < 2 {
			continue
		}
		room := append(slices.Clone(n.Parts), part(77, 7, 7, "7"), part(78, 8, 8, "8"))
		before := slices.Clone(room)
		n.Parts = room[:len(n.Parts)]
		got, _ := Walk(n, 0, n.Nodes-1)
		kept := slices.Clone(got)
		got = got[:cap(got)]
		for i := range got {
			got[i] = "spoilt"
		}
		again, _ := Walk(n, 0, n.Nodes-1)
		Check(n)
		Weight(n)
		Between(n, 0, n.Nodes-1)
		if !slices.Equal(again, kept) || !slices.Equal(room, before) {
			t.Fatalf("%v: %v, then %v; %v", before, kept, again, room)
		}
	}
}
