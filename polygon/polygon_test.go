package polygon_test

import (
	"math/big"
	"math/rand"
	"slices"
	"strings"
	"testing"

	"voussoir/api"
	"voussoir/plane"
	"voussoir/point"
	"voussoir/polygon"
)

// eachValid calls check with valid polygons: those of valid, their flips, and random ones.
func eachValid(check func(p api.Polygon)) {
	for _, p := range valid() {
		check(p)
		check(expectedFlip(p))
	}
	r := rand.New(rand.NewSource(1))
	for i := range 60 {
		check(randomPolygon(r, 4+i%9))
	}
}

// eachSplit calls check with valid polygons and planes that divide them in all ways.
func eachSplit(check func(p api.Polygon, by api.Plane)) {
	eachValid(func(p api.Polygon) {
		for _, by := range dividers(p, 20) {
			check(p, by)
		}
	})
	for _, p := range []api.Polygon{square(), frames()[4].polygon(shapes()[4]), frames()[5].polygon(shapes()[0])} {
		for _, by := range dividers(p, 1000) {
			check(p, by)
		}
	}
}

// some returns about count of the points, at equal distances in the list.
func some(list []api.Point, count int) []api.Point {
	var chosen []api.Point
	for i := 0; i < len(list); i += 1 + len(list)/count {
		chosen = append(chosen, list[i])
	}
	return chosen
}

// P8.1

func TestCheckValid(t *testing.T) {
	for _, p := range valid() {
		for k := range p.Vertices {
			for _, q := range []api.Polygon{starting(p, k), expectedFlip(starting(p, k))} {
				if got := polygon.Check(q); got != api.OK {
					t.Errorf("Check(%s) = %d, want OK", show(q), got)
				}
			}
		}
	}
	r := rand.New(rand.NewSource(2))
	for i := range 200 {
		p := randomPolygon(r, 3+i%20)
		if got := polygon.Check(p); got != api.OK {
			t.Errorf("Check(%s) = %d, want OK", show(p), got)
		}
	}
}

// unreduced returns forms of p that represent the same point and are not canonical.
func unreduced(p api.Point) []api.Point {
	times := func(k int64) api.Point {
		list := []api.Int{p.X, p.Y, p.Z, p.W}
		for i, x := range list {
			list[i] = fromBigInt(new(big.Int).Mul(bigInt(x), big.NewInt(k)))
		}
		return api.Point{X: list[0], Y: list[1], Z: list[2], W: list[3]}
	}
	list := []api.Point{times(2), times(-1), times(-3), times(256)}
	for i := range 4 {
		q := p
		x := []*api.Int{&q.X, &q.Y, &q.Z, &q.W}[i]
		x.Mag += "\x00"
		list = append(list, q)
		if x.Mag == "\x00" {
			*x = api.Int{Neg: true}
			list = append(list, q)
		}
	}
	if bigInt(p.W).IsInt64() && bigInt(p.W).Int64() == 1 {
		q := p
		q.W = api.Int{}
		list = append(list, q)
	}
	return list
}

func TestCheckFormOfVertices(t *testing.T) {
	for _, p := range valid() {
		for i := range p.Vertices {
			for _, x := range unreduced(p.Vertices[i]) {
				q := starting(p, 0)
				q.Vertices[i] = x
				if got := polygon.Check(q); got != api.ErrForm {
					t.Fatalf("Check(%s) with %#v at %d = %d, want ErrForm", show(p), x, i, got)
				}
			}
		}
	}
}

func TestCheckFormOfPlane(t *testing.T) {
	for _, on := range []api.Plane{
		{}, of(0, 0, 0, 1), of(0, 0, 0, -5), of(0, 0, 2, 0), of(0, 0, 256, 0), of(0, 0, -7, 0), {C: api.Int{Mag: "\x01\x00"}}, {A: api.Int{Neg: true}, C: api.Int{Mag: "\x01"}},
		{B: api.Int{Mag: "\x00"}, C: api.Int{Mag: "\x01"}}, {C: api.Int{Mag: "\x01"}, D: api.Int{Neg: true}}, {A: api.Int{Mag: "\x00"}}, {D: api.Int{Mag: "\x00\x00"}, C: api.Int{Mag: "\x01"}},
	} {
		p := square()
		p.Plane = on
		if got := polygon.Check(p); got != api.ErrForm {
			t.Errorf("Check with the plane %#v = %d, want ErrForm", on, got)
		}
	}
	for _, p := range valid() {
		e := toEquation(p.Plane)
		scaled := api.Plane{}
		for i, x := range []*api.Int{&scaled.A, &scaled.B, &scaled.C, &scaled.D} {
			*x = fromBigInt(new(big.Int).Mul(e[i].Num(), big.NewInt(3)))
		}
		if got := polygon.Check(api.Polygon{Plane: scaled, Vertices: p.Vertices}); got != api.ErrForm {
			t.Errorf("Check(%s) with a multiple of the plane = %d, want ErrForm", show(p), got)
		}
	}
}

func TestCheckErrors(t *testing.T) {
	up, down, tilted := of(0, 0, 1, 0), of(0, 0, -1, 0), of(1, 1, 1, 1)
	for _, c := range []struct {
		p    api.Polygon
		want api.Errno
	}{
		// The empty polygon has no valid plane.
		{api.Polygon{}, api.ErrForm}, {api.Polygon{Vertices: []api.Point{}}, api.ErrForm}, {gon(api.Plane{}, "0 0 0; 4 0 0; 4 4 0"), api.ErrForm},
		// Fewer than three vertices.
		{gon(up, ""), api.ErrShort}, {gon(up, "0 0 0"), api.ErrShort}, {gon(up, "0 0 0; 1 0 0"), api.ErrShort}, {gon(tilted, "1 0 0; 0 1 0"), api.ErrShort}, {gon(up, "0 0 0; 0 0 0"), api.ErrShort},
		// Vertices off the plane.
		{gon(up, "0 0 1; 4 0 0; 4 4 0"), api.ErrRange}, {gon(up, "0 0 0; 4 0 -1; 4 4 0"), api.ErrRange}, {gon(up, "0 0 0; 4 0 0; 4 4 1/1000000000000"), api.ErrRange},
		{gon(up, "0 0 1; 4 0 1; 4 4 1"), api.ErrRange}, {gon(tilted, "1 0 0; 0 1 0; 0 0 2"), api.ErrRange}, {gon(tilted, "1 0 0; 0 1 0; 0 0 1; 1 1 1"), api.ErrRange},
		{gon(of(0, 0, 1, -1), "0 0 0; 4 0 0; 4 4 0"), api.ErrRange}, {gon(of(3, 0, 7, 0), "0 0 0; 4 0 0; 4 4 0"), api.ErrRange},
		// Equal vertices.
		{gon(up, "0 0 0; 0 0 0; 0 0 0"), api.ErrArg}, {gon(up, "0 0 0; 0 0 0; 4 4 0"), api.ErrArg}, {gon(up, "0 0 0; 4 0 0; 4 0 0; 4 4 0"), api.ErrArg}, {gon(up, "0 0 0; 4 0 0; 4 4 0; 0 0 0"), api.ErrArg},
		{gon(up, "0 0 0; 4 0 0; 0 0 0; 4 4 0"), api.ErrArg}, {gon(up, "0 0 0; 4 0 0; 4 4 0; 4 0 0"), api.ErrArg},
		// Three vertices on a line.
		{gon(up, "0 0 0; 1 0 0; 2 0 0"), api.ErrArg}, {gon(up, "0 0 0; 2 0 0; 4 0 0; 4 4 0; 0 4 0"), api.ErrArg}, {gon(up, "2 0 0; 4 0 0; 4 4 0; 0 4 0; 0 0 0"), api.ErrArg},
		{gon(up, "4 0 0; 4 4 0; 0 4 0; 0 0 0; 2 0 0"), api.ErrArg}, {gon(up, "0 0 0; 4 0 0; 2 0 0; 0 4 0"), api.ErrArg}, {gon(up, "0 0 0; 4 0 0; 2 2 0; 0 4 0"), api.ErrArg}, {gon(tilted, "1 0 0; 1/2 1/2 0; 0 1 0; 0 0 1"), api.ErrArg},
		// Clockwise order.
		{gon(up, "0 0 0; 4 4 0; 4 0 0"), api.ErrArg}, {gon(up, "0 0 0; 0 4 0; 4 4 0; 4 0 0"), api.ErrArg}, {gon(down, "0 0 0; 4 0 0; 4 4 0"), api.ErrArg}, {gon(tilted, "0 1 0; 1 0 0; 0 0 1"), api.ErrArg},
		{gon(of(-1, -1, -1, -1), "1 0 0; 0 1 0; 0 0 1"), api.ErrArg}, {gon(down, "0 0 0; 4 4 0; 4 0 0"), api.OK}, {gon(tilted, "1 0 0; 0 1 0; 0 0 1"), api.OK},
		// Concave corners and crossing edges.
		{gon(up, "0 0 0; 4 0 0; 1 1 0; 0 4 0"), api.ErrArg}, {gon(up, "1 1 0; 0 4 0; 0 0 0; 4 0 0"), api.ErrArg}, {gon(up, "0 0 0; 4 0 0; 0 4 0; 4 4 0"), api.ErrArg}, {gon(up, "0 0 0; 4 4 0; 4 0 0; 0 4 0"), api.ErrArg},
		// Lists that wind around more than once: all their turns are to the left.
		{gon(up, "0 0 0; 4 0 0; 4 4 0; 0 0 0; 4 0 0; 4 4 0"), api.ErrArg}, {gon(up, "0 0 0; 4 0 0; 4 4 0; 0 4 0; 0 0 0; 4 0 0; 4 4 0; 0 4 0"), api.ErrArg},
		{gon(up, "0 0 0; 5 0 0; 1 5 0; 3 -2 0; 4 4 0"), api.ErrArg}, {gon(up, "-1 -1 0; 5 -1 0; 5 5 0; -2 5 0; -2 -2 0; 6 -2 0; 6 6 0; -1 6 0"), api.ErrArg}, {gon(up, "0 0 0; 9 0 0; 9 9 0; -1 9 0; -1 -1 0; 8 -1 0; 8 8 0"), api.ErrArg},
	} {
		if got := polygon.Check(c.p); got != c.want || got != expectedCheck(c.p) {
			t.Errorf("Check(%s) = %d, want %d", show(c.p), got, c.want)
		}
	}
}

// TestCheckStars checks stars: the vertices of a convex polygon in an order that winds around more than once.
func TestCheckStars(t *testing.T) {
	for _, p := range valid() {
		n := len(p.Vertices)
		for step := range n {
			star := api.Polygon{Plane: p.Plane}
			for i := range n {
				star.Vertices = append(star.Vertices, p.Vertices[i*step%n])
			}
			want := api.ErrArg
			if step == 1 {
				want = api.OK
			}
			if got := polygon.Check(star); got != want {
				t.Errorf("Check(%s) = %d, want %d", show(star), got, want)
			}
		}
	}
}

// TestCheckOrder checks that of several errors the first one is returned.
func TestCheckOrder(t *testing.T) {
	const clockwise, off, short, vertexForm, planeForm, noPlane = 1, 2, 4, 8, 16, 32
	for defects := range 64 {
		p, want := square(), api.OK
		if defects&clockwise != 0 {
			slices.Reverse(p.Vertices)
			want = api.ErrArg
		}
		if defects&off != 0 {
			p.Vertices[3] = at("0 4 1")
			want = api.ErrRange
		}
		if defects&short != 0 {
			p.Vertices = p.Vertices[2:]
			want = api.ErrShort
		}
		if defects&vertexForm != 0 {
			last := len(p.Vertices) - 1
			p.Vertices[last] = unreduced(p.Vertices[last])[0]
			want = api.ErrForm
		}
		if defects&planeForm != 0 {
			p.Plane = of(0, 0, 2, 0)
			want = api.ErrForm
		}
		if defects&noPlane != 0 {
			p.Plane = api.Plane{}
			want = api.ErrForm
		}
		if got := polygon.Check(p); got != want {
			t.Errorf("Check(%s) with the defects %b = %d, want %d", show(p), defects, got, want)
		}
	}
}

// TestCheckLists checks all lists of three and four points of a grid, which form polygons of all kinds.
func TestCheckLists(t *testing.T) {
	grid := points("0 0 0; 1 0 0; 2 0 0; 0 1 0; 1 1 0; 2 1 0; 0 2 0; 1 2 0")
	count := map[api.Errno]int{}
	check := func(list ...api.Point) {
		for _, on := range []api.Plane{of(0, 0, 1, 0), of(0, 0, -1, 0)} {
			p := api.Polygon{Plane: on, Vertices: list}
			got, want := polygon.Check(p), expectedCheck(p)
			if got != want {
				t.Fatalf("Check(%s) = %d, want %d", show(p), got, want)
			}
			count[got]++
		}
	}
	for _, a := range grid {
		for _, b := range grid {
			for _, c := range grid {
				check(a, b, c)
				for _, d := range grid {
					check(a, b, c, d)
				}
			}
		}
	}
	if count[api.OK] < 500 || count[api.ErrArg] < 500 {
		t.Error("few cases: ", count)
	}
}

// TestCheckNearlyValid checks valid polygons after one change.
func TestCheckNearlyValid(t *testing.T) {
	r := rand.New(rand.NewSource(3))
	count := map[api.Errno]int{}
	eachValid(func(p api.Polygon) {
		n := len(p.Vertices)
		for _, x := range some(around(p), 10) {
			i, j := r.Intn(n), r.Intn(n)
			replaced, inserted, exchanged, removed := starting(p, 0), starting(p, 0), starting(p, 0), starting(p, 0)
			replaced.Vertices[i] = x
			inserted.Vertices = slices.Insert(inserted.Vertices, i, x)
			exchanged.Vertices[i], exchanged.Vertices[j] = exchanged.Vertices[j], exchanged.Vertices[i]
			removed.Vertices = slices.Delete(removed.Vertices, i, i+1)
			for _, q := range []api.Polygon{replaced, inserted, exchanged, removed} {
				got, want := polygon.Check(q), expectedCheck(q)
				if got != want {
					t.Fatalf("Check(%s) = %d, want %d", show(q), got, want)
				}
				count[got]++
			}
		}
	})
	for _, e := range []api.Errno{api.OK, api.ErrShort, api.ErrRange, api.ErrArg} {
		if count[e] < 20 {
			t.Error("few cases: ", count)
		}
	}
}

// P8.2

func TestSplit(t *testing.T) {
	whole := "0 0 0; 4 0 0; 4 4 0; 0 4 0"
	for _, c := range []struct {
		by            api.Plane
		behind, front string
	}{
		// The plane misses the polygon, in front of it and behind it, or is parallel to it.
		{of(1, 0, 0, 5), whole, ""}, {of(1, 0, 0, -1), "", whole}, {of(1, 1, 0, 9), whole, ""}, {of(-1, 0, 0, 1), whole, ""}, {of(0, 0, 1, 1), whole, ""}, {of(0, 0, 1, -1), "", whole}, {of(0, 0, -1, 1), whole, ""},
		{of(0, 0, -3, -1), "", whole}, {of(1, 0, 1, 5), whole, ""}, {of(1, 2, 3, -1), "", whole},
		// It touches a vertex.
		{of(1, 1, 0, 0), "", whole}, {of(-1, -1, 0, 0), whole, ""}, {of(1, 1, 0, 8), whole, ""}, {of(1, -1, 0, 4), whole, ""}, {of(1, -1, 0, -4), "", whole}, {of(1, 2, -9, 12), whole, ""},
		// It touches an edge.
		{of(1, 0, 0, 0), "", whole}, {of(-1, 0, 0, 0), whole, ""}, {of(1, 0, 0, 4), whole, ""}, {of(0, 1, 0, 0), "", whole}, {of(0, 1, 0, 4), whole, ""}, {of(0, 1, 5, 4), whole, ""}, {of(0, -1, -5, -4), "", whole},
		// It contains the polygon.
		{of(0, 0, 1, 0), "", ""}, {of(0, 0, -1, 0), "", ""},
		// It passes through two vertices.
		{of(1, 1, 0, 4), "0 0 0; 4 0 0; 0 4 0", "4 0 0; 4 4 0; 0 4 0"}, {of(-1, -1, 0, -4), "4 0 0; 4 4 0; 0 4 0", "0 0 0; 4 0 0; 0 4 0"},
		{of(1, -1, 0, 0), "0 0 0; 4 4 0; 0 4 0", "0 0 0; 4 0 0; 4 4 0"}, {of(-1, 1, 3, 0), "0 0 0; 4 0 0; 4 4 0", "0 0 0; 4 4 0; 0 4 0"},
		// It passes through one vertex and cuts an edge.
		{of(2, 1, 0, 4), "0 0 0; 2 0 0; 0 4 0", "2 0 0; 4 0 0; 4 4 0; 0 4 0"}, {of(1, -2, 0, 0), "0 0 0; 4 2 0; 4 4 0; 0 4 0", "0 0 0; 4 0 0; 4 2 0"}, {of(1, -3, 0, 0), "0 0 0; 4 4/3 0; 4 4 0; 0 4 0", "0 0 0; 4 0 0; 4 4/3 0"},
		{of(-3, 1, 0, -8), "8/3 0 0; 4 0 0; 4 4 0", "0 0 0; 8/3 0 0; 4 4 0; 0 4 0"}, {of(1, 2, 1, 4), "0 0 0; 4 0 0; 0 2 0", "4 0 0; 4 4 0; 0 4 0; 0 2 0"},
		// It cuts two opposite edges.
		{of(1, 0, 0, 1), "0 0 0; 1 0 0; 1 4 0; 0 4 0", "1 0 0; 4 0 0; 4 4 0; 1 4 0"}, {of(-1, 0, 0, -1), "1 0 0; 4 0 0; 4 4 0; 1 4 0", "0 0 0; 1 0 0; 1 4 0; 0 4 0"},
		{of(0, 1, 0, 3), "0 0 0; 4 0 0; 4 3 0; 0 3 0", "4 3 0; 4 4 0; 0 4 0; 0 3 0"}, {of(0, 3, 0, 1), "0 0 0; 4 0 0; 4 1/3 0; 0 1/3 0", "4 1/3 0; 4 4 0; 0 4 0; 0 1/3 0"}, {of(7, 1, 5, 11), "0 0 0; 11/7 0 0; 1 4 0; 0 4 0", "11/7 0 0; 4 0 0; 4 4 0; 1 4 0"},
		// It cuts two edges that meet.
		{of(1, 1, 0, 1), "0 0 0; 1 0 0; 0 1 0", "1 0 0; 4 0 0; 4 4 0; 0 4 0; 0 1 0"}, {of(2, 1, 0, 1), "0 0 0; 1/2 0 0; 0 1 0", "1/2 0 0; 4 0 0; 4 4 0; 0 4 0; 0 1 0"}, {of(1, 1, 0, 7), "0 0 0; 4 0 0; 4 3 0; 3 4 0; 0 4 0", "4 3 0; 4 4 0; 3 4 0"},
		{of(1, -1, 0, 2), "0 0 0; 2 0 0; 4 2 0; 4 4 0; 0 4 0", "2 0 0; 4 0 0; 4 2 0"}, {of(1, -1, 1, -3), "1 4 0; 0 4 0; 0 3 0", "0 0 0; 4 0 0; 4 4 0; 1 4 0; 0 3 0"},
		{of(1000000007, 1, 0, 1000000007), "0 0 0; 1 0 0; 1000000003/1000000007 4 0; 0 4 0", "1 0 0; 4 0 0; 4 4 0; 1000000003/1000000007 4 0"},
	} {
		on := square().Plane
		behind, front := polygon.Split(square(), c.by)
		for _, part := range []struct {
			got  api.Polygon
			text string
		}{{behind, c.behind}, {front, c.front}} {
			want := api.Polygon{}
			if part.text != "" {
				want = gon(on, part.text)
			}
			if !same(part.got, want) {
				t.Errorf("a part of the square at %s is %s, want %s", plane.Format(c.by), show(part.got), show(want))
			}
		}
	}
}

// TestSplitOrder checks that the traversal starts at the first vertex, also where that one belongs to one part alone.
func TestSplitOrder(t *testing.T) {
	p := gon(of(1, 1, 1, 6), "6 0 0; 0 6 0; 0 0 6")
	for _, c := range []struct {
		k             int
		by            api.Plane
		behind, front string
	}{
		{0, of(1, 0, 0, 2), "2 4 0; 0 6 0; 0 0 6; 2 0 4", "6 0 0; 2 4 0; 2 0 4"}, {1, of(1, 0, 0, 2), "0 6 0; 0 0 6; 2 0 4; 2 4 0", "2 0 4; 6 0 0; 2 4 0"}, {2, of(1, 0, 0, 2), "0 0 6; 2 0 4; 2 4 0; 0 6 0", "2 0 4; 6 0 0; 2 4 0"},
		{0, of(1, -1, 0, 0), "3 3 0; 0 6 0; 0 0 6", "6 0 0; 3 3 0; 0 0 6"}, {1, of(1, -1, 0, 0), "0 6 0; 0 0 6; 3 3 0", "0 0 6; 6 0 0; 3 3 0"}, {2, of(1, -1, 0, 0), "0 0 6; 3 3 0; 0 6 0", "0 0 6; 6 0 0; 3 3 0"},
	} {
		behind, front := polygon.Split(starting(p, c.k), c.by)
		if !same(behind, gon(p.Plane, c.behind)) || !same(front, gon(p.Plane, c.front)) {
			t.Errorf("Split(%s, %s) = %s, %s", show(starting(p, c.k)), plane.Format(c.by), show(behind), show(front))
		}
	}
	for _, p := range valid() {
		for _, by := range dividers(p, 3) {
			for k := range p.Vertices {
				checkSplit(t, starting(p, k), by)
			}
		}
	}
}

// checkSplit compares Split with its definition.
func checkSplit(t *testing.T, p api.Polygon, by api.Plane) {
	t.Helper()
	behind, front := polygon.Split(p, by)
	if want := expectedPart(p, by, -1); !same(behind, want) {
		t.Fatalf("the part of %s behind %s is %s, want %s", show(p), plane.Format(by), show(behind), show(want))
	}
	if want := expectedPart(p, by, 1); !same(front, want) {
		t.Fatalf("the part of %s in front of %s is %s, want %s", show(p), plane.Format(by), show(front), show(want))
	}
}

func TestSplitEverywhere(t *testing.T) {
	// The cases are counted by whether there are vertices behind, on, and in front of the plane.
	count := map[[3]bool]int{}
	touching, halving := 0, 0
	eachSplit(func(p api.Polygon, by api.Plane) {
		checkSplit(t, p, by)
		var sides [3]int
		for _, x := range p.Vertices {
			sides[1+excess(by, x).Sign()]++
		}
		count[[3]bool{sides[0] > 0, sides[1] > 0, sides[2] > 0}]++
		if sides[1] == 2 && (sides[0] == 0) != (sides[2] == 0) {
			touching++
		}
		if sides[1] == 2 && sides[0] > 0 && sides[2] > 0 {
			halving++
		}
	})
	if len(count) != 7 || touching < 50 || halving < 50 {
		t.Error("few cases: ", count, touching, halving)
	}
}

// P8.3

func TestFlip(t *testing.T) {
	for _, c := range []struct{ p, want api.Polygon }{
		{square(), gon(of(0, 0, -1, 0), "0 0 0; 0 4 0; 4 4 0; 4 0 0")}, {gon(of(1, 1, 1, 1), "1 0 0; 0 1 0; 0 0 1"), gon(of(-1, -1, -1, -1), "1 0 0; 0 0 1; 0 1 0")},
		{gon(of(0, 0, 2, 1), "0 0 1/2; 3 0 1/2; 4 2 1/2; 2 3 1/2; -1 2 1/2"), gon(of(0, 0, -2, -1), "0 0 1/2; -1 2 1/2; 2 3 1/2; 4 2 1/2; 3 0 1/2")},
	} {
		if got := polygon.Flip(c.p); !same(got, c.want) {
			t.Errorf("Flip(%s) = %s, want %s", show(c.p), show(got), show(c.want))
		}
	}
	eachValid(func(p api.Polygon) {
		flipped := polygon.Flip(p)
		if want := expectedFlip(p); !same(flipped, want) {
			t.Fatalf("Flip(%s) = %s, want %s", show(p), show(flipped), show(want))
		}
		if polygon.Check(flipped) != api.OK || !same(polygon.Flip(flipped), p) {
			t.Fatalf("Flip(%s) = %s, which is not valid or not flipped back", show(p), show(flipped))
		}
	})
}

func TestArea(t *testing.T) {
	for _, c := range []struct {
		p    api.Polygon
		want string
	}{
		{square(), "0 0 16"}, {starting(square(), 2), "0 0 16"}, {gon(of(0, 0, -1, 0), "0 0 0; 0 4 0; 4 4 0; 4 0 0"), "0 0 -16"}, {gon(of(0, 0, 1, 7), "100 200 7; 104 200 7; 104 204 7; 100 204 7"), "0 0 16"},
		{gon(of(0, 0, 1, 0), "0 0 0; 2 0 0; 0 2 0"), "0 0 2"}, {gon(of(0, 0, 1, 0), "0 0 0; 1 0 0; 0 1 0"), "0 0 1/2"}, {gon(of(1, 1, 1, 1), "1 0 0; 0 1 0; 0 0 1"), "1/2 1/2 1/2"},
		{gon(of(-1, -1, -1, -1), "1 0 0; 0 0 1; 0 1 0"), "-1/2 -1/2 -1/2"}, {gon(of(1, 0, 0, 3), "3 0 0; 3 1/2 0; 3 0 1/3"), "1/12 0 0"}, {gon(of(0, 1, 0, 0), "0 0 0; 0 0 5; 7/2 0 0"), "0 35/4 0"},
		{gon(of(0, 0, 1, 0), "0 0 0; 3 0 0; 4 2 0; 2 3 0; -1 2 0"), "0 0 21/2"}, {gon(of(0, 4, -3, 0), "0 0 0; 0 3 4; 1 3 4; 1 0 0"), "0 4 -3"},
	} {
		v := vec(c.want)
		want := api.Vec3{fromBigRat(v[0]), fromBigRat(v[1]), fromBigRat(v[2])}
		if got := polygon.Area(c.p); got != want || polygon.Check(c.p) != api.OK {
			t.Errorf("Area(%s) = %s, want %s", show(c.p), showVector(got), c.want)
		}
	}
	eachValid(func(p api.Polygon) {
		if got, want := polygon.Area(p), expectedArea(p); got != want {
			t.Fatalf("Area(%s) = %s, want %s", show(p), showVector(got), showVector(want))
		}
	})
}

func TestAreaWithoutVertices(t *testing.T) {
	for _, on := range []api.Plane{{}, of(0, 0, 1, 0), of(2, 4, 6, 8), of(0, 0, 0, 5), {A: api.Int{Neg: true, Mag: "\x00"}}} {
		for _, list := range [][]api.Point{nil, {}, square().Vertices[:0]} {
			if got := polygon.Area(api.Polygon{Plane: on, Vertices: list}); got != (api.Vec3{}) {
				t.Errorf("the area of no vertices on %#v is %s", on, showVector(got))
			}
		}
	}
	for _, by := range []api.Plane{of(0, 0, 1, 0), of(1, 0, 0, 4), of(1, 0, 0, 0)} {
		behind, front := polygon.Split(square(), by)
		if (len(behind.Vertices) == 0 && polygon.Area(behind) != api.Vec3{}) || (len(front.Vertices) == 0 && polygon.Area(front) != api.Vec3{}) {
			t.Errorf("the area of an empty part at %s", plane.Format(by))
		}
	}
}

// P8.4

func TestClassify(t *testing.T) {
	tilted := gon(of(1, 1, 1, 1), "1 0 0; 0 1 0; 0 0 1")
	for _, c := range []struct {
		p    api.Polygon
		text string
		want int
	}{
		{square(), "1 1 0; 2 2 0; 2 7/2 0; 1/1000000000 1/1000000000 0; 3999999999/1000000000 2 0; 2 3999999999/1000000000 0", api.In},
		// On an edge and at a vertex.
		{square(), "2 0 0; 4 1 0; 7/2 4 0; 0 1/3 0; 1/1000000000 0 0", api.On}, {square(), "0 0 0; 4 0 0; 4 4 0; 0 4 0", api.On},
		// On the line of an edge beyond its ends.
		{square(), "5 0 0; -1 0 0; 4 5 0; 4 -1 0; -1 4 0; 9 4 0; 0 -1/1000000000 0; 0 4000000001/1000000000 0", api.Out},
		// Right of one edge, or of two.
		{square(), "2 -1 0; 5 2 0; 2 5 0; -1 2 0; 5 5 0; -1 -1 0; 2 -1/1000000000 0", api.Out},
		// Off the plane, above and below what is In, On and Out.
		{square(), "1 1 1; 1 1 -1; 2 2 1/1000000000; 0 0 1; 2 0 -1/2; 5 5 5; 4 4 -4; 5 0 1", api.Out},
		{tilted, "1/3 1/3 1/3; 1/2 1/4 1/4; 1/1000 1/1000 499/500", api.In}, {tilted, "1 0 0; 0 1 0; 0 0 1; 1/2 1/2 0; 0 1/3 2/3; 1/4 0 3/4", api.On},
		{tilted, "2 -1 0; 0 -1 2; 1 1 -1; -1 1 1; 1 -1 1; 1/2 3/4 -1/4", api.Out}, {tilted, "0 0 0; 1/4 1/4 1/4; 1 1 1; 1/2 1/2 1/1000; 1 1 0", api.Out},
	} {
		for _, x := range points(c.text) {
			for k := range c.p.Vertices {
				for _, p := range []api.Polygon{starting(c.p, k), expectedFlip(starting(c.p, k))} {
					if got := polygon.Classify(p, x); got != c.want {
						t.Errorf("Classify(%s, %s) = %d, want %d", show(p), point.Format(x), got, c.want)
					}
				}
			}
		}
	}
}

func TestClassifyEverywhere(t *testing.T) {
	count := map[int]int{}
	eachValid(func(p api.Polygon) {
		for _, x := range around(p) {
			got, want := polygon.Classify(p, x), expectedClass(p, x)
			if got != want {
				t.Fatalf("Classify(%s, %s) = %d, want %d", show(p), point.Format(x), got, want)
			}
			count[got]++
		}
		for _, x := range p.Vertices {
			if got := polygon.Classify(p, x); got != api.On {
				t.Fatalf("Classify(%s, %s) = %d, want On", show(p), point.Format(x), got)
			}
		}
	})
	for class := api.Out; class <= api.In; class++ {
		if count[class] < 500 {
			t.Error("few cases: ", count)
		}
	}
}

// TestClassifyGrid checks all points of a grid around polygons with corners on the grid.
func TestClassifyGrid(t *testing.T) {
	for _, f := range frames()[:6] {
		for _, shape := range shapes()[3:6] {
			p := f.polygon(shape)
			for x := range int64(17) {
				for y := range int64(13) {
					spot := f.point(spot{big.NewRat(x-3, 2), big.NewRat(y-3, 2)})
					if got, want := polygon.Classify(p, spot), expectedClass(p, spot); got != want {
						t.Fatalf("Classify(%s, %s) = %d, want %d", show(p), point.Format(spot), got, want)
					}
				}
			}
		}
	}
}

// P8.5

func TestPartsAreValid(t *testing.T) {
	eachSplit(func(p api.Polygon, by api.Plane) {
		behind, front := polygon.Split(p, by)
		for _, part := range []api.Polygon{behind, front} {
			if part.Plane == (api.Plane{}) && len(part.Vertices) == 0 {
				continue
			}
			if got := polygon.Check(part); got != api.OK || part.Plane != p.Plane {
				t.Fatalf("a part of %s at %s is %s: Check returns %d", show(p), plane.Format(by), show(part), got)
			}
		}
	})
}

func TestPointsOfParts(t *testing.T) {
	eachValid(func(p api.Polygon) {
		for _, by := range dividers(p, 3) {
			behind, front := polygon.Split(p, by)
			for i, part := range []api.Polygon{behind, front} {
				if len(part.Vertices) == 0 {
					continue
				}
				for _, x := range some(slices.Concat(landmarks(p), landmarks(part)), 12) {
					onSide := excess(by, x).Sign() != 1-2*i
					want := onSide && expectedClass(p, x) != api.Out
					if got := polygon.Classify(part, x) != api.Out; got != want {
						t.Fatalf("%s belongs to part %d of %s at %s: %v, want %v", point.Format(x), i, show(p), plane.Format(by), got, want)
					}
				}
			}
		}
	})
}

func TestAreasOfParts(t *testing.T) {
	eachSplit(func(p api.Polygon, by api.Plane) {
		behind, front := polygon.Split(p, by)
		if by == p.Plane || by == expectedFlip(p).Plane {
			if !same(behind, api.Polygon{}) || !same(front, api.Polygon{}) {
				t.Fatalf("Split(%s, %s) = %s, %s", show(p), plane.Format(by), show(behind), show(front))
			}
			return
		}
		sum := combine(toBig(polygon.Area(behind)), toBig(polygon.Area(front)), big.NewRat(1, 1))
		if want := areaVector(p); !parallel(sum, want) || product(sum, want).Cmp(product(want, want)) != 0 {
			t.Fatalf("the areas of the parts %s and %s do not add up to that of %s", show(behind), show(front), show(p))
		}
	})
}

// toBig returns the components of v, which are in canonical form.
func toBig(v api.Vec3) vector {
	var result vector
	for i, x := range v {
		result[i] = new(big.Rat).SetFrac(bigInt(api.Int{Neg: x.Neg, Mag: x.Num}), orOne(natural(x.Den)))
	}
	return result
}

// parallel reports whether the cross product of x and y is the zero vector.
func parallel(x, y vector) bool {
	z := cross(x, y)
	return product(z, z).Sign() == 0
}

func TestAreaPointsToFront(t *testing.T) {
	eachValid(func(p api.Polygon) {
		v := toBig(polygon.Area(p))
		if !parallel(v, normal(p.Plane)) || product(v, normal(p.Plane)).Sign() <= 0 {
			t.Fatalf("Area(%s) = %s", show(p), showVector(polygon.Area(p)))
		}
		back := toBig(polygon.Area(polygon.Flip(p)))
		if sum := combine(v, back, big.NewRat(1, 1)); product(sum, sum).Sign() != 0 {
			t.Fatalf("flipping %s does not negate the area", show(p))
		}
	})
}

// Rules

// TestArgumentsAreKept checks that no function changes the vertices of its argument, or the memory behind them.
func TestArgumentsAreKept(t *testing.T) {
	spare := points("7 7 7; 8 8 8; 9 9 9; 10 10 10")
	eachValid(func(p api.Polygon) {
		memory := append(slices.Clone(p.Vertices), spare...)
		before := slices.Clone(memory)
		p.Vertices = memory[:len(p.Vertices)]
		use := func(q api.Polygon) {
			polygon.Check(q)
			polygon.Flip(q)
			polygon.Area(q)
			polygon.Classify(q, before[0])
		}
		use(p)
		for _, by := range dividers(p, 5) {
			behind, front := polygon.Split(p, by)
			first, second := slices.Clone(behind.Vertices), slices.Clone(front.Vertices)
			use(behind)
			use(front)
			polygon.Split(behind, of(1, 2, 3, 4))
			polygon.Split(front, of(1, 2, 3, 4))
			if !slices.Equal(behind.Vertices, first) || !slices.Equal(front.Vertices, second) {
				t.Fatalf("a part of %s was changed", show(p))
			}
		}
		if !slices.Equal(memory, before) {
			t.Fatalf("%s was changed", show(p))
		}
	})
}

// TestNilAndEmptyLists checks that a nil list of vertices and an empty one are equivalent.
func TestNilAndEmptyLists(t *testing.T) {
	for _, on := range []api.Plane{{}, of(0, 0, 1, 0), of(0, 0, 2, 0), of(1, 2, 3, 4)} {
		without, empty := api.Polygon{Plane: on}, api.Polygon{Plane: on, Vertices: []api.Point{}}
		a, b := polygon.Split(without, of(1, 0, 0, 0))
		c, d := polygon.Split(empty, of(1, 0, 0, 0))
		if !same(a, c) || !same(b, d) || polygon.Check(without) != polygon.Check(empty) || !same(polygon.Flip(without), polygon.Flip(empty)) || polygon.Area(without) != polygon.Area(empty) || polygon.Classify(without, at("0 0 0")) != polygon.Classify(empty, at("0 0 0")) {
			t.Errorf("nil and empty lists on %s differ", plane.Format(on))
		}
	}
}

// useAll calls every function with p, by and x, and with the parts and the flip of p.
func useAll(p api.Polygon, by api.Plane, x api.Point) {
	behind, front := polygon.Split(p, by)
	for _, q := range []api.Polygon{p, behind, front, polygon.Flip(p)} {
		polygon.Check(q)
		polygon.Area(q)
		polygon.Classify(q, x)
		polygon.Split(polygon.Flip(q), by)
	}
}

// TestOtherArguments checks that invalid polygons, and numbers in any form, cause no panic.
func TestOtherArguments(t *testing.T) {
	numbers := []api.Int{{}, {Neg: true}, {Neg: true, Mag: "\x00\x00"}, {Mag: "\x01"}, {Neg: true, Mag: "\x06\x00"}, {Mag: strings.Repeat("\xff", 40)}}
	r := rand.New(rand.NewSource(4))
	pick := func() api.Int { return numbers[r.Intn(len(numbers))] }
	anyPoint := func() api.Point { return api.Point{X: pick(), Y: pick(), Z: pick(), W: pick()} }
	anyPlane := func() api.Plane { return api.Plane{A: pick(), B: pick(), C: pick(), D: pick()} }
	for i := range 1000 {
		p := api.Polygon{Plane: anyPlane()}
		for range i % 7 {
			p.Vertices = append(p.Vertices, anyPoint())
		}
		useAll(p, anyPlane(), anyPoint())
		useAll(p, api.Plane{}, api.Point{})
		p.Plane = api.Plane{}
		useAll(p, anyPlane(), anyPoint())
	}
	useAll(api.Polygon{}, api.Plane{}, api.Point{})
	eachValid(func(p api.Polygon) {
		// The vertices are off the plane, too few, or in another order.
		useAll(api.Polygon{Plane: of(1, 2, 3, 5), Vertices: p.Vertices}, dividers(p, 1)[2], p.Vertices[0])
		useAll(api.Polygon{Plane: p.Plane, Vertices: p.Vertices[:2]}, of(1, 0, 0, 1), p.Vertices[0])
		useAll(api.Polygon{Plane: p.Plane, Vertices: p.Vertices[:1]}, of(1, 0, 0, 1), p.Vertices[0])
		useAll(api.Polygon{Plane: p.Plane}, of(1, 0, 0, 1), p.Vertices[0])
		useAll(api.Polygon{Plane: p.Plane, Vertices: slices.Concat(p.Vertices, p.Vertices)}, of(1, 0, 0, 1), p.Vertices[0])
	})
}

func FuzzPolygon(f *testing.F) {
	f.Add("\x00\x00\x04\x00\x04\x04\x00\x04", uint8(0), int64(1), int64(1), int64(0), int64(4))
	f.Add("\x03\x01\x09\x02\x05\x05\x07\x00\x01\x08\x06\x06", uint8(4), int64(2), int64(-3), int64(5), int64(7))
	f.Add("\xff\x00\x80\x00\x01\x02", uint8(5), int64(0), int64(0), int64(1), int64(0))
	f.Fuzz(func(t *testing.T, text string, kind uint8, a, b, c, d int64) {
		if len(text) > 60 {
			t.Skip("too slow")
		}
		var list []spot
		for i := range len(text) / 2 {
			list = append(list, spot{big.NewRat(int64(text[2*i]), int64(1+kind/8%4)), big.NewRat(int64(text[2*i+1]), int64(1+kind/32%4))})
		}
		frame := frames()[int(kind)%len(frames())]
		q := frame.polygon(list)
		if got, want := polygon.Check(q), expectedCheck(q); got != want {
			t.Fatalf("Check(%s) = %d, want %d", show(q), got, want)
		}
		by, ok := canonical(toEquation(of(a, b, c, d)))
		useAll(q, of(a, b, c, d), at("1 2 3"))
		if len(list) == 0 || !ok {
			return
		}
		p := frame.polygon(hull(list))
		if len(p.Vertices) < 3 {
			return
		}
		if polygon.Check(p) != api.OK || !same(polygon.Flip(p), expectedFlip(p)) || polygon.Area(p) != expectedArea(p) {
			t.Fatalf("Check, Flip or Area of %s", show(p))
		}
		for _, q := range append(dividers(p, 3), by) {
			checkSplit(t, p, q)
		}
		for _, x := range append(around(p), q.Vertices...) {
			if got, want := polygon.Classify(p, x), expectedClass(p, x); got != want {
				t.Fatalf("Classify(%s, %s) = %d, want %d", show(p), point.Format(x), got, want)
			}
		}
	})
}
