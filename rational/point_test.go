package rational

import (
	"math/big"
	"math/rand"
	"strings"
	"testing"

	"lenslet/api"
)

func TestReadPointAndWrite(t *testing.T) {
	nines := api.Rat(strings.Repeat("9", api.MaxDigits))
	for _, at := range []api.Place{{X: "0", Y: "-3/2"}, {X: "1/" + nines, Y: "-" + nines}} {
		a, e := ReadPoint(at)
		if e != api.OK {
			t.Errorf("ReadPoint of %v: error %d", at, e)
		}
		if got, e := a.Write(); got != at || e != api.OK {
			t.Errorf("Write of %v: got %v, error %d", at, got, e)
		}
	}
	for _, row := range []struct {
		at api.Place
		e  api.Errno
	}{
		{api.Place{}, api.ErrForm}, {api.Place{X: "1"}, api.ErrForm}, {api.Place{X: "2/4", Y: "1"}, api.ErrForm},
		{api.Place{X: nines + "0", Y: "x"}, api.ErrLarge}, {api.Place{X: "x", Y: nines + "0"}, api.ErrForm}, {api.Place{X: "1", Y: nines + "0"}, api.ErrLarge},
	} {
		if a, e := ReadPoint(row.at); e != row.e || a.X.Sign() != 0 || a.Y.Sign() != 0 {
			t.Errorf("ReadPoint of %v: got %v, error %d, want error %d", row.at, a, e, row.e)
		}
	}
	huge, one := Integer(Power(10, api.MaxDigits)), Integer(Whole(1))
	for _, a := range []Point{{huge, one}, {one, huge}} {
		if got, e := a.Write(); e != api.ErrLarge || got != (api.Place{}) {
			t.Errorf("Write of a point far away: got %v, error %d", got, e)
		}
	}
}

func TestPoints(t *testing.T) {
	r := rand.New(rand.NewSource(11))
	for range 2000 {
		ax, x := randomRatio(r)
		ay, y := randomRatio(r)
		bx, u := randomRatio(r)
		by, v := randomRatio(r)
		a, b := Point{ax, ay}, Point{bx, by}
		sameRatio(t, "Sub, X", a.Sub(b).X, new(big.Rat).Sub(x, u))
		sameRatio(t, "Sub, Y", a.Sub(b).Y, new(big.Rat).Sub(y, v))
		sameRatio(t, "Turned, X", a.Turned().X, new(big.Rat).Neg(y))
		sameRatio(t, "Turned, Y", a.Turned().Y, x)
		square := new(big.Rat).Add(new(big.Rat).Mul(x, x), new(big.Rat).Mul(y, y))
		sameRatio(t, "Square", a.Square(), square)
	}
}
