package joint

import (
	"seneschal/api"
	"seneschal/grp"
	"seneschal/poly"
)

// together answers the dealings together; all of them are dealings, and there is one at least.
func together(g api.Group, l ...api.Deal) api.Deal {
	most := 0
	for _, d := range l {
		most = max(most, len(d.Commits))
	}
	commits := make([]api.Nat, most)
	for i := range commits {
		commits[i], _ = grp.Mul(g, allAt(i, l...)...) // they are members, as those of dealings
	}
	return api.Deal{Dealer: l[0].Dealer, Commits: commits}
}

// allAt answers the commitments at one place. One that is missing is left out: it would be 1.
func allAt(place int, l ...api.Deal) []api.Nat {
	var out []api.Nat
	for _, d := range l {
		if place < len(d.Commits) {
			out = append(out, d.Commits[place])
		}
	}
	return out
}

// added answers the sum of shares, of which there is one at least; both its numbers are below Q.
func added(g api.Group, l ...api.Share) api.Share {
	sum := make([]api.Nat, 2) // S and T, as coefficients that poly adds
	for _, x := range l {
		sum, _ = poly.Add(g.Q, sum, []api.Nat{x.S, x.T}) // Q is at least 3: it is not refused
	}
	return api.Share{Node: l[0].Node, S: sum[0], T: sum[1]}
}

// points answers what the shares are as points of S and of T.
func points(l ...api.Share) (ofS, ofT []poly.Point) {
	for _, x := range l {
		ofS = append(ofS, poly.Point{X: number(x.Node), Y: x.S})
		ofT = append(ofT, poly.Point{X: number(x.Node), Y: x.T})
	}
	return ofS, ofT
}

// number answers n, which is not below 0, as a number of 256 bits.
func number(n int) api.Nat { return api.Nat{uint64(n)} }
