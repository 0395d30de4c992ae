package joint

import (
	"errors"
	"slices"
	"strconv"

	"seneschal/api"
	"seneschal/grp"
	"seneschal/vss"
)

// fault is an error with what it is about; what it is lies within.
type fault struct {
	about string
	kind  error
}

// Error is its text.
func (f fault) Error() string { return f.about + ": " + f.kind.Error() }

// Unwrap answers the error within.
func (f fault) Unwrap() error { return f.kind }

// told answers which error a call tells: of all that were gathered the one that the call's promise names first.
func told(err error, order ...api.Errno) api.Errno {
	for _, e := range order {
		if errors.Is(err, e) {
			return e
		}
	}
	return api.OK
}

// group tells what is wrong with g.
func group(g api.Group) error { return found("group", grp.Check(g)) }

// dealing tells what is wrong with g or d.
func dealing(g api.Group, d api.Deal) error { return found("dealing", vss.Check(g, d)) }

// found answers the error that a layer below told of something, or nil.
func found(about string, e api.Errno) error {
	if e != api.OK {
		return fault{about, e}
	}
	return nil
}

// dealings tells what is wrong with g and dealings that are to be taken together.
func dealings(g api.Group, l ...api.Deal) error {
	// To look at each of too many would take long, and what is wrong with one is named behind that.
	if err := errors.Join(group(g), atLeast("dealings", len(l), 1, api.ErrArg), atMost("dealings", len(l))); err != nil {
		return err
	}
	for i, d := range l {
		if err := dealing(g, d); err != nil {
			return fault{"place " + strconv.Itoa(i), err}
		}
	}
	return nil
}

// ofNought tells which dealing is not of nought.
func ofNought(l ...api.Deal) error {
	for i, d := range l {
		if !vss.Nought(d) {
			return fault{"place " + strconv.Itoa(i), fault{"not of nought", api.ErrDeal}}
		}
	}
	return nil
}

// recovery tells what is wrong with what a share is to be recovered from.
func recovery(g api.Group, node, t int, l ...api.Share) error {
	// The promise comes back to errors that it named ahead: what is gathered there counts only if nothing was ahead.
	if err := errors.Join(group(g), mayBeNode(node), bound(t), atMost("shares", len(l))); err != nil {
		return err
	}
	if err := atLeast("shares", len(l), t+1, api.ErrShare); err != nil {
		return err
	}
	return errors.Join(ofNodes(l...), apart(l...))
}

// ofOneNode tells which share is of another node than the first, or of none: one number is not yet one node.
func ofOneNode(l ...api.Share) error {
	for i, x := range l {
		if x.Node != l[0].Node {
			return fault{"share " + strconv.Itoa(i), fault{"of another node", api.ErrArg}}
		}
	}
	return ofNodes(l...)
}

// ofNodes tells which share's node may not be.
func ofNodes(l ...api.Share) error {
	for i, x := range l {
		if err := mayBeNode(x.Node); err != nil {
			return fault{"share " + strconv.Itoa(i), err}
		}
	}
	return nil
}

// apart tells which share is the second of its node.
func apart(l ...api.Share) error {
	for i, x := range l {
		if slices.ContainsFunc(l[:i], func(y api.Share) bool { return y.Node == x.Node }) {
			return fault{"share " + strconv.Itoa(i), fault{"the second of its node", api.ErrShare}}
		}
	}
	return nil
}

// mayBeNode tells what is wrong with a node's number, which is how many nodes there are up to it, too.
func mayBeNode(n int) error { return within("node "+strconv.Itoa(n), n, 1, api.MaxNodes) }

// bound tells what is wrong with a bound.
func bound(t int) error { return within("bound "+strconv.Itoa(t), t, 0, api.MaxTol) }

// among tells what is wrong with n nodes and their bound.
func among(n, t int) error {
	if err := bound(t); err != nil { // three times as much may have no room
		return err
	}
	return within("as many nodes as "+strconv.Itoa(n), n, 3*t+1, api.MaxNodes)
}

// within tells what is wrong with a number that is not from one to another.
func within(about string, n, from, to int) error {
	if n < from || n > to {
		return fault{about, api.ErrArg}
	}
	return nil
}

// lists tells what is wrong if there are not as many lists of shares as dealings.
func lists(n, dealings int) error {
	return within("as many lists as "+strconv.Itoa(n), n, dealings, dealings)
}

// atLeast tells that there are too few of something, as the call names it.
func atLeast(what string, n, least int, kind api.Errno) error {
	if n < least {
		return fault{what + ": only " + strconv.Itoa(n), kind}
	}
	return nil
}

// atMost tells that there are more of something than nodes may be.
func atMost(what string, n int) error {
	return within(what+": as many as "+strconv.Itoa(n), n, 0, api.MaxNodes)
}
