"""The ways between two nodes of a small net, one after another."""
