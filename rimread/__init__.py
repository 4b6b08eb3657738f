"""Rimread: plane nets of wires in a plate, read back from the rim."""
