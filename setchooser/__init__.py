"""Setchooser: when striking values is enough to fill a net of ties."""
