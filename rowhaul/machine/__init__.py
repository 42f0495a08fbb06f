"""The store, the room, and what is done in them: steps, casts, drivers, passes."""
