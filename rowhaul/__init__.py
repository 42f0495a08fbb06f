"""Programs over rows too great for the room, led into passes over a slow store."""
