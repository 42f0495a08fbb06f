"""What is known of a program without its tables: ranges, safe and needed nodes, orders."""
