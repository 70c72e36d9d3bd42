"""A parachute school: kinds of jumps, jumpers, gear, and the load that flies."""
