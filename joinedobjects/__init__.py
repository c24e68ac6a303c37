"""Object files joined into one image; joinedobjects.joiner.join is the call."""
